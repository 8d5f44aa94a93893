import PyProof.Rows.All
import Wide.All
import OpenK.AllK
import Wide.FinOn
import HandS.ForMost
import HandS.More
import HandS.FStr
import HandS.Zip
import HandS.RaiseMore
import HandS.ForExc
import HandS.ExcIs
import HandS.EndBits
import PyProof.ExcBaseAll.ValueError
import HandS.Evl
import HandS.Wide
import HandS.WideBits
import HandS.Style
import HandS.IsInst
import PyProof.P3Eq
import KE.GoesEnum
import HandS.Star
import HandS.Conv
import HandS.Walk
import KE.KEqNest
import HandS.Codes
import HandS.StrMore
import HandS.Text
import KE.IntTextLaws
import PyProof.Rows.StrAscii
import PySem.Challenge.RW_portolan_k13_texts_of_papers
set_option Elab.async false
set_option linter.all false
set_option maxRecDepth 100000
set_option maxHeartbeats 4000000
/-! Own rules over the layer: what a reading evaluates to, for texts that change nothing. -/
namespace Cm
open PySem PySem.Spec PyProof.Rows L2 Evl

theorem ex_app {H H' : Hp} (e : Ex H H') {p : Addr} {o : HO} (h : H p = some o) : H' p = some o := e p o h
/-- a new tuple comes back -/
def RetU (xs : List V) (H : Hp) (Q : VK) : Prop := ∀ p H2, H p = none → Ex H H2 → H2 p = some (.tup xs) → Q (.ref p) H2
def SpU (sp : Sp) (vs : List V) (H : Hp) (xs : List V) : Prop := ∀ H1, Ex H H1 → ∀ Q : VK, (∀ p H2, H1 p = none → Ex H1 H2 → H2 p = some (.tup xs) → Q (.ref p) H2) → ∀ E : XK, sp vs H1 Q E
section
variable {K : PySem.W.Frag} {σ : L2.St} {H H' : Hp} {ta tb tc te tx : TE} {t u : TT} {x y z v w : V} {r r' : R2} {D : Ends} {tz : TS}
/-- the slots written out anew -/
theorem st_is {σ' : L2.St} {ts : TS} (e : σ = σ') (h : ts D σ' H) : ts D σ H := by
  rw [e]
  exact h
theorem RetU.go {xs : List V} {Q : VK} (k : RetU xs H Q) (e : Ex H H') {p : Addr} {H2 : Hp} (hp : H' p = none) (e2 : Ex H' H2) (h : H2 p = some (.tup xs)) : Q (.ref p) H2 := k p H2 (fresh_back e hp) (e.trans e2) h
theorem eu_call {sp : Sp} {dvs vs xs : List V} {E : XK} {ta : TA} (h : EvA ta σ H vs) (hs : SpU sp (vs ++ dvs) H xs) : EvU (tCall sp dvs E ta) σ H xs := fun H1 e Q q =>
  h H1 e _ fun H2 e2 => hs H2 (e.trans e2) Q (fun p H3 hp e3 h3 => q p H3 (fresh_back e2 hp) (e2.trans e3) h3) E
theorem eu_is {xs ys : List V} (h : EvU te σ H xs) (e : xs = ys) : EvU te σ H ys := by
  rw [← e]
  exact h
/-- a call whose first argument is a new tuple -/
theorem ev_callU {sp : Sp} {dvs vs xs : List V} {E : XK} {tr : TA} (h1 : EvU te σ H xs) (h2 : EvA tr σ H vs) (hs : ∀ p H1, Ex H H1 → H1 p = some (.tup xs) → SpV sp (.ref p :: vs ++ dvs) H1 z) : Ev (tCall sp dvs E (tCons te tr)) σ H z := fun H1 e Q q =>
  h1 H1 e _ fun p H2 np e2 hp => h2 H2 (e.trans e2) _ fun H3 e3 => hs p H3 ((e.trans e2).trans e3) (e3 _ _ hp) H3 (Ex.refl H3) Q (fun H4 e4 => q H4 ((e2.trans e3).trans e4)) E
/-- .. whose second argument is a new tuple -/
theorem ev_callVU {sp : Sp} {dvs vs xs : List V} {E : XK} {tr : TA} (h0 : Ev ta σ H x) (h1 : EvU te σ H xs) (h2 : EvA tr σ H vs) (hs : ∀ p H1, Ex H H1 → H1 p = some (.tup xs) → SpV sp (x :: .ref p :: vs ++ dvs) H1 z) : Ev (tCall sp dvs E (tCons ta (tCons te tr))) σ H z := fun H1 e Q q =>
  h0 H1 e _ fun H2 e2 => h1 H2 (e.trans e2) _ fun p H3 np e3 hp => h2 H3 ((e.trans e2).trans e3) _ fun H4 e4 => hs p H4 (((e.trans e2).trans e3).trans e4) (e4 _ _ hp) H4 (Ex.refl H4) Q (fun H5 e5 => q H5 (((e2.trans e3).trans e4).trans e5)) E
theorem ev_chain {b c : Bool} (ha : Ev ta σ H x) (hb : Ev tb σ H y) (hc : Ev tc σ H w) (h1 : RV r x y H (.bl b)) (h2 : RV r' y w H (.bl c)) : Ev (tChain r r' ta tb tc) σ H (.bl (b && c)) := fun H1 e Q q =>
  ha H1 e _ fun H2 e2 => hb H2 (e.trans e2) _ fun H3 e3 => h1 H3 ((e.trans e2).trans e3) _ fun H4 e4 => ⟨b, rfl, by
    cases b with
    | true =>
      show tc σ H4 _
      exact hc H4 (((e.trans e2).trans e3).trans e4) _ fun H5 e5 => h2 H5 ((((e.trans e2).trans e3).trans e4).trans e5) Q fun H6 e6 => q H6 ((((e2.trans e3).trans e4).trans e5).trans e6)
    | false =>
      show Q (.bl false) H4
      exact q H4 ((e2.trans e3).trans e4)⟩
theorem rv_shl {i : Int} {k : Nat} (h : CShl i (k : Int)) : RV (fun x y H Q => ∃ (i : Int) (k : Nat), x = .int i ∧ y = .int (k : Int) ∧ CShl i (k : Int) ∧ Q (.int (i * 2 ^ k)) H) (.int i) (.int (k : Int)) H (.int (i * 2 ^ k)) :=
  fun H1 _ _ q => ⟨i, k, rfl, rfl, h, q H1 (Ex.refl H1)⟩
theorem rv_shr {i : Int} {k : Nat} : RV (fun x y H Q => ∃ (i : Int) (k : Nat), x = .int i ∧ y = .int (k : Int) ∧ Q (.int (i / 2 ^ k)) H) (.int i) (.int (k : Int)) H (.int (i / 2 ^ k)) :=
  fun H1 _ _ q => ⟨i, k, rfl, rfl, q H1 (Ex.refl H1)⟩
theorem rv_isB {a b : Bool} : RV rIsB (.bl a) (.bl b) H (.bl (decide (a = b))) := fun H1 _ _ q => ⟨a, b, rfl, rfl, q H1 (Ex.refl H1)⟩
theorem rv_notB {a b : Bool} : RV rNotB (.bl a) (.bl b) H (.bl (!decide (a = b))) := fun H1 _ _ q => ⟨a, b, rfl, rfl, q H1 (Ex.refl H1)⟩
theorem rv_isN : RV (fun x y H Q => y = .non ∧ Q (.bl (decide (x = .non))) H) x .non H (.bl (decide (x = .non))) := fun H1 _ _ q => ⟨rfl, q H1 (Ex.refl H1)⟩
theorem rv_notN : RV (fun x y H Q => y = .non ∧ Q (.bl (!decide (x = .non))) H) x .non H (.bl (!decide (x = .non))) := fun H1 _ _ q => ⟨rfl, q H1 (Ex.refl H1)⟩
theorem rc_abs {i : Int} : RC (fun xs H Q => ∃ i, xs = [.int i] ∧ Q (.int (if i < 0 then -i else i)) H) [.int i] H (.int (i.natAbs : Int)) := fun H1 _ Q q => ⟨i, rfl, by
  have e : (if i < 0 then -i else i) = (i.natAbs : Int) := by split <;> omega
  rw [e]
  exact q H1 (Ex.refl H1)⟩
theorem rc_max2 {i j : Int} : RC (fun xs H Q => ∃ i j, xs = [.int i, .int j] ∧ Q (.int (if j > i then j else i)) H) [.int i, .int j] H (.int (max i j)) := fun H1 _ Q q => ⟨i, j, rfl, by
  have e : (if j > i then j else i) = max i j := by split <;> omega
  rw [e]
  exact q H1 (Ex.refl H1)⟩
theorem rc_min2 {i j : Int} : RC (fun xs H Q => ∃ i j, xs = [.int i, .int j] ∧ Q (.int (if j < i then j else i)) H) [.int i, .int j] H (.int (min i j)) := fun H1 _ Q q => ⟨i, j, rfl, by
  have e : (if j < i then j else i) = min i j := by split <;> omega
  rw [e]
  exact q H1 (Ex.refl H1)⟩
theorem rc_intB {k : Bool} : RC (fun xs H Q => (∃ i, xs = [.int i] ∧ Q (.int i) H) ∨ ∃ k, xs = [.bl k] ∧ Q (.int (if k then 1 else 0)) H) [.bl k] H (.int (if k then 1 else 0)) := fun H1 _ Q q => Or.inr ⟨k, rfl, q H1 (Ex.refl H1)⟩
theorem rc_intI {i : Int} : RC (fun xs H Q => (∃ i, xs = [.int i] ∧ Q (.int i) H) ∨ ∃ k, xs = [.bl k] ∧ Q (.int (if k then 1 else 0)) H) [.int i] H (.int i) := fun H1 _ Q q => Or.inl ⟨i, rfl, q H1 (Ex.refl H1)⟩
theorem rc_isiT {p : Addr} {xs : List V} (h : H p = some (.tup xs)) : RC (rIsi K) [.ref p, .ty "tuple"] H (.bl true) := fun H1 e _ q =>
  ⟨.ref p, .ty "tuple", .type "tuple", .type "tuple", true, rfl, .ty _, .base (.tup (e _ _ h)), kit_ty (by decide +kernel), q H1 (Ex.refl H1)⟩
theorem rc_isiS {x : Str} : RC (rIsi K) [.str x, .ty "str"] H (.bl true) := fun H1 e _ q =>
  ⟨.str x, .ty "str", .type "str", .type "str", true, rfl, .ty _, .base (.str x), kit_ty (by decide +kernel), q H1 (Ex.refl H1)⟩
theorem rc_lenL {p : Addr} {xs : List V} (h : SqL K H p xs) : RC (fun xs H Q => ∃ x n, xs = [x] ∧ LenV K x H n ∧ Q (.int n) H) [.ref p] H (.int (xs.length : Int)) := fun H1 e _ q =>
  ⟨.ref p, (xs.length : Nat), rfl, .inl ⟨_, ex_l e h, rfl⟩, q H1 (Ex.refl H1)⟩
/-! ### data -/
mutual
theorem dp_mono (e : Ex H H') : ∀ (d : PyData) (v : V), Dp K H v d → Dp K H' v d
  | _, _, .non => .non
  | _, _, .bl b => .bl b
  | _, _, .int i => .int i
  | _, _, .str x => .str x
  | _, _, .lst h a => .lst (ex_l e h) (dps_mono e _ _ a)
  | _, _, .tup h a => .tup (ex_t e h) (dps_mono e _ _ a)
theorem dps_mono (e : Ex H H') : ∀ (ds : List PyData) (vs : List V), DpAll K H vs ds → DpAll K H' vs ds
  | _, _, .nil => .nil
  | _, _, .cons h t => .cons (dp_mono e _ _ h) (dps_mono e _ _ t)
end
theorem dpInts : ∀ (is : List Int), DpAll K H (is.map V.int) (is.map PyData.int)
  | [] => .nil
  | i :: r => .cons (.int i) (dpInts r)
theorem eqvS {d : PyData} (h : SeqAt.shaped d = true) : PyData.eqv d d = true := by
  unfold SeqAt.shaped at h
  rw [Bool.and_eq_true] at h
  exact PySem.SeqAt.eqv_refl d h.1
/-- the same data on both sides -/
theorem rv_neS {d : PyData} (hx : Dp K H x d) (hy : Dp K H y d) (hs : SeqAt.shaped d = true) : RV (rNeD K) x y H (.bl false) := fun H1 e Q q =>
  ⟨d, d, dp_mono e _ _ hx, dp_mono e _ _ hy, hs, hs, by
    rw [eqvS hs]
    exact q H1 (Ex.refl H1)⟩
theorem rv_eqS {d : PyData} (hx : Dp K H x d) (hy : Dp K H y d) (hs : SeqAt.shaped d = true) : RV (rEqD K) x y H (.bl true) := fun H1 e Q q =>
  ⟨d, d, dp_mono e _ _ hx, dp_mono e _ _ hy, hs, hs, by
    rw [eqvS hs]
    exact q H1 (Ex.refl H1)⟩
/-- a pair of ints -/
theorem dp2 {p : Addr} {i j : Int} (h : SqT K H p [.int i, .int j]) : Dp K H (.ref p) (.tuple [.int i, .int j]) := .tup h (.cons (.int i) (.cons (.int j) .nil))
theorem sh2 {i j : Int} : SeqAt.shaped (.tuple [.int i, .int j]) = true := rfl
end
/-! ### numbers -/
/-- a bound that omega does not look into -/
def Bd (k : Nat) (x : Int) : Prop := x.natAbs < 2 ^ k
theorem pow_pos (n : Nat) : (0 : Int) < 2 ^ n := PySem.W.kbt_pos n
theorem pow_abs (n : Nat) : ((2 : Int) ^ n).natAbs = 2 ^ n := by
  rw [Int.natAbs_pow]
  rfl
theorem ab_mono {x : Int} {a b : Nat} (h : x.natAbs < 2 ^ a) (hab : a ≤ b) : x.natAbs < 2 ^ b := Nat.lt_of_lt_of_le h (Nat.pow_le_pow_right (by decide) hab)
theorem ab_pow {n k : Nat} (h : n < k) : ((2 : Int) ^ n).natAbs < 2 ^ k := by
  rw [pow_abs]
  exact Nat.pow_lt_pow_right (by decide) h
theorem ab_shl {x : Int} {a n : Nat} (h : x.natAbs < 2 ^ a) : (x * 2 ^ n).natAbs < 2 ^ (a + n) := by
  rw [Int.natAbs_mul, pow_abs, Nat.pow_add]
  exact Nat.mul_lt_mul_of_pos_right h (Nat.two_pow_pos n)
theorem ab_mul {x y : Int} {a b : Nat} (hx : x.natAbs < 2 ^ a) (hy : y.natAbs < 2 ^ b) : (x * y).natAbs < 2 ^ (a + b) := wide_lt hx hy
theorem ab_add {x y : Int} {a : Nat} (hx : x.natAbs < 2 ^ a) (hy : y.natAbs < 2 ^ a) : (x + y).natAbs < 2 ^ (a + 1) := by
  have e : 2 ^ (a + 1) = 2 ^ a + 2 ^ a := by rw [Nat.pow_succ]; omega
  omega
theorem ab_neg {x : Int} {a : Nat} (hx : x.natAbs < 2 ^ a) : (-x).natAbs < 2 ^ a := by omega
theorem ab_sm {x : Int} {a c : Nat} (h : x.natAbs ≤ c) (hc : c < 2 ^ a) : x.natAbs < 2 ^ a := Nat.lt_of_le_of_lt h hc
theorem fl_le {s q : Int} (hq : 0 < q) : s / q * q ≤ s := Int.ediv_mul_le s (by omega)
theorem fl_lt {s q : Int} (hq : 0 < q) : s < (s / q + 1) * q := by
  rw [Int.add_mul, Int.one_mul]
  exact Int.lt_ediv_add_one_mul_self s hq |> fun h => by rw [Int.add_mul, Int.one_mul] at h; exact h
theorem cl_ge {s q : Int} (hq : 0 < q) : s ≤ -(-s / q) * q := by
  have h := fl_le (s := -s) hq
  rw [Int.neg_mul]
  omega
theorem cl_lt {s q : Int} (hq : 0 < q) : (-(-s / q) - 1) * q < s := by
  have h := fl_lt (s := -s) hq
  rw [Int.sub_mul, Int.one_mul, Int.neg_mul]
  rw [Int.add_mul, Int.one_mul] at h
  omega
theorem ab_div {x q : Int} {a : Nat} (hq : 0 < q) (h : x.natAbs < 2 ^ a) : (x / q).natAbs < 2 ^ a := by
  have h1 : (x / q).natAbs ≤ x.natAbs := by
    by_cases hx : 0 ≤ x
    · have := Int.ediv_le_self q hx
      have := Int.ediv_nonneg hx (Int.le_of_lt hq)
      omega
    · have h2 : x / q < 0 := Int.ediv_neg_of_neg_of_pos (by omega) hq
      have h3 := fl_lt (s := x) hq
      have h4 : (x / q + 1) * q ≤ (x / q + 1) := by
        have h5 : (x / q + 1) * (q - 1) ≤ 0 := Int.mul_nonpos_of_nonpos_of_nonneg (by omega) (by omega)
        rw [Int.mul_sub, Int.mul_one] at h5
        omega
      omega
  omega
theorem mul_le_r {a b q : Int} (h : a ≤ b) (hq : 0 < q) : a * q ≤ b * q := Int.mul_le_mul_of_nonneg_right h (Int.le_of_lt hq)
/-- the ceiling, by one more where the floor is not exact -/
theorem ceil_eq {s q : Int} (hq : 0 < q) : -(-s / q) = s / q + (if (!decide (s / q * q = s)) = true then 1 else 0) := by
  have a1 := fl_le (s := s) hq
  have a2 := fl_lt (s := s) hq
  have b1 := cl_ge (s := s) hq
  have b2 := cl_lt (s := s) hq
  have lt_of : ∀ {u v : Int}, u * q < v * q → u < v := fun h => Int.lt_of_mul_lt_mul_right h (Int.le_of_lt hq)
  have c1 : -(-s / q) - 1 < s / q + 1 := lt_of (Int.lt_trans b2 a2)
  by_cases e : s / q * q = s
  · rw [decide_eq_true e]
    have c2 : -(-s / q) - 1 < s / q := lt_of (by rw [e]; exact b2)
    have c3 : s / q - 1 < -(-s / q) := lt_of (Int.lt_of_lt_of_le (by rw [Int.sub_mul, Int.one_mul, e]; omega) b1)
    show _ = s / q + 0
    omega
  · rw [decide_eq_false e]
    have c3 : s / q < -(-s / q) := lt_of (by omega)
    show _ = s / q + 1
    omega
end Cm

/-! Own rule: for i, x in enumerate(t), t a tuple. -/
namespace Et
open PySem PySem.Spec PyProof.Rows L2

theorem meets1 {v : Value} {o : Obj} {H : Heap → Prop} (B : Begins v o H) :
    Meets (Builtin.«enumerate.__new__» ⟨[.type "enumerate", v], []⟩) (fun _ R s => H s.heap ∧
      R (.ok (.ret (.ref (s.heap.push o).objs.size))) { s with heap := (s.heap.push o).push { cls := .type "enumerate", data := .fields #[.none, .bool false, .ref s.heap.objs.size, rawInt 0, .none, .none] } }) :=
  .of_wp fun prog w A R s h => by
    obtain ⟨hp, g, d, tk, os⟩ := s; obtain ⟨h1, h⟩ := h
    have hsub := sub_enumerate
    have q1 : ∀ {A' : Around} {E : Value → Shared → Prop} {Q : Value → Shared → Prop}, Q (.ref hp.objs.size) ⟨hp.push o, g, d, tk, os⟩ → wpAny (model prog w) A' (pyIter v) Q E ⟨hp, g, d, tk, os⟩ :=
      fun q => B.iter prog w _ _ ⟨hp, g, d, tk, os⟩ _ h1 q
    wp_walk using q1
    refine wpAny_stack_any fun st => wpAny_pure ?_
    split
    · rename_i c _ _ _ _ _
      cases (c == Value.type "enumerate")
      · wp_walk using q1
        exact ⟨_, rfl, h⟩
      · wp_walk using q1
        exact ⟨_, rfl, h⟩
    · wp_walk using q1
      exact ⟨_, rfl, h⟩
section
variable {prog : Program} {w : World} {A : Around} {E : Value → Shared → Prop} {s : Shared}
theorem begins1 {v : Value} {o : Obj} {H : Heap → Prop} {Q : Value → Shared → Prop} (B : Begins v o H) (h1 : H s.heap)
    (h : ∀ h', IsEnum h' (s.heap.objs.size + 1) s.heap.objs.size 0 .none → h'.get? s.heap.objs.size = some o → h'.objs.size = s.heap.objs.size + 2 →
      (∀ b o, s.heap.get? b = some o → h'.get? b = some o) → Q (.ref (s.heap.objs.size + 1)) { s with heap := h' }) :
    wpAny (model prog w) A (call (.type "enumerate") [v]) Q E s := by
  refine callType_new F.called_enumerate (by decide) (F.typeCall_enumerate_1 _) (F.newCall_enumerate_1 _) (fun obj => F.args_object_init_2 obj _) F.entry_enumerate_new
    (meets1 B) ⟨h1, ?_⟩
  have hz : (s.heap.push o).objs.size = s.heap.objs.size + 1 := Heap.size_push ..
  show _ ∧ _
  rw [hz]
  have he : IsEnum ((s.heap.push o).push { cls := .type "enumerate", data := .fields #[.none, .bool false, .ref s.heap.objs.size, rawInt 0, .none, .none] }) (s.heap.objs.size + 1) s.heap.objs.size 0 .none := by
    have := Heap.get?_push_size (s.heap.push o) (o := { cls := .type "enumerate", data := .fields #[.none, .bool false, .ref s.heap.objs.size, rawInt 0, .none, .none] }) rfl
    rw [hz] at this; exact this
  refine ⟨⟨_, he, rfl⟩, h _ he (Heap.get?_push_of_some _ (Heap.get?_push_size _ B.free)) (by rw [Heap.size_push, hz]) fun b o x => Heap.get?_push_of_some _ (Heap.get?_push_of_some _ x)⟩
end
section
variable {prog : Program} {w : World} {A : Around} {E : Value → Shared → Prop} {s : Shared}
theorem enum_endT {e it l : Addr} {i : Nat} {items : Array Value} {old : Value} {Q : Option Value → Shared → Prop} (hh : A.handled = none)
    (he : IsEnum s.heap e it i old) (hit : s.heap.IsTupleIter it l i) (hl : s.heap.IsTuple l items) (hx : items[i]? = none)
    (hQ : ∀ h', Heap.ExtBut it s.heap h' → Q none { s with heap := h' }) : wpAny (model prog w) A (pyNext (.ref e)) Q E s := by
  have hT : s.TypeIs (.ref e) "enumerate" := ⟨_, he, rfl⟩
  unfold pyNext
  refine wpAny_bind (wpAny_attempt (wpAny_callSpecial?_slot (name := Str.ofString "__next__") hT F.slot_enumerate_next
    (wpAny_call_entry F.slot_enumerate_next hT F.entry_enumerate_next ?_ (F.args_enumerate_next_1 _))))
  show wpAny _ _ (field (.ref e) 2 >>= _) _ _ _
  refine wpAny_bind (wpAny_field he rfl (x := .ref it) rfl ?_)
  refine wpAny_bind (wpAny_nextOf_tuple_end hh hit hl hx fun h' x he' hx' => ?_)
  obtain ⟨o, ho, hc⟩ := hx'
  refine wpAny_bind (wpAny_isInstance (T := "StopIteration") (b := true) ⟨o, ho, hc⟩ isSubtype_stop ?_)
  exact wpAny_pure (hQ _ he')
end
/-- the tuple at a as it stands at each turn, each item in a new pair -/
def Iet (K : PySem.W.Frag) (a : Addr) : It :=
  ⟨fun i H => ∃ (xs : List V) (x : V), SqT K H a xs ∧ xs[i]? = some x, fun i H v H' => ∃ T x, v = .ref T ∧ H T = none ∧ H' = upd H T (.tup [.int (i : Nat), x]) ∧ ∀ xs, SqT K H a xs → xs[i]? = some x, fun i H => ∃ xs : List V, SqT K H a xs ∧ xs.length ≤ i⟩
theorem turn_enumT {P : Program} {w : World} {K : PySem.W.Frag} {elts : List Expr} {kk : Nat} {tpos : Pos} (a e it : Addr) :
    Turn P w K (.Tuple elts kk tpos) (Iet K a) [e, it] e (fun i h => (∃ old, IsEnum h e it ((i : Nat) : Int) old) ∧ h.IsTupleIter it a i ∧ e ≠ it) where
  mem := by simp
  obj := fun i h st b hb => by
    obtain ⟨⟨old, he⟩, ⟨o, ho, hc, hd⟩, _⟩ := st
    have e' : b = e ∨ b = it := by simpa using hb
    rcases e' with z | z
    · rw [z]; exact ⟨_, he, fun v q => nomatch q⟩
    · rw [z]; exact ⟨o, ho, fun v q => by rw [hd] at q; cases q⟩
  keep := fun i h h' st k => let ⟨⟨old, he⟩, hi, hne⟩ := st; ⟨⟨old, k e (by simp) _ he⟩, hi.at fun o q => k it (by simp) o q, hne⟩
  item := by
    intro X hP hw hK hc i pins s σ H E I hf st hg
    subst hP hw hK
    obtain ⟨⟨old, he⟩, hit, hne⟩ := st
    obtain ⟨xs, x, hq, hx⟩ := hg
    obtain ⟨its, rv, p, hz⟩ := I.tuple hq
    obtain ⟨u, hu, ru⟩ := rv.get hx
    have hel : e < s.heap.objs.size := Heap.lt_size he
    have hil : it < s.heap.objs.size := by obtain ⟨_, q, _⟩ := hit; exact Heap.lt_size q
    have hat : a ≠ it := fun z => by
      subst z
      obtain ⟨o1, e1, c1, _⟩ := hit
      obtain ⟨o2, e2, c2, _⟩ := p
      rw [e1] at e2
      cases e2
      rw [c1] at c2
      exact absurd (Value.type.inj c2) (by decide)
    have hae : a ≠ e := fun z => by
      subst z
      obtain ⟨o2, e2, c2, _⟩ := p
      rw [he] at e2
      cases e2
      exact absurd (Value.type.inj c2) (by decide)
    have hlt : i < its.toArray.size := by
      rw [List.size_toArray]
      exact (List.getElem?_eq_some_iff.mp hu).1
    refine wpAny_pyNext_enum_itemD (Draws.tuple (A := X.A.in1) (I.ok.hd hc) it a hat its.toArray) he ⟨hit, p⟩ hlt hne (by simp; exact ⟨hne, Ne.symm hae⟩) fun y h' tk hy ho hst' hT hsz hk => ?_
    have eu : y = u := by
      have h1 : its.toArray[i]? = some u := by simpa using hu
      rw [h1] at hy
      exact (Option.some.inj hy).symm
    subst eu
    refine ⟨_, rfl, wpAny_letOwnedTupleGo_enum (s := { s with heap := h', toks := tk + 1 }) ho fun h'' he' sb => ?_⟩
    have hT2 : h''.get? s.heap.objs.size = some { cls := .type "tuple", data := .seq #[.int i tk, y] } := (sb.2 _ (Nat.ne_of_gt hel)).trans hT
    have new : ObjOk X.prog X.w (upd H s.heap.objs.size (.tup [.int (i : Nat), x])) h'' s.heap.objs.size (.tup [.int (i : Nat), x]) :=
      ⟨by show 2 ≤ sizeLine; decide, [.int i tk, y], .cons ⟨_, rfl⟩ (.cons ru .nil), ⟨_, hT2, rfl, _, rfl⟩⟩
    have I1 : Inv X pins σ (upd H s.heap.objs.size (.tup [.int (i : Nat), x])) { s with heap := h'', toks := tk + 1 } :=
      I.turnedNew (ch := [e, it]) (fun b ob hb q => (sb.2 b (fun z => hb (by simp [z]))).trans (hk b ob (fun z => hb (by simp [z])) (fun z => hb (by simp [z])) q)) hf (Nat.le_refl _) new
    refine ⟨.ref s.heap.objs.size, _, I1, rfl, ⟨_, x, rfl, I.hok.fresh (Nat.le_refl _), rfl, fun ys hy => by rw [I.tuple_inj hy hq]; exact hx⟩, ⟨⟨y, ?_⟩, hst'.1.at fun o q => (sb.2 it (Ne.symm hne)).trans q, hne⟩, fun b hb => ?_⟩
    · have e1 : ((i + 1 : Nat) : Int) = (i : Int) + 1 := by omega
      rw [e1]; exact he'
    · have hb' : b < s.heap.objs.size := by
        have e' : b = e ∨ b = it := by simpa using hb
        rcases e' with z | z
        · rw [z]; exact hel
        · rw [z]; exact hil
      rw [upd_ne (Nat.ne_of_lt hb')]
      exact (hf b hb).1
  done := by
    intro X hP hw hK hc i pins s σ H E I hf st hg
    subst hP hw hK
    obtain ⟨⟨old, he⟩, hit, hne⟩ := st
    obtain ⟨xs, hq, hx⟩ := hg
    obtain ⟨its, rv, p, hz⟩ := I.tuple hq
    obtain ⟨f0, f1, f2, f3, f4, f5⟩ := hf it (by simp)
    have hl := rv.length
    refine enum_endT (I.ok.hd hc) he hit p (by simp; omega) fun h' eb => ⟨rfl, I.turned (t' := s.toks) (fun b o hb q => eb b o hb q) f0 f1 f3 f4 f5⟩
  self := fun A i s Q E st h => let ⟨⟨_, he⟩, _⟩ := st; wpAny_pyIter_enum he h
def iEnumT (K : PySem.W.Frag) (ta : TA) : TI := fun σ H R => ta σ H fun vs H1 => ∃ a xs, vs = [.ref a] ∧ SqT K H1 a xs ∧ R (Iet K a) H1
theorem pi_enumT {X : Cx} {e : Expr} {ta : TA} {p pos tpos : Pos} {elts : List Expr} {kk : Nat} (hg : Gl X "enumerate") (hm : X.mg "enumerate" = none) (ha : PA X [e] ta) (hs : starEach [e] X.env = [(false, eval e X.env)] := by rfl) :
    PI X (.Tuple elts kk tpos) (.Call (.Name "enumerate" p) [e] [] pos) (iEnumT X.K ta) := by
  refine ⟨fun pins s σ H R I h => ?_⟩
  refine Call_ (ld_blt I hg hm boot_enumerate (PyProof.Rows.callWith_type1 (thn (ha.run pos pins s σ H _ I h) fun us s1 ⟨vs, H1, I1, r1, q1⟩ => ?_) hs rfl))
  obtain ⟨a, xs, ex, hq, q⟩ := q1
  subst ex
  cases r1 with
  | cons r rr =>
    cases rr
    cases r
    obtain ⟨its, rv, p', hz⟩ := I1.tuple hq
    refine begins1 (begins_tuple a its.toArray) p' fun h' he hit hsz hk => wpAny_pyIter_enum he ?_
    have I2 : Inv X pins σ H1 { s1 with heap := h' } := I1.kept (t' := s1.toks) hk
    refine ⟨s1.heap.objs.size + 1, [s1.heap.objs.size + 1, s1.heap.objs.size], _, _, H1, rfl, I2, turn_enumT a (s1.heap.objs.size + 1) s1.heap.objs.size, ⟨⟨.none, he⟩, ⟨_, hit, rfl, rfl⟩, Nat.succ_ne_self _⟩, fun b hb => ?_, q⟩
    have e' : b = s1.heap.objs.size + 1 ∨ b = s1.heap.objs.size := by simpa using hb
    have hle : s1.heap.objs.size ≤ b := by
      rcases e' with z | z
      · rw [z]; exact Nat.le_add_right _ _
      · rw [z]; exact Nat.le_refl _
    exact I1.fpOk hle (I1.hok.fresh hle)
end Et

/-! Own data: formulas as they stand in the heap. -/
namespace Fm
open PySem PySem.Spec PyProof.Rows L2 Evl Cm Et

abbrev FStep := Str × List Int
def stV (s : FStep) : List V := .str s.1 :: s.2.map V.int
def stD (s : FStep) : PyData := .tuple (.str s.1 :: s.2.map PyData.int)
def StepAt (H : Hp) (v : V) (s : FStep) : Prop := ∃ p, v = .ref p ∧ H p = some (.tup (stV s))
def StepsAt (H : Hp) (vs : List V) (ss : List FStep) : Prop := vs.length = ss.length ∧ ∀ (i : Nat) v s, vs[i]? = some v → ss[i]? = some s → StepAt H v s
section
variable {K : PySem.W.Frag} {σ : L2.St} {H H' : Hp} {ta tb tc te tx tl : TE} {t u : TT} {x y z v w : V} {r r' : R2} {D : Ends} {tu tz : TS} {vs ws : List V} {ss ts : List FStep} {s : FStep} {g : TG}
theorem StepAt.mono (e : Ex H H') (h : StepAt H v s) : StepAt H' v s := by
  obtain ⟨p, h1, h2⟩ := h
  exact ⟨p, h1, e _ _ h2⟩
theorem StepsAt.mono (e : Ex H H') (h : StepsAt H vs ss) : StepsAt H' vs ss := ⟨h.1, fun i v s a b => (h.2 i v s a b).mono e⟩
theorem StepsAt.nil : StepsAt H [] [] := ⟨rfl, fun i v s h _ => by simp at h⟩
theorem StepsAt.app (h1 : StepsAt H vs ss) (h2 : StepsAt H ws ts) : StepsAt H (vs ++ ws) (ss ++ ts) := by
  refine ⟨by rw [List.length_append, List.length_append, h1.1, h2.1], fun i v s a b => ?_⟩
  by_cases hi : i < vs.length
  · rw [List.getElem?_append_left hi] at a
    rw [List.getElem?_append_left (by rw [← h1.1]; exact hi)] at b
    exact h1.2 i v s a b
  · rw [List.getElem?_append_right (by omega)] at a
    rw [List.getElem?_append_right (by have := h1.1; omega)] at b
    rw [← h1.1] at b
    exact h2.2 _ v s a b
theorem StepsAt.one (h : StepAt H v s) : StepsAt H [v] [s] := ⟨rfl, fun i x y a b => by
  cases i with
  | zero =>
    cases Option.some.inj a
    cases Option.some.inj b
    exact h
  | succ i => simp at a⟩
theorem StepsAt.snoc (h1 : StepsAt H vs ss) (h : StepAt H v s) : StepsAt H (vs ++ [v]) (ss ++ [s]) := h1.app (.one h)
theorem StepsAt.get (h : StepsAt H vs ss) {i : Nat} (hi : vs[i]? = some v) : ∃ s, ss[i]? = some s ∧ StepAt H v s := by
  have h1 : i < ss.length := by
    rw [← h.1]
    exact (List.getElem?_eq_some_iff.mp hi).1
  exact ⟨ss[i], List.getElem?_eq_getElem h1, h.2 i v _ hi (List.getElem?_eq_getElem h1)⟩
theorem StepAt.dp (h : StepAt H v s) : Dp K H v (stD s) := by
  obtain ⟨p, rfl, h⟩ := h
  exact .tup (st_of h) (.cons (.str _) (dpInts _))
theorem StepsAt.dp : ∀ {vs : List V} {ss : List FStep}, StepsAt H vs ss → DpAll K H vs (ss.map stD)
  | [], [], _ => .nil
  | [], _ :: _, h => by simp [StepsAt] at h
  | _ :: _, [], h => by simp [StepsAt] at h
  | v :: vs, s :: ss, h => .cons (StepAt.dp (h.2 0 v s rfl rfl)) (StepsAt.dp ⟨by simpa using h.1, fun i x y a b => h.2 (i + 1) x y a b⟩)
theorem lay_ints : ∀ (is : List Int), PyData.canLayAll0 (is.map PyData.int) = true
  | [] => rfl
  | i :: r => by
    show (PyData.canLay0 (.int i) && PyData.canLayAll0 (r.map PyData.int)) = true
    rw [lay_ints r]
    rfl
theorem dep_ints : ∀ (is : List Int), PyData.depthAll (is.map PyData.int) = 0
  | [] => rfl
  | i :: r => by
    show max 0 (PyData.depthAll (r.map PyData.int)) = 0
    rw [dep_ints r]
    rfl
theorem dep_st (s : FStep) : PyData.depth (stD s) = 1 := by
  show max 0 (PyData.depthAll (s.2.map PyData.int)) + 1 = 1
  rw [dep_ints]
  rfl
theorem dep_sts : ∀ (ss : List FStep), PyData.depthAll (ss.map stD) ≤ 1
  | [] => Nat.zero_le _
  | s :: r => by
    show max (PyData.depth (stD s)) (PyData.depthAll (r.map stD)) ≤ 1
    rw [dep_st]
    have := dep_sts r
    omega
def OkS (s : FStep) : Prop := PyData.strOk s.1 = true
theorem lay_st {s : FStep} (h : OkS s) : PyData.canLay0 (stD s) = true := by
  show (PyData.canLay0 (.str s.1) && PyData.canLayAll0 (s.2.map PyData.int)) = true
  rw [lay_ints, Bool.and_true]
  exact h
theorem lay_sts : ∀ {ss : List FStep}, (∀ s ∈ ss, OkS s) → PyData.canLayAll0 (ss.map stD) = true
  | [], _ => rfl
  | s :: r, h => by
    show (PyData.canLay0 (stD s) && PyData.canLayAll0 (r.map stD)) = true
    rw [lay_st (h s (.head _)), lay_sts fun x hx => h x (.tail _ hx)]
    rfl
def foD (ss : List FStep) : PyData := .tuple (ss.map stD)
theorem sh_form (h : ∀ s ∈ ss, OkS s) : SeqAt.shaped (foD ss) = true := by
  unfold SeqAt.shaped
  rw [show PyData.canLay0 (foD ss) = PyData.canLayAll0 (ss.map stD) from rfl, lay_sts h, Bool.true_and]
  refine decide_eq_true ?_
  show PyData.depthAll (ss.map stD) + 1 ≤ 64
  have := dep_sts ss
  omega
theorem sh_list (h : ∀ s ∈ ss, OkS s) : SeqAt.shaped (.list (ss.map stD)) = true := sh_form h
/-! ### what is a formula -/
def W2 : List Str := ["add", "subtract", "times", "divide"]
def W1 : List Str := ["root", "sine", "cosine", "exp", "log", "arctan", "arcsine", "arccosine"]
def OkStep (k : Nat) (s : FStep) : Prop :=
  (∃ p q, s = (("number" : Str), [p, q]) ∧ 1 ≤ q) ∨ s = (("pi" : Str), []) ∨ (∃ w i j, w ∈ W2 ∧ s = (w, [i, j]) ∧ (0 ≤ i ∧ i < k) ∧ (0 ≤ j ∧ j < k)) ∨ (∃ w i, w ∈ W1 ∧ s = (w, [i]) ∧ (0 ≤ i ∧ i < k))
def OkForm (ss : List FStep) : Prop := ∀ k s, ss[k]? = some s → OkStep k s
theorem w2_all {P : Str → Prop} (h : P "add" ∧ P "subtract" ∧ P "times" ∧ P "divide") : ∀ w ∈ W2, P w := by
  intro w hw
  unfold W2 at hw
  simp only [List.mem_cons, List.not_mem_nil, or_false] at hw
  obtain ⟨h1, h2, h3, h4⟩ := h
  rcases hw with rfl | rfl | rfl | rfl <;> assumption
theorem w1_all {P : Str → Prop} (h : P "root" ∧ P "sine" ∧ P "cosine" ∧ P "exp" ∧ P "log" ∧ P "arctan" ∧ P "arcsine" ∧ P "arccosine") : ∀ w ∈ W1, P w := by
  intro w hw
  unfold W1 at hw
  simp only [List.mem_cons, List.not_mem_nil, or_false] at hw
  obtain ⟨h1, h2, h3, h4, h5, h6, h7, h8⟩ := h
  rcases hw with rfl | rfl | rfl | rfl | rfl | rfl | rfl | rfl <;> assumption
theorem w2_ok : ∀ w ∈ W2, PyData.strOk w = true := w2_all ⟨by decide +kernel, by decide +kernel, by decide +kernel, by decide +kernel⟩
theorem w1_ok : ∀ w ∈ W1, PyData.strOk w = true := w1_all ⟨by decide +kernel, by decide +kernel, by decide +kernel, by decide +kernel, by decide +kernel, by decide +kernel, by decide +kernel, by decide +kernel⟩
theorem w2_nn : ∀ w ∈ W2, w ≠ "number" := w2_all ⟨by decide +kernel, by decide +kernel, by decide +kernel, by decide +kernel⟩
theorem w2_np : ∀ w ∈ W2, w ≠ "pi" := w2_all ⟨by decide +kernel, by decide +kernel, by decide +kernel, by decide +kernel⟩
theorem w1_nn : ∀ w ∈ W1, w ≠ "number" := w1_all ⟨by decide +kernel, by decide +kernel, by decide +kernel, by decide +kernel, by decide +kernel, by decide +kernel, by decide +kernel, by decide +kernel⟩
theorem w1_np : ∀ w ∈ W1, w ≠ "pi" := w1_all ⟨by decide +kernel, by decide +kernel, by decide +kernel, by decide +kernel, by decide +kernel, by decide +kernel, by decide +kernel, by decide +kernel⟩
theorem pi_nn : ("pi" : Str) ≠ "number" := by decide +kernel
theorem ok_num : PyData.strOk "number" = true := by decide +kernel
theorem ok_pi : PyData.strOk "pi" = true := by decide +kernel
theorem OkStep.oks {k : Nat} (h : OkStep k s) : OkS s := by
  rcases h with ⟨p, q, rfl, _⟩ | rfl | ⟨w, i, j, hw, rfl, _⟩ | ⟨w, i, hw, rfl, _⟩
  · exact ok_num
  · exact ok_pi
  · exact w2_ok w hw
  · exact w1_ok w hw
theorem OkStep.mono {k m : Nat} (hk : k ≤ m) (h : OkStep k s) : OkStep m s := by
  rcases h with h | h | ⟨w, i, j, hw, rfl, h1, h2⟩ | ⟨w, i, hw, rfl, h1⟩
  · exact .inl h
  · exact .inr (.inl h)
  · exact .inr (.inr (.inl ⟨w, i, j, hw, rfl, ⟨h1.1, by omega⟩, ⟨h2.1, by omega⟩⟩))
  · exact .inr (.inr (.inr ⟨w, i, hw, rfl, ⟨h1.1, by omega⟩⟩))
theorem OkForm.oks (h : OkForm ss) : ∀ s ∈ ss, OkS s := fun s hs => by
  obtain ⟨k, hk⟩ := List.getElem?_of_mem hs
  exact (h k s hk).oks
theorem OkForm.nil : OkForm [] := fun k s h => by simp at h
theorem OkForm.snoc (h : OkForm ss) (hs : OkStep ss.length s) : OkForm (ss ++ [s]) := fun k x hk => by
  by_cases hi : k < ss.length
  · rw [List.getElem?_append_left hi] at hk
    exact h k x hk
  · rw [List.getElem?_append_right (by omega)] at hk
    have e : k - ss.length = 0 := by
      have := (List.getElem?_eq_some_iff.mp hk).1
      simp at this
      omega
    rw [e] at hk
    cases Option.some.inj hk
    exact hs.mono (by omega)
def shiftS (m : Nat) (s : FStep) : FStep := if s.1 = "number" then s else (s.1, s.2.map fun i => (m : Int) + i)
theorem OkStep.shift {k m : Nat} (h : OkStep k s) : OkStep (m + k) (shiftS m s) := by
  rcases h with ⟨p, q, rfl, hq⟩ | rfl | ⟨w, i, j, hw, rfl, h1, h2⟩ | ⟨w, i, hw, rfl, h1⟩
  · unfold shiftS
    rw [if_pos rfl]
    exact .inl ⟨p, q, rfl, hq⟩
  · unfold shiftS
    rw [if_neg pi_nn]
    exact .inr (.inl rfl)
  · unfold shiftS
    rw [if_neg (w2_nn w hw)]
    exact .inr (.inr (.inl ⟨w, (m : Int) + i, (m : Int) + j, hw, rfl, ⟨by omega, by omega⟩, ⟨by omega, by omega⟩⟩))
  · unfold shiftS
    rw [if_neg (w1_nn w hw)]
    exact .inr (.inr (.inr ⟨w, (m : Int) + i, hw, rfl, ⟨by omega, by omega⟩⟩))
def joinS (w : Str) (f g : List FStep) : List FStep := f ++ g.map (shiftS f.length) ++ [(w, [(f.length : Int) - 1, (f.length : Int) + (g.length : Int) - 1])]
theorem OkForm.app_shift {f gg : List FStep} (hf : OkForm f) (hg : OkForm gg) : OkForm (f ++ gg.map (shiftS f.length)) := fun k x hk => by
  by_cases hi : k < f.length
  · rw [List.getElem?_append_left hi] at hk
    exact hf k x hk
  · rw [List.getElem?_append_right (by omega), List.getElem?_map] at hk
    obtain ⟨s, h1, rfl⟩ := Option.map_eq_some_iff.mp hk
    have h2 := (hg _ s h1).shift (m := f.length)
    rw [show f.length + (k - f.length) = k by omega] at h2
    exact h2
theorem OkForm.join {f gg : List FStep} {w : Str} (hf : OkForm f) (hg : OkForm gg) (hw : w ∈ W2) (h1 : f ≠ []) (h2 : gg ≠ []) : OkForm (joinS w f gg) := by
  have l1 : 0 < f.length := List.length_pos_iff.mpr h1
  have l2 : 0 < gg.length := List.length_pos_iff.mpr h2
  refine OkForm.snoc (hf.app_shift hg) (.inr (.inr (.inl ⟨w, _, _, hw, rfl, ⟨by omega, ?_⟩, ⟨by omega, ?_⟩⟩)))
  · rw [List.length_append, List.length_map]
    omega
  · rw [List.length_append, List.length_map]
    omega
theorem OkForm.app1 {f : List FStep} {w : Str} (hf : OkForm f) (hw : w ∈ W1) (h1 : f ≠ []) : OkForm (f ++ [(w, [(f.length : Int) - 1])]) := by
  have l1 : 0 < f.length := List.length_pos_iff.mpr h1
  exact hf.snoc (.inr (.inr (.inr ⟨w, _, hw, rfl, by omega, by omega⟩)))
/-! ### what comes back -/
def RetF (ss : List FStep) (H : Hp) (Q : VK) : Prop := ∀ a H2 vs, H a = none → Ex H H2 → H2 a = some (.tup vs) → StepsAt H2 vs ss → Q (.ref a) H2
def RetS (s : FStep) (H : Hp) (Q : VK) : Prop := ∀ v H2, Ex H H2 → StepAt H2 v s → Q v H2
def EvF (te : TE) (σ : L2.St) (H : Hp) (ss : List FStep) : Prop := ∀ H1, Ex H H1 → ∀ Q : VK, RetF ss H1 Q → te σ H1 Q
def SpF (sp : Sp) (vs : List V) (H : Hp) (ss : List FStep) : Prop := ∀ H1, Ex H H1 → ∀ Q : VK, RetF ss H1 Q → ∀ E : XK, sp vs H1 Q E
theorem RetF.go {Q : VK} (k : RetF ss H Q) (e : Ex H H') {a : Addr} {H2 : Hp} (ha : H' a = none) (e2 : Ex H' H2) (h : H2 a = some (.tup vs)) (h2 : StepsAt H2 vs ss) : Q (.ref a) H2 := k a H2 vs (fresh_back e ha) (e.trans e2) h h2
theorem ef_call {sp : Sp} {dvs ws : List V} {E : XK} {ta : TA} (h : EvA ta σ H ws) (hs : SpF sp (ws ++ dvs) H ss) : EvF (tCall sp dvs E ta) σ H ss := fun H1 e Q q =>
  h H1 e _ fun H2 e2 => hs H2 (e.trans e2) Q (fun a H3 vs ha e3 h3 hs3 => q a H3 vs (fresh_back e2 ha) (e2.trans e3) h3 hs3) E
theorem q_asgF {i : Nat} (h : EvF te σ H ss) (k : ∀ a H1 vs, Ex H H1 → H1 a = some (.tup vs) → StepsAt H1 vs ss → tz D (σ.set i (some (.ref a))) H1) : tSeq (tAsg te (gName i)) tz D σ H :=
  h H (Ex.refl H) _ fun a H1 vs _ e h1 h2 => k a H1 vs e h1 h2
theorem q_asgP {i : Nat} (P : V → Hp → Prop) (h : ∀ Q : VK, (∀ v H1, Ex H H1 → P v H1 → Q v H1) → te σ H Q) (k : ∀ v H1, Ex H H1 → P v H1 → tz D (σ.set i (some v)) H1) : tSeq (tAsg te (gName i)) tz D σ H := h _ k
theorem s_retF (h : EvF te σ H ss) (k : RetF ss H D.rt) : tRet te D σ H := h H (Ex.refl H) _ k
theorem ev_neFF (ha : EvF ta σ H ss) (hb : EvF tb σ H ss) (hs : ∀ s ∈ ss, OkS s) : Ev (tOp (rNeD K) ta tb) σ H (.bl false) := fun H1 e Q q =>
  ha H1 e _ fun p H2 vs _ e2 hp hv => hb H2 (e.trans e2) _ fun p2 H3 ws _ e3 hp2 hw =>
    rv_neS (H := H3) (d := foD ss) (.tup (st_of (e3 _ _ hp)) (hv.mono e3).dp) (.tup (st_of hp2) hw.dp) (sh_form hs) H3 (Ex.refl _) Q fun H4 e4 => q H4 ((e2.trans e3).trans e4)
theorem ev_eqF {p : Addr} (h : H p = some (.tup vs)) (hv : StepsAt H vs ss) (ha : Ev ta σ H (.ref p)) (hb : EvF tb σ H ss) (hs : ∀ s ∈ ss, OkS s) : Ev (tOp (rEqD K) ta tb) σ H (.bl true) := fun H1 e Q q =>
  ha H1 e _ fun H2 e2 => hb H2 (e.trans e2) _ fun p2 H3 ws _ e3 hp2 hw =>
    rv_eqS (H := H3) (d := foD ss) (.tup (st_of (((e.trans e2).trans e3) _ _ h)) (hv.mono ((e.trans e2).trans e3)).dp) (.tup (st_of hp2) hw.dp) (sh_form hs) H3 (Ex.refl _) Q fun H4 e4 => q H4 ((e2.trans e3).trans e4)
/-- a call whose argument is a new formula -/
theorem ev_callF {sp : Sp} {dvs ws : List V} {E : XK} {tr : TA} (h1 : EvF te σ H ss) (h2 : EvA tr σ H ws) (hs : ∀ p H1 us, Ex H H1 → H1 p = some (.tup us) → StepsAt H1 us ss → SpV sp (.ref p :: ws ++ dvs) H1 z) : Ev (tCall sp dvs E (tCons te tr)) σ H z := fun H1 e Q q =>
  h1 H1 e _ fun p H2 us np e2 hp hu => h2 H2 (e.trans e2) _ fun H3 e3 => hs p H3 us ((e.trans e2).trans e3) (e3 _ _ hp) (hu.mono e3) H3 (Ex.refl H3) Q (fun H4 e4 => q H4 ((e2.trans e3).trans e4)) E
theorem rc_isiI {i : Int} : RC (rIsi K) [.int i, .ty "int"] H (.bl true) := fun H1 e _ q =>
  ⟨.int i, .ty "int", .type "int", .type "int", true, rfl, .ty _, .base (.int i), kit_ty (by decide +kernel), q H1 (Ex.refl H1)⟩
theorem rc_isiIB {i : Int} : RC (rIsi K) [.int i, .ty "bool"] H (.bl false) := fun H1 e _ q =>
  ⟨.int i, .ty "bool", .type "int", .type "bool", false, rfl, .ty _, .base (.int i), kit_ty (by decide +kernel), q H1 (Ex.refl H1)⟩
theorem rc_lenT {p : Addr} {xs : List V} (h : SqT K H p xs) : RC (fun xs H Q => ∃ x n, xs = [x] ∧ LenV K x H n ∧ Q (.int n) H) [.ref p] H (.int (xs.length : Int)) := fun H1 e _ q =>
  ⟨.ref p, (xs.length : Nat), rfl, .inr ⟨_, ex_t e h, rfl⟩, q H1 (Ex.refl H1)⟩
theorem cut1 (xs : List V) : cutV xs (some 1) none = xs.drop 1 := by
  unfold cutV
  rw [show HT.sIx xs.length 0 (some 1) = min 1 xs.length from HT.sIx_nat xs.length 0 1, HT.sIx_none]
  cases xs with
  | nil => rfl
  | cons x r =>
    rw [show min 1 (x :: r).length = 1 by
      rw [List.length_cons]
      omega]
    show (List.take ((x :: r).length - 1) r) = r
    rw [List.length_cons, Nat.add_sub_cancel]
    exact List.take_length
/-- t[1:] of a tuple that is not empty -/
theorem eu_tail {a : Addr} {xs : List V} (h : Ev te σ H (.ref a)) (hx : SqT K H a (y :: xs)) : EvU (tSl (rSlT K) te (tPart (tC (.int 1))) tNoPart) σ H xs := fun H1 e Q q =>
  h H1 e _ fun H2 e2 => ⟨1, rfl, a, y :: xs, rfl, ex_t (e.trans e2) hx, fun z => by
    have z1 : HT.sIx (y :: xs).length 0 (some 1) = min 1 (y :: xs).length := HT.sIx_nat (y :: xs).length 0 1
    have z2 := z.1
    rw [z1, List.length_cons] at z2
    omega, fun p hp => by
    have e3 : cutV (y :: xs) (some 1) none = xs := cut1 (y :: xs)
    rw [e3]
    exact q p _ (fresh_back e2 hp) (e2.trans (Ex.new hp)) upd_same⟩
/-- for over a new tuple -/
theorem s_forNT {xs : List V} (h : EvU tl σ H xs) (Pv : Addr → Nat → L2.St → Hp → Prop) (h0 : ∀ p H1, H p = none → Ex H H1 → H1 p = some (.tup xs) → Pv p 0 σ H1) (hl : ∀ p i σ' H', i ≤ xs.length → Pv p i σ' H' → SqT K H' p xs)
    (hs : ∀ p i x σ' H', xs[i]? = some x → Pv p i σ' H' → g x σ' H' fun σ2 H2 => tu { D with nx := Pv p (i + 1), ct := Pv p (i + 1), bk := D.nx } σ2 H2) (hd : ∀ p σ' H', Pv p xs.length σ' H' → D.nx σ' H') : tFor (iTup K tl) g tu D σ H :=
  h H (Ex.refl H) _ fun p H1 hp e h1 => ⟨p, rfl, ⟨xs, st_of h1⟩, for_tup (Pv p) (h0 p H1 hp e h1) (hl p) (hs p) (hd p)⟩
theorem q_forNT {xs : List V} (h : EvU tl σ H xs) (Pv : Addr → Nat → L2.St → Hp → Prop) (h0 : ∀ p H1, H p = none → Ex H H1 → H1 p = some (.tup xs) → Pv p 0 σ H1) (hl : ∀ p i σ' H', i ≤ xs.length → Pv p i σ' H' → SqT K H' p xs)
    (hs : ∀ p i x σ' H', xs[i]? = some x → Pv p i σ' H' → g x σ' H' fun σ2 H2 => tu { D with nx := Pv p (i + 1), ct := Pv p (i + 1), bk := tz D } σ2 H2) (hd : ∀ p σ' H', Pv p xs.length σ' H' → tz D σ' H') : tSeq (tFor (iTup K tl) g tu) tz D σ H :=
  s_forNT (D := { D with nx := tz D }) h Pv h0 hl hs hd
/-- for i, x in enumerate(t) -/
theorem q_forET {a : Addr} {xs : List V} {ta : TA} (h : EvA ta σ H [.ref a]) (hx : SqT K H a xs) (Pv : Nat → L2.St → Hp → Prop) (h0 : ∀ H1, Ex H H1 → Pv 0 σ H1) (hG : ∀ i σ' H', i ≤ xs.length → Pv i σ' H' → SqT K H' a xs)
    (hs : ∀ i x σ' H' T, xs[i]? = some x → Pv i σ' H' → H' T = none → g (.ref T) σ' (upd H' T (.tup [.int (i : Nat), x])) fun σ2 H2 => tu { D with nx := Pv (i + 1), ct := Pv (i + 1), bk := tz D } σ2 H2) (hd : ∀ σ' H', Pv xs.length σ' H' → tz D σ' H') :
    tSeq (tFor (iEnumT K ta) g tu) tz D σ H := h H (Ex.refl H) _ fun H1 e => by
  have wk : Walk (Iet K a) xs.length (fun H => SqT K H a xs) (YPair (fun i => some (.int (i : Nat))) (fun i => xs[i]?)) := by
    refine ⟨fun i _ hi q => ⟨xs, xs[i], q, by simp [hi]⟩, fun _ q => ⟨xs, q, Nat.le_refl _⟩, fun i H v H' _ q y => ?_⟩
    obtain ⟨T, x, h1, h2, h3, h4⟩ := y
    exact ⟨T, .int (i : Nat), x, h1, h2, h3, rfl, h4 xs q⟩
  refine ⟨a, xs, rfl, ex_t e hx, for_it (D := { D with nx := tz D }) wk Pv (h0 H1 e) hG (fun i x σ' H' H'' hi p y => ?_) hd⟩
  obtain ⟨T, x1, x2, rfl, hT, rfl, e1, e2⟩ := y
  cases Option.some.inj e1
  exact hs i x2 σ' H' T e2 p hT
/-- [e for x in a new tuple], e told -/
theorem el_mapNT {xs : List V} {j : Nat} {vs : List Nat} (fv : Nat → V) (h : EvU tl σ H xs) (hz : xs.length ≤ 40000) (hw : ∀ x, wipe ((wipe σ vs).set j (some x)) vs = wipe σ vs)
    (he : ∀ (i : Nat) (x : V) H1, Ex H H1 → xs[i]? = some x → Ev te ((wipe σ vs).set j (some x)) H1 (fv i)) :
    EvL (tLc (iTup K tl) (gName j) tYes te vs) σ H (given xs.length (fun _ => true) fv) := fun H0 e Q q => h H0 e _ fun a H1 ha e1 hx => ⟨a, rfl, ⟨xs, st_of hx⟩, fun Dl hD =>
  lc_tup (xs := xs) (Cw H1 (fun _ => true) fv Dl) ⟨hD, Ex.new hD, upd_same⟩ (fun i H' _ p => st_of (p.2.1 a _ hx)) (fun i x H' hi p => ⟨hw x, cw_turn p (by have := (List.getElem?_eq_some_iff.mp hi).1; omega) (fun H3 _ Q3 q3 => q3 H3 (Ex.refl H3)) (fun hf => he i x H1 (e.trans e1) hi)⟩)
    (fun H' p => q Dl H' (fresh_back e1 p.1) (e1.trans p.2.1) p.2.2)⟩
theorem given_all (n : Nat) (fv : Nat → V) : given n (fun _ => true) fv = (List.range n).map fv := by
  unfold given
  rw [List.filter_eq_self.mpr (fun _ _ => rfl)]
/-- a formula that grows in a list -/
structure FoAt (H H' : Hp) (l : Addr) (us : List V) (ss : List FStep) : Prop where
  ex : Ex H H'
  at_ : H' l = some (.lst us)
  st : StepsAt H' us ss
theorem FoAt.mono {H H1 H2 : Hp} {l : Addr} {us : List V} (F : FoAt H H1 l us ss) (e : Ex H1 H2) : FoAt H H2 l us ss := ⟨F.ex.trans e, e _ _ F.at_, F.st.mono e⟩
theorem steps_upd {l : Addr} {us zs : List V} {xs : List V} (hl : H l = some (.lst xs)) (h : StepsAt H us ss) : StepsAt (upd H l (.lst zs)) us ss := ⟨h.1, fun i v s a b => by
  obtain ⟨p, r1, r2⟩ := h.2 i v s a b
  refine ⟨p, r1, ?_⟩
  rw [upd_ne (fun z => by rw [z, hl] at r2; cases r2)]
  exact r2⟩
theorem step_upd {l : Addr} {zs : List V} {xs : List V} (hl : H l = some (.lst xs)) (h : StepAt H v s) : StepAt (upd H l (.lst zs)) v s := by
  obtain ⟨p, r1, r2⟩ := h
  refine ⟨p, r1, ?_⟩
  rw [upd_ne (fun z => by rw [z, hl] at r2; cases r2)]
  exact r2
theorem FoAt.push {H H1 H2 : Hp} {l : Addr} {us : List V} (hn : H l = none) (F : FoAt H H1 l us ss) (e : Ex H1 H2) (hs : StepAt H2 v s) : FoAt H (upd H2 l (.lst (us ++ [v]))) l (us ++ [v]) (ss ++ [s]) :=
  ⟨Ex.mut (F.ex.trans e) hn, upd_same, (steps_upd (e _ _ F.at_) (F.st.mono e)).snoc (step_upd (e _ _ F.at_) hs)⟩
/-- steps == [] -/
theorem ev_isEmpty {l : Addr} {us : List V} (hl : H l = some (.lst us)) (hs : StepsAt H us ss) (ho : ∀ s ∈ ss, OkS s) (ha : Ev ta σ H (.ref l)) : Ev (tOp (rEqD K) ta (tLst tNil)) σ H (.bl ss.isEmpty) :=
  ev_opL ha (el_lst ea_nil (show 0 ≤ 100000 by decide)) fun p H1 hp e H2 e2 Q q => ⟨.list (ss.map stD), .list [], .lst (sq_of ((e.trans e2) _ _ hl)) (hs.mono (e.trans e2)).dp, .lst (sq_of (e2 _ _ hp)) .nil, sh_list ho, rfl, by
    have e3 : PyData.eqv (.list (ss.map stD)) (.list []) = ss.isEmpty := by cases ss <;> rfl
    rw [e3]
    exact q H2 (Ex.refl _)⟩
theorem cut_take (xs : List V) (m : Nat) : cutV xs none (some (m : Int)) = xs.take m := by
  unfold cutV
  rw [HT.sIx_none, HT.sIx_nat, List.drop_zero, Nat.sub_zero]
  by_cases h : m ≤ xs.length
  · rw [Nat.min_eq_left h]
  · rw [Nat.min_eq_right (by omega), List.take_length, List.take_of_length_le (by omega)]
/-- f + (step,) -/
theorem ef_cat1 {a : Addr} {us : List V} {tt : TA} (ha : H a = some (.tup us)) (hs : StepsAt H us ss) (hne : ss ≠ []) (hl : ss.length ≤ 1000) (h : Ev ta σ H (.ref a)) (ht : EvA tt σ H (stV s)) (hz : s.2.length ≤ 100) : EvF (tOp (rCatT K) ta (tTup (tCons (tTup tt) tNil))) σ H (ss ++ [s]) := fun H1 e Q q =>
  h H1 e _ fun H2 e2 => ht H2 (e.trans e2) _ fun H3 e3 => ⟨by show (stV s).length ≤ sizeLine; exact sz_of (by simp [stV]; omega), fun p hp => ⟨by show 1 ≤ sizeLine; decide, fun r hr => by
    have e4 : Ex H3 (upd H3 p (.tup (stV s))) := Ex.new hp
    have e5 := e4.trans (Ex.new (o := .tup [V.ref p]) hr)
    have e6 := ((e.trans e2).trans e3).trans e5
    refine ⟨a, r, us, [.ref p], rfl, rfl, st_of (e6 _ _ ha), st_of upd_same, fun z => ?_, ?_, (fun z => nomatch z), fun _ c hc => ?_⟩
    · rw [z] at hs
      have := hs.1
      exact hne (List.eq_nil_of_length_eq_zero this.symm)
    · rw [hs.1]
      exact sz_of (by simp; omega)
    · refine q c _ _ (fresh_back ((e2.trans e3).trans e5) hc) (((e2.trans e3).trans e5).trans (Ex.new hc)) upd_same ?_
      exact ((hs.mono e6).snoc ⟨p, rfl, ex_app (Ex.new hr) upd_same⟩).mono (Ex.new hc)⟩⟩
/-- (step,) -/
theorem ef_one {tt : TA} (ht : EvA tt σ H (stV s)) (hz : s.2.length ≤ 100) : EvF (tTup (tCons (tTup tt) tNil)) σ H [s] := fun H1 e Q q =>
  ht H1 e _ fun H3 e3 => ⟨by show (stV s).length ≤ sizeLine; exact sz_of (by simp [stV]; omega), fun p hp => ⟨by show 1 ≤ sizeLine; decide, fun r hr => by
    have e4 : Ex H3 (upd H3 p (.tup (stV s))) := Ex.new hp
    exact q r _ _ (fresh_back (e3.trans e4) hr) ((e3.trans e4).trans (Ex.new hr)) upd_same (.one ⟨p, rfl, ex_app (Ex.new hr) upd_same⟩)⟩⟩
theorem ev_cbF {r : List V → Hp → VK → Prop} {tr : TA} {ws : List V} (h1 : EvF te σ H ss) (h2 : EvA tr σ H ws) (hr : ∀ p H1 us, H1 p = some (.tup us) → Ex H H1 → RC r (.ref p :: ws) H1 z) : Ev (tCB r (tCons te tr)) σ H z := fun H1 e Q q =>
  h1 H1 e _ fun p H2 us np e2 hp hu => h2 H2 (e.trans e2) _ fun H3 e3 => hr p H3 us (e3 _ _ hp) ((e.trans e2).trans e3) H3 (Ex.refl _) Q fun H4 e4 => q H4 ((e2.trans e3).trans e4)
theorem yes_go {A B : Hp → Prop} (h : A H) : tYes σ H fun b H3 => if b = true then A H3 else B H3 := by
  show (if true = true then A H else B H)
  rw [if_pos rfl]
  exact h
theorem at0 (st : FStep) : atI (stV st) 0 = some (.str st.1) := atI_nat (j := 0) rfl
end
end Fm

/-! Own data: values of drawn kinds, told by what a formula's judge asks of them. -/
namespace Kn
open PySem PySem.Spec PyProof.Rows L2 Evl Cm Et Fm

inductive Kd where
  | int (i : Int)
  | str (x : Str)
  | bl
  | oth
  | tup (ks : List Kd)
def WS : List Str := ["number", "pi", "add", "subtract", "times", "divide", "root", "sine", "cosine", "exp", "log", "arctan", "arcsine", "arccosine", "", "power", "Add"]
mutual
inductive Kn (H : Hp) : V → Kd → Prop
  | non : Kn H .non .oth
  | bl (b : Bool) : Kn H (.bl b) .bl
  | int (i : Int) : Kn H (.int i) (.int i)
  | str {x : Str} (h : x ∈ WS) : Kn H (.str x) (.str x)
  | lst {a : Addr} {xs : List V} (h : H a = some (.lst xs)) : Kn H (.ref a) .oth
  | dK {a : Addr} {kvs : List (Key × V)} (h : H a = some (.dK kvs)) : Kn H (.ref a) .oth
  | tup {a : Addr} {xs : List V} {ks : List Kd} (h : H a = some (.tup xs)) (hz : xs.length ≤ 1000) (hs : KnAll H xs ks) : Kn H (.ref a) (.tup ks)
inductive KnAll (H : Hp) : List V → List Kd → Prop
  | nil : KnAll H [] []
  | cons {v : V} {vs : List V} {k : Kd} {ks : List Kd} : Kn H v k → KnAll H vs ks → KnAll H (v :: vs) (k :: ks)
end
/-- what a turn may change: a list's items -/
structure Stab (H H' : Hp) : Prop where
  tup : ∀ a xs, H a = some (.tup xs) → H' a = some (.tup xs)
  lst : ∀ a xs, H a = some (.lst xs) → ∃ ys, H' a = some (.lst ys)
  dK : ∀ a kvs, H a = some (.dK kvs) → H' a = some (.dK kvs)
theorem Stab.ex {H H' : Hp} (e : Ex H H') : Stab H H' := ⟨fun a xs h => e _ _ h, fun a xs h => ⟨xs, e _ _ h⟩, fun a kvs h => e _ _ h⟩
theorem Stab.upd {H : Hp} {l : Addr} {xs ys : List V} (h : H l = some (.lst xs)) : Stab H (upd H l (.lst ys)) := by
  refine ⟨fun a zs h2 => ?_, fun a zs h2 => ?_, fun a zs h2 => ?_⟩
  · rw [upd_ne (fun z => by rw [z, h] at h2; cases h2)]
    exact h2
  · by_cases e : a = l
    · subst e
      exact ⟨ys, upd_same⟩
    · rw [upd_ne e]
      exact ⟨zs, h2⟩
  · rw [upd_ne (fun z => by rw [z, h] at h2; cases h2)]
    exact h2
theorem Stab.trans {A B C : Hp} (x : Stab A B) (y : Stab B C) : Stab A C := ⟨fun a xs h => y.tup _ _ (x.tup _ _ h), fun a xs h => let ⟨ys, h2⟩ := x.lst _ _ h; y.lst _ _ h2, fun a k h => y.dK _ _ (x.dK _ _ h)⟩
mutual
theorem kn_st {H H' : Hp} (e : Stab H H') : ∀ (v : V) (k : Kd), Kn H v k → Kn H' v k
  | _, _, .non => .non
  | _, _, .bl b => .bl b
  | _, _, .int i => .int i
  | _, _, .str h => .str h
  | _, _, .lst h => let ⟨_, h2⟩ := e.lst _ _ h; .lst h2
  | _, _, .dK h => .dK (e.dK _ _ h)
  | _, _, .tup h hz hs => .tup (e.tup _ _ h) hz (kns_st e _ _ hs)
theorem kns_st {H H' : Hp} (e : Stab H H') : ∀ (vs : List V) (ks : List Kd), KnAll H vs ks → KnAll H' vs ks
  | _, _, .nil => .nil
  | _, _, .cons h t => .cons (kn_st e _ _ h) (kns_st e _ _ t)
end
section
variable {K : PySem.W.Frag} {σ : L2.St} {H H' : Hp} {ta tb tc te tx tl : TE} {t u : TT} {x y z v w : V} {r r' : R2} {D : Ends} {tu tz : TS} {vs ws : List V} {k : Kd} {ks : List Kd}
theorem Kn.ex (h : Kn H v k) (e : Ex H H') : Kn H' v k := kn_st (.ex e) _ _ h
theorem KnAll.ex (h : KnAll H vs ks) (e : Ex H H') : KnAll H' vs ks := kns_st (.ex e) _ _ h
theorem KnAll.len : ∀ {vs : List V} {ks : List Kd}, KnAll H vs ks → vs.length = ks.length
  | _, _, .nil => rfl
  | _, _, .cons _ t => congrArg (· + 1) (KnAll.len t)
theorem KnAll.get : ∀ {vs : List V} {ks : List Kd} {i : Nat} {v : V}, KnAll H vs ks → vs[i]? = some v → ∃ k, ks[i]? = some k ∧ Kn H v k
  | _, _, 0, _, .cons h _, e => by
    cases Option.some.inj e
    exact ⟨_, rfl, h⟩
  | _, _, i + 1, _, .cons _ t, e => KnAll.get (i := i) t e
  | _, _, i, _, .nil, e => by simp at e
/-- of some kind each -/
def Kns (H : Hp) (vs : List V) : Prop := ∀ v ∈ vs, ∃ k, Kn H v k
theorem Kns.all : ∀ {vs : List V}, Kns H vs → ∃ ks, KnAll H vs ks
  | [], _ => ⟨[], .nil⟩
  | v :: vs, h => by
    obtain ⟨k, hk⟩ := h v (.head _)
    obtain ⟨ks, hs⟩ := Kns.all (vs := vs) fun w hw => h w (.tail _ hw)
    exact ⟨k :: ks, .cons hk hs⟩
theorem KnAll.kns : ∀ {vs : List V} {ks : List Kd}, KnAll H vs ks → Kns H vs
  | _, _, .nil => fun v hv => by simp at hv
  | _, _, .cons h t => fun v hv => by
    rcases List.mem_cons.mp hv with rfl | hv
    · exact ⟨_, h⟩
    · exact KnAll.kns t v hv
theorem Kns.st (h : Kns H vs) (e : Stab H H') : Kns H' vs := fun v hv => let ⟨k, hk⟩ := h v hv; ⟨k, kn_st e _ _ hk⟩
theorem Kns.ex (h : Kns H vs) (e : Ex H H') : Kns H' vs := h.st (.ex e)
theorem Kns.nil : Kns H [] := fun v hv => by simp at hv
theorem Kns.cons (h : ∃ k, Kn H v k) (hs : Kns H vs) : Kns H (v :: vs) := fun w hw => by
  rcases List.mem_cons.mp hw with rfl | hw
  · exact h
  · exact hs w hw
theorem Kns.app (h : Kns H vs) (hs : Kns H ws) : Kns H (vs ++ ws) := fun x hx => by
  rcases List.mem_append.mp hx with hx | hx
  · exact h x hx
  · exact hs x hx
theorem Kns.tupK {a : Addr} (h : H a = some (.tup vs)) (hz : vs.length ≤ 1000) (hs : Kns H vs) : ∃ k, Kn H (.ref a) k := by
  obtain ⟨ks, hk⟩ := hs.all
  exact ⟨_, .tup h hz hk⟩
/-! ### what is asked of kinds -/
def isTup : Kd → Bool
  | .tup _ => true
  | _ => false
def isStr : Kd → Bool
  | .str _ => true
  | _ => false
def isInt : Kd → Bool
  | .int _ => true
  | _ => false
def isInt0 : Kd → Bool
  | .int _ => true
  | .bl => true
  | _ => false
def isBl : Kd → Bool
  | .bl => true
  | _ => false
theorem rc_isiG (c : String) (f : Kd → Bool) (h : Kn H v k) (h1 : kitB "NoneType" c = some (f .oth)) (h2 : kitB "list" c = some (f .oth)) (h3 : kitB "dict" c = some (f .oth)) (h4 : kitB "bool" c = some (f .bl)) (h5 : ∀ i, kitB "int" c = some (f (.int i)))
    (h6 : ∀ x, kitB "str" c = some (f (.str x))) (h7 : ∀ ks, kitB "tuple" c = some (f (.tup ks))) : RC (rIsi K) [v, .ty c] H (.bl (f k)) := fun H1 e _ q => by
  replace h := h.ex e
  cases h with
  | non => exact ⟨_, .ty c, .type "NoneType", .type c, _, rfl, .ty _, .base .non, kit_ty h1, q H1 (Ex.refl H1)⟩
  | bl b => exact ⟨_, .ty c, .type "bool", .type c, _, rfl, .ty _, .base (.bl b), kit_ty h4, q H1 (Ex.refl H1)⟩
  | int i => exact ⟨_, .ty c, .type "int", .type c, _, rfl, .ty _, .base (.int i), kit_ty (h5 i), q H1 (Ex.refl H1)⟩
  | str h => exact ⟨_, .ty c, .type "str", .type c, _, rfl, .ty _, .base (.str _), kit_ty (h6 _), q H1 (Ex.refl H1)⟩
  | lst h => exact ⟨_, .ty c, .type "list", .type c, _, rfl, .ty _, .base (.lst h), kit_ty h2, q H1 (Ex.refl H1)⟩
  | dK h => exact ⟨_, .ty c, .type "dict", .type c, _, rfl, .ty _, .base (.dK h), kit_ty h3, q H1 (Ex.refl H1)⟩
  | tup h hz hs => exact ⟨_, .ty c, .type "tuple", .type c, _, rfl, .ty _, .base (.tup h), kit_ty (h7 _), q H1 (Ex.refl H1)⟩
theorem rc_isTup (h : Kn H v k) : RC (rIsi K) [v, .ty "tuple"] H (.bl (isTup k)) := rc_isiG "tuple" isTup h (by decide +kernel) (by decide +kernel) (by decide +kernel) (by decide +kernel) (fun _ => by show kitB "int" "tuple" = some false; decide +kernel) (fun _ => by show kitB "str" "tuple" = some false; decide +kernel) (fun _ => by show kitB "tuple" "tuple" = some true; decide +kernel)
theorem rc_isStr (h : Kn H v k) : RC (rIsi K) [v, .ty "str"] H (.bl (isStr k)) := rc_isiG "str" isStr h (by decide +kernel) (by decide +kernel) (by decide +kernel) (by decide +kernel) (fun _ => by show kitB "int" "str" = some false; decide +kernel) (fun _ => by show kitB "str" "str" = some true; decide +kernel) (fun _ => by show kitB "tuple" "str" = some false; decide +kernel)
theorem rc_isInt0 (h : Kn H v k) : RC (rIsi K) [v, .ty "int"] H (.bl (isInt0 k)) := rc_isiG "int" isInt0 h (by decide +kernel) (by decide +kernel) (by decide +kernel) (by decide +kernel) (fun _ => by show kitB "int" "int" = some true; decide +kernel) (fun _ => by show kitB "str" "int" = some false; decide +kernel) (fun _ => by show kitB "tuple" "int" = some false; decide +kernel)
theorem rc_isBl (h : Kn H v k) : RC (rIsi K) [v, .ty "bool"] H (.bl (isBl k)) := rc_isiG "bool" isBl h (by decide +kernel) (by decide +kernel) (by decide +kernel) (by decide +kernel) (fun _ => by show kitB "int" "bool" = some false; decide +kernel) (fun _ => by show kitB "str" "bool" = some false; decide +kernel) (fun _ => by show kitB "tuple" "bool" = some false; decide +kernel)
theorem isInt_eq (k : Kd) : (isInt0 k && !isBl k) = isInt k := by cases k <;> rfl
/-! ### the judge -/
def CNT : List (Str × Nat) := [("number", 2), ("pi", 0), ("add", 2), ("subtract", 2), ("times", 2), ("divide", 2), ("root", 1), ("sine", 1), ("cosine", 1), ("exp", 1), ("log", 1), ("arctan", 1), ("arcsine", 1), ("arccosine", 1)]
def cnt (x : Str) : Option Nat := (CNT.find? fun p => decide (p.1 = x)).map (·.2)
def inR (place : Nat) : Kd → Bool
  | .int i => !(decide (i < 0) || decide ((place : Int) ≤ i))
  | _ => false
def numOk : List Kd → Bool
  | [_, .int q] => decide (1 ≤ q)
  | _ => false
def stepK (place : Nat) : Kd → Bool
  | .tup (.str x :: r) => match cnt x with
    | none => false
    | some c => decide (r.length = c) && (r.all isInt && (if x = "number" then numOk r else r.all (inR place)))
  | _ => false
def FormP (k : Kd) : Prop := ∃ ks, k = .tup ks ∧ ks ≠ [] ∧ ∀ (j : Nat) s, ks[j]? = some s → stepK j s = true
open Classical in
noncomputable def formK (k : Kd) : Bool := decide (FormP k)
theorem formT (h : FormP k) : formK k = true := @decide_eq_true _ (Classical.propDecidable _) h
theorem formF (h : ¬ FormP k) : formK k = false := @decide_eq_false _ (Classical.propDecidable _) h
theorem formT_of (hn : ks ≠ []) (h : ∀ (j : Nat) s, ks[j]? = some s → stepK j s = true) : formK (.tup ks) = true := formT ⟨ks, rfl, hn, h⟩
theorem formF_at {j : Nat} {s : Kd} (h : ks[j]? = some s) (hs : stepK j s = false) : formK (.tup ks) = false := formF fun ⟨ks2, e, _, h2⟩ => by
  cases e
  rw [h2 j s h] at hs
  cases hs
theorem formF_nil : formK (.tup []) = false := formF fun ⟨ks2, e, hn, _⟩ => by
  cases e
  exact hn rfl
theorem formF_not (h : isTup k = false) : formK k = false := formF fun ⟨ks2, e, hn, _⟩ => by
  subst e
  cases h
theorem stepF_not (p : Nat) (h : isTup k = false) : stepK p k = false := by
  cases k with
  | tup ks => cases h
  | _ => rfl
theorem stepF_str (p : Nat) {s : Kd} {r : List Kd} (h : isStr s = false) : stepK p (.tup (s :: r)) = false := by
  cases s with
  | str x => cases h
  | _ => rfl
theorem all_true {f : Kd → Bool} (h : ∀ (j : Nat) s, ks[j]? = some s → f s = true) : ks.all f = true := List.all_eq_true.mpr fun s hs => by
  obtain ⟨j, hj⟩ := List.getElem?_of_mem hs
  exact h j s hj
theorem all_false {f : Kd → Bool} {j : Nat} {s : Kd} (h : ks[j]? = some s) (hf : f s = false) : ks.all f = false := by
  rw [List.all_eq_false]
  exact ⟨s, List.mem_of_getElem? h, by rw [hf]; exact Bool.false_ne_true⟩
/-! ### a tuple == () -/
def rEqE : R2 := fun x y H Q => ∃ a b xs, x = .ref a ∧ y = .ref b ∧ H a = some (.tup xs) ∧ H b = some (.tup []) ∧ Q (.bl xs.isEmpty) H
theorem tup_get {X : Cx} {pins : List (Addr × Obj)} {σ : L2.St} {H : Hp} {s : Shared} (I : Inv X pins σ H s) {a : Addr} {xs : List V} (h : H a = some (.tup xs)) : ∃ its : List Value, Vals xs its ∧ s.heap.IsTuple a its.toArray := by
  obtain ⟨_, its, rv, o, h1, h2, n, h3⟩ := (show ObjOk X.prog X.w H s.heap a (.tup xs) from I.hok a _ h)
  exact ⟨its, rv, o, h1, h2, n, h3⟩
theorem op_eqE {X : Cx} (hu : X.A.units + 64 < cLine) : OpR X (compareOp .Eq) rEqE := by
  intro pins s σ H x y v u Q I rx ry h
  obtain ⟨a, b, xs, rfl, rfl, ha, hb, q⟩ := h
  cases (show v = Value.ref a from rx)
  cases (show u = Value.ref b from ry)
  obtain ⟨us, r1, p1⟩ := tup_get I ha
  obtain ⟨ws, r2, p2⟩ := tup_get I hb
  have e2 : ws = [] := by
    cases r2
    rfl
  subst e2
  have hl := r1.length
  refine SeqAt.rcIn_tuples (e := fun _ => true) p1 p2 (by omega) (fun j h1 h2 => by simp at h2) ?_
  refine ⟨.bl xs.isEmpty, H, I, ?_, q⟩
  cases xs with
  | nil =>
    cases r1
    rfl
  | cons y r =>
    cases r1
    rfl
theorem ev_eqE {a : Addr} (h : H a = some (.tup vs)) (ha : Ev ta σ H (.ref a)) : Ev (tOp rEqE ta (tTup tNil)) σ H (.bl vs.isEmpty) :=
  ev_opU ha (eu_tup ea_nil (show 0 ≤ 100000 by decide)) fun p H1 hp e H2 e2 Q q => ⟨a, p, vs, rfl, rfl, (e.trans e2) _ _ h, e2 _ _ hp, q H2 (Ex.refl _)⟩
/-! ### values of some kind come back -/
def RetK (H : Hp) (Q : VK) : Prop := ∀ v H2, Ex H H2 → (∃ k, Kn H2 v k) → Q v H2
def EvK (te : TE) (σ : L2.St) (H : Hp) : Prop := ∀ H1, Ex H H1 → ∀ Q : VK, RetK H1 Q → te σ H1 Q
def EvKs (n : Nat) (t : TA) (σ : L2.St) (H : Hp) : Prop := ∀ H1, Ex H H1 → ∀ Q : List V → Hp → Prop, (∀ vs H2, Ex H1 H2 → Kns H2 vs → vs.length = n → Q vs H2) → t σ H1 Q
theorem RetK.go {Q : VK} (q : RetK H Q) (e : Ex H H') : RetK H' Q := fun v H2 e2 h => q v H2 (e.trans e2) h
theorem ek_c (h : ∀ H', ∃ k, Kn H' v k) : EvK (tC v) σ H := fun H1 e Q q => q v H1 (Ex.refl H1) (h H1)
theorem ek_ev (h : Ev te σ H v) (hk : ∃ k, Kn H v k) : EvK te σ H := fun H1 e Q q => h H1 e _ fun H2 e2 => q v H2 e2 (let ⟨k, hk⟩ := hk; ⟨k, hk.ex (e.trans e2)⟩)
theorem ek_int {i : Int} (h : Ev te σ H (.int i)) : EvK te σ H := fun H1 e Q q => h H1 e _ fun H2 e2 => q _ H2 e2 ⟨_, .int i⟩
theorem eks_nil : EvKs 0 tNil σ H := fun H1 e Q q => q [] H1 (Ex.refl H1) Kns.nil rfl
theorem eks_cons {n : Nat} {tr : TA} (h : EvK te σ H) (hr : EvKs n tr σ H) : EvKs (n + 1) (tCons te tr) σ H := fun H1 e Q q =>
  h H1 e _ fun v H2 e2 hv => hr H2 (e.trans e2) _ fun vs H3 e3 hs hl => q (v :: vs) H3 (e2.trans e3) (Kns.cons (let ⟨k, hk⟩ := hv; ⟨k, hk.ex e3⟩) hs) (by rw [List.length_cons, hl])
theorem ek_tup {n : Nat} {tr : TA} (h : EvKs n tr σ H) (hn : n ≤ 1000) : EvK (tTup tr) σ H := fun H1 e Q q =>
  h H1 e _ fun vs H2 e2 hs hl => ⟨sz_of (by omega), fun p hp => q (.ref p) _ (e2.trans (Ex.new hp)) (Kns.tupK upd_same (by omega) (hs.ex (Ex.new hp)))⟩
theorem ek_lst {n : Nat} {tr : TA} (h : EvKs n tr σ H) (hn : n ≤ 100000) : EvK (tLst tr) σ H := fun H1 e Q q =>
  h H1 e _ fun vs H2 e2 hs hl => ⟨sz_of (by omega), fun p hp => q (.ref p) _ (e2.trans (Ex.new hp)) ⟨_, .lst upd_same⟩⟩
theorem ek_dict : EvK tDNewK σ H := fun H1 e Q q p hp => q (.ref p) _ (Ex.new hp) ⟨_, .dK upd_same⟩
/-- a menu's item -/
theorem ek_menu {n : Nat} {tr : TA} {i : Int} (h : EvKs n tr σ H) (hn : n ≤ 100000) (hi : Ev te σ H (.int i)) (h0 : 0 ≤ i ∧ i < n) : EvK (tOp (rIxL K) (tLst tr) te) σ H := fun H1 e Q q =>
  h H1 e _ fun vs H2 e2 hs hl => ⟨sz_of (by omega), fun p hp => hi _ ((e.trans e2).trans (Ex.new hp)) _ fun H3 e3 => by
    obtain ⟨j, hj⟩ := Int.eq_ofNat_of_zero_le h0.1
    have hj2 : j < vs.length := by omega
    refine ⟨p, vs, i, vs[j], rfl, rfl, sq_of (e3 _ _ upd_same), ?_, q _ _ ((e2.trans (Ex.new hp)).trans e3) ?_⟩
    · rw [hj]
      exact atI_nat (List.getElem?_eq_getElem hj2)
    · obtain ⟨k, hk⟩ := hs _ (List.getElem_mem hj2)
      exact ⟨k, hk.ex ((Ex.new hp).trans e3)⟩⟩
theorem q_asgK {i : Nat} (h : EvK te σ H) (k : ∀ v H1, Ex H H1 → (∃ k, Kn H1 v k) → tz D (σ.set i (some v)) H1) : tSeq (tAsg te (gName i)) tz D σ H := h H (Ex.refl H) _ k
theorem s_asgK {i : Nat} (h : EvK te σ H) (k : ∀ v H1, Ex H H1 → (∃ k, Kn H1 v k) → D.nx (σ.set i (some v)) H1) : tAsg te (gName i) D σ H := h H (Ex.refl H) _ k
/-- a formula's step is of its kind -/
theorem knInts : ∀ (is : List Int), KnAll H (is.map V.int) (is.map Kd.int)
  | [] => .nil
  | i :: r => .cons (.int i) (knInts r)
theorem w2_ws : ∀ x ∈ W2, x ∈ WS := w2_all ⟨by simp [WS], by simp [WS], by simp [WS], by simp [WS]⟩
theorem w1_ws : ∀ x ∈ W1, x ∈ WS := w1_all ⟨by simp [WS], by simp [WS], by simp [WS], by simp [WS], by simp [WS], by simp [WS], by simp [WS], by simp [WS]⟩
theorem kn_step {n : Nat} {s : FStep} {a : Addr} (hs : OkStep n s) : KnAll H (stV s) (.str s.1 :: s.2.map Kd.int) := by
  refine .cons (.str ?_) (knInts _)
  rcases hs with ⟨p, q, rfl, _⟩ | rfl | ⟨w, i, j, hw, rfl, h1, h2⟩ | ⟨w, i, hw, rfl, h1⟩
  · simp [WS]
  · simp [WS]
  · exact w2_ws w hw
  · exact w1_ws w hw
/-- tuples of values of some kind -/
def Tups (H : Hp) (vs : List V) : Prop := ∀ v ∈ vs, ∃ a xs, v = .ref a ∧ H a = some (.tup xs) ∧ Kns H xs ∧ xs.length ≤ 100
theorem Tups.kns (h : Tups H vs) : Kns H vs := fun v hv => by
  obtain ⟨a, xs, rfl, h1, h2, h3⟩ := h v hv
  exact Kns.tupK h1 (by omega) h2
theorem Tups.st (h : Tups H vs) (e : Stab H H') : Tups H' vs := fun v hv => by
  obtain ⟨a, xs, rfl, h1, h2, h3⟩ := h v hv
  exact ⟨a, xs, rfl, e.tup _ _ h1, h2.st e, h3⟩
theorem Kns.eraseIdx (h : Kns H vs) (i : Nat) : Kns H (vs.eraseIdx i) := fun v hv => h v (List.mem_of_mem_eraseIdx hv)
theorem Kns.set (h : Kns H vs) (i : Nat) (hv : ∃ k, Kn H v k) : Kns H (vs.set i v) := fun x hx => by
  rcases List.mem_or_eq_of_mem_set hx with hx | rfl
  · exact h x hx
  · exact hv
theorem Tups.set (h : Tups H vs) (i : Nat) {a : Addr} {xs : List V} (h1 : H a = some (.tup xs)) (h2 : Kns H xs) (h3 : xs.length ≤ 100) : Tups H (vs.set i (.ref a)) := fun x hx => by
  rcases List.mem_or_eq_of_mem_set hx with hx | rfl
  · exact h x hx
  · exact ⟨a, xs, rfl, h1, h2, h3⟩
/-- the head and the rest of a tuple's items -/
theorem KnAll.split : ∀ {vs : List V} {s : Kd} {r : List Kd}, KnAll H vs (s :: r) → ∃ v ws, vs = v :: ws ∧ Kn H v s ∧ KnAll H ws r
  | _, _, _, .cons h t => ⟨_, _, rfl, h, t⟩
theorem kn_tup (h : Kn H v k) (ht : isTup k = true) : ∃ a xs ks, v = .ref a ∧ k = .tup ks ∧ H a = some (.tup xs) ∧ KnAll H xs ks ∧ xs.length ≤ 1000 := by
  cases h with
  | tup h hz hs => exact ⟨_, _, _, rfl, rfl, h, hs, hz⟩
  | _ => cases ht
theorem kn_str (h : Kn H v k) (ht : isStr k = true) : ∃ x, v = .str x ∧ k = .str x ∧ x ∈ WS := by
  cases h with
  | str h => exact ⟨_, rfl, rfl, h⟩
  | _ => cases ht
theorem kn_int (h : Kn H v k) (ht : isInt k = true) : ∃ i, v = .int i ∧ k = .int i := by
  cases h with
  | int i => exact ⟨i, rfl, rfl⟩
  | _ => cases ht
theorem KnAll.nil_of (h : KnAll H vs []) : vs = [] := by
  cases h
  rfl
theorem stepK_none {p : Nat} {x : Str} {r : List Kd} (h : cnt x = none) : stepK p (.tup (.str x :: r)) = false := by
  show (match cnt x with | none => false | some c => decide (r.length = c) && (r.all isInt && (if x = "number" then numOk r else r.all (inR p)))) = false
  rw [h]
theorem stepK_some {p c : Nat} {x : Str} {r : List Kd} (h : cnt x = some c) : stepK p (.tup (.str x :: r)) = (decide (r.length = c) && (r.all isInt && (if x = "number" then numOk r else r.all (inR p)))) := by
  show (match cnt x with | none => false | some c => decide (r.length = c) && (r.all isInt && (if x = "number" then numOk r else r.all (inR p)))) = _
  rw [h]
theorem cnt_number : cnt "number" = some 2 := by decide +kernel
theorem cnt_pi : cnt "pi" = some 0 := by decide +kernel
theorem cnt_w2 : ∀ x ∈ W2, cnt x = some 2 := w2_all ⟨by decide +kernel, by decide +kernel, by decide +kernel, by decide +kernel⟩
theorem cnt_w1 : ∀ x ∈ W1, cnt x = some 1 := w1_all ⟨by decide +kernel, by decide +kernel, by decide +kernel, by decide +kernel, by decide +kernel, by decide +kernel, by decide +kernel, by decide +kernel⟩
/-- the words there are -/
theorem ws_cases {x : Str} (h : x ∈ WS) : x = "number" ∨ x = "pi" ∨ x ∈ W2 ∨ x ∈ W1 ∨ x = "" ∨ x = "power" ∨ x = "Add" := by
  unfold WS at h
  unfold W2 W1
  simp only [List.mem_cons, List.not_mem_nil, or_false] at h ⊢
  rcases h with h | h | h | h | h | h | h | h | h | h | h | h | h | h | h | h | h <;> simp [h]
theorem cnt_e : cnt "" = none := by decide +kernel
theorem cnt_power : cnt "power" = none := by decide +kernel
theorem cnt_Add : cnt "Add" = none := by decide +kernel
theorem ek_call {sp : Sp} {dvs ws : List V} {E : XK} {ta : TA} (h : EvA ta σ H ws) (hs : ∀ H1, Ex H H1 → ∀ Q : VK, RetK H1 Q → ∀ E : XK, sp (ws ++ dvs) H1 Q E) : EvK (tCall sp dvs E ta) σ H := fun H1 e Q q =>
  h H1 e _ fun H2 e2 => hs H2 (e.trans e2) Q (q.go e2) E
/-- xs[i] = e, e of some kind -/
theorem s_setK {l : Addr} {xs : List V} {j : Nat} (hl : H l = some (.lst xs)) (h : EvK te σ H) (ho : Ev ta σ H (.ref l)) (hi : Ev tb σ H (.int (j : Int))) (hj : j < xs.length) (k : ∀ v H1, Ex H H1 → (∃ k, Kn H1 v k) → D.nx σ (upd H1 l (.lst (xs.set j v)))) :
    tAsg te (gSub ta tb rSetL) D σ H := h H (Ex.refl H) _ fun v H1 e1 hv => ho H1 e1 _ fun H2 e2 => hi H2 (e1.trans e2) _ fun H3 e3 =>
  ⟨l, xs, (j : Int), j, rfl, rfl, ((e1.trans e2).trans e3) l _ hl, ixN_nat hj, k v H3 ((e1.trans e2).trans e3) (let ⟨k, hk⟩ := hv; ⟨k, hk.ex (e2.trans e3)⟩)⟩
theorem q_setU {l : Addr} {xs ys : List V} {j : Nat} (hl : H l = some (.lst xs)) (h : EvU te σ H ys) (ho : Ev ta σ H (.ref l)) (hi : Ev tb σ H (.int (j : Int))) (hj : j < xs.length) (k : ∀ p H1, Ex H H1 → H1 p = some (.tup ys) → tz D σ (upd H1 l (.lst (xs.set j (.ref p))))) :
    tSeq (tAsg te (gSub ta tb rSetL)) tz D σ H := h H (Ex.refl H) _ fun p H1 _ e1 hp => ho H1 e1 _ fun H2 e2 => hi H2 (e1.trans e2) _ fun H3 e3 =>
  ⟨l, xs, (j : Int), j, rfl, rfl, ((e1.trans e2).trans e3) l _ hl, ixN_nat hj, k p H3 ((e1.trans e2).trans e3) ((e2.trans e3) _ _ hp)⟩
theorem seqIx {j n : Nat} (h : j < n) : seqIndex? (j : Int) n = some j := by
  unfold seqIndex?
  have h1 : ¬ ((j : Int) < 0) := by omega
  simp [h1, h]
/-- xs.pop(i) -/
theorem s_popAt {l : Addr} {xs : List V} {j : Nat} (hl : H l = some (.lst xs)) (ha : Ev ta σ H (.ref l)) (hi : Ev te σ H (.int (j : Int))) (hj : j < xs.length) (hz : xs.length ≤ 1000) (k : ∀ H1, Ex H H1 → D.nx σ (upd H1 l (.lst (xs.eraseIdx j)))) :
    tDrop (tBM K "list" rPopAt ta (tCons te tNil)) D σ H := ha H (Ex.refl H) _ fun H1 e1 =>
  ⟨Or.inl ⟨rfl, xs, sq_of (e1 l _ hl)⟩, hi H1 e1 _ fun H2 e2 => ⟨l, xs, (j : Int), j, xs[j], rfl, rfl, e2 l _ (e1 l _ hl), by omega, by omega, seqIx hj, List.getElem?_eq_getElem hj, k H2 (e1.trans e2)⟩⟩
/-- tuple(xs), xs a list -/
theorem eu_tuple {l : Addr} {xs : List V} (ha : Ev ta σ H (.ref l)) (h : SqL K H l xs) : EvU (tCB (fun xs H Q => ∃ p ys, xs = [.ref p] ∧ ((SqL K H p ys ∧ ∀ l, H l = none → Q (.ref l) (upd H l (.tup ys))) ∨ (SqT K H p ys ∧ Q (.ref p) H))) (tCons ta tNil)) σ H xs := fun H1 e Q q =>
  ha H1 e _ fun H2 e2 => ⟨l, xs, rfl, .inl ⟨ex_l (e.trans e2) h, fun r hr => q r _ (fresh_back e2 hr) (e2.trans (Ex.new hr)) upd_same⟩⟩
theorem el_listT {l : Addr} {xs : List V} (ha : Ev ta σ H (.ref l)) (h : SqT K H l xs) : EvL (tCB (rListS K) (tCons ta tNil)) σ H xs := fun H1 e Q q =>
  ha H1 e _ fun H2 e2 => ⟨l, xs, rfl, Or.inr (ex_t (e.trans e2) h), fun l hl => q l _ (fresh_back e2 hl) (e2.trans (Ex.new hl)) upd_same⟩
/-- steps != [] -/
theorem ev_isFull {l : Addr} {us : List V} {ss : List FStep} (hl : H l = some (.lst us)) (hs : StepsAt H us ss) (ho : ∀ s ∈ ss, OkS s) (ha : Ev ta σ H (.ref l)) : Ev (tOp (rNeD K) ta (tLst tNil)) σ H (.bl (!ss.isEmpty)) :=
  ev_opL ha (el_lst ea_nil (show 0 ≤ 100000 by decide)) fun p H1 hp e H2 e2 Q q => ⟨.list (ss.map stD), .list [], .lst (sq_of ((e.trans e2) _ _ hl)) (hs.mono (e.trans e2)).dp, .lst (sq_of (e2 _ _ hp)) .nil, sh_list ho, rfl, by
    have e3 : PyData.eqv (.list (ss.map stD)) (.list []) = ss.isEmpty := by cases ss <;> rfl
    rw [e3]
    exact q H2 (Ex.refl _)⟩
theorem tups_of {us : List V} {ss : List FStep} (h : StepsAt H us ss) (ho : OkForm ss) : Tups H us := fun v hv => by
  obtain ⟨i, hi⟩ := List.getElem?_of_mem hv
  obtain ⟨s, hs, p, rfl, hp⟩ := h.get hi
  have ok := ho i s hs
  have kk := kn_step (H := H) (a := p) ok
  refine ⟨p, stV s, rfl, hp, kk.kns, ?_⟩
  rcases ok with ⟨p0, q0, rfl, h⟩ | rfl | ⟨x, i, j, hx, rfl, h1, h2⟩ | ⟨x, i, hx, rfl, h1⟩ <;> simp [stV]
/-- tuple([list(x) for x in xs]) -/
theorem ek_lists {l : Addr} {us : List V} {i j : Nat} (hl : H l = some (.lst us)) (ht : Tups H us) (hz : us.length ≤ 100) (h2 : σ[i]? = some (some (.ref l))) (hw : ∀ x, wipe ((wipe σ [j]).set j (some x)) [j] = wipe σ [j]) (hj : ∀ x, ((wipe σ [j]).set j (some x))[j]? = some (some x)) :
    EvK (tCB (fun xs H Q => ∃ p ys, xs = [.ref p] ∧ ((SqL K H p ys ∧ ∀ l, H l = none → Q (.ref l) (upd H l (.tup ys))) ∨ (SqT K H p ys ∧ Q (.ref p) H))) (tCons (tLc (iList K (tVar i)) (gName j) tYes (tCB (rListS K) (tCons (tVar j) tNil)) [j]) tNil)) σ H := fun H1 e Q q =>
  ⟨.ref l, h2, l, rfl, ⟨us, sq_of (e _ _ hl)⟩, fun Dl hD =>
    lc_list (xs := us) (fun n H' => Ex H1 H' ∧ ∃ acc, H' Dl = some (.lst acc) ∧ Kns H' acc ∧ acc.length = n) ⟨Ex.new hD, [], upd_same, Kns.nil, rfl⟩ (fun n H' _ p => sq_of (p.1 _ _ (e _ _ hl))) (fun n x H' hx p => by
      obtain ⟨e2, acc, hacc, hk, hn⟩ := p
      have hn2 := (List.getElem?_eq_some_iff.mp hx).1
      obtain ⟨a, xs, rfl, ha, hxs, hxl⟩ := ht x (List.mem_of_getElem? hx)
      refine ⟨hw _, yes_go ⟨.ref a, hj _, a, xs, rfl, .inr (st_of ((e.trans e2) _ _ ha)), fun l3 hl3 => ⟨acc, Ex.new hl3 _ _ hacc, sz_lt (by omega), ?_, acc ++ [.ref l3], upd_same, ?_, by rw [List.length_append, hn]; rfl⟩⟩⟩
      · exact Ex.mut (e2.trans (Ex.new hl3)) hD
      · have hD3 : (upd H' l3 (.lst xs)) Dl = some (.lst acc) := Ex.new hl3 _ _ hacc
        exact ((hk.ex (Ex.new hl3)).app (Kns.cons ⟨_, .lst upd_same⟩ Kns.nil)).st (Stab.upd hD3)) (fun H' p => by
      obtain ⟨e2, acc, hacc, hk, hn⟩ := p
      exact ⟨Dl, acc, rfl, .inl ⟨sq_of hacc, fun r hr => q (.ref r) _ (e2.trans (Ex.new hr)) (Kns.tupK upd_same (by omega) (hk.ex (Ex.new hr)))⟩⟩)⟩
end
end Kn

/-! Own data: the digits of a number. -/
namespace Dg
open PySem PySem.Builtin PySem.Builtin.Str SX TL
/-- the last k digits -/
def pad : Nat → Nat → List Nat
  | 0, _ => []
  | k + 1, n => pad k (n / 10) ++ [48 + n % 10]
theorem pad_len : ∀ k n, (pad k n).length = k
  | 0, _ => rfl
  | k + 1, n => by
    show (pad k (n / 10) ++ [48 + n % 10]).length = k + 1
    rw [List.length_append, pad_len k]
    rfl
theorem pow_div (n k : Nat) : n / 10 / 10 ^ k = n / 10 ^ (k + 1) := by
  rw [Nat.div_div_eq_div_mul, Nat.pow_succ, Nat.mul_comm]
theorem lt_pow {n k : Nat} (h : n < 10 ^ (k + 1)) : n / 10 < 10 ^ k := by
  rw [Nat.pow_succ] at h
  exact Nat.div_lt_of_lt_mul (by rw [Nat.mul_comm]; exact h)
theorem num_split : ∀ k n, 10 ^ k ≤ n → numL n = numL (n / 10 ^ k) ++ pad k n
  | 0, n, _ => by
    show numL n = numL (n / 1) ++ []
    rw [Nat.div_one, List.append_nil]
  | k + 1, n, h => by
    have h1 : 10 ^ k * 10 ≤ n := by
      rw [← Nat.pow_succ]
      exact h
    have h0 : 0 < 10 ^ k := Nat.pow_pos (by decide)
    have h2 : 10 ^ k ≤ n / 10 := (Nat.le_div_iff_mul_le (by decide)).mpr h1
    rw [numL_step (by omega), num_split k (n / 10) h2, pow_div, List.append_assoc]
    rfl
theorem pad_zero : ∀ k, pad k 0 = List.replicate k 48
  | 0 => rfl
  | k + 1 => by
    show pad k 0 ++ [48] = _
    rw [pad_zero k, List.replicate_succ']
theorem num_len : ∀ k n, n < 10 ^ (k + 1) → (numL n).length ≤ k + 1
  | 0, n, h => by
    rw [numL_lt (by omega)]
    exact Nat.le_refl _
  | k + 1, n, h => by
    by_cases h1 : n < 10
    · rw [numL_lt h1]
      show 1 ≤ k + 1 + 1
      omega
    · rw [numL_step (by omega), List.length_append]
      have := num_len k (n / 10) (lt_pow h)
      show (numL (n / 10)).length + 1 ≤ k + 1 + 1
      omega
theorem num_pad : ∀ k n, n < 10 ^ (k + 1) → List.replicate (k + 1 - (numL n).length) 48 ++ numL n = pad (k + 1) n
  | 0, n, h => by
    have h1 : n < 10 := by omega
    rw [numL_lt h1]
    show [] ++ [48 + n] = [] ++ [48 + n % 10]
    rw [Nat.mod_eq_of_lt h1]
  | k + 1, n, h => by
    by_cases h1 : n < 10
    · rw [numL_lt h1]
      show List.replicate (k + 1) 48 ++ [48 + n] = pad (k + 1) (n / 10) ++ [48 + n % 10]
      rw [Nat.mod_eq_of_lt h1, Nat.div_eq_of_lt h1, pad_zero]
    · have ih := num_pad k (n / 10) (lt_pow h)
      rw [numL_step (by omega), List.length_append]
      show List.replicate (k + 1 + 1 - ((numL (n / 10)).length + 1)) 48 ++ (numL (n / 10) ++ [48 + n % 10]) = pad (k + 1) (n / 10) ++ [48 + n % 10]
      rw [← ih, ← List.append_assoc, show k + 1 + 1 - ((numL (n / 10)).length + 1) = k + 1 - (numL (n / 10)).length by omega]
theorem pad_cons : ∀ k n, n < 10 ^ k → pad (k + 1) n = 48 :: pad k n
  | 0, n, h => by
    have h1 : n = 0 := by
      have : (10 : Nat) ^ 0 = 1 := rfl
      omega
    subst h1
    rfl
  | k + 1, n, h => by
    show pad (k + 1) (n / 10) ++ [48 + n % 10] = 48 :: (pad k (n / 10) ++ [48 + n % 10])
    rw [pad_cons k (n / 10) (lt_pow h)]
    rfl
theorem pad_front : ∀ k n, pad (k + 1) n = (48 + n / 10 ^ k % 10) :: pad k n
  | 0, n => by
    show [] ++ [48 + n % 10] = [48 + n / 1 % 10]
    rw [Nat.div_one]
    rfl
  | k + 1, n => by
    show pad (k + 1) (n / 10) ++ [48 + n % 10] = _ :: (pad k (n / 10) ++ [48 + n % 10])
    rw [pad_front k (n / 10), pow_div]
    rfl
theorem pad_mod : ∀ k n, pad k (n % 10 ^ k) = pad k n
  | 0, _ => rfl
  | k + 1, n => by
    have e : n % 10 ^ (k + 1) = n % 10 + 10 * (n / 10 % 10 ^ k) := by
      rw [Nat.pow_succ, Nat.mul_comm, Nat.mod_mul]
    show pad k (n % 10 ^ (k + 1) / 10) ++ [48 + n % 10 ^ (k + 1) % 10] = pad k (n / 10) ++ [48 + n % 10]
    rw [e, show (n % 10 + 10 * (n / 10 % 10 ^ k)) / 10 = n / 10 % 10 ^ k by omega, show (n % 10 + 10 * (n / 10 % 10 ^ k)) % 10 = n % 10 by omega, pad_mod k]
theorem num_head (n : Nat) : ∃ c r, numL n = c :: r ∧ 48 ≤ c ∧ c ≤ 57 := by
  cases h : numL n with
  | nil => exact absurd h (numL_ne n)
  | cons c r =>
    have h2 := numL_digits n c (by rw [h]; exact List.mem_cons_self ..)
    exact ⟨c, r, rfl, h2⟩
theorem zfill_long {n m : Nat} (h : m ≤ (numL n).length) : Txt.zfill (S (numL n)) (m : Int) = S (numL n) := by
  unfold Txt.zfill
  rw [S_len, if_pos (by omega)]
theorem zfill_short {n m : Nat} (h : (numL n).length < m) : Txt.zfill (S (numL n)) (m : Int) = S (List.replicate (m - (numL n).length) 48 ++ numL n) := by
  unfold Txt.zfill
  rw [S_len, if_neg (by omega), Int.toNat_natCast]
  obtain ⟨c, r, hc, h1, h2⟩ := num_head n
  refine TL.ext_tl ?_
  have e : (S (numL n)).cps[0]? = some c := by
    show (numL n).toArray[0]? = some c
    rw [hc]
    rfl
  have e2 : zfilled (S (numL n)) (m - (numL n).length) = padded (S (numL n)) (m - (numL n).length) 0 48 := by
    unfold zfilled
    rw [e]
    split
    · rename_i z
      cases Option.some.inj z
      omega
    · rename_i z
      cases Option.some.inj z
      omega
    · rfl
  rw [e2]
  show (padded (S (numL n)) (m - (numL n).length) 0 48).cps.toList = _
  rw [PyProof.Rows.padded_list]
  simp
/-- a number with fewer than m digits, filled -/
theorem zfill_num {n m : Nat} (hm : 1 ≤ m) (h : n < 10 ^ m) : Txt.zfill (S (numL n)) (m : Int) = S (pad m n) := by
  obtain ⟨k, rfl⟩ : ∃ k, m = k + 1 := ⟨m - 1, by omega⟩
  rw [← num_pad k n h]
  by_cases hl : k + 1 ≤ (numL n).length
  · rw [zfill_long hl, show k + 1 - (numL n).length = 0 by omega]
    rfl
  · exact zfill_short (by omega)
/-- .. to one digit more than its places -/
theorem zfill_places (n p : Nat) : Txt.zfill (S (numL n)) ((p + 1 : Nat) : Int) = S (numL (n / 10 ^ p) ++ pad p n) := by
  by_cases h : 10 ^ p ≤ n
  · have e := num_split p n h
    have h1 : p + 1 ≤ (numL n).length := by
      rw [e, List.length_append, pad_len]
      have := List.length_pos_iff.mpr (numL_ne (n / 10 ^ p))
      omega
    rw [zfill_long h1, ← e]
  · have h0 : n < 10 ^ p := by omega
    have h1 : n < 10 ^ (p + 1) := by
      rw [Nat.pow_succ]
      omega
    rw [zfill_num (by omega) h1, pad_cons p n h0, Nat.div_eq_of_lt h0, numL_lt (by decide)]
    rfl
theorem joinL_nil : ∀ ps : List (List Nat), joinL [] ps = ps.flatten
  | [] => rfl
  | [p] => by
    show p = p ++ []
    rw [List.append_nil]
  | p :: q :: r => by
    show p ++ ([] ++ joinL [] (q :: r)) = p ++ (q :: r).flatten
    rw [joinL_nil (q :: r)]
    rfl
theorem join_nil (ps : List (List Nat)) : Txt.join (S []) (ps.map S) = S ps.flatten := by rw [join_S, joinL_nil]
theorem slice_to_neg {a b : List Nat} (h : 0 < b.length) : Txt.slice (S (a ++ b)) none (some (-(b.length : Int))) = S a := by
  have e := beq_iff_eq.mp (PyProof.Rows.slice_closes_to_neg (x := S (a ++ b)) (j := -(b.length : Int)) (k := (a.length : Int)) (by omega) (by rw [S_len, List.length_append]; omega) (by rw [S_len, List.length_append]; omega))
  refine e.trans (TL.ext_tl ?_)
  show ((a ++ b).drop (0 : Int).toNat).take ((a.length : Int) - 0).toNat = a
  rw [show (0 : Int).toNat = 0 from rfl, List.drop_zero, show ((a.length : Int) - 0).toNat = a.length by omega, List.take_left]
theorem slice_from_neg {a b : List Nat} (h : 0 < b.length) : Txt.slice (S (a ++ b)) (some (-(b.length : Int))) none = S b := by
  have e := beq_iff_eq.mp (PyProof.Rows.slice_closes_from_neg (x := S (a ++ b)) (i := -(b.length : Int)) (a := (a.length : Int)) (b := ((a ++ b).length : Int)) (by omega) (by rw [S_len, List.length_append]; omega) (by rw [S_len, List.length_append]; omega) (by rw [S_len]))
  refine e.trans (TL.ext_tl ?_)
  show ((a ++ b).drop (a.length : Int).toNat).take (((a ++ b).length : Int) - (a.length : Int)).toNat = b
  rw [Int.toNat_natCast, List.drop_left, List.take_of_length_le (by rw [List.length_append]; omega)]
end Dg

/-! Own data: whole numbers as texts, there and back. -/
namespace Tx
open PySem PySem.Builtin PySem.Builtin.Str SX TL Dg
/-- a whole number's signs -/
def intL (i : Int) : List Nat := if i < 0 then 45 :: numL i.natAbs else numL i.natAbs
theorem intL_neg (n : Nat) : intL (-((n + 1 : Nat) : Int)) = 45 :: numL (n + 1) := by
  unfold intL
  rw [if_pos (by omega), Int.natAbs_neg, Int.natAbs_natCast]
theorem intL_nat (n : Nat) : intL (n : Int) = numL n := by
  unfold intL
  rw [if_neg (by omega), Int.natAbs_natCast]
theorem str_cons (s : String) : Str.ofString ("-" ++ s) = S (45 :: (Str.ofString s).cps.toList) := by
  refine TL.ext_tl ?_
  show (Str.ofString ("-" ++ s)).cps.toList = _
  simp [Str.ofString_eq_toList]
theorem int_text (i : Int) : Str.ofString (toString i) = S (intL i) := by
  cases i with
  | ofNat n =>
    rw [show (Int.ofNat n) = (n : Int) from rfl, intL_nat]
    exact num_S n
  | negSucc n =>
    have h := num_S (n + 1)
    rw [show (Int.negSucc n) = -((n + 1 : Nat) : Int) from rfl, intL_neg]
    show Str.ofString ("-" ++ Nat.repr (n + 1)) = _
    rw [str_cons]
    have e : (Str.ofString (Nat.repr (n + 1))).cps.toList = numL (n + 1) := congrArg (fun x : Str => x.cps.toList) h
    rw [e]
theorem num_all (n : Nat) : ∀ c ∈ numL n, 48 ≤ c ∧ c ≤ 57 := numL_digits n
theorem ascii_num (n : Nat) : Txt.isascii (S (numL n)) = true := by
  show (numL n).toArray.all (· < 128) = true
  rw [← Array.all_toList]
  exact List.all_eq_true.mpr fun c hc => decide_eq_true (by have := num_all n c hc; omega)
theorem digit_num (n : Nat) : Txt.isdigit (S (numL n)) = true := by
  show (decide ((S (numL n)).length > 0) && (numL n).toArray.all Unicode.isDigit) = true
  rw [S_len, decide_eq_true (List.length_pos_iff.mpr (numL_ne n)), Bool.true_and, ← Array.all_toList]
  refine List.all_eq_true.mpr fun c hc => ?_
  have h := num_all n c hc
  have : ∀ c, c < 58 → 48 ≤ c → Unicode.isDigit c = true := by decide +kernel
  exact this c (by omega) h.1
theorem starts1 (c : Nat) (a : List Nat) (d : Nat) : Txt.startswith (S (d :: a)) (S [c]) = decide (d = c) := by
  unfold Txt.startswith
  rw [S_len, S_len, decide_eq_true (by simp), Bool.true_and]
  simp [subAt, S_len]
  exact Bool.eq_iff_iff.mpr (by simp)
theorem head_ge (n : Nat) (h : 0 < n) : ∃ d q, numL n = (49 + d) :: q := by
  induction n using Nat.strongRecOn with
  | ind n ih =>
    by_cases h10 : n < 10
    · exact ⟨n - 1, [], by rw [numL_lt h10]; exact congrArg (fun z => [z]) (by omega)⟩
    · obtain ⟨d, q, e⟩ := ih (n / 10) (by omega) (by omega)
      exact ⟨d, q ++ [48 + n % 10], by rw [numL_step (by omega), e]; rfl⟩
theorem head0 {n : Nat} {r : List Nat} {c : Nat} (h : numL n = c :: r) (h0 : c = 48) : n = 0 := by
  by_cases hn : 0 < n
  · obtain ⟨d, q, e⟩ := head_ge n hn
    rw [e] at h
    have := (List.cons.inj h).1
    omega
  · omega
/-- read back -/
theorem int_back {i : Int} (h : (intL i).length ≤ 4300) : intText? (S (intL i)) = some i := by
  by_cases hi : i < 0
  · have e : intL i = 45 :: numL i.natAbs := by
      unfold intL
      rw [if_pos hi]
    rw [e] at h ⊢
    have h2 := PySem.intText_neg (x := S (45 :: numL i.natAbs)) (cs := numL i.natAbs) rfl (numL_digits _) (numL_ne _) (by rw [S_len]; exact h)
    rw [h2]
    have h3 : NumText.digitsVal (numL i.natAbs) = i.natAbs := PySem.W.KIN.val_back i.natAbs
    rw [h3]
    exact congrArg some (by omega)
  · obtain ⟨n, rfl⟩ := Int.eq_ofNat_of_zero_le (show 0 ≤ i by omega)
    rw [intL_nat] at h ⊢
    rw [← num_S]
    exact int_num h
end Tx


namespace K13
open PySem PySem.Spec PyProof.Rows L2 Evl Cm Et Fm Dg Tx
open SX (S S_cat S_len num_S)
open TL (numL)
def topS (i : Nat) : Stmt := PySem.Challenge.pw_portolan_k13_texts_of_papers.main.body.getD i (.Pass ⟨0, 0, 0, 0⟩)
abbrev s_is_integer : Stmt := topS 4
theorem sc_is_integer : FnScope ["value"] ["value"] (defScope s_is_integer) := ⟨rfl, rfl, rfl, by decide +kernel, rfl, by decide +kernel, by decide +kernel⟩
abbrev s_are_integers : Stmt := topS 5
theorem sc_are_integers : FnScope ["values", "value"] ["values"] (defScope s_are_integers) := ⟨rfl, rfl, rfl, by decide +kernel, rfl, by decide +kernel, by decide +kernel⟩
abbrev s_is_formula : Stmt := topS 8
theorem sc_is_formula : FnScope ["value", "place", "step"] ["value"] (defScope s_is_formula) := ⟨rfl, rfl, rfl, by decide +kernel, rfl, by decide +kernel, by decide +kernel⟩
abbrev s_is_step : Stmt := topS 9
theorem sc_is_step : FnScope ["step", "place", "word", "index"] ["step", "place"] (defScope s_is_step) := ⟨rfl, rfl, rfl, by decide +kernel, rfl, by decide +kernel, by decide +kernel⟩
abbrev s_is_paper : Stmt := topS 13
theorem sc_is_paper : FnScope ["value", "bits", "enclosures", "enclosure"] ["value"] (defScope s_is_paper) := ⟨rfl, rfl, rfl, by decide +kernel, rfl, by decide +kernel, by decide +kernel⟩
abbrev s_is_enclosure : Stmt := topS 14
theorem sc_is_enclosure : FnScope ["value"] ["value"] (defScope s_is_enclosure) := ⟨rfl, rfl, rfl, by decide +kernel, rfl, by decide +kernel, by decide +kernel⟩
abbrev s_write_paper : Stmt := topS 17
theorem sc_write_paper : FnScope ["formula", "paper", "bits", "enclosures", "lines", "step", "enclosure", "words", "part"] ["formula", "paper"] (defScope s_write_paper) := ⟨rfl, rfl, rfl, by decide +kernel, rfl, by decide +kernel, by decide +kernel⟩
abbrev s_read_paper : Stmt := topS 18
theorem sc_read_paper : FnScope ["text", "lines", "bits", "rows", "line", "formula", "row", "paper"] ["text"] (defScope s_read_paper) := ⟨rfl, rfl, rfl, by decide +kernel, rfl, by decide +kernel, by decide +kernel⟩
abbrev s_read_head : Stmt := topS 19
theorem sc_read_head : FnScope ["line", "words"] ["line"] (defScope s_read_head) := ⟨rfl, rfl, rfl, by decide +kernel, rfl, by decide +kernel, by decide +kernel⟩
abbrev s_read_row : Stmt := topS 20
theorem sc_read_row : FnScope ["line", "words", "numbers", "word"] ["line"] (defScope s_read_row) := ⟨rfl, rfl, rfl, by decide +kernel, rfl, by decide +kernel, by decide +kernel⟩
abbrev s_read_number : Stmt := topS 21
theorem sc_read_number : FnScope ["word", "digits"] ["word"] (defScope s_read_number) := ⟨rfl, rfl, rfl, by decide +kernel, rfl, by decide +kernel, by decide +kernel⟩
abbrev s_law_cell : Stmt := topS 23
theorem sc_law_cell : FnScope ["script", "k"] ["script", "k"] (defScope s_law_cell) := ⟨rfl, rfl, rfl, by decide +kernel, rfl, by decide +kernel, by decide +kernel⟩
abbrev s_law_numbers : Stmt := topS 24
theorem sc_law_numbers : FnScope ["script", "first", "most", "found", "at", "cell", "k", "mixed"] ["script", "first", "most"] (defScope s_law_numbers) := ⟨rfl, rfl, rfl, by decide +kernel, rfl, by decide +kernel, by decide +kernel⟩
abbrev s_law_formula : Stmt := topS 25
theorem sc_law_formula : FnScope ["numbers", "most", "steps", "figure", "kind", "a", "i", "j"] ["numbers", "most"] (defScope s_law_formula) := ⟨rfl, rfl, rfl, by decide +kernel, rfl, by decide +kernel, by decide +kernel⟩
abbrev s_law_spread : Stmt := topS 26
theorem sc_law_spread : FnScope ["figure", "most", "big"] ["figure", "most"] (defScope s_law_spread) := ⟨rfl, rfl, rfl, by decide +kernel, rfl, by decide +kernel, by decide +kernel⟩
abbrev s_law : Stmt := topS 27
theorem sc_law : FnScope ["script", "digit", "formula", "bits", "numbers", "told", "k", "number", "text", "item", "paper", "actual", "back"] ["script"] (defScope s_law) := ⟨rfl, rfl, rfl, by decide +kernel, rfl, by decide +kernel, by decide +kernel⟩
/-! ### texts -/
def rStrAny : List V → Hp → VK → Prop := fun xs H Q => (∃ a, xs = [.str a] ∧ Q (.str a) H) ∨ ∃ i : Int, xs = [.int i] ∧ i.natAbs.log2 < 1920 ∧ Q (.str (toString i)) H
theorem call_str_any {X : Cx} : CallR X (.type "str") rStrAny := fun pins s σ H xs us Q I r h => by
  rcases h with h | h
  · exact SkE.call_str_str pins s σ H xs us Q I r h
  · exact call_str_int pins s σ H xs us Q I r h
section
variable {σ : L2.St} {H : Hp} {ta tb te to : TE} {x y z : V} {a b : List Nat} {K : PySem.W.Frag}
theorem ev_m1 {g : Str → Str → Bool} {p q : Str} (h : Ev to σ H (.str p)) (h2 : Ev te σ H (.str q)) : Ev (tM1 (fun x xs H Q => ∃ a b, x = .str a ∧ xs = [.str b] ∧ Q (.bl (g a b)) H) to te) σ H (.bl (g p q)) := fun H1 e Q k =>
  h H1 e _ fun H2 e2 => ⟨⟨_, rfl⟩, h2 H2 (e.trans e2) _ fun H3 e3 => ⟨p, q, rfl, rfl, k H3 (e2.trans e3)⟩⟩
theorem ev_m0 {g : Str → Bool} {p : Str} (h : Ev to σ H (.str p)) : Ev (tM0 (fun x xs H Q => ∃ a, x = .str a ∧ xs = [] ∧ True ∧ Q (.bl (g a)) H) to) σ H (.bl (g p)) := fun H1 e Q k =>
  h H1 e _ fun H2 e2 => ⟨⟨_, rfl⟩, p, rfl, rfl, trivial, k H2 e2⟩
theorem ev_sl {tl th : TO} {lo hi : Option Int} {w1 : List Nat} (h : Ev te σ H (.str (S a))) (h1 : EvO tl σ H lo) (h2 : EvO th σ H hi) (hz : a.length ≤ 100000) (e : Txt.slice (S a) lo hi = S w1) : Ev (tSl C8.rSlX te tl th) σ H (.str (S w1)) := fun H1 e1 Q q =>
  h H1 e1 _ fun H2 e2 => h1 H2 (e1.trans e2) _ fun H3 e3 => h2 H3 ((e1.trans e2).trans e3) _ fun H4 e4 => ⟨S a, rfl, by
    rw [S_len]
    exact sz_of hz, by
    rw [e]
    exact q H4 ((e2.trans e3).trans e4)⟩
end
section
variable {P : Program} {w : World} {K : PySem.W.Frag} {mg : Str → Option Value} {base : Heap}
/-! ### the program: numbers -/
def spNum : Sp := fun vs H Q _ => ∃ i : Int, vs = [.str (S (intL i))] ∧ (intL i).length ≤ 600 ∧ RetV (.int i) H Q
/-- what the top says of the error -/
structure Err (K : PySem.W.Frag) (mg : Str → Option Value) (C : Addr) : Prop where
  g : mg "InvalidText" = some (.ref C)
  x : PySem.W.excIn K C [.type "ValueError", .type "Exception", .type "BaseException", .type "object"] "ValueError.__new__" = true
  k : PySem.W.keepIn K (.ref C) = true
  b : PySem.W.subIn K (.ref C) (.type "BaseException") = some true
  t : PySem.W.typeIn K (.ref C) = some (.type "type")
theorem ok_number {f C : Addr} {fd : FuncData} {t0 : Tok} (F : Fun K "read_number" "read_number" s_read_number f fd) (T : Err K mg C) (g_MOST_DIGITS : mg "MOST_DIGITS" = some (.int 2000 t0)) (m_len : mg "len" = none) (m_int : mg "int" = none) : FnOk P w K mg base (L2.CX P w) 1 f fd ["word"] spNum := by
  have x_InvalidText := T.x
  have g_InvalidText := T.g
  have k_InvalidText := T.k
  have b_InvalidText := T.b
  have t_InvalidText := T.t
  refine F.okX sc_read_number (fun vs H Q E h => ?_) (fun cdv A outer s H vs Q E hr h => ?_)
  · obtain ⟨i, rfl, _⟩ := h
    rfl
  · obtain ⟨i, rfl, hz, q⟩ := h
    refine ⟨_, (pss_cons (ps_set (i := 1) sc_read_number.nd rfl (.inl rfl) (pe_ifExp (pt_val (pe_m1 PySem.F.slot_str_startswith PySem.F.type_str_startswith mt_startswith (pv 0) pe_str)) (pe_slice C8.sl_txt (pv 0) (po_some pe_int) po_none) (pv 0)))
        (pss_cons (ps_if (PW.pt (pw_or (pt_not (pt_val (pe_m0 PySem.F.slot_str_isascii PySem.F.type_str_isascii mt_isascii (pv 1)))) (pw_or (pt_not (pt_val (pe_m0 PySem.F.slot_str_isdigit PySem.F.type_str_isdigit mt_isdigit (pv 1)))) (pw_or1 (pt_cmpR op_gt (pe_callB call_len (by rfl) m_len (by decide +kernel) (pa_cons (pv 1) pa_nil)) (pe_glob (by rfl) g_MOST_DIGITS (show RelV (.int 2000) _ from ⟨_, rfl⟩)) (nomark _)))))) (pss_one (ps_raise rfl (takes_of rfl rfl rfl rfl) (pmk_own PySem.F.excBase_ValueError x_InvalidText g_InvalidText k_InvalidText (raises_own b_InvalidText t_InvalidText) (by rfl)))) pss_nil)
        (pss_cons (ps_if (PW.pt (pw_and (pt_val (pe_m1 PySem.F.slot_str_startswith PySem.F.type_str_startswith mt_startswith (pv 1) pe_str)) (pw_and1 (pt_cmpR op_ne (pv 0) pe_str (nomark _))))) (pss_one (ps_raise rfl (takes_of rfl rfl rfl rfl) (pmk_own PySem.F.excBase_ValueError x_InvalidText g_InvalidText k_InvalidText (raises_own b_InvalidText t_InvalidText) (by rfl)))) pss_nil)
        (pss_one (ps_ret (pe_callTy call_int_str (by rfl) m_int (by decide +kernel) (pa_cons (pv 0) pa_nil))))))), ?_⟩
    have hz2 : (numL i.natAbs).length ≤ 600 := by
      unfold intL at hz
      split at hz
      · rw [List.length_cons] at hz
        omega
      · exact hz
    obtain ⟨c, r, hcr, hc1, hc2⟩ := num_head i.natAbs
    refine q_asg (v := .str (S (numL i.natAbs))) ?_ fun H1 e1 => ?_
    · by_cases hi : i < 0
      · have e : intL i = 45 :: numL i.natAbs := by
          unfold intL
          rw [if_pos hi]
        rw [e]
        exact ev_if (b := true) (et_is (et_B (ev_m1 (ev_var rfl) ev_c)) ((starts1 45 (numL i.natAbs) 45).trans (decide_eq_true rfl))) (fun _ => ev_sl (ev_var rfl) (eo_some ev_c) eo_none (by rw [List.length_cons]; omega) (SX.slice_from (by decide))) (fun z => nomatch z)
      · have e : intL i = numL i.natAbs := by
          unfold intL
          rw [if_neg hi]
        rw [e]
        refine ev_if (b := false) (et_is (et_B (ev_m1 (ev_var rfl) ev_c)) ?_) (fun z => nomatch z) (fun _ => ev_var rfl)
        rw [hcr]
        exact (starts1 45 r c).trans (decide_eq_false (by omega))
    refine st_is (σ' := [_, _]) rfl ?_
    refine q_when (b := false) (et_is (et_or (a := false) (b := false) (et_is (et_not (et_B (ev_m0 (ev_var rfl)))) (by rw [ascii_num]; rfl)) fun _ => (et_or (a := false) (b := false) (et_is (et_not (et_B (ev_m0 (ev_var rfl)))) (by rw [digit_num]; rfl)) fun _ => (et_is (et_test (ev_op (ev_cb (z := .int ((numL i.natAbs).length : Int)) (ea_cons (ev_var rfl) ea_nil) (fun H2 _ Q2 q2 => ⟨_, ((numL i.natAbs).length : Nat), rfl, ?hlen, q2 H2 (Ex.refl _)⟩)) ev_c rv_I0)) (decide_eq_false (by omega))))) rfl) (fun z => nomatch z) fun _ H2 e2 => ?_
    case hlen => exact ⟨by rw [S_len]; exact sz_of (by omega), (S_len _).symm⟩
    refine q_when (b := false) (et_is (et_and (a := decide (c = 48)) (b := false) (et_is (et_B (ev_m1 (ev_var rfl) ev_c)) (by rw [hcr]; exact starts1 48 r c)) fun h0 => (et_is (et_test (ev_op (ev_var rfl) ev_c (rv_ne rfl))) ?_)) (Bool.and_false _)) (fun z => nomatch z) fun _ H3 e3 => ?_
    · have h1 := head0 hcr (of_decide_eq_true h0)
      have h2 : i = 0 := by omega
      subst h2
      exact congrArg (fun b => !b) (decide_eq_true rfl)
    · exact s_ret (ev_cb (ea_cons (ev_var rfl) ea_nil) (fun H4 _ Q4 q4 => ⟨_, i, rfl, int_back (by omega), by rw [S_len]; omega, q4 H4 (Ex.refl _)⟩)) fun H4 e4 => q H4 (e1.trans (e2.trans (e3.trans e4)))
/-! ### lines -/
theorem free32 (i : Int) : 32 ∉ intL i := by
  unfold intL
  split
  · intro h
    rcases List.mem_cons.mp h with h | h
    · omega
    · exact TL.numL_free (.inl (by decide)) h
  · exact TL.numL_free (.inl (by decide))
theorem el_split {σ : L2.St} {H : Hp} {to te : TE} {c : Nat} {parts : List (List Nat)} (h : Ev to σ H (.str (S (TL.joinL [c] parts)))) (h2 : Ev te σ H (.str (S [c]))) (hc : c < 256) (hn : parts ≠ []) (hf : ∀ p ∈ parts, c ∉ p) (hz : (TL.joinL [c] parts).length ≤ 50000) :
    EvL (tM1 (fun x xs H Q => ∃ a b, x = .str a ∧ xs = [.str b] ∧ (b.length == 0) = false ∧ a.length + 2 ≤ sizeLine ∧ rNewStrs (Txt.split a b) H Q) to te) σ H ((parts.map S).map V.str) := fun H1 e Q q =>
  h H1 e _ fun H2 e2 => ⟨⟨_, rfl⟩, h2 H2 (e.trans e2) _ fun H3 e3 => ⟨_, _, rfl, rfl, rfl, by rw [S_len]; exact sz_of (by omega), fun p hp => by
    have e4 : Txt.split (S (TL.joinL [c] parts)) (S [c]) = parts.map S := by
      rw [SX.split_S (by simp) (by simpa using hc), TL.spl_join hn hf]
    rw [e4]
    exact q p _ (fresh_back (e2.trans e3) hp) ((e2.trans e3).trans (Ex.new hp)) upd_same⟩⟩
def paperL : List Nat := [112, 97, 112, 101, 114]
def headL (b : Int) : List (List Nat) := [paperL, intL b]
def spHead : Sp := fun vs H Q _ => ∃ b : Int, vs = [.str (S (TL.joinL [32] (headL b)))] ∧ (intL b).length ≤ 600 ∧ RetV (.int b) H Q
theorem ok_head {f f0 C : Addr} {fd fd0 : FuncData} (F : Fun K "read_head" "read_head" s_read_head f fd) (T : Err K mg C) (G_read_number : FnOk P w K mg base (L2.CX P w) 1 f0 fd0 ["word"] spNum) (F_read_number : Fun K "read_number" "read_number" s_read_number f0 fd0) (b_read_number : Binds K fd0 ["word"] []) (g_read_number : mg "read_number" = some (.ref f0)) (m_len : mg "len" = none) : FnOk P w K mg base (L2.CX P w) 2 f fd ["line"] spHead := by
  have x_InvalidText := T.x
  have g_InvalidText := T.g
  have k_InvalidText := T.k
  have b_InvalidText := T.b
  have t_InvalidText := T.t
  refine F.okX sc_read_head (fun vs H Q E h => ?_) (fun cdv A outer s H vs Q E hr h => ?_)
  · obtain ⟨b, rfl, _⟩ := h
    rfl
  · obtain ⟨b, rfl, hz, q⟩ := h
    refine ⟨_, (pss_cons (ps_set (i := 1) sc_read_head.nd rfl (.inl rfl) (pe_split (pv 0) pe_str))
        (pss_cons (ps_if (PW.pt (pw_or (pt_cmpR op_ne (pe_callB call_len (by rfl) m_len (by decide +kernel) (pa_cons (pv 1) pa_nil)) pe_int (nomark _)) (pw_or1 (pt_cmpR op_ne (pe_ix ix_list (pv 1) pe_int (fun _ _ => rfl)) pe_str (nomark _))))) (pss_one (ps_raise rfl (takes_of rfl rfl rfl rfl) (pmk_own PySem.F.excBase_ValueError x_InvalidText g_InvalidText k_InvalidText (raises_own b_InvalidText t_InvalidText) (by rfl)))) pss_nil)
        (pss_one (ps_ret (pe_call G_read_number (hr.mono (by decide)) (by rfl) g_read_number F_read_number.kp b_read_number .nil passL (pa_cons (pe_ix ix_list (pv 1) pe_int (fun _ _ => rfl)) pa_nil)))))), ?_⟩
    refine q_asgL (el_split (ev_var rfl) ev_c (by decide) (by simp [headL]) (fun p hp => ?_) ?_) fun l H1 nl e1 hl => ?_
    · unfold headL at hp
      simp only [List.mem_cons, List.not_mem_nil, or_false] at hp
      rcases hp with rfl | rfl
      · decide
      · exact free32 b
    · show (paperL ++ ([32] ++ intL b)).length ≤ 50000
      rw [List.length_append, List.length_append]
      show 5 + (1 + (intL b).length) ≤ 50000
      omega
    refine st_is (σ' := [_, _]) rfl ?_
    have t1 : SqL K H1 l [.str (S paperL), .str (S (intL b))] := sq_of hl
    refine q_when (b := false) (et_is (et_or (a := false) (b := false) (et_is (et_test (ev_op (ev_cb (ea_cons (ev_var rfl) ea_nil) (rc_lenL (K := K) t1)) ev_c (rv_ne rfl))) rfl) fun _ => (et_is (et_test (ev_op (ev_op (ev_var rfl) ev_c (rv_ixL t1 (atI_nat (j := 0) rfl))) ev_c (rv_ne rfl))) (congrArg (fun b => !b) (decide_eq_true rfl)))) rfl) (fun z => nomatch z) fun _ H2 e2 => ?_
    exact s_ret (ev_call (z := .int b) (ea_cons (ev_op (ev_var rfl) ev_c (rv_ixL (ex_l e2 t1) (atI_nat (j := 1) rfl))) ea_nil) (fun H3 e3 Q3 q3 E3 => ⟨b, rfl, hz, q3⟩)) fun H3 e3 => q H3 (e1.trans (e2.trans e3))
theorem eu_go {te : TE} {σ : L2.St} {H : Hp} {xs : List V} {Q : VK} (h : EvU te σ H xs) (q : ∀ p H2, H p = none → Ex H H2 → H2 p = some (.tup xs) → Q (.ref p) H2) : te σ H Q := h H (Ex.refl H) Q q
theorem et_yes {σ : L2.St} {H : Hp} : EvT tYes σ H true := fun H1 _ Q q => q H1 (Ex.refl H1)
/-- a row of a paper's text -/
def rowL (s : FStep) (lo hi : Int) : List (List Nat) := s.1.cps.toList :: (s.2.map intL ++ [[58], intL lo, intL hi])
structure RowOk (s : FStep) (lo hi : Int) : Prop where
  w1 : 32 ∉ s.1.cps.toList
  w2 : s.1.cps.toList.length ≤ 20
  n : s.2 = [] ∨ (∃ i, s.2 = [i]) ∨ ∃ i j, s.2 = [i, j]
  args : ∀ i ∈ s.2, (intL i).length ≤ 600
  lo : (intL lo).length ≤ 600
  hi : (intL hi).length ≤ 600
def RowAt (H : Hp) (v : V) (s : FStep) (lo hi : Int) : Prop := ∃ a p e, v = .ref a ∧ H a = some (.tup [.ref p, .ref e]) ∧ H p = some (.tup (stV s)) ∧ H e = some (.tup [.int lo, .int hi])
def spRow : Sp := fun vs H Q _ => ∃ (s : FStep) (lo hi : Int), vs = [.str (S (TL.joinL [32] (rowL s lo hi)))] ∧ RowOk s lo hi ∧ ∀ v H2, Ex H H2 → RowAt H2 v s lo hi → Q v H2
theorem joinL_len (c : Nat) : ∀ ps : List (List Nat), (TL.joinL [c] ps).length ≤ ps.flatten.length + ps.length
  | [] => Nat.zero_le _
  | [p] => by
    show p.length ≤ (p ++ []).length + 1
    rw [List.append_nil]
    omega
  | p :: q :: r => by
    have h := joinL_len c (q :: r)
    show (p ++ ([c] ++ TL.joinL [c] (q :: r))).length ≤ (p ++ (q :: r).flatten).length + ((q :: r).length + 1)
    rw [List.length_append, List.length_append, List.length_append]
    show p.length + (1 + (TL.joinL [c] (q :: r)).length) ≤ _
    omega
theorem ok_row {f f0 C : Addr} {fd fd0 : FuncData} (F : Fun K "read_row" "read_row" s_read_row f fd) (T : Err K mg C) (G_read_number : FnOk P w K mg base (L2.CX P w) 1 f0 fd0 ["word"] spNum) (F_read_number : Fun K "read_number" "read_number" s_read_number f0 fd0) (b_read_number : Binds K fd0 ["word"] []) (g_read_number : mg "read_number" = some (.ref f0)) (m_len : mg "len" = none) : FnOk P w K mg base (L2.CX P w) 2 f fd ["line"] spRow := by
  have x_InvalidText := T.x
  have g_InvalidText := T.g
  have k_InvalidText := T.k
  have b_InvalidText := T.b
  have t_InvalidText := T.t
  refine F.okX sc_read_row (fun vs H Q E h => ?_) (fun cdv A outer s H vs Q E hr h => ?_)
  · obtain ⟨s, lo, hi, rfl, _⟩ := h
    rfl
  · obtain ⟨st, lo, hi, rfl, R, q⟩ := h
    refine ⟨_, (pss_cons (ps_set (i := 1) sc_read_row.nd rfl (.inl rfl) (pe_split (pv 0) pe_str))
        (pss_cons (ps_if (PW.pt (pw_or (pt_cmpR op_lt (pe_callB call_len (by rfl) m_len (by decide +kernel) (pa_cons (pv 1) pa_nil)) pe_int (nomark _)) (pw_or1 (pt_cmpR op_ne (pe_ix ix_list (pv 1) (pe_un un_neg pe_int) (fun _ _ => rfl)) pe_str (nomark _))))) (pss_one (ps_raise rfl (takes_of rfl rfl rfl rfl) (pmk_own PySem.F.excBase_ValueError x_InvalidText g_InvalidText k_InvalidText (raises_own b_InvalidText t_InvalidText) (by rfl)))) pss_nil)
        (pss_cons (ps_setLc (i := 2) (own := [("word", 3)]) (g := gName 3) rfl sc_read_row.nd rfl rfl (sw_true rfl rfl rfl (by decide +kernel)) (pi_list (pe_slice sl_list (pv 1) (po_some pe_int) (po_some (pe_un un_neg pe_int)))) (blkOk_by (own := [("word", 3)]) (N := ["line", "words", "numbers", "word"]) (sc := defScope s_read_row) (by decide +kernel)) (fun _ _ _ _ _ => (pg_name (i := 3) sc_read_row.nd rfl (.inl rfl))) (fun _ _ _ _ _ => pts_nil) (fun _ _ _ _ _ => (pe_call G_read_number (hr.mono (by decide)) (by rfl) g_read_number F_read_number.kp b_read_number .nil passL (pa_cons (pv 3) pa_nil))))
        (pss_one (ps_ret (pe_tup (pa_cons (pe_tup (pa_cons (pe_ix ix_list (pv 1) pe_int (fun _ _ => rfl)) (StX.pa_star (pv 2) pa_nil))) (pa_cons (pe_tup (pa_cons (pe_call G_read_number (hr.mono (by decide)) (by rfl) g_read_number F_read_number.kp b_read_number .nil passL (pa_cons (pe_ix ix_list (pv 1) (pe_un un_neg pe_int) (fun _ _ => rfl)) pa_nil)) (pa_cons (pe_call G_read_number (hr.mono (by decide)) (by rfl) g_read_number F_read_number.kp b_read_number .nil passL (pa_cons (pe_ix ix_list (pv 1) (pe_un un_neg pe_int) (fun _ _ => rfl)) pa_nil)) pa_nil))) pa_nil)))))))), ?_⟩
    have hflat : (rowL st lo hi).flatten.length ≤ 4000 ∧ (rowL st lo hi).length ≤ 10 := by
      have h1 := R.w2
      have h2 := R.args
      have h3 := R.lo
      have h4 := R.hi
      unfold rowL
      generalize st.1.cps.toList = w0 at h1 ⊢
      rcases R.n with e | ⟨i, e⟩ | ⟨i, j, e⟩ <;> rw [e] at h2 ⊢
      · simp
        omega
      · have h5 := h2 i (by simp)
        simp
        omega
      · have h5 := h2 i (by simp)
        have h6 := h2 j (by simp)
        simp
        omega
    refine q_asgL (el_split (parts := rowL st lo hi) (ev_var rfl) ev_c (by decide) (List.cons_ne_nil _ _) (fun p hp => ?_) ?_) fun l H1 nl e1 hl => ?_
    · unfold rowL at hp
      rcases List.mem_cons.mp hp with rfl | hp
      · exact R.w1
      · rcases List.mem_append.mp hp with hp | hp
        · obtain ⟨i, _, rfl⟩ := List.mem_map.mp hp
          exact free32 i
        · simp only [List.mem_cons, List.not_mem_nil, or_false] at hp
          rcases hp with rfl | rfl | rfl
          · decide
          · exact free32 lo
          · exact free32 hi
    · have := joinL_len 32 (rowL st lo hi)
      omega
    refine st_is (σ' := [_, _, _, _]) rfl ?_
    obtain ⟨xs, hxs⟩ : ∃ xs, ((rowL st lo hi).map S).map V.str = xs := ⟨_, rfl⟩
    rw [hxs] at hl
    have facts : xs.length = st.2.length + 4 ∧ atI xs (-3) = some (.str (S [58])) ∧ atI xs (-2) = some (.str (S (intL lo))) ∧ atI xs (-1) = some (.str (S (intL hi))) ∧ atI xs 0 = some (.str st.1) ∧ cutV xs (some 1) (some (-3)) = (st.2.map fun i => V.str (S (intL i))) := by
      rw [← hxs]
      unfold rowL
      have e0 : S st.1.cps.toList = st.1 := SX.S_tl st.1
      rcases R.n with e | ⟨i, e⟩ | ⟨i, j, e⟩ <;> rw [e] <;> refine ⟨rfl, rfl, rfl, rfl, ?_, rfl⟩ <;> exact congrArg (fun z => some (V.str z)) e0
    obtain ⟨f1, f2, f3, f4, f5, f6⟩ := facts
    have t1 : SqL K H1 l xs := sq_of hl
    refine q_when (b := false) (et_is (et_or (a := false) (b := false) (et_is (et_test (ev_op (ev_cb (ea_cons (ev_var rfl) ea_nil) (rc_lenL (K := K) t1)) ev_c rv_I0)) (decide_eq_false (by rw [f1]; omega))) fun _ => (et_is (et_test (ev_op (ev_op (ev_var rfl) (ev_un (x := .int 3) ev_c ru_neg) (rv_ixL t1 f2)) ev_c (rv_ne rfl))) (congrArg (fun b => !b) (decide_eq_true rfl)))) rfl) (fun z => nomatch z) fun _ H2 e2 => ?_
    replace t1 := ex_l e2 t1
    -- numbers
    have hsl := el_sl (σ := [some (.str (S (TL.joinL [32] (rowL st lo hi)))), some (.ref l), none, none]) (te := tVar 1) (ev_var rfl) (eo_some (i := 1) ev_c) (eo_some (i := -3) (ev_un (x := .int 3) ev_c ru_neg)) t1
    rw [f6] at hsl
    have hn2 : st.2.length ≤ 2 := by
      rcases R.n with e | ⟨i, e⟩ | ⟨i, j, e⟩ <;> rw [e] <;> simp
    refine q_asgL (el_lcNL (fun _ => true) (fun i => .int (st.2.getD i 0)) hsl (by rw [List.length_map]; omega) (fun x => rfl) (fun i x H3 e3 hx => et_yes) (fun i x H3 e3 hx _ => ?_)) fun l2 H3 nl2 e3 hl2 => ?_
    · rw [List.getElem?_map] at hx
      obtain ⟨y, h1, rfl⟩ := Option.map_eq_some_iff.mp hx
      have e6 : st.2.getD i 0 = y := by rw [List.getD_eq_getElem?_getD, h1]; rfl
      rw [e6]
      exact ev_call (ea_cons (ev_var rfl) ea_nil) (fun H4 e4 Q4 q4 E4 => ⟨y, rfl, R.args y (List.mem_of_getElem? h1), q4⟩)
    refine st_is (σ' := [_, _, _, _]) rfl ?_
    have hm : given (st.2.map fun i => V.str (S (intL i))).length (fun _ => true) (fun i => V.int (st.2.getD i 0)) = st.2.map V.int := by
      rw [given_all, List.length_map]
      rcases R.n with e | ⟨i, e⟩ | ⟨i, j, e⟩ <;> rw [e] <;> rfl
    rw [hm] at hl2
    replace t1 := ex_l e3 t1
    have l1 : (st.2.map V.int ++ ([] : List V)).length + 1 ≤ sizeLine := by
      rw [List.append_nil, List.length_map]
      exact sz_of (by omega)
    refine ⟨_, rfl, l, xs, 0, .str st.1, rfl, rfl, t1, f5, _, rfl, l2, _, rfl, .inr (sq_of hl2), l1, fun p hp => ?_⟩
    have e4 : Ex H3 (upd H3 p (.tup (.str st.1 :: (st.2.map V.int ++ [])))) := Ex.new hp
    have hp2 : (upd H3 p (.tup (.str st.1 :: (st.2.map V.int ++ [])))) p = some (.tup (stV st)) := by
      rw [upd_same, List.append_nil]
      rfl
    generalize upd H3 p (.tup (.str st.1 :: (st.2.map V.int ++ []))) = H4 at e4 hp2 ⊢
    replace t1 := ex_l e4 t1
    refine eu_go (xs := [.int lo, .int hi]) (eu_tup (ea_cons (ev_call (ea_cons (ev_op (ev_var rfl) (ev_un (x := .int 2) ev_c ru_neg) (rv_ixL t1 f3)) ea_nil) (fun H5 e5 Q5 q5 E5 => ⟨lo, rfl, R.lo, q5⟩)) (ea_cons (ev_call (ea_cons (ev_op (ev_var rfl) (ev_un (x := .int 1) ev_c ru_neg) (rv_ixL t1 f4)) ea_nil) (fun H5 e5 Q5 q5 E5 => ⟨hi, rfl, R.hi, q5⟩)) ea_nil)) (show 2 ≤ 100000 by decide)) fun r H5 _ e5 hr => ?_
    refine ⟨by show 2 ≤ sizeLine; decide, fun c hc => ?_⟩
    exact q _ _ (e1.trans (e2.trans (e3.trans (e4.trans (e5.trans (Ex.new hc)))))) ⟨c, p, r, rfl, upd_same, Ex.new hc _ _ (e5 _ _ hp2), Ex.new hc _ _ hr⟩
/-! ### the program: is_formula of formulas -/
def spInteger : Sp := fun vs H Q _ => ∃ i : Int, vs = [.int i] ∧ RetV (.bl true) H Q
theorem ok_integer {f : Addr} {fd : FuncData} (F : Fun K "is_integer" "is_integer" s_is_integer f fd) (m_isinstance : mg "isinstance" = none) (m_int : mg "int" = none) (m_bool : mg "bool" = none) : FnOk P w K mg base CX0 1 f fd ["value"] spInteger := by
  refine F.ok sc_is_integer (fun vs H Q E h => ?_) (fun cdv A outer s H vs Q E hr h => ?_)
  · obtain ⟨i, rfl, _⟩ := h
    rfl
  · obtain ⟨i, rfl, q⟩ := h
    refine ⟨_, (pss_one (ps_ret (pe_and (pe_callB call_isi (by rfl) m_isinstance (by decide +kernel) (pa_cons (pv 0) (pa_cons (pe_bltn (by rfl) m_int (by decide +kernel) (show RelV (.ty "int") _ from rfl)) pa_nil))) (pe_one (pe_not (pe_callB call_isi (by rfl) m_isinstance (by decide +kernel) (pa_cons (pv 0) (pa_cons (pe_bltn (by rfl) m_bool (by decide +kernel) (show RelV (.ty "bool") _ from rfl)) pa_nil)))))))), ?_⟩
    exact s_ret (ev_is (ev_andV (ev_cb (ea_cons (ev_var rfl) (ea_cons ev_c ea_nil)) (rc_isiI (K := K))) fun _ => ev_notV (ev_cb (ea_cons (ev_var rfl) (ea_cons ev_c ea_nil)) (rc_isiIB (K := K)))) rfl) q
def spInts (K : PySem.W.Frag) : Sp := fun vs H Q _ => ∃ (a : Addr) (is : List Int), vs = [.ref a] ∧ SqT K H a (is.map V.int) ∧ RetV (.bl true) H Q
theorem ok_ints {f f0 : Addr} {fd fd0 : FuncData} (F : Fun K "are_integers" "are_integers" s_are_integers f fd) (F_is_integer : Fun K "is_integer" "is_integer" s_is_integer f0 fd0) (b_is_integer : Binds K fd0 ["value"] []) (g_is_integer : mg "is_integer" = some (.ref f0))
    (m_isinstance : mg "isinstance" = none) (m_int : mg "int" = none) (m_bool : mg "bool" = none) : FnOk P w K mg base CX0 2 f fd ["values"] (spInts K) := by
  have G_is_integer : FnOk P w K mg base CX0 1 f0 fd0 _ spInteger := ok_integer F_is_integer m_isinstance m_int m_bool
  refine F.ok sc_are_integers (fun vs H Q E h => ?_) (fun cdv A outer s H vs Q E hr h => ?_)
  · obtain ⟨a, is, rfl, _⟩ := h
    rfl
  · obtain ⟨a, is, rfl, ht, q⟩ := h
    refine ⟨_, (pss_cons (ps_for PassesOwn.never rfl (pi_tup (pv 0)) (pg_name (i := 1) sc_are_integers.nd rfl (.inl rfl)) (pss_one (ps_if (pt_not (pt_val (pe_call G_is_integer (hr.mono (by decide)) (by rfl) g_is_integer F_is_integer.kp b_is_integer .nil pass0 (pa_cons (pv 1) pa_nil)))) (pss_one (ps_ret pe_bl)) pss_nil)))
        (pss_one (ps_ret pe_bl))), ?_⟩
    refine q_forT (ev_var rfl) ht (fun i σ' H' => ∃ x, σ' = [some (.ref a), x] ∧ Ex H H') (fun H1 e1 => ⟨_, rfl, e1⟩) (fun i σ' H' _ p => ?_) (fun i x σ' H' hx p => ?_) (fun σ' H' p => ?_)
    · obtain ⟨x, rfl, e⟩ := p
      exact ex_t e ht
    · obtain ⟨x1, rfl, e⟩ := p
      obtain ⟨n, hn, rfl⟩ : ∃ n, is[i]? = some n ∧ x = V.int n := by
        rw [List.getElem?_map] at hx
        obtain ⟨n, h1, h2⟩ := Option.map_eq_some_iff.mp hx
        exact ⟨n, h1, h2.symm⟩
      show tIfS _ _ tNext _ [some (.ref a), some (.int n)] H'
      exact s_when (b := false) (et_is (et_not (et_B (ev_call (z := .bl true) (ea_cons (ev_var rfl) ea_nil) (fun H1 e1 Q1 q1 E1 => ⟨n, rfl, q1⟩)))) rfl) (fun hb => nomatch hb) fun _ H1 e1 => ⟨_, rfl, e.trans e1⟩
    · obtain ⟨x, rfl, e⟩ := p
      exact s_ret ev_c fun H1 e1 => q H1 (e.trans e1)
/-- the counts behind the words, as the top has written them -/
structure Counts (K : PySem.W.Frag) (w : World) (d : Addr) : Prop where
  dict : ∃ es n, KDict K w d es n
  cnum : ∃ t, PySem.W.nsIn K d "number" = some (some (.int 2 t))
  cpi : ∃ t, PySem.W.nsIn K d "pi" = some (some (.int 0 t))
  c2 : ∀ x ∈ W2, ∃ t, PySem.W.nsIn K d x = some (some (.int 2 t))
  c1 : ∀ x ∈ W1, ∃ t, PySem.W.nsIn K d x = some (some (.int 1 t))
theorem Counts.of {d : Addr} (C : Counts K w d) {k : Nat} {st : FStep} (h : OkStep k st) : ∃ t, PySem.W.nsIn K d st.1 = some (some (.int (st.2.length : Nat) t)) := by
  rcases h with ⟨p, q, rfl, _⟩ | rfl | ⟨x, i, j, hx, rfl, _⟩ | ⟨x, i, hx, rfl, _⟩
  · exact C.cnum
  · exact C.cpi
  · exact C.c2 x hx
  · exact C.c1 x hx
def spIsStep : Sp := fun vs H Q _ => ∃ (v : V) (st : FStep) (k : Nat), vs = [v, .int (k : Int)] ∧ StepAt H v st ∧ OkStep k st ∧ RetV (.bl true) H Q
theorem ok_isstep {f f0 f1 d : Addr} {fd fd0 fd1 : FuncData} (F : Fun K "is_step" "is_step" s_is_step f fd) (F_is_integer : Fun K "is_integer" "is_integer" s_is_integer f0 fd0) (b_is_integer : Binds K fd0 ["value"] []) (g_is_integer : mg "is_integer" = some (.ref f0))
    (F_are_integers : Fun K "are_integers" "are_integers" s_are_integers f1 fd1) (b_are_integers : Binds K fd1 ["values"] []) (g_are_integers : mg "are_integers" = some (.ref f1)) (g_COUNTS : mg "COUNTS" = some (.ref d)) (C : Counts K w d)
    (m_isinstance : mg "isinstance" = none) (m_int : mg "int" = none) (m_bool : mg "bool" = none) (m_len : mg "len" = none) (m_tuple : mg "tuple" = none) (m_str : mg "str" = none) : FnOk P w K mg base CX0 3 f fd ["step", "place"] spIsStep := by
  have G_are_integers : FnOk P w K mg base CX0 2 f1 fd1 _ (spInts K) := ok_ints F_are_integers F_is_integer b_is_integer g_is_integer m_isinstance m_int m_bool
  obtain ⟨es, nn, D_COUNTS⟩ := C.dict
  refine F.ok sc_is_step (fun vs H Q E h => ?_) (fun cdv A outer s H vs Q E hr h => ?_)
  · obtain ⟨v, st, k, rfl, _⟩ := h
    rfl
  · obtain ⟨v, st, k, rfl, hst, hok, q⟩ := h
    obtain ⟨p, rfl, hp⟩ := hst
    obtain ⟨t, hc⟩ := C.of hok
    refine ⟨_, (pss_cons (ps_if (PW.pt (pw_or (pt_not (pt_val (pe_callB call_isi (by rfl) m_isinstance (by decide +kernel) (pa_cons (pv 0) (pa_cons (pe_bltn (by rfl) m_tuple (by decide +kernel) (show RelV (.ty "tuple") _ from rfl)) pa_nil))))) (pw_or (pt_cmpR op_eq (pe_callB call_len (by rfl) m_len (by decide +kernel) (pa_cons (pv 0) pa_nil)) pe_int (nomark _)) (pw_or1 (pt_not (pt_val (pe_callB call_isi (by rfl) m_isinstance (by decide +kernel) (pa_cons (pe_ix ix_tup (pv 0) pe_int (fun _ _ => rfl)) (pa_cons (pe_bltn (by rfl) m_str (by decide +kernel) (show RelV (.ty "str") _ from rfl)) pa_nil))))))))) (pss_one (ps_ret pe_bl)) pss_nil)
        (pss_cons (ps_set (i := 2) sc_is_step.nd rfl (.inl rfl) (pe_ix ix_tup (pv 0) pe_int (fun _ _ => rfl)))
        (pss_cons (ps_if (PW.pt (pw_or (pt_cmpR (op_notIn_kd D_COUNTS) (pv 2) (pe_glob (by rfl) g_COUNTS (show RelV (.ref _) _ from rfl)) (by rfl)) (pw_or (pt_cmpR op_ne (pe_callB call_len (by rfl) m_len (by decide +kernel) (pa_cons (pv 0) pa_nil)) (pe_op op_add (pe_ix ix_kdict (pe_glob (by rfl) g_COUNTS (show RelV (.ref _) _ from rfl)) (pv 2) (fun _ _ => rfl)) pe_int) (nomark _)) (pw_or1 (pt_not (pt_val (pe_call G_are_integers (hr.mono (by decide)) (by rfl) g_are_integers F_are_integers.kp b_are_integers .nil pass0 (pa_cons (pe_slice sl_tup (pv 0) (po_some pe_int) po_none) pa_nil)))))))) (pss_one (ps_ret pe_bl)) pss_nil)
        (pss_cons (ps_if (pt_cmpR op_eq (pv 2) pe_str (nomark _)) (pss_one (ps_ret (pe_cmpR op_ge (pe_ix ix_tup (pv 0) pe_int (fun _ _ => rfl)) pe_int (nomark _)))) pss_nil)
        (pss_cons (ps_for PassesOwn.never rfl (pi_tup (pe_slice sl_tup (pv 0) (po_some pe_int) po_none)) (pg_name (i := 3) sc_is_step.nd rfl (.inl rfl)) (pss_one (ps_if (PW.pt (pw_or (pt_cmpR op_lt (pv 3) pe_int (nomark _)) (pw_or1 (pt_cmpR op_ge (pv 3) (pv 1) (nomark _))))) (pss_one (ps_ret pe_bl)) pss_nil)))
        (pss_one (ps_ret pe_bl))))))), ?_⟩
    have t_step : SqT K H p (stV st) := st_of hp
    -- the kinds
    refine q_when (b := false) (et_is (et_or (a := false) (et_is (et_not (et_B (ev_cb (ea_cons (ev_var rfl) (ea_cons ev_c ea_nil)) (rc_isiT (K := K) hp)))) rfl)
      fun _ => (et_or (a := false) (et_is (et_test (ev_op (ev_cb (ea_cons (ev_var rfl) ea_nil) (rc_lenT (K := K) t_step)) ev_c (rv_eq rfl))) (decide_eq_false fun z => by
          have := V.int.inj z
          rw [show (stV st).length = st.2.length + 1 by simp [stV]] at this
          omega))
      fun _ => (et_is (et_not (et_B (ev_cb (ea_cons (ev_op (ev_var rfl) ev_c (rv_ixT t_step (at0 st))) (ea_cons ev_c ea_nil)) (rc_isiS (K := K))))) (b := false) rfl))) rfl) (fun hb => nomatch hb) fun _ H1 e1 => ?_
    replace hp := ex_app e1 hp
    replace t_step : SqT K H1 p (stV st) := st_of hp
    -- word
    refine q_asg (ev_op (ev_var rfl) ev_c (rv_ixT t_step (at0 st))) fun H2 e2 => ?_
    refine st_is (σ' := [_, _, _, _]) rfl ?_
    replace hp := ex_app e2 hp
    replace t_step : SqT K H2 p (stV st) := st_of hp
    have kd : KDct K w d st.1 (.int (st.2.length : Nat)) := ⟨es, nn, _, D_COUNTS.at_, D_COUNTS.lit, hc, ⟨_, rfl⟩⟩
    refine q_when (b := false) (et_is (et_or (a := false) (et_is (et_test (ev_op (ev_var rfl) ev_c (show RV _ _ _ _ (.bl false) from fun H3 _ Q3 q3 => ⟨st.1, _, rfl, rfl, hc, q3 H3 (Ex.refl H3)⟩))) rfl)
      fun _ => (et_or (a := false) (et_is (et_test (ev_op (ev_cb (ea_cons (ev_var rfl) ea_nil) (rc_lenT (K := K) t_step)) (ev_op (ev_op ev_c (ev_var rfl) (show RV (rIxD K w) _ _ _ (.int (st.2.length : Nat)) from fun H3 _ Q3 q3 => ⟨d, st.1, _, rfl, rfl, kd, q3 H3 (Ex.refl H3)⟩)) ev_c rv_I0) (rv_ne rfl))) (by
          rw [show (stV st).length = st.2.length + 1 by simp [stV]]
          exact congrArg (fun b => !b) (decide_eq_true (congrArg V.int (by omega)))))
      fun _ => (et_is (et_not (et_B (ev_callU (z := .bl true) (eu_tail (ev_var rfl) t_step) ea_nil (fun p1 H3 e3 h3 H4 e4 Q4 q4 E4 => ⟨p1, st.2, rfl, st_of (ex_app e4 h3), q4⟩)))) (b := false) rfl))) rfl) (fun hb => nomatch hb) fun _ H3 e3 => ?_
    replace hp := ex_app e3 hp
    replace t_step : SqT K H3 p (stV st) := st_of hp
    have eall := (e1.trans e2).trans e3
    have qq : ∀ H', Ex H3 H' → Q (.bl true) H' := fun H' e' => q H' (eall.trans e')
    -- number, or the indexes
    by_cases hnum : st.1 = "number"
    · refine q_when (b := true) (et_is (et_test (ev_op (ev_var rfl) ev_c (rv_eq rfl))) (decide_eq_true (congrArg V.str hnum))) (fun _ H4 e4 => ?_) (fun hb => nomatch hb)
      have h2 : ∃ p0 q0, st.2 = [p0, q0] ∧ 1 ≤ q0 := by
        rcases hok with ⟨p0, q0, rfl, h⟩ | rfl | ⟨x, i, j, hx, rfl, _⟩ | ⟨x, i, hx, rfl, _⟩
        · exact ⟨p0, q0, rfl, h⟩
        · exact absurd hnum pi_nn
        · exact absurd hnum (w2_nn x hx)
        · exact absurd hnum (w1_nn x hx)
      obtain ⟨p0, q0, h2, h3⟩ := h2
      have t4 : SqT K H4 p [.str st.1, .int p0, .int q0] := by
        have := ex_t e4 t_step
        unfold stV at this
        rw [h2] at this
        exact this
      exact s_ret (ev_is (ev_op (ev_op (ev_var rfl) ev_c (rv_ixT t4 rfl)) ev_c rv_I0) (w := .bl true) (congrArg V.bl (decide_eq_true h3))) fun H5 e5 => qq H5 (e4.trans e5)
    · refine q_when (b := false) (et_is (et_test (ev_op (ev_var rfl) ev_c (rv_eq rfl))) (decide_eq_false fun z => hnum (V.str.inj z))) (fun hb => nomatch hb) (fun _ H4 e4 => ?_)
      have hin : ∀ i ∈ st.2, 0 ≤ i ∧ i < (k : Int) := by
        rcases hok with ⟨p0, q0, rfl, h⟩ | rfl | ⟨x, i, j, hx, rfl, h1, h2⟩ | ⟨x, i, hx, rfl, h1⟩
        · exact absurd rfl hnum
        · intro i hi
          simp at hi
        · intro y hy
          simp only [List.mem_cons, List.not_mem_nil, or_false] at hy
          rcases hy with rfl | rfl
          · exact h1
          · exact h2
        · intro y hy
          simp only [List.mem_cons, List.not_mem_nil, or_false] at hy
          subst hy
          exact h1
      refine q_forNT (eu_tail (ev_var rfl) (ex_t e4 t_step)) (fun p1 i σ' H' => ∃ x, σ' = [some (.ref p), some (.int (k : Int)), some (.str st.1), x] ∧ Ex H4 H' ∧ H' p1 = some (.tup (st.2.map V.int))) (fun p1 H5 _ e5 h5 => ⟨_, rfl, e5, h5⟩) (fun p1 i σ' H' _ pp => ?_) (fun p1 i x σ' H' hx pp => ?_) (fun p1 σ' H' pp => ?_)
      · obtain ⟨x, _, _, h5⟩ := pp
        exact st_of h5
      · obtain ⟨x1, rfl, e5, h5⟩ := pp
        obtain ⟨n, hn, rfl⟩ : ∃ n, st.2[i]? = some n ∧ x = V.int n := by
          rw [List.getElem?_map] at hx
          obtain ⟨n, h1, h2⟩ := Option.map_eq_some_iff.mp hx
          exact ⟨n, h1, h2.symm⟩
        obtain ⟨g1, g2⟩ := hin n (List.mem_of_getElem? hn)
        show tIfS _ _ tNext _ [some (.ref p), some (.int (k : Int)), some (.str st.1), some (.int n)] H'
        exact s_when (b := false) (et_is (et_or (a := false) (et_is (et_test (ev_op (ev_var rfl) ev_c rv_I0)) (decide_eq_false (by omega))) fun _ => (et_is (et_test (ev_op (ev_var rfl) (ev_var rfl) rv_I0)) (b := false) (decide_eq_false (by omega)))) rfl) (fun hb => nomatch hb) fun _ H6 e6 => ⟨_, rfl, e5.trans e6, ex_app e6 h5⟩
      · obtain ⟨x1, rfl, e5, h5⟩ := pp
        exact s_ret ev_c fun H6 e6 => qq H6 ((e4.trans e5).trans e6)
def spIsForm : Sp := fun vs H Q _ => ∃ (a : Addr) (us : List V) (ss : List FStep), vs = [.ref a] ∧ H a = some (.tup us) ∧ StepsAt H us ss ∧ OkForm ss ∧ ss ≠ [] ∧ RetV (.bl true) H Q
theorem ok_isform {f f2 : Addr} {fd fd2 : FuncData} (F : Fun K "is_formula" "is_formula" s_is_formula f fd) (F_is_step : Fun K "is_step" "is_step" s_is_step f2 fd2) (G_is_step : FnOk P w K mg base CX0 3 f2 fd2 ["step", "place"] spIsStep) (b_is_step : Binds K fd2 ["step", "place"] []) (g_is_step : mg "is_step" = some (.ref f2))
    (m_isinstance : mg "isinstance" = none) (m_len : mg "len" = none) (m_tuple : mg "tuple" = none) (m_enumerate : mg "enumerate" = none) : FnOk P w K mg base CX0 4 f fd ["value"] spIsForm := by
  refine F.ok sc_is_formula (fun vs H Q E h => ?_) (fun cdv A outer s H vs Q E hr h => ?_)
  · obtain ⟨a, us, ss, rfl, _⟩ := h
    rfl
  · obtain ⟨a, us, ss, rfl, ha, hs, hok, hne, q⟩ := h
    refine ⟨_, (pss_cons (ps_if (PW.pt (pw_or (pt_not (pt_val (pe_callB call_isi (by rfl) m_isinstance (by decide +kernel) (pa_cons (pv 0) (pa_cons (pe_bltn (by rfl) m_tuple (by decide +kernel) (show RelV (.ty "tuple") _ from rfl)) pa_nil))))) (pw_or1 (pt_cmpR op_eq (pe_callB call_len (by rfl) m_len (by decide +kernel) (pa_cons (pv 0) pa_nil)) pe_int (nomark _))))) (pss_one (ps_ret pe_bl)) pss_nil)
        (pss_cons (ps_for PassesOwn.never rfl (pi_enumT (by rfl) m_enumerate (pa_cons (pv 0) pa_nil)) (pg_tup rfl (pgs_cons (pg_name (i := 1) sc_is_formula.nd rfl (.inl rfl)) (pgs_cons (pg_name (i := 2) sc_is_formula.nd rfl (.inl rfl)) pgs_nil))) (pss_one (ps_if (pt_not (pt_val (pe_call G_is_step (hr.mono (by decide)) (by rfl) g_is_step F_is_step.kp b_is_step .nil pass0 (pa_cons (pv 2) (pa_cons (pv 1) pa_nil))))) (pss_one (ps_ret pe_bl)) pss_nil)))
        (pss_one (ps_ret pe_bl)))), ?_⟩
    have hl : 0 < us.length := by
      rw [hs.1]
      exact List.length_pos_iff.mpr hne
    refine q_when (b := false) (et_is (et_or (a := false) (et_is (et_not (et_B (ev_cb (ea_cons (ev_var rfl) (ea_cons ev_c ea_nil)) (rc_isiT (K := K) ha)))) rfl)
      fun _ => (et_is (et_test (ev_op (ev_cb (ea_cons (ev_var rfl) ea_nil) (rc_lenT (K := K) (st_of ha))) ev_c (rv_eq rfl))) (b := false) (decide_eq_false fun z => by
          have := V.int.inj z
          omega))) rfl) (fun hb => nomatch hb) fun _ H1 e1 => ?_
    replace ha := ex_app e1 ha
    replace hs := hs.mono e1
    refine q_forET (ea_cons (ev_var rfl) ea_nil) (st_of ha) (fun i σ' H' => ∃ x y, σ' = [some (.ref a), x, y] ∧ Ex H1 H') (fun H2 e2 => ⟨_, _, rfl, e2⟩) (fun i σ' H' _ pp => ?_) (fun i x σ' H' T hx pp hT => ?_) (fun σ' H' pp => ?_)
    · obtain ⟨x, y, _, e2⟩ := pp
      exact st_of (ex_app e2 ha)
    · obtain ⟨x1, y1, rfl, e2⟩ := pp
      obtain ⟨st, hst, sat⟩ := hs.get hx
      have e3 : Ex H1 (upd H' T (.tup [.int (i : Nat), x])) := e2.trans (Ex.new hT)
      refine ⟨T, [.int (i : Nat), x], rfl, .inl (.inl upd_same), rfl, _, _, rfl, _, _, rfl, rfl, ?_⟩
      show tIfS _ _ tNext _ [some (.ref a), some (.int (i : Nat)), some x] _
      exact s_when (b := false) (et_is (et_not (et_B (ev_call (z := .bl true) (ea_cons (ev_var rfl) (ea_cons (ev_var rfl) ea_nil)) (fun H5 e5 Q5 q5 E5 => ⟨x, st, i, rfl, sat.mono (e3.trans e5), hok i st hst, q5⟩)))) rfl) (fun hb => nomatch hb) fun _ H6 e6 => ⟨_, _, rfl, e3.trans e6⟩
    · obtain ⟨x1, y1, rfl, e2⟩ := pp
      exact s_ret ev_c fun H6 e6 => q H6 ((e1.trans e2).trans e6)
/-! ### papers -/
abbrev Enc := Int × Int
def EncAt (H : Hp) (v : V) (e : Enc) : Prop := ∃ p, v = .ref p ∧ H p = some (.tup [.int e.1, .int e.2])
def EncsAt (H : Hp) (vs : List V) (es : List Enc) : Prop := vs.length = es.length ∧ ∀ (i : Nat) v e, vs[i]? = some v → es[i]? = some e → EncAt H v e
theorem EncAt.mono {H H' : Hp} {v : V} {e : Enc} (x : Ex H H') (h : EncAt H v e) : EncAt H' v e := by
  obtain ⟨p, h1, h2⟩ := h
  exact ⟨p, h1, x _ _ h2⟩
theorem EncsAt.mono {H H' : Hp} {vs : List V} {es : List Enc} (x : Ex H H') (h : EncsAt H vs es) : EncsAt H' vs es := ⟨h.1, fun i v e a b => (h.2 i v e a b).mono x⟩
theorem EncsAt.get {H : Hp} {vs : List V} {es : List Enc} (h : EncsAt H vs es) {i : Nat} {v : V} (hi : vs[i]? = some v) : ∃ e, es[i]? = some e ∧ EncAt H v e := by
  have h1 : i < es.length := by
    rw [← h.1]
    exact (List.getElem?_eq_some_iff.mp hi).1
  exact ⟨es[i], List.getElem?_eq_getElem h1, h.2 i v _ hi (List.getElem?_eq_getElem h1)⟩
def spIsEnc : Sp := fun vs H Q _ => ∃ (v : V) (e : Enc), vs = [v] ∧ EncAt H v e ∧ e.1 ≤ e.2 ∧ RetV (.bl true) H Q
theorem ok_isenc {f f0 f1 : Addr} {fd fd0 fd1 : FuncData} (F : Fun K "is_enclosure" "is_enclosure" s_is_enclosure f fd) (F_is_integer : Fun K "is_integer" "is_integer" s_is_integer f0 fd0) (b_is_integer : Binds K fd0 ["value"] []) (g_is_integer : mg "is_integer" = some (.ref f0)) (F_are_integers : Fun K "are_integers" "are_integers" s_are_integers f1 fd1) (b_are_integers : Binds K fd1 ["values"] []) (g_are_integers : mg "are_integers" = some (.ref f1))
    (m_isinstance : mg "isinstance" = none) (m_int : mg "int" = none) (m_bool : mg "bool" = none) (m_len : mg "len" = none) (m_tuple : mg "tuple" = none) : FnOk P w K mg base CX0 3 f fd ["value"] spIsEnc := by
  have G_are_integers : FnOk P w K mg base CX0 2 f1 fd1 _ (spInts K) := ok_ints F_are_integers F_is_integer b_is_integer g_is_integer m_isinstance m_int m_bool
  refine F.ok sc_is_enclosure (fun vs H Q E h => ?_) (fun cdv A outer s H vs Q E hr h => ?_)
  · obtain ⟨v, e, rfl, _⟩ := h
    rfl
  · obtain ⟨v, e, rfl, ⟨p, rfl, hp⟩, hle, q⟩ := h
    refine ⟨_, (pss_cons (ps_if (PW.pt (pw_or (pt_not (pt_val (pe_callB call_isi (by rfl) m_isinstance (by decide +kernel) (pa_cons (pv 0) (pa_cons (pe_bltn (by rfl) m_tuple (by decide +kernel) (show RelV (.ty "tuple") _ from rfl)) pa_nil))))) (pw_or (pt_cmpR op_ne (pe_callB call_len (by rfl) m_len (by decide +kernel) (pa_cons (pv 0) pa_nil)) pe_int (nomark _)) (pw_or1 (pt_not (pt_val (pe_call G_are_integers (hr.mono (by decide)) (by rfl) g_are_integers F_are_integers.kp b_are_integers .nil pass0 (pa_cons (pv 0) pa_nil)))))))) (pss_one (ps_ret pe_bl)) pss_nil)
        (pss_one (ps_ret (pe_cmpR op_le (pe_ix ix_tup (pv 0) pe_int (fun _ _ => rfl)) (pe_ix ix_tup (pv 0) pe_int (fun _ _ => rfl)) (nomark _))))), ?_⟩
    refine q_when (b := false) (et_is (et_or (a := false) (b := false) (et_is (et_not (et_B (ev_cb (ea_cons (ev_var rfl) (ea_cons ev_c ea_nil)) (rc_isiT (K := K) hp)))) rfl) fun _ => (et_or (a := false) (b := false) (et_is (et_test (ev_op (ev_cb (ea_cons (ev_var rfl) ea_nil) (rc_lenT (K := K) (st_of hp))) ev_c (rv_ne rfl))) rfl)
      fun _ => (et_is (et_not (et_B (ev_call (z := .bl true) (ea_cons (ev_var rfl) ea_nil) (fun H1 e1 Q1 q1 E1 => ⟨p, [e.1, e.2], rfl, st_of (e1 _ _ hp), q1⟩)))) rfl))) rfl) (fun z => nomatch z) fun _ H1 e1 => ?_
    exact s_ret (ev_is (ev_op (ev_op (ev_var rfl) ev_c (rv_ixT (st_of (e1 _ _ hp)) rfl)) (ev_op (ev_var rfl) ev_c (rv_ixT (st_of (e1 _ _ hp)) rfl)) rv_I0) (w := .bl true) (congrArg V.bl (decide_eq_true hle))) fun H2 e2 => q H2 (e1.trans e2)
def PaperAt (H : Hp) (a : Addr) (b : Int) (es : List Enc) : Prop := ∃ q vs, H a = some (.tup [.int b, .ref q]) ∧ H q = some (.tup vs) ∧ EncsAt H vs es
theorem PaperAt.mono {H H' : Hp} {a : Addr} {b : Int} {es : List Enc} (x : Ex H H') (h : PaperAt H a b es) : PaperAt H' a b es := by
  obtain ⟨q, vs, h1, h2, h3⟩ := h
  exact ⟨q, vs, x _ _ h1, x _ _ h2, h3.mono x⟩
def spIsPaper : Sp := fun vs H Q _ => ∃ (a : Addr) (b : Int) (es : List Enc), vs = [.ref a] ∧ PaperAt H a b es ∧ (8 ≤ b ∧ b ≤ 4096) ∧ (∀ e ∈ es, e.1 ≤ e.2) ∧ RetV (.bl true) H Q
theorem ok_ispaper {f f0 f1 : Addr} {fd fd0 fd1 : FuncData} {t0 t1 : Tok} (F : Fun K "is_paper" "is_paper" s_is_paper f fd) (G_is_enclosure : FnOk P w K mg base CX0 3 f1 fd1 ["value"] spIsEnc) (F_is_enclosure : Fun K "is_enclosure" "is_enclosure" s_is_enclosure f1 fd1) (b_is_enclosure : Binds K fd1 ["value"] []) (g_is_enclosure : mg "is_enclosure" = some (.ref f1))
    (F_is_integer : Fun K "is_integer" "is_integer" s_is_integer f0 fd0) (b_is_integer : Binds K fd0 ["value"] []) (g_is_integer : mg "is_integer" = some (.ref f0)) (g_FEWEST_BITS : mg "FEWEST_BITS" = some (.int 8 t0)) (g_MOST_BITS : mg "MOST_BITS" = some (.int 4096 t1))
    (m_isinstance : mg "isinstance" = none) (m_int : mg "int" = none) (m_bool : mg "bool" = none) (m_len : mg "len" = none) (m_tuple : mg "tuple" = none) : FnOk P w K mg base CX0 4 f fd ["value"] spIsPaper := by
  have G_is_integer : FnOk P w K mg base CX0 1 f0 fd0 _ spInteger := ok_integer F_is_integer m_isinstance m_int m_bool
  refine F.ok sc_is_paper (fun vs H Q E h => ?_) (fun cdv A outer s H vs Q E hr h => ?_)
  · obtain ⟨a, b, es, rfl, _⟩ := h
    rfl
  · obtain ⟨a, b, es, rfl, ⟨r, vs, ha, hr2, hes⟩, hb, hle, q⟩ := h
    refine ⟨_, (pss_cons (ps_if (PW.pt (pw_or (pt_not (pt_val (pe_callB call_isi (by rfl) m_isinstance (by decide +kernel) (pa_cons (pv 0) (pa_cons (pe_bltn (by rfl) m_tuple (by decide +kernel) (show RelV (.ty "tuple") _ from rfl)) pa_nil))))) (pw_or1 (pt_cmpR op_ne (pe_callB call_len (by rfl) m_len (by decide +kernel) (pa_cons (pv 0) pa_nil)) pe_int (nomark _))))) (pss_one (ps_ret pe_bl)) pss_nil)
        (pss_cons (ps_asg (pv 0) (pg_tup rfl (pgs_cons (pg_name (i := 1) sc_is_paper.nd rfl (.inl rfl)) (pgs_cons (pg_name (i := 2) sc_is_paper.nd rfl (.inl rfl)) pgs_nil))))
        (pss_cons (ps_if (PW.pt (pw_or (pt_not (pt_val (pe_call G_is_integer (hr.mono (by decide)) (by rfl) g_is_integer F_is_integer.kp b_is_integer .nil pass0 (pa_cons (pv 1) pa_nil)))) (pw_or (pt_cmpR op_lt (pv 1) (pe_glob (by rfl) g_FEWEST_BITS (show RelV (.int 8) _ from ⟨_, rfl⟩)) (nomark _)) (pw_or (pt_cmpR op_gt (pv 1) (pe_glob (by rfl) g_MOST_BITS (show RelV (.int 4096) _ from ⟨_, rfl⟩)) (nomark _)) (pw_or1 (pt_not (pt_val (pe_callB call_isi (by rfl) m_isinstance (by decide +kernel) (pa_cons (pv 2) (pa_cons (pe_bltn (by rfl) m_tuple (by decide +kernel) (show RelV (.ty "tuple") _ from rfl)) pa_nil)))))))))) (pss_one (ps_ret pe_bl)) pss_nil)
        (pss_cons (ps_for PassesOwn.never rfl (pi_tup (pv 2)) (pg_name (i := 3) sc_is_paper.nd rfl (.inl rfl)) (pss_one (ps_if (pt_not (pt_val (pe_call G_is_enclosure (hr.mono (by decide)) (by rfl) g_is_enclosure F_is_enclosure.kp b_is_enclosure .nil pass0 (pa_cons (pv 3) pa_nil)))) (pss_one (ps_ret pe_bl)) pss_nil)))
        (pss_one (ps_ret pe_bl)))))), ?_⟩
    refine q_when (b := false) (et_is (et_or (a := false) (b := false) (et_is (et_not (et_B (ev_cb (ea_cons (ev_var rfl) (ea_cons ev_c ea_nil)) (rc_isiT (K := K) ha)))) rfl) fun _ => (et_is (et_test (ev_op (ev_cb (ea_cons (ev_var rfl) ea_nil) (rc_lenT (K := K) (st_of ha))) ev_c (rv_ne rfl))) rfl)) rfl) (fun z => nomatch z) fun _ H1 e1 => ?_
    refine ⟨_, rfl, a, [.int b, .ref r], rfl, st_of (e1 _ _ ha), rfl, _, _, rfl, _, _, rfl, rfl, ?_⟩
    refine st_is (σ' := [_, _, _, _]) rfl ?_
    replace hr2 := e1 _ _ hr2
    replace hes := hes.mono e1
    refine q_when (b := false) (et_is (et_or (a := false) (b := false) (et_is (et_not (et_B (ev_call (z := .bl true) (ea_cons (ev_var rfl) ea_nil) (fun H2 e2 Q2 q2 E2 => ⟨b, rfl, q2⟩)))) rfl) fun _ => (et_or (a := false) (b := false) (et_is (et_test (ev_op (ev_var rfl) ev_c rv_I0)) (decide_eq_false (by omega))) fun _ => (et_or (a := false) (b := false) (et_is (et_test (ev_op (ev_var rfl) ev_c rv_I0)) (decide_eq_false (by omega)))
      fun _ => (et_is (et_not (et_B (ev_cb (ea_cons (ev_var rfl) (ea_cons ev_c ea_nil)) (rc_isiT (K := K) hr2)))) rfl)))) rfl) (fun z => nomatch z) fun _ H2 e2 => ?_
    replace hr2 := e2 _ _ hr2
    replace hes := hes.mono e2
    refine q_forT (ev_var rfl) (st_of hr2) (fun i σ' H' => ∃ x, σ' = [some (.ref a), some (.int b), some (.ref r), x] ∧ Ex H2 H') (fun H3 e3 => ⟨_, rfl, e3⟩) (fun i σ' H' _ pp => ?_) (fun i x σ' H' hx pp => ?_) (fun σ' H' pp => ?_)
    · obtain ⟨x, rfl, e3⟩ := pp
      exact st_of (e3 _ _ hr2)
    · obtain ⟨x1, rfl, e3⟩ := pp
      obtain ⟨e, he, hea⟩ := hes.get hx
      show tIfS _ _ tNext _ [some (.ref a), some (.int b), some (.ref r), some x] H'
      exact s_when (b := false) (et_is (et_not (et_B (ev_call (z := .bl true) (ea_cons (ev_var rfl) ea_nil) (fun H4 e4 Q4 q4 E4 => ⟨x, e, rfl, hea.mono (e3.trans e4), hle e (List.mem_of_getElem? he), q4⟩)))) rfl) (fun z => nomatch z) fun _ H4 e4 => ⟨_, rfl, e3.trans e4⟩
    · obtain ⟨x1, rfl, e3⟩ := pp
      exact s_ret ev_c fun H4 e4 => q H4 (e1.trans (e2.trans (e3.trans e4)))
/-! ### the text read -/
open Kn in
/-- [e for x in xs], what holds of each item told -/
theorem lcP {σ : L2.St} {H : Hp} {te tl : TE} {j : Nat} {ws : List Nat} {xs : List V} {Q : VK} (Pr : Nat → V → Hp → Prop) (hst : ∀ i v H H', Stab H H' → Pr i v H → Pr i v H') (h : EvL tl σ H xs) (hz : xs.length ≤ 1000) (hw : ∀ x, wipe ((wipe σ ws).set j (some x)) ws = wipe σ ws)
    (he : ∀ (i : Nat) (x : V) H1, Ex H H1 → xs[i]? = some x → ∀ Q : VK, (∀ v H2, Ex H1 H2 → Pr i v H2 → Q v H2) → te ((wipe σ ws).set j (some x)) H1 Q)
    (q : ∀ D vs H2, H D = none → Ex H H2 → H2 D = some (.lst vs) → vs.length = xs.length → (∀ i v, vs[i]? = some v → Pr i v H2) → Q (.ref D) H2) : tLc (iList K tl) (gName j) tYes te ws σ H Q :=
  h H (Ex.refl H) _ fun a H1 ha e1 hx => ⟨a, rfl, ⟨xs, sq_of hx⟩, fun Dl hD =>
    lc_list (xs := xs) (fun n H' => Ex H1 H' ∧ ∃ acc, H' Dl = some (.lst acc) ∧ acc.length = n ∧ ∀ i v, acc[i]? = some v → Pr i v H') ⟨Ex.new hD, [], upd_same, rfl, fun i v z => by simp at z⟩ (fun n H' _ p => sq_of (p.1 _ _ hx)) (fun n x H' hxn p => by
      obtain ⟨e2, acc, hacc, hn, hP⟩ := p
      have hn2 := (List.getElem?_eq_some_iff.mp hxn).1
      refine ⟨hw _, yes_go (he n x H' (e1.trans e2) hxn _ fun v H3 e3 hv => ⟨acc, e3 _ _ hacc, sz_lt (by omega), Ex.mut (e2.trans e3) hD, acc ++ [v], upd_same, by rw [List.length_append, hn]; rfl, fun i u hu => ?_⟩)⟩
      have hs : Stab H3 (upd H3 Dl (.lst (acc ++ [v]))) := Stab.upd (e3 _ _ hacc)
      by_cases hi : i < acc.length
      · rw [List.getElem?_append_left hi] at hu
        exact hst _ _ _ _ ((Stab.ex e3).trans hs) (hP i u hu)
      · rw [List.getElem?_append_right (by omega)] at hu
        have e0 : i - acc.length = 0 := by
          have := (List.getElem?_eq_some_iff.mp hu).1
          simp at this
          omega
        rw [e0] at hu
        cases Option.some.inj hu
        rw [show i = n by omega]
        exact hst _ _ _ _ hs hv) (fun H' p => by
      obtain ⟨e2, acc, hacc, hn, hP⟩ := p
      exact q Dl acc H' (fresh_back e1 hD) (e1.trans e2) hacc hn hP)⟩
structure Row where
  s : FStep
  lo : Int
  hi : Int
def rowT (r : Row) : List Nat := TL.joinL [32] (rowL r.s r.lo r.hi)
def linesL (b : Int) (rs : List Row) : List (List Nat) := TL.joinL [32] (headL b) :: rs.map rowT
/-- a paper's text -/
def textL (b : Int) (rs : List Row) : List Nat := TL.joinL [10] (linesL b rs) ++ [10]
theorem free10i (i : Int) : 10 ∉ intL i := by
  unfold intL
  split
  · intro h
    rcases List.mem_cons.mp h with h | h
    · omega
    · exact TL.numL_free (.inl (by decide)) h
  · exact TL.numL_free (.inl (by decide))
theorem joinL_free {c d : Nat} (hd : d ≠ c) : ∀ ps : List (List Nat), (∀ p ∈ ps, d ∉ p) → d ∉ TL.joinL [c] ps
  | [], _ => fun h => by simp [TL.joinL] at h
  | [p], h => h p (by simp)
  | p :: q :: r, h => by
    intro hm
    have hm2 : d ∈ p ++ ([c] ++ TL.joinL [c] (q :: r)) := hm
    rcases List.mem_append.mp hm2 with h1 | h1
    · exact h p (by simp) h1
    · rcases List.mem_append.mp h1 with h2 | h2
      · exact hd (List.mem_singleton.mp h2)
      · exact joinL_free hd (q :: r) (fun z hz => h z (List.mem_cons_of_mem _ hz)) h2
structure RowsOk (b : Int) (rs : List Row) : Prop where
  b1 : 8 ≤ b ∧ b ≤ 4096
  row : ∀ r ∈ rs, RowOk r.s r.lo r.hi
  w : ∀ r ∈ rs, 10 ∉ r.s.1.cps.toList
  le : ∀ r ∈ rs, r.lo ≤ r.hi
  form : OkForm (rs.map Row.s)
  ne : rs ≠ []
  few : rs.length ≤ 20
  len : (textL b rs).length ≤ 40000
theorem lines_free {b : Int} {rs : List Row} (R : RowsOk b rs) : ∀ p ∈ linesL b rs, 10 ∉ p := fun p hp => by
  rcases List.mem_cons.mp hp with rfl | hp
  · refine joinL_free (by decide) _ fun z hz => ?_
    unfold headL at hz
    simp only [List.mem_cons, List.not_mem_nil, or_false] at hz
    rcases hz with rfl | rfl
    · decide
    · exact free10i b
  · obtain ⟨r, hr, rfl⟩ := List.mem_map.mp hp
    refine joinL_free (by decide) _ fun z hz => ?_
    unfold rowL at hz
    rcases List.mem_cons.mp hz with rfl | hz
    · exact R.w r hr
    · rcases List.mem_append.mp hz with hz | hz
      · obtain ⟨i, _, rfl⟩ := List.mem_map.mp hz
        exact free10i i
      · simp only [List.mem_cons, List.not_mem_nil, or_false] at hz
        rcases hz with rfl | rfl | rfl
        · decide
        · exact free10i _
        · exact free10i _
theorem ends10 (a : List Nat) : Txt.endswith (S (a ++ [10])) (S [10]) = true := by
  unfold Txt.endswith
  rw [S_len, S_len, List.length_append]
  simp [Builtin.Str.subAt, S_len]
open Kn in
/-- tuple([e for x in xs]) -/
theorem tupP {σ : L2.St} {H : Hp} {te tl : TE} {j : Nat} {ws : List Nat} {xs : List V} {Q : VK} (Pr : Nat → V → Hp → Prop) (hst : ∀ i v H H', Stab H H' → Pr i v H → Pr i v H') (h : ∀ H1, Ex H H1 → ∀ Q : VK, (∀ a H2, Ex H1 H2 → SqL K H2 a xs → (∃ z, H2 a = some (.lst z)) → Q (.ref a) H2) → tl σ H1 Q) (hz : xs.length ≤ 1000) (hw : ∀ x, wipe ((wipe σ ws).set j (some x)) ws = wipe σ ws)
    (he : ∀ (i : Nat) (x : V) H1, Ex H H1 → xs[i]? = some x → ∀ Q : VK, (∀ v H2, Ex H1 H2 → Pr i v H2 → Q v H2) → te ((wipe σ ws).set j (some x)) H1 Q)
    (q : ∀ a vs H2, H a = none → Ex H H2 → H2 a = some (.tup vs) → vs.length = xs.length → (∀ i v, vs[i]? = some v → Pr i v H2) → Q (.ref a) H2) :
    tCB (fun xs H Q => ∃ p ys, xs = [.ref p] ∧ ((SqL K H p ys ∧ ∀ l, H l = none → Q (.ref l) (upd H l (.tup ys))) ∨ (SqT K H p ys ∧ Q (.ref p) H))) (tCons (tLc (iList K tl) (gName j) tYes te ws) tNil) σ H Q :=
  h H (Ex.refl H) _ fun a H1 e1 hx _ => ⟨a, rfl, ⟨xs, hx⟩, fun Dl hD =>
    lc_list (xs := xs) (fun n H' => Ex H1 H' ∧ ∃ acc, H' Dl = some (.lst acc) ∧ acc.length = n ∧ ∀ i v, acc[i]? = some v → Pr i v H') ⟨Ex.new hD, [], upd_same, rfl, fun i v z => by simp at z⟩ (fun n H' _ p => ex_l p.1 hx) (fun n x H' hxn p => by
      obtain ⟨e2, acc, hacc, hn, hP⟩ := p
      have hn2 := (List.getElem?_eq_some_iff.mp hxn).1
      refine ⟨hw _, yes_go (he n x H' (e1.trans e2) hxn _ fun v H3 e3 hv => ⟨acc, e3 _ _ hacc, sz_lt (by omega), Ex.mut (e2.trans e3) hD, acc ++ [v], upd_same, by rw [List.length_append, hn]; rfl, fun i u hu => ?_⟩)⟩
      have hs : Stab H3 (upd H3 Dl (.lst (acc ++ [v]))) := Stab.upd (e3 _ _ hacc)
      by_cases hi : i < acc.length
      · rw [List.getElem?_append_left hi] at hu
        exact hst _ _ _ _ ((Stab.ex e3).trans hs) (hP i u hu)
      · rw [List.getElem?_append_right (by omega)] at hu
        have e0 : i - acc.length = 0 := by
          have := (List.getElem?_eq_some_iff.mp hu).1
          simp at this
          omega
        rw [e0] at hu
        cases Option.some.inj hu
        rw [show i = n by omega]
        exact hst _ _ _ _ hs hv) (fun H' p => by
      obtain ⟨e2, acc, hacc, hn, hP⟩ := p
      exact ⟨Dl, acc, rfl, .inl ⟨sq_of hacc, fun r hr => q r acc _ (fresh_back (e1.trans e2) hr) ((e1.trans e2).trans (Ex.new hr)) upd_same hn fun i v hv => hst _ _ _ _ (Stab.ex (Ex.new hr)) (hP i v hv)⟩⟩)⟩
theorem q_asgLP {D : Ends} {tz : TS} {σ : L2.St} {H : Hp} {te tl : TE} {j k : Nat} {ws : List Nat} {xs : List V} (Pr : Nat → V → Hp → Prop) (hst : ∀ i v H H', Kn.Stab H H' → Pr i v H → Pr i v H') (h : EvL tl σ H xs) (hz : xs.length ≤ 1000) (hw : ∀ x, wipe ((wipe σ ws).set j (some x)) ws = wipe σ ws)
    (he : ∀ (i : Nat) (x : V) H1, Ex H H1 → xs[i]? = some x → ∀ Q : VK, (∀ v H2, Ex H1 H2 → Pr i v H2 → Q v H2) → te ((wipe σ ws).set j (some x)) H1 Q)
    (q : ∀ L vs H2, H L = none → Ex H H2 → H2 L = some (.lst vs) → vs.length = xs.length → (∀ i v, vs[i]? = some v → Pr i v H2) → tz D (σ.set k (some (.ref L))) H2) : tSeq (tAsg (tLc (iList K tl) (gName j) tYes te ws) (gName k)) tz D σ H := lcP (K := K) (Q := fun v H1 => tz D (σ.set k (some v)) H1) Pr hst h hz hw he q
theorem go_ev {te : TE} {σ : L2.St} {H : Hp} {v : V} {Q : VK} (h : Ev te σ H v) (q : ∀ H2, Ex H H2 → Q v H2) : te σ H Q := h H (Ex.refl H) Q q
def spRead : Sp := fun vs H Q _ => ∃ (b : Int) (rs : List Row), vs = [.str (S (textL b rs))] ∧ RowsOk b rs ∧ ∀ a f p us H2, H a = none → Ex H H2 → H2 a = some (.tup [.ref f, .ref p]) → H2 f = some (.tup us) → StepsAt H2 us (rs.map Row.s) → PaperAt H2 p b (rs.map fun r => (r.lo, r.hi)) → Q (.ref a) H2
theorem row_st {s : FStep} {lo hi : Int} {v : V} {H H' : Hp} (x : Kn.Stab H H') (h : RowAt H v s lo hi) : RowAt H' v s lo hi := by
  obtain ⟨a, p, e, h0, h1, h2, h3⟩ := h
  exact ⟨a, p, e, h0, x.tup _ _ h1, x.tup _ _ h2, x.tup _ _ h3⟩
theorem ok_read {f f0 f1 f2 f3 C : Addr} {fd fd0 fd1 fd2 fd3 : FuncData} (F : Fun K "read_paper" "read_paper" s_read_paper f fd) (T : Err K mg C)
    (G_read_head : FnOk P w K mg base (L2.CX P w) 2 f0 fd0 ["line"] spHead) (F_read_head : Fun K "read_head" "read_head" s_read_head f0 fd0) (b_read_head : Binds K fd0 ["line"] []) (g_read_head : mg "read_head" = some (.ref f0))
    (G_read_row : FnOk P w K mg base (L2.CX P w) 2 f1 fd1 ["line"] spRow) (F_read_row : Fun K "read_row" "read_row" s_read_row f1 fd1) (b_read_row : Binds K fd1 ["line"] []) (g_read_row : mg "read_row" = some (.ref f1))
    (G_is_formula : FnOk P w K mg base CX0 4 f2 fd2 ["value"] spIsForm) (F_is_formula : Fun K "is_formula" "is_formula" s_is_formula f2 fd2) (b_is_formula : Binds K fd2 ["value"] []) (g_is_formula : mg "is_formula" = some (.ref f2))
    (G_is_paper : FnOk P w K mg base CX0 4 f3 fd3 ["value"] spIsPaper) (F_is_paper : Fun K "is_paper" "is_paper" s_is_paper f3 fd3) (b_is_paper : Binds K fd3 ["value"] []) (g_is_paper : mg "is_paper" = some (.ref f3))
    (m_tuple : mg "tuple" = none) : FnOk P w K mg base (L2.CX P w) 5 f fd ["text"] spRead := by
  have x_InvalidText := T.x
  have g_InvalidText := T.g
  have k_InvalidText := T.k
  have b_InvalidText := T.b
  have t_InvalidText := T.t
  refine F.okX sc_read_paper (fun vs H Q E h => ?_) (fun cdv A outer s H vs Q E hr h => ?_)
  · obtain ⟨b, rs, rfl, _⟩ := h
    rfl
  · obtain ⟨b, rs, rfl, R, q⟩ := h
    refine ⟨_, (pss_cons (ps_if (pt_not (pt_val (pe_m1 PySem.F.slot_str_endswith PySem.F.type_str_endswith mt_endswith (pv 0) pe_str))) (pss_one (ps_raise rfl (takes_of rfl rfl rfl rfl) (pmk_own PySem.F.excBase_ValueError x_InvalidText g_InvalidText k_InvalidText (raises_own b_InvalidText t_InvalidText) (by rfl)))) pss_nil)
        (pss_cons (ps_set (i := 1) sc_read_paper.nd rfl (.inl rfl) (pe_split (pe_slice C8.sl_txt (pv 0) po_none (po_some (pe_un un_neg pe_int))) pe_str))
        (pss_cons (ps_set (i := 2) sc_read_paper.nd rfl (.inl rfl) (pe_call G_read_head (hr.mono (by decide)) (by rfl) g_read_head F_read_head.kp b_read_head .nil passL (pa_cons (pe_ix ix_list (pv 1) pe_int (fun _ _ => rfl)) pa_nil)))
        (pss_cons (ps_setLc (i := 3) (own := [("line", 4)]) (g := gName 4) rfl sc_read_paper.nd rfl rfl (sw_true rfl rfl rfl (by decide +kernel)) (pi_list (pe_slice sl_list (pv 1) (po_some pe_int) po_none)) (blkOk_by (own := [("line", 4)]) (N := ["text", "lines", "bits", "rows", "line", "formula", "row", "paper"]) (sc := defScope s_read_paper) (by decide +kernel)) (fun _ _ _ _ _ => (pg_name (i := 4) sc_read_paper.nd rfl (.inl rfl))) (fun _ _ _ _ _ => pts_nil) (fun _ _ _ _ _ => (pe_call G_read_row (hr.mono (by decide)) (by rfl) g_read_row F_read_row.kp b_read_row .nil passL (pa_cons (pv 4) pa_nil))))
        (pss_cons (ps_set (i := 5) sc_read_paper.nd rfl (.inl rfl) (pe_callTy call_tuple_of (by rfl) m_tuple (by decide +kernel) (pa_cons (pe_lc (own := [("row", 6)]) (g := gName 6) rfl sc_read_paper.nd (pi_list (pv 3)) (blkOk_by (own := [("row", 6)]) (N := ["text", "lines", "bits", "rows", "line", "formula", "row", "paper"]) (sc := defScope s_read_paper) (by decide +kernel)) (fun _ _ _ _ _ => (pg_name (i := 6) sc_read_paper.nd rfl (.inl rfl))) (fun _ _ _ _ _ => pts_nil) (fun _ _ _ _ _ => (pe_ix (r := rIxT K) ix_tup (pv 6) pe_int (fun _ _ => rfl)))) pa_nil)))
        (pss_cons (ps_set (i := 7) sc_read_paper.nd rfl (.inl rfl) (pe_tup (pa_cons (pv 2) (pa_cons (pe_callTy call_tuple_of (by rfl) m_tuple (by decide +kernel) (pa_cons (pe_lc (own := [("row", 6)]) (g := gName 6) rfl sc_read_paper.nd (pi_list (pv 3)) (blkOk_by (own := [("row", 6)]) (N := ["text", "lines", "bits", "rows", "line", "formula", "row", "paper"]) (sc := defScope s_read_paper) (by decide +kernel)) (fun _ _ _ _ _ => (pg_name (i := 6) sc_read_paper.nd rfl (.inl rfl))) (fun _ _ _ _ _ => pts_nil) (fun _ _ _ _ _ => (pe_ix (r := rIxT K) ix_tup (pv 6) pe_int (fun _ _ => rfl)))) pa_nil)) pa_nil))))
        (pss_cons (ps_if (PW.pt (pw_or (pt_not (pt_val (pe_call G_is_formula (hr.mono (by decide)) (by rfl) g_is_formula F_is_formula.kp b_is_formula .nil pass0 (pa_cons (pv 5) pa_nil)))) (pw_or1 (pt_not (pt_val (pe_call G_is_paper (hr.mono (by decide)) (by rfl) g_is_paper F_is_paper.kp b_is_paper .nil pass0 (pa_cons (pv 7) pa_nil))))))) (pss_one (ps_raise rfl (takes_of rfl rfl rfl rfl) (pmk_own PySem.F.excBase_ValueError x_InvalidText g_InvalidText k_InvalidText (raises_own b_InvalidText t_InvalidText) (by rfl)))) pss_nil)
        (pss_one (ps_ret (pe_tup (pa_cons (pv 5) (pa_cons (pv 7) pa_nil)))))))))))), ?_⟩
    have hlen := R.len
    have hlen2 : (TL.joinL [10] (linesL b rs)).length ≤ 40000 := by
      have : (TL.joinL [10] (linesL b rs) ++ [10]).length ≤ 40000 := hlen
      rw [List.length_append] at this
      omega
    refine q_when (b := false) (et_is (et_not (et_B (ev_m1 (ev_var rfl) ev_c))) (congrArg (fun z => !z) (ends10 (TL.joinL [10] (linesL b rs))))) (fun z => nomatch z) fun _ H1 e1 => ?_
    -- lines
    refine q_asgL (el_split (parts := linesL b rs) (ev_sl (a := textL b rs) (ev_var rfl) eo_none (eo_some (ev_un (x := .int 1) ev_c ru_neg)) (by omega) (SX.butlast_snoc _ _)) ev_c (by decide) (List.cons_ne_nil _ _) (lines_free R) (by omega)) fun l H2 nl e2 hl => ?_
    refine st_is (σ' := [_, _, _, _, _, _, _, _]) rfl ?_
    have hxs : ((linesL b rs).map S).map V.str = .str (S (TL.joinL [32] (headL b))) :: rs.map (fun r => V.str (S (rowT r))) := by
      unfold linesL
      rw [List.map_cons, List.map_cons, List.map_map, List.map_map]
      rfl
    rw [hxs] at hl
    -- bits
    have hb4 : (intL b).length ≤ 600 := by
      have h1 := R.b1
      unfold intL
      rw [if_neg (by omega)]
      have := num_len 3 b.natAbs (by omega)
      omega
    refine q_asg (ev_call (z := .int b) (ea_cons (ev_op (ev_var rfl) ev_c (rv_ixL (sq_of hl) (atI_nat (j := 0) rfl))) ea_nil) (fun H3 e3 Q3 q3 E3 => ⟨b, rfl, hb4, q3⟩)) fun H3 e3 => ?_
    refine st_is (σ' := [_, _, _, _, _, _, _, _]) rfl ?_
    replace hl := e3 _ _ hl
    -- rows
    have hsl := el_sl (σ := [some (.str (S (textL b rs))), some (.ref l), some (.int b), none, none, none, none, none]) (te := tVar 1) (ev_var rfl) (eo_some (i := 1) ev_c) eo_none (sq_of (K := K) hl)
    rw [cut1] at hsl
    refine q_asgLP (fun i v H => ∃ r, rs[i]? = some r ∧ RowAt H v r.s r.lo r.hi) (fun i v H H' x h => let ⟨r, h1, h2⟩ := h; ⟨r, h1, row_st x h2⟩) hsl (by rw [List.drop_succ_cons, List.drop_zero, List.length_map]; have := R.few; omega) (fun x => rfl) (fun i x H4 e4 hx Q1 k1 => ?_) fun L vs4 H4 nL e4 hL hvl hP => ?_
    · rw [List.drop_succ_cons, List.drop_zero, List.getElem?_map] at hx
      obtain ⟨r, h1, rfl⟩ := Option.map_eq_some_iff.mp hx
      exact ⟨_, rfl, r.s, r.lo, r.hi, rfl, R.row r (List.mem_of_getElem? h1), fun v H5 e5 ra => k1 v H5 e5 ⟨r, h1, ra⟩⟩
    refine st_is (σ' := [_, _, _, _, _, _, _, _]) rfl ?_
    have hvl2 : vs4.length = rs.length := by
      rw [hvl, List.drop_succ_cons, List.drop_zero, List.length_map]
    have hP2 : ∀ (i : Nat) v r, vs4[i]? = some v → rs[i]? = some r → RowAt H4 v r.s r.lo r.hi := fun i v r h1 h2 => by
      obtain ⟨r2, h3, h4⟩ := hP i v h1
      rw [h2] at h3
      cases Option.some.inj h3
      exact h4
    clear hP hsl hl
    have hfew := R.few
    have tl4 : ∀ {σ : L2.St} {H4' : Hp}, σ[3]? = some (some (.ref L)) → Ex H4 H4' → ∀ H1, Ex H4' H1 → ∀ Q : VK, (∀ a H2, Ex H1 H2 → SqL K H2 a vs4 → (∃ z, H2 a = some (.lst z)) → Q (.ref a) H2) → (tVar 3) σ H1 Q := fun h x H1 e1 Q k => ⟨.ref L, h, k L H1 (Ex.refl H1) (sq_of (e1 _ _ (x _ _ hL))) ⟨_, e1 _ _ (x _ _ hL)⟩⟩
    -- formula
    refine q_asgP (fun v H5 => ∃ a vs, v = .ref a ∧ H5 a = some (.tup vs) ∧ StepsAt H5 vs (rs.map Row.s)) (fun Q1 k1 => ?_) fun v H5 e5 hF => ?_
    · refine tupP (xs := vs4) (fun i v H => ∃ r, rs[i]? = some r ∧ StepAt H v r.s) (fun i v H H' x h => let ⟨r, h1, p, h2, h3⟩ := h; ⟨r, h1, p, h2, x.tup _ _ h3⟩) (tl4 rfl (Ex.refl _)) (by omega) (fun x => rfl) (fun i x H6 e6 hx Q2 k2 => ?_) fun a vs H6 _ e6 ha hal hPa => k1 _ _ e6 ⟨a, vs, rfl, ha, ?_⟩
      · have hi : i < rs.length := by
          have := (List.getElem?_eq_some_iff.mp hx).1
          omega
        obtain ⟨a, p, e, rfl, h1, h2, h3⟩ := hP2 i x rs[i] hx (List.getElem?_eq_getElem hi)
        exact go_ev (ev_op (ev_var rfl) ev_c (rv_ixT (st_of (K := K) (e6 _ _ h1)) rfl)) fun H7 e7 => k2 _ _ e7 ⟨rs[i], List.getElem?_eq_getElem hi, p, rfl, (e6.trans e7) _ _ h2⟩
      · refine ⟨by rw [hal, List.length_map]; exact hvl2, fun i v s h1 h2 => ?_⟩
        rw [List.getElem?_map] at h2
        obtain ⟨r, h3, rfl⟩ := Option.map_eq_some_iff.mp h2
        obtain ⟨r2, h4, h5⟩ := hPa i v h1
        rw [h3] at h4
        cases Option.some.inj h4
        exact h5
    obtain ⟨fa, us, rfl, hfa, hst⟩ := hF
    refine st_is (σ' := [_, _, _, _, _, _, _, _]) rfl ?_
    -- paper
    refine q_asgP (fun v H6 => ∃ a, v = .ref a ∧ PaperAt H6 a b (rs.map fun r => (r.lo, r.hi))) (fun Q1 k1 => ?_) fun v H6 e6 hF => ?_
    · refine ⟨_, rfl, ?_⟩
      refine tupP (xs := vs4) (fun i v H => ∃ r, rs[i]? = some r ∧ EncAt H v (r.lo, r.hi)) (fun i v H H' x h => let ⟨r, h1, p, h2, h3⟩ := h; ⟨r, h1, p, h2, x.tup _ _ h3⟩) (tl4 rfl e5) (by omega) (fun x => rfl) (fun i x H6 e6 hx Q2 k2 => ?_) fun a vs H6 _ e6 ha hal hPa => ⟨by show 2 ≤ sizeLine; decide, fun c hc => k1 _ _ (e6.trans (Ex.new hc)) ⟨c, rfl, a, vs, upd_same, Ex.new hc _ _ ha, EncsAt.mono (Ex.new hc) ?_⟩⟩
      · have hi : i < rs.length := by
          have := (List.getElem?_eq_some_iff.mp hx).1
          omega
        obtain ⟨a, p, e, rfl, h1, h2, h3⟩ := hP2 i x rs[i] hx (List.getElem?_eq_getElem hi)
        exact go_ev (ev_op (ev_var rfl) ev_c (rv_ixT (st_of (K := K) ((e5.trans e6) _ _ h1)) rfl)) fun H7 e7 => k2 _ _ e7 ⟨rs[i], List.getElem?_eq_getElem hi, e, rfl, (e5.trans (e6.trans e7)) _ _ h3⟩
      · refine ⟨by rw [hal, List.length_map]; exact hvl2, fun i v s h1 h2 => ?_⟩
        rw [List.getElem?_map] at h2
        obtain ⟨r, h3, rfl⟩ := Option.map_eq_some_iff.mp h2
        obtain ⟨r2, h4, h5⟩ := hPa i v h1
        rw [h3] at h4
        cases Option.some.inj h4
        exact h5
    obtain ⟨pa, rfl, hpa⟩ := hF
    refine st_is (σ' := [_, _, _, _, _, _, _, _]) rfl ?_
    have hne : rs.map Row.s ≠ [] := fun z => R.ne (List.map_eq_nil_iff.mp z)
    refine q_when (b := false) (et_is (et_or (a := false) (b := false) (et_is (et_not (et_B (ev_call (z := .bl true) (ea_cons (ev_var rfl) ea_nil) (fun H7 e7 Q7 q7 E7 => ⟨fa, us, _, rfl, (e6.trans e7) _ _ hfa, hst.mono (e6.trans e7), R.form, hne, q7⟩)))) rfl) fun _ => (et_is (et_not (et_B (ev_call (z := .bl true) (ea_cons (ev_var rfl) ea_nil) (fun H7 e7 Q7 q7 E7 => ⟨pa, b, _, rfl, hpa.mono e7, R.b1, fun e he => by
        obtain ⟨r, hr, rfl⟩ := List.mem_map.mp he
        exact R.le r hr, q7⟩)))) rfl)) rfl) (fun z => nomatch z) fun _ H7 e7 => ?_
    refine s_retU (eu_tup (ea_cons (ev_var rfl) (ea_cons (ev_var rfl) ea_nil)) (show 2 ≤ 100000 by decide)) fun a H8 na e8 ha => ?_
    have e17 := e1.trans (e2.trans (e3.trans (e4.trans (e5.trans (e6.trans e7)))))
    exact q a fa pa us H8 (fresh_back e17 na) (e17.trans e8) ha ((e6.trans (e7.trans e8)) _ _ hfa) (hst.mono (e6.trans (e7.trans e8))) (hpa.mono (e7.trans e8))
/-! ### the text written -/
def Sm (n : Nat) : Prop := n < 10 ^ 300
theorem lg {n k : Nat} (h : n < 2 ^ k) (hk : 0 < k) : n.log2 < k := by
  by_cases h0 : n = 0
  · subst h0
    exact hk
  · exact (Nat.log2_lt h0).mpr h
theorem sm_lg {n : Nat} (h : Sm n) : n.log2 < 1920 := lg (Nat.lt_of_lt_of_le h (by decide +kernel)) (by decide)
theorem sm_len {n : Nat} (h : Sm n) : (numL n).length ≤ 300 := num_len 299 n h
theorem sm_int {i : Int} (h : Sm i.natAbs) : (intL i).length ≤ 301 := by
  have := sm_len h
  unfold intL
  split
  · rw [List.length_cons]
    omega
  · omega
structure RowSm (r : Row) : Prop where
  n : r.s.2 = [] ∨ (∃ i, r.s.2 = [i]) ∨ ∃ i j, r.s.2 = [i, j]
  w : r.s.1.cps.toList.length ≤ 20
  args : ∀ i ∈ r.s.2, Sm i.natAbs
  lo : Sm r.lo.natAbs
  hi : Sm r.hi.natAbs
def wordsL (s : FStep) : List (List Nat) := s.1.cps.toList :: s.2.map intL
theorem row_words {r : Row} (h : RowSm r) : rowT r = TL.joinL [32] (wordsL r.s) ++ [32, 58, 32] ++ intL r.lo ++ [32] ++ intL r.hi := by
  unfold rowT rowL wordsL
  rcases h.n with e | ⟨i, e⟩ | ⟨i, j, e⟩ <;> rw [e] <;> simp [TL.joinL]
theorem words_len {r : Row} (h : RowSm r) : (TL.joinL [32] (wordsL r.s)).length ≤ 1000 := by
  have h1 := h.w
  have h2 := h.args
  have h3 := joinL_len 32 (wordsL r.s)
  have h4 : (wordsL r.s).flatten.length ≤ 630 ∧ (wordsL r.s).length ≤ 3 := by
    unfold wordsL
    generalize r.s.1.cps.toList = w0 at h1 ⊢
    rcases h.n with e | ⟨i, e⟩ | ⟨i, j, e⟩ <;> rw [e] at h2 ⊢
    · simp
      omega
    · have h5 := sm_int (h2 i (by simp))
      simp
      omega
    · have h5 := sm_int (h2 i (by simp))
      have h6 := sm_int (h2 j (by simp))
      simp
      omega
  omega
theorem row_len {r : Row} (h : RowSm r) : (rowT r).length ≤ 1700 := by
  have h1 := words_len h
  have h2 := sm_int h.lo
  have h3 := sm_int h.hi
  rw [row_words h]
  simp
  omega
theorem lines_flat (c : Nat) : ∀ ps : List (List Nat), ps ≠ [] → TL.joinL [c] ps ++ [c] = (ps.map (· ++ [c])).flatten
  | [], h => absurd rfl h
  | [p], _ => by simp [TL.joinL]
  | p :: q :: r, _ => by
    have h := lines_flat c (q :: r) (List.cons_ne_nil _ _)
    show (p ++ ([c] ++ TL.joinL [c] (q :: r))) ++ [c] = (p ++ [c]) ++ ((q :: r).map (· ++ [c])).flatten
    rw [← h]
    simp
section
variable {σ : L2.St} {H : Hp} {ta tb te to : TE} {a b : List Nat}
theorem ev_fmt (h : Ev te σ H (.str (S a))) (hz : a.length ≤ 100000) : Ev (tFmt te) σ H (.str (S a)) := fun H1 e1 Q q => h H1 e1 _ fun H2 e2 => .inl ⟨S a, rfl, by
  rw [S_len]
  exact sz_of hz, q H2 e2⟩
theorem ev_fmtI {i : Int} (h : Ev te σ H (.int i)) (hz : Sm i.natAbs) : Ev (tFmt te) σ H (.str (S (intL i))) := fun H1 e1 Q q => h H1 e1 _ fun H2 e2 => .inr ⟨i, rfl, sm_lg hz, by
  have e := int_text i
  show Q (.str (Str.ofString (toString i))) H2
  rw [e]
  exact q H2 e2⟩
inductive Js (σ : L2.St) (H : Hp) : List TE → List (List Nat) → Prop
  | nil : Js σ H [] []
  | cons {t : TE} {ts : List TE} {a : List Nat} {as : List (List Nat)} : Ev t σ H (.str (S a)) → Js σ H ts as → Js σ H (t :: ts) (a :: as)
theorem js_run : ∀ {ts : List TE} {as : List (List Nat)}, Js σ H ts as → ∀ (acc : List Nat) (H1 : Hp) (Q : Str → Hp → Prop), Ex H H1 → acc.length + as.flatten.length ≤ 100000 → (∀ H2, Ex H1 H2 → Q (S (acc ++ as.flatten)) H2) → tJs ts (S acc) σ H1 Q
  | _, _, .nil, acc, H1, Q, e, hz, q => by
    have := q H1 (Ex.refl H1)
    rw [List.flatten_nil, List.append_nil] at this
    exact this
  | _, _, .cons (a := a) (as := as) h r, acc, H1, Q, e, hz, q => h H1 e _ fun H2 e2 => ⟨S a, rfl, by
    rw [S_cat, S_len]
    rw [List.flatten_cons, List.length_append] at hz
    exact sz_of (by rw [List.length_append]; omega), by
    rw [S_cat]
    refine js_run r (acc ++ a) H2 Q (e.trans e2) (by rw [List.length_append]; rw [List.flatten_cons, List.length_append] at hz; omega) fun H3 e3 => ?_
    have := q H3 (e2.trans e3)
    rw [List.flatten_cons, ← List.append_assoc] at this
    exact this⟩
theorem ev_js {ts : List TE} {as : List (List Nat)} (h : Js σ H ts as) (hz : as.flatten.length ≤ 100000) : Ev (fun σ H Q => tJs ts Str.empty σ H fun out H1 => Q (.str out) H1) σ H (.str (S as.flatten)) := fun H1 e Q q =>
  js_run h [] H1 _ e (by simpa using hz) fun H2 e2 => q H2 e2
end
/-- ' '.join([str(part) for part in step]) -/
theorem ev_words {σ : L2.St} {H : Hp} {tl : TE} {j : Nat} {p : Addr} {r : Row} (R : RowSm r) (h : Ev tl σ H (.ref p)) (hp : H p = some (.tup (stV r.s))) (hw : ∀ x, wipe ((wipe σ [j]).set j (some x)) [j] = wipe σ [j]) (hj : ∀ x, ((wipe σ [j]).set j (some x))[j]? = some (some x)) :
    Ev (tM1 (fun x xs H Q => ∃ a p, ∃ ys : List Str, x = .str a ∧ xs = [.ref p] ∧ (SqL K H p (ys.map V.str) ∨ SqT K H p (ys.map V.str)) ∧ (ys.map (·.length)).sum + ys.length * a.length ≤ 16777216 ∧ Q (.str (Txt.join a ys)) H) (tC (.str " ")) (tLc (iTup K tl) (gName j) tYes (tCB rStrAny (tCons (tVar j) tNil)) [j])) σ H (.str (S (TL.joinL [32] (wordsL r.s)))) := fun H1 e Q q => by
  have hl : (stV r.s).length ≤ 3 := by
    unfold stV
    rcases R.n with e | ⟨i, e⟩ | ⟨i, j, e⟩ <;> rw [e] <;> simp
  have el : EvL (tLc (iTup K tl) (gName j) tYes (tCB rStrAny (tCons (tVar j) tNil)) [j]) σ H ((wordsL r.s).map fun z => V.str (S z)) := by
    have h0 : EvL (tLc (iTup K tl) (gName j) tYes (tCB rStrAny (tCons (tVar j) tNil)) [j]) σ H (given (stV r.s).length (fun _ => true) (fun i => V.str (S ((wordsL r.s).getD i [])))) := fun H0 e Q q => h H0 e _ fun H1 e1 => ⟨p, rfl, ⟨stV r.s, st_of ((e.trans e1) _ _ hp)⟩, fun Dl hD =>
      lc_tup (xs := stV r.s) (Cw H1 (fun _ => true) _ Dl) ⟨hD, Ex.new hD, upd_same⟩ (fun i H' _ z => st_of (((e.trans e1).trans z.2.1) _ _ hp)) (fun i x H' hi z => ⟨hw x, cw_turn z (by have := (List.getElem?_eq_some_iff.mp hi).1; omega) (fun H3 _ Q3 q3 => q3 H3 (Ex.refl H3)) (fun hf => ?_)⟩)
        (fun H' z => q Dl H' (fresh_back e1 z.1) (e1.trans z.2.1) z.2.2)⟩
    · have e9 : (stV r.s).map (fun v => v) = stV r.s := List.map_id _
      have e3 : given (stV r.s).length (fun _ => true) (fun i => V.str (S ((wordsL r.s).getD i []))) = (wordsL r.s).map fun z => V.str (S z) := by
        rw [given_all]
        unfold stV wordsL
        rcases R.n with e | ⟨i, e⟩ | ⟨i, j, e⟩ <;> rw [e] <;> rfl
      rw [← e3]
      exact h0
    · refine ev_cb (ea_cons (ev_var (hj x)) ea_nil) (fun H4 _ Q4 q4 => ?_)
      have key : (i = 0 ∧ x = .str r.s.1) ∨ ∃ n, x = .int n ∧ n ∈ r.s.2 ∧ (wordsL r.s).getD i [] = intL n := by
        unfold stV at hi
        unfold wordsL
        cases i with
        | zero => exact .inl ⟨rfl, (Option.some.inj hi).symm⟩
        | succ i =>
          have hi2 : (r.s.2.map V.int)[i]? = some x := hi
          rw [List.getElem?_map] at hi2
          obtain ⟨n, h1, rfl⟩ := Option.map_eq_some_iff.mp hi2
          refine .inr ⟨n, rfl, List.mem_of_getElem? h1, ?_⟩
          show (r.s.2.map intL).getD i [] = intL n
          rw [List.getD_eq_getElem?_getD, List.getElem?_map, h1]
          rfl
      rcases key with ⟨rfl, rfl⟩ | ⟨n, rfl, hn, e5⟩
      · refine .inl ⟨r.s.1, rfl, ?_⟩
        have e6 := q4 H4 (Ex.refl H4)
        rw [show S ((wordsL r.s).getD 0 []) = r.s.1 from SX.S_tl r.s.1] at e6
        exact e6
      · refine .inr ⟨n, rfl, sm_lg (R.args n hn), ?_⟩
        rw [e5] at q4
        have e := int_text n
        show Q4 (.str (Str.ofString (toString n))) H4
        rw [e]
        exact q4 H4 (Ex.refl H4)
  refine ⟨⟨_, rfl⟩, el H1 e _ fun l H2 nl e2 hl2 => ⟨S [32], l, (wordsL r.s).map S, rfl, rfl, .inl (sq_of (by rw [hl2, List.map_map]; rfl)), ?_, ?_⟩⟩
  · rw [SX.lens, S_len, List.length_map, ← List.length_flatten]
    have h1 := words_len R
    have h4 : (wordsL r.s).flatten.length ≤ 100000 ∧ (wordsL r.s).length ≤ 100000 := by
      have h1 := R.w
      have h2 := R.args
      unfold wordsL
      generalize r.s.1.cps.toList = w0 at h1 ⊢
      rcases R.n with e | ⟨i, e⟩ | ⟨i, j, e⟩ <;> rw [e] at h2 ⊢
      · simp
        omega
      · have h5 := sm_int (h2 i (by simp))
        simp
        omega
      · have h5 := sm_int (h2 i (by simp))
        have h6 := sm_int (h2 j (by simp))
        simp
        omega
    show (wordsL r.s).flatten.length + (wordsL r.s).length * 1 ≤ 16777216
    omega
  · rw [SX.join_S]
    exact q H2 e2
theorem go_ta {ta : TA} {σ : L2.St} {H : Hp} {vs : List V} {Q : List V → Hp → Prop} (h : EvA ta σ H vs) (q : ∀ H2, Ex H H2 → Q vs H2) : ta σ H Q := h H (Ex.refl H) Q q
def spWrite : Sp := fun vs H Q _ => ∃ (fa pa : Addr) (us : List V) (b : Int) (rs : List Row), vs = [.ref fa, .ref pa] ∧ H fa = some (.tup us) ∧ StepsAt H us (rs.map Row.s) ∧ PaperAt H pa b (rs.map fun r => (r.lo, r.hi)) ∧ (∀ r ∈ rs, RowSm r) ∧ rs.length ≤ 20 ∧ Sm b.natAbs ∧ RetV (.str (S (textL b rs))) H Q
theorem ok_write {f : Addr} {fd : FuncData} (F : Fun K "write_paper" "write_paper" s_write_paper f fd) (m_str : mg "str" = none) (m_zip : mg "zip" = none) : FnOk P w K mg base CX0 1 f fd ["formula", "paper"] spWrite := by
  refine F.ok sc_write_paper (fun vs H Q E h => ?_) (fun cdv A outer s H vs Q E hr h => ?_)
  · obtain ⟨fa, pa, us, b, rs, rfl, _⟩ := h
    rfl
  · obtain ⟨fa, pa, us, b, rs, rfl, hfa, hst, ⟨r0, es, hpa, hr0, hes⟩, hsm, hfew, hb, q⟩ := h
    refine ⟨_, (pss_cons (ps_asg (pv 1) (pg_tup rfl (pgs_cons (pg_name (i := 2) sc_write_paper.nd rfl (.inl rfl)) (pgs_cons (pg_name (i := 3) sc_write_paper.nd rfl (.inl rfl)) pgs_nil))))
        (pss_cons (ps_set (i := 4) sc_write_paper.nd rfl (.inl rfl) (pe_lst (pa_cons (pe_joined (PJ.cons pe_str (PJ.cons (pe_fmt (pv 2)) (PJ.cons pe_str PJ.nil)))) pa_nil)))
        (pss_cons (ps_for PassesOwn.never rfl (RZ.pi_zipA (by rfl) m_zip (pa_cons (pv 0) (pa_cons (pv 3) pa_nil))) (pg_tup rfl (pgs_cons (pg_name (i := 5) sc_write_paper.nd rfl (.inl rfl)) (pgs_cons (pg_name (i := 6) sc_write_paper.nd rfl (.inl rfl)) pgs_nil))) (pss_cons (ps_set (i := 7) sc_write_paper.nd rfl (.inl rfl) (pe_join pe_str (pe_lc (own := [("part", 8)]) (g := gName 8) rfl sc_write_paper.nd (pi_tup (pv 5)) (blkOk_by (own := [("part", 8)]) (N := ["formula", "paper", "bits", "enclosures", "lines", "step", "enclosure", "words", "part"]) (sc := defScope s_write_paper) (by decide +kernel)) (fun _ _ _ _ _ => (pg_name (i := 8) sc_write_paper.nd rfl (.inl rfl))) (fun _ _ _ _ _ => pts_nil) (fun _ _ _ _ _ => (pe_callTy (T := "str") (r := rStrAny) call_str_any (by rfl) m_str (by decide +kernel) (pa_cons (pv 8) pa_nil))))))
        (pss_one (ps_expr (pe_bm PySem.F.plainAttrs_list PySem.F.slot_list_append PySem.F.type_list_append mt_append (pv 4) (pa_cons (pe_joined (PJ.cons (pe_fmt (pv 7)) (PJ.cons pe_str (PJ.cons (pe_fmt (pe_ix ix_tup (pv 6) pe_int (fun _ _ => rfl))) (PJ.cons pe_str (PJ.cons (pe_fmt (pe_ix ix_tup (pv 6) pe_int (fun _ _ => rfl))) (PJ.cons pe_str PJ.nil))))))) pa_nil))))))
        (pss_one (ps_ret (pe_join pe_str (pv 4))))))), ?_⟩
    refine ⟨_, rfl, pa, [.int b, .ref r0], rfl, st_of hpa, rfl, _, _, rfl, _, _, rfl, rfl, ?_⟩
    refine st_is (σ' := [_, _, _, _, _, _, _, _, _]) rfl ?_
    have hbl := sm_int hb
    have hhead : [paperL ++ [32], intL b, [10]].flatten = TL.joinL [32] (headL b) ++ [10] := by
      unfold headL
      simp [TL.joinL]
    refine q_asgL (el_lst (ea_cons (ev_is (ev_js (as := [paperL ++ [32], intL b, [10]]) (.cons ev_c (.cons (ev_fmtI (ev_var rfl) hb) (.cons ev_c .nil))) (by simp [paperL]; omega)) (congrArg (fun z => V.str (S z)) hhead)) ea_nil) (show 1 ≤ 100000 by decide)) fun l H1 nl e1 hl1 => ?_
    refine st_is (σ' := [_, _, _, _, _, _, _, _, _]) rfl ?_
    have hlen : us.length = es.length := by
      rw [hst.1, hes.1, List.length_map, List.length_map]
    have hul : us.length = rs.length := by
      rw [hst.1, List.length_map]
    refine ⟨_, rfl, _, rfl, fa, r0, us, es, rfl, .inr ⟨st_of (e1 _ _ hfa), st_of (e1 _ _ hr0), RZ.for_zipT hlen (fun i σ' H' => ∃ x5 x6 x7, σ' = [some (.ref fa), some (.ref pa), some (.int b), some (.ref r0), some (.ref l), x5, x6, x7, none] ∧ Ex H H' ∧ H' l = some (.lst (((TL.joinL [32] (headL b) :: (rs.take i).map rowT).map (· ++ [10])).map fun z => V.str (S z)))) ⟨_, _, _, rfl, e1, by rw [List.take_zero]; exact hl1⟩ (fun i σ' H' p => ?_) (fun i x y T σ' H' hx hy p hT => ?_) (fun σ' H' p => ?_)⟩⟩
    · obtain ⟨x5, x6, x7, _, e, _⟩ := p
      exact ⟨st_of (e _ _ hfa), st_of (e _ _ hr0)⟩
    · obtain ⟨x5, x6, x7, rfl, e, hl⟩ := p
      obtain ⟨s1, hs1, sp, rfl, hsp⟩ := hst.get hx
      obtain ⟨en, hen, ep, rfl, hep⟩ := hes.get hy
      rw [List.getElem?_map] at hs1 hen
      obtain ⟨r, hr1, rfl⟩ := Option.map_eq_some_iff.mp hs1
      rw [hr1] at hen
      cases Option.some.inj hen
      have R := hsm r (List.mem_of_getElem? hr1)
      have hi := (List.getElem?_eq_some_iff.mp hr1).1
      have e3 : Ex H (upd H' T (.tup [.ref sp, .ref ep])) := e.trans (Ex.new hT)
      have hl3 := Ex.new hT (o := .tup [.ref sp, .ref ep]) _ _ hl
      refine ⟨T, [.ref sp, .ref ep], rfl, .inl (.inl upd_same), rfl, _, _, rfl, _, _, rfl, rfl, ?_⟩
      refine st_is (σ' := [_, _, _, _, _, _, _, _, _]) rfl ?_
      refine q_asg (ev_words R (ev_var rfl) (e3 _ _ hsp) (fun x => rfl) (fun x => rfl)) fun H4 e4 => ?_
      refine st_is (σ' := [_, _, _, _, _, _, _, _, _]) rfl ?_
      have te : SqT K H4 ep [.int r.lo, .int r.hi] := st_of (e4 _ _ (e3 _ _ hep))
      have hw1 := words_len R
      have hlo := sm_int R.lo
      have hhi := sm_int R.hi
      have hrow : [TL.joinL [32] (wordsL r.s), [32, 58, 32], intL r.lo, [32], intL r.hi, [10]].flatten = rowT r ++ [10] := by
        rw [row_words R]
        simp
      refine s_app (e4 _ _ hl3) (ev_var rfl) (ev_is (ev_js (as := [TL.joinL [32] (wordsL r.s), [32, 58, 32], intL r.lo, [32], intL r.hi, [10]]) (.cons (ev_fmt (ev_var rfl) (by omega)) (.cons ev_c (.cons (ev_fmtI (ev_op (ev_var rfl) ev_c (rv_ixT te rfl)) R.lo) (.cons ev_c (.cons (ev_fmtI (ev_op (ev_var rfl) ev_c (rv_ixT te rfl)) R.hi) (.cons ev_c .nil)))))) (by simp; omega)) (congrArg (fun z => V.str (S z)) hrow)) (by
        rw [List.length_map, List.length_map, List.length_cons, List.length_map, List.length_take]
        omega) fun H5 e5 => ?_
      refine ⟨_, _, _, rfl, Ex.mut ((e3.trans e4).trans e5) (fresh_back (Ex.refl H) nl), ?_⟩
      rw [upd_same, List.take_succ, hr1]
      simp
    · obtain ⟨x5, x6, x7, rfl, e, hl⟩ := p
      rw [hul, List.take_length] at hl
      have hall : (((TL.joinL [32] (headL b)) :: rs.map rowT).map (· ++ [10])).flatten = textL b rs := (lines_flat 10 (linesL b rs) (List.cons_ne_nil _ _)).symm
      have hsum : (((TL.joinL [32] (headL b)) :: rs.map rowT).map (· ++ [10])).flatten.length ≤ 1000000 := by
        rw [List.length_flatten]
        have hle : ∀ (L : List (List Nat)), (∀ p ∈ L, p.length ≤ 2000) → (L.map List.length).sum ≤ L.length * 2000 := fun L => by
          induction L with
          | nil => exact fun _ => Nat.zero_le _
          | cons p L ih =>
            intro h
            have h1 := h p (List.mem_cons_self ..)
            have h2 := ih fun z hz => h z (List.mem_cons_of_mem _ hz)
            rw [List.map_cons, List.sum_cons, List.length_cons, Nat.add_mul]
            omega
        refine Nat.le_trans (hle _ fun p hp => ?_) ?_
        · obtain ⟨z, hz, rfl⟩ := List.mem_map.mp hp
          rw [List.length_append, List.length_singleton]
          rcases List.mem_cons.mp hz with rfl | hz
          · have : TL.joinL [32] (headL b) = paperL ++ ([32] ++ intL b) := rfl
            rw [this, List.length_append, List.length_append]
            show 5 + (1 + (intL b).length) + 1 ≤ 2000
            omega
          · obtain ⟨r, hr, rfl⟩ := List.mem_map.mp hz
            have := row_len (hsm r hr)
            omega
        · rw [List.length_map, List.length_cons, List.length_map]
          omega
      refine ⟨⟨_, rfl⟩, _, rfl, S [], l, (((TL.joinL [32] (headL b)) :: rs.map rowT).map (· ++ [10])).map S, rfl, rfl, .inl (sq_of (by rw [hl]; simp only [List.map_map]; rfl)), ?_, ?_⟩
      · rw [SX.lens, S_len, List.length_nil, Nat.mul_zero, ← List.length_flatten]
        omega
      · rw [Dg.join_nil, hall]
        exact q _ e
/-! ### the law's great numbers -/
def spr (x m : Int) : Int := (2 * ((x.natAbs : Nat) : Int) + 1) * 11400714819323198485 * 14029467366897019727 * 16095879293928391614 / 1021 % m
def spSpread : Sp := fun vs H Q _ => ∃ (x m : Int), vs = [.int x, .int m] ∧ Bd 1048577 x ∧ 0 < m ∧ RetV (.int (spr x m)) H Q
theorem ok_spread {f : Addr} {fd : FuncData} (F : Fun K "_law_spread" "_law_spread" s_law_spread f fd) (m_abs : mg "abs" = none) (m_int : mg "int" = none) : FnOk P w K mg base CX0 1 f fd ["figure", "most"] spSpread := by
  refine F.ok sc_law_spread (fun vs H Q E h => ?_) (fun cdv A outer s H vs Q E hr h => ?_)
  · obtain ⟨x, m, rfl, _⟩ := h
    rfl
  · obtain ⟨x, m, rfl, hx, hm, q⟩ := h
    refine ⟨_, (pss_cons (ps_set (i := 2) sc_law_spread.nd rfl (.inl rfl) (pe_op op_mulX (pe_op op_mulX (pe_op op_mulX (pe_op op_add (pe_op op_mulX pe_int (pe_callB call_abs (by rfl) m_abs (by decide +kernel) (pa_cons (pe_callTy call_int1 (by rfl) m_int (by decide +kernel) (pa_cons (pv 0) pa_nil)) pa_nil))) pe_int) pe_int) pe_int) pe_int))
        (pss_one (ps_ret (pe_op op_mod (pe_op op_fdiv (pv 2) pe_int) (pv 1))))), ?_⟩
    have b0 : (((x.natAbs : Nat) : Int)).natAbs < 2 ^ 1048577 := hx
    have two : (2 : Int).natAbs < 2 ^ 2 := by decide
    have b1 := ab_mul two b0
    have b2 := ab_add b1 (show (1 : Int).natAbs < 2 ^ (2 + 1048577) from Nat.lt_of_lt_of_le (m := 2 ^ 1) (by decide) (Nat.pow_le_pow_right (by decide) (by decide)))
    have c1 : (11400714819323198485 : Int).natAbs < 2 ^ 64 := by decide +kernel
    have c2 : (14029467366897019727 : Int).natAbs < 2 ^ 64 := by decide +kernel
    have c3 : (16095879293928391614 : Int).natAbs < 2 ^ 64 := by decide +kernel
    have b3 := ab_mul b2 c1
    have b4 := ab_mul b3 c2
    refine q_asg (ev_op (ev_op (ev_op (ev_op (ev_op ev_c (ev_cb (ea_cons (ev_cb (ea_cons (ev_var rfl) ea_nil) rc_intI) ea_nil) rc_abs) (rv_I (mulx_ok two b0 (by decide)))) ev_c rv_I0) ev_c (rv_I (mulx_ok b2 c1 (by decide)))) ev_c (rv_I (mulx_ok b3 c2 (by decide)))) ev_c (rv_I (mulx_ok b4 c3 (by decide)))) fun H1 e1 => ?_
    refine st_is (σ' := [_, _, _]) rfl ?_
    exact s_ret (ev_op (ev_op (ev_var rfl) ev_c (rv_I ⟨by decide, by decide⟩)) (ev_var rfl) (rv_I hm)) fun H2 e2 => q H2 (e1.trans e2)
/-! ### the law's own defs -/
theorem ok_cell {f : Addr} {fd : FuncData} (F : Fun K "_law_cell" "_law_cell" s_law_cell f fd) (m_len : mg "len" = none) : FnOk P w K mg base CX0 1 f fd ["script", "k"] (spCell K) := by
  refine F.ok sc_law_cell (fun vs H Q E h => ?_) (fun cdv A outer s H vs Q E hr h => ?_)
  · obtain ⟨l, ns, j, rfl, _⟩ := h
    rfl
  · obtain ⟨l, ns, j, rfl, hs, q⟩ := h
    refine ⟨_, (pss_cons (ps_if (pt_cmpR op_lt (pv 1) (pe_callB call_len (by rfl) m_len (by decide +kernel) (pa_cons (pv 0) pa_nil)) (nomark _)) (pss_one (ps_ret (pe_ix ix_list (pv 0) (pv 1) (fun _ _ => rfl)))) pss_nil)
        (pss_one (ps_ret pe_int))), ?_⟩
    refine ⟨_, rfl, _, rfl, .ref l, ((ns.map V.int).length : Nat), rfl, .inl ⟨_, hs, rfl⟩, _, _, rfl, rfl, _, rfl, ite2 (fun e => ?_) (fun e => ?_)⟩
    · have hj : j < ns.length := by
        have := of_decide_eq_true e
        rw [List.length_map] at this
        omega
      exact ⟨_, rfl, _, rfl, l, _, _, _, rfl, rfl, hs, atI_cell hj, q⟩
    · have hj : ¬ j < ns.length := fun z => e (decide_eq_true (by rw [List.length_map]; omega))
      rw [cell_out hj] at q
      exact q
def spNumbers (K : PySem.W.Frag) : Sp := fun vs H Q _ => ∃ (sa : Addr) (ns : List Int) (first most : Nat), vs = [.ref sa, .int (first : Int), .int (most : Int)] ∧ SqL K H sa (ns.map V.int) ∧ ns.length ≤ 63 ∧ first ≤ 10 ∧ most ≤ 100 ∧
  ∀ p H2 (xs : List Int), H p = none → Ex H H2 → H2 p = some (.lst (xs.map V.int)) → (∀ x ∈ xs, 0 ≤ x ∧ x < 4096) → xs.length ≤ most → Q (.ref p) H2
/-- what a turn keeps -/
structure NumAt (H H' : Hp) (l : Addr) (most : Nat) (xs : List Int) : Prop where
  ex : Ex H H'
  at_ : H' l = some (.lst (xs.map V.int))
  all : ∀ x ∈ xs, 0 ≤ x ∧ x < 4096
  len : xs.length ≤ most
theorem NumAt.push {H H1 H2 : Hp} {l : Addr} {most : Nat} {xs : List Int} (hn : H l = none) (N : NumAt H H1 l most xs) (e : Ex H1 H2) {x : Int} (h0 : 0 ≤ x) (h1 : x < 4096) (hl : xs.length < most) : NumAt H (upd H2 l (.lst (xs.map V.int ++ [V.int x]))) l most (xs ++ [x]) :=
  ⟨Ex.mut (N.ex.trans e) hn, by rw [upd_same, List.map_append]; rfl, fun y hy => by
    rcases List.mem_append.mp hy with h | h
    · exact N.all y h
    · rw [List.mem_singleton] at h
      subst h
      exact ⟨h0, h1⟩, by rw [List.length_append]; exact hl⟩
theorem NumAt.mono {H H1 H2 : Hp} {l : Addr} {most : Nat} {xs : List Int} (N : NumAt H H1 l most xs) (e : Ex H1 H2) : NumAt H H2 l most xs := ⟨N.ex.trans e, e _ _ N.at_, N.all, N.len⟩
theorem ok_numbers {f : Addr} {fd : FuncData} (F : Fun K "_law_numbers" "_law_numbers" s_law_numbers f fd) (m_len : mg "len" = none) (m_abs : mg "abs" = none) (m_int : mg "int" = none) (m_range : mg "range" = none) : FnOk P w K mg base CX0 1 f fd ["script", "first", "most"] (spNumbers K) := by
  refine F.ok sc_law_numbers (fun vs H Q E h => ?_) (fun cdv A outer s H vs Q E hr h => ?_)
  · obtain ⟨sa, ns, first, most, rfl, _⟩ := h
    rfl
  · obtain ⟨sa, ns, first, most, rfl, hS, hl, hf, hm, q⟩ := h
    refine ⟨_, (pss_cons (ps_set (i := 3) sc_law_numbers.nd rfl (.inl rfl) (pe_lst pa_nil))
        (pss_cons (ps_for PassesOwn.never rfl (pi_range2 (by rfl) m_range (pa_cons (pv 1) (pa_cons (pe_callB call_len (by rfl) m_len (by decide +kernel) (pa_cons (pv 0) pa_nil)) pa_nil))) (pg_name (i := 4) sc_law_numbers.nd rfl (.inl rfl)) (pss_cons (ps_set (i := 5) sc_law_numbers.nd rfl (.inl rfl) (pe_callB call_abs (by rfl) m_abs (by decide +kernel) (pa_cons (pe_ix ix_list (pv 0) (pv 4) (fun _ _ => rfl)) pa_nil)))
        (pss_one (ps_if (pt_cmpR op_ge (pv 5) pe_int (nomark _)) (pss_one (ps_for PassesOwn.never rfl (pi_range1 (by rfl) m_range (pa_cons pe_int pa_nil)) (pg_name (i := 6) sc_law_numbers.nd rfl (.inl rfl)) (pss_one (ps_if (PW.pt (pw_and (pt_cmpR op_gt (pv 5) pe_int (nomark _)) (pw_and1 (pt_cmpR op_lt (pe_callB call_len (by rfl) m_len (by decide +kernel) (pa_cons (pv 3) pa_nil)) (pv 2) (nomark _))))) (pss_cons (ps_expr (pe_bm PySem.F.plainAttrs_list PySem.F.slot_list_append PySem.F.type_list_append mt_append (pv 3) (pa_cons (pe_op op_mod (pe_callTy call_int1 (by rfl) m_int (by decide +kernel) (pa_cons (pv 5) pa_nil)) pe_int) pa_nil)))
        (pss_one (ps_set (i := 5) sc_law_numbers.nd rfl (.inl rfl) (pe_op op_fdiv (pv 5) pe_int)))) pss_nil)))) (pss_one (ps_if (pt_cmpR op_lt (pe_callB call_len (by rfl) m_len (by decide +kernel) (pa_cons (pv 3) pa_nil)) (pv 2) (nomark _)) (pss_cons (ps_set (i := 7) sc_law_numbers.nd rfl (.inl rfl) (pe_op op_mod (pe_callTy call_int1 (by rfl) m_int (by decide +kernel) (pa_cons (pe_op op_add (pe_op op_add (pe_op op_mulX (pv 5) pe_int) (pe_op op_mulX (pv 4) pe_int)) pe_int) pa_nil)) pe_int))
        (pss_cons (ps_set (i := 7) sc_law_numbers.nd rfl (.inl rfl) (pe_op op_mod (pe_callTy call_int1 (by rfl) m_int (by decide +kernel) (pa_cons (pe_op op_add (pe_op op_mulX (pv 7) pe_int) (pe_op op_fdiv (pv 7) pe_int)) pa_nil)) pe_int))
        (pss_one (ps_expr (pe_bm PySem.F.plainAttrs_list PySem.F.slot_list_append PySem.F.type_list_append mt_append (pv 3) (pa_cons (pe_op op_mod (pe_callTy call_int1 (by rfl) m_int (by decide +kernel) (pa_cons (pv 7) pa_nil)) pe_int) pa_nil)))))) pss_nil))))))
        (pss_one (ps_ret (pv 3))))), ?_⟩
    refine q_asgL (el_lst ea_nil (show 0 ≤ 100000 by decide)) fun l H1 nl e1 hl1 => ?_
    refine st_is (σ' := [_, _, _, _, _, _, _, _]) rfl ?_
    have nl0 : H l = none := nl
    have lenS : ∀ {H' : Hp}, Ex H H' → EvA (tCons (tVar 0) tNil) [some (.ref sa), some (.int (first : Int)), some (.int (most : Int)), some (.ref l), none, none, none, none] H' [.ref sa] := fun _ => ea_cons (ev_var rfl) ea_nil
    refine q_forR2 (lo := (first : Int)) (n := (ns.length : Int)) (ea_cons (ev_var rfl) (ea_cons (ev_is (ev_cb (ea_cons (ev_var rfl) ea_nil) (rc_lenL (ex_l e1 hS))) (congrArg V.int (by rw [List.length_map]))) ea_nil)) ⟨by omega, by omega, by omega, by omega⟩
      (fun i σ' H' => ∃ (x4 x5 x6 x7 : Option V) (xs : List Int), σ' = [some (.ref sa), some (.int (first : Int)), some (.int (most : Int)), some (.ref l), x4, x5, x6, x7] ∧ NumAt H H' l most xs) (fun H2 e2 => ⟨_, _, _, _, [], rfl, ⟨e1.trans e2, e2 _ _ hl1, fun x hx => by simp at hx, Nat.zero_le _⟩⟩) (fun i σ' H' hi pp => ?_) (fun σ' H' pp => ?_)
    · obtain ⟨x4, x5, x6, x7, xs, rfl, N⟩ := pp
      refine st_is (σ' := [_, _, _, _, _, _, _, _]) rfl ?_
      -- cell
      have hix : first + i < ns.length := by omega
      have hat : atI (ns.map V.int) ((first : Int) + (i : Int)) = some (.int (ns.getD (first + i) 0)) := by
        have := atI_cell (ns := ns) (j := first + i) hix
        rw [show ((first + i : Nat) : Int) = (first : Int) + (i : Int) by omega] at this
        exact this
      refine q_asg (ev_cb (ea_cons (ev_op (ev_var rfl) (ev_var rfl) (rv_ixL (ex_l N.ex hS) hat)) ea_nil) rc_abs) fun H2 e2 => ?_
      refine st_is (σ' := [_, _, _, _, _, _, _, _]) rfl ?_
      replace N := N.mono e2
      obtain ⟨c, hc⟩ : ∃ c : Nat, (ns.getD (first + i) 0).natAbs = c := ⟨_, rfl⟩
      rw [hc]
      refine s_if (b := decide ((1000000000000000000 : Int) ≤ (c : Int))) (et_test (ev_op (ev_var rfl) ev_c rv_I0)) (fun hb H3 e3 => ?_) (fun hb H3 e3 => ?_)
      · replace N := N.mono e3
        refine s_forR1 (n := 60) (ea_cons ev_c ea_nil) ⟨by decide, by decide⟩ (fun j σ' H' => ∃ (c5 : Nat) (x6 x7 : Option V) (xs : List Int), σ' = [some (.ref sa), some (.int (first : Int)), some (.int (most : Int)), some (.ref l), some (.int ((first : Int) + (i : Int))), some (.int (c5 : Int)), x6, x7] ∧ NumAt H H' l most xs) (fun H4 e4 => ⟨c, _, _, xs, rfl, N.mono e4⟩) (fun j σ' H' hj pp => ?_) (fun σ' H' pp => ?_)
        · obtain ⟨c5, x6, x7, xs, rfl, N⟩ := pp
          refine st_is (σ' := [_, _, _, _, _, _, _, _]) rfl ?_
          refine s_when (b := decide ((0 : Int) < (c5 : Int)) && decide ((xs.length : Int) < (most : Int))) (et_and (et_test (ev_op (ev_var rfl) ev_c rv_I0)) fun _ => (et_test (ev_op (ev_is (ev_cb (ea_cons (ev_var rfl) ea_nil) (rc_lenL (sq_of N.at_))) (congrArg V.int (by rw [List.length_map]))) (ev_var rfl) rv_I0))) (fun hb H4 e4 => ?_) (fun hb H4 e4 => ⟨c5, _, _, xs, rfl, N.mono e4⟩)
          rw [Bool.and_eq_true] at hb
          have hlt := of_decide_eq_true hb.2
          replace N := N.mono e4
          refine q_app N.at_ (ev_var rfl) (v := .int ((c5 : Int) % 4096)) (ev_op (ev_cb (ea_cons (ev_var rfl) ea_nil) rc_intI) ev_c (rv_I (by decide))) (by rw [List.length_map]; omega) fun H5 e5 => ?_
          have N2 := N.push nl0 e5 (x := (c5 : Int) % 4096) (by omega) (by omega) (by omega)
          refine s_asg (ev_is (ev_op (ev_var rfl) ev_c (rv_I ⟨by decide, by decide⟩)) (congrArg V.int (show (c5 : Int) / 4096 = ((c5 / 4096 : Nat) : Int) by omega))) fun H6 e6 => ⟨c5 / 4096, _, _, _, rfl, N2.mono e6⟩
        · obtain ⟨c5, x6, x7, xs, rfl, N⟩ := pp
          exact ⟨_, _, _, _, xs, rfl, N⟩
      · replace N := N.mono e3
        have hcb : c < 1000000000000000000 := by
          have := of_decide_eq_false hb
          omega
        refine s_when (b := decide ((xs.length : Int) < (most : Int))) (et_test (ev_op (ev_is (ev_cb (ea_cons (ev_var rfl) ea_nil) (rc_lenL (sq_of N.at_))) (congrArg V.int (by rw [List.length_map]))) (ev_var rfl) rv_I0)) (fun hb H4 e4 => ?_) (fun hb H4 e4 => ⟨_, _, _, _, xs, rfl, N.mono e4⟩)
        have hlt := of_decide_eq_true hb
        replace N := N.mono e4
        obtain ⟨m1, hm1, hm2⟩ : ∃ m : Int, ((c : Int) * 48271 + ((first : Int) + (i : Int)) * 69621 + 12345) % 2147483647 = m ∧ (0 ≤ m ∧ m < 2147483647) := ⟨_, rfl, by omega, by omega⟩
        refine q_asg (ev_is (ev_op (ev_cb (ea_cons (ev_op (ev_op (ev_op (ev_var rfl) ev_c (rv_I (mulx_ok (a := 60) (b := 16) (by omega) (by decide) (by decide)))) (ev_op (ev_var rfl) ev_c (rv_I (mulx_ok (a := 10) (b := 17) (by omega) (by decide) (by decide)))) rv_I0) ev_c rv_I0) ea_nil) rc_intI) ev_c (rv_I (by decide))) (congrArg V.int hm1)) fun H5 e5 => ?_
        refine st_is (σ' := [_, _, _, _, _, _, _, _]) rfl ?_
        obtain ⟨m2, hm3, hm4⟩ : ∃ m : Int, (m1 * 69621 + m1 / 1009) % 1000003 = m ∧ (0 ≤ m ∧ m < 1000003) := ⟨_, rfl, by omega, by omega⟩
        refine q_asg (ev_is (ev_op (ev_cb (ea_cons (ev_op (ev_op (ev_var rfl) ev_c (rv_I (mulx_ok (a := 31) (b := 17) (by omega) (by decide) (by decide)))) (ev_op (ev_var rfl) ev_c (rv_I ⟨by decide, by decide⟩)) rv_I0) ea_nil) rc_intI) ev_c (rv_I (by decide))) (congrArg V.int hm3)) fun H6 e6 => ?_
        refine st_is (σ' := [_, _, _, _, _, _, _, _]) rfl ?_
        replace N := N.mono (e5.trans e6)
        refine s_app N.at_ (ev_var rfl) (v := .int (m2 % 4096)) (ev_op (ev_cb (ea_cons (ev_var rfl) ea_nil) rc_intI) ev_c (rv_I (by decide))) (by rw [List.length_map]; omega) fun H7 e7 => ⟨_, _, _, _, _, rfl, N.push nl0 e7 (x := m2 % 4096) (by omega) (by omega) (by omega)⟩
    · obtain ⟨x4, x5, x6, x7, xs, rfl, N⟩ := pp
      refine s_ret (ev_var rfl) fun H3 e3 => q l H3 xs nl0 (N.ex.trans e3) (e3 _ _ N.at_) N.all N.len
def spFormula (K : PySem.W.Frag) : Sp := fun vs H Q _ => ∃ (na : Addr) (nums : List Int) (most : Nat), vs = [.ref na, .int (most : Int)] ∧ SqL K H na (nums.map V.int) ∧ (∀ x ∈ nums, 0 ≤ x ∧ Bd 2000000 x) ∧ nums ≠ [] ∧ 1 ≤ most ∧ most ≤ 100 ∧
  ∀ ss, OkForm ss → ss ≠ [] → ss.length ≤ most → (∀ s ∈ ss, ∀ i ∈ s.2, i.natAbs ≤ 1000) → RetF ss H Q
theorem item4 {x y : Int} {i : Int} (h : 0 ≤ i ∧ i < 4) (hx : 1 ≤ x ∧ x ≤ 1000) (hy : 1 ≤ y ∧ y ≤ 1000) : ∃ c : Int, atI [V.int 1, V.int 1, V.int x, V.int y] i = some (.int c) ∧ 1 ≤ c ∧ c ≤ 1000 := by
  have h3 : i = 0 ∨ i = 1 ∨ i = 2 ∨ i = 3 := by omega
  rcases h3 with rfl | rfl | rfl | rfl
  · exact ⟨1, rfl, by decide, by decide⟩
  · exact ⟨1, rfl, by decide, by decide⟩
  · exact ⟨x, rfl, hx⟩
  · exact ⟨y, rfl, hy⟩
theorem itemW2 {i : Int} (h : 0 ≤ i ∧ i < 4) : ∃ x : Str, atI [V.str "add", V.str "subtract", V.str "times", V.str "divide"] i = some (.str x) ∧ x ∈ W2 := by
  have h3 : i = 0 ∨ i = 1 ∨ i = 2 ∨ i = 3 := by omega
  rcases h3 with rfl | rfl | rfl | rfl
  · exact ⟨_, rfl, by simp [W2]⟩
  · exact ⟨_, rfl, by simp [W2]⟩
  · exact ⟨_, rfl, by simp [W2]⟩
  · exact ⟨_, rfl, by simp [W2]⟩
theorem itemW1 {i : Int} (h : 0 ≤ i ∧ i < 8) : ∃ x : Str, atI [V.str "root", V.str "sine", V.str "cosine", V.str "exp", V.str "log", V.str "arctan", V.str "arcsine", V.str "arccosine"] i = some (.str x) ∧ x ∈ W1 := by
  have h3 : i = 0 ∨ i = 1 ∨ i = 2 ∨ i = 3 ∨ i = 4 ∨ i = 5 ∨ i = 6 ∨ i = 7 := by omega
  rcases h3 with rfl | rfl | rfl | rfl | rfl | rfl | rfl | rfl
  · exact ⟨_, rfl, by simp [W1]⟩
  · exact ⟨_, rfl, by simp [W1]⟩
  · exact ⟨_, rfl, by simp [W1]⟩
  · exact ⟨_, rfl, by simp [W1]⟩
  · exact ⟨_, rfl, by simp [W1]⟩
  · exact ⟨_, rfl, by simp [W1]⟩
  · exact ⟨_, rfl, by simp [W1]⟩
  · exact ⟨_, rfl, by simp [W1]⟩
theorem ok_formula {f : Addr} {fd : FuncData} (F : Fun K "_law_formula" "_law_formula" s_law_formula f fd) (m_len : mg "len" = none) (m_max : mg "max" = none) (m_int : mg "int" = none) (m_tuple : mg "tuple" = none) : FnOk P w K mg base CX0 1 f fd ["numbers", "most"] (spFormula K) := by
  refine F.ok sc_law_formula (fun vs H Q E h => ?_) (fun cdv A outer s H vs Q E hr h => ?_)
  · obtain ⟨na, nums, most, rfl, _⟩ := h
    rfl
  · obtain ⟨na, nums, most, rfl, hN, hall, hne, hm1, hm2, q⟩ := h
    refine ⟨_, (pss_cons (ps_set (i := 2) sc_law_formula.nd rfl (.inl rfl) (pe_lst pa_nil))
        (pss_cons (ps_for PassesOwn.never rfl (pi_list (pe_slice sl_list (pv 0) po_none (po_some (pv 1)))) (pg_name (i := 3) sc_law_formula.nd rfl (.inl rfl)) (pss_cons (ps_set (i := 4) sc_law_formula.nd rfl (.inl rfl) (pe_op op_mod (pe_callTy call_int1 (by rfl) m_int (by decide +kernel) (pa_cons (pv 3) pa_nil)) pe_int))
        (pss_cons (ps_set (i := 5) sc_law_formula.nd rfl (.inl rfl) (pe_op op_fdiv (pe_callTy call_int1 (by rfl) m_int (by decide +kernel) (pa_cons (pv 3) pa_nil)) pe_int))
        (pss_cons (ps_set (i := 6) sc_law_formula.nd rfl (.inl rfl) (pe_op op_mod (pe_callTy call_int1 (by rfl) m_int (by decide +kernel) (pa_cons (pv 5) pa_nil)) (pe_callB (call_max2 rfl) (by rfl) m_max (by decide +kernel) (pa_cons pe_int (pa_cons (pe_callB call_len (by rfl) m_len (by decide +kernel) (pa_cons (pv 2) pa_nil)) pa_nil)))))
        (pss_cons (ps_set (i := 7) sc_law_formula.nd rfl (.inl rfl) (pe_op op_mod (pe_op op_fdiv (pv 5) pe_int) (pe_callB (call_max2 rfl) (by rfl) m_max (by decide +kernel) (pa_cons pe_int (pa_cons (pe_callB call_len (by rfl) m_len (by decide +kernel) (pa_cons (pv 2) pa_nil)) pa_nil)))))
        (pss_one (ps_if (PW.pt (pw_or (pt_cmpR op_lt (pv 4) pe_int (nomark _)) (pw_or1 (pt_cmpR (op_eqD hr.units) (pv 2) (pe_lst pa_nil) (nomark _))))) (pss_one (ps_expr (pe_bm PySem.F.plainAttrs_list PySem.F.slot_list_append PySem.F.type_list_append mt_append (pv 2) (pa_cons (pe_tup (pa_cons pe_str (pa_cons (pe_op op_sub (pe_op op_mod (pe_op op_mulX (pe_callTy call_int1 (by rfl) m_int (by decide +kernel) (pa_cons (pv 5) pa_nil)) pe_int) pe_int) pe_int) (pa_cons (pe_ix ix_list (pe_lst (pa_cons pe_int (pa_cons pe_int (pa_cons (pe_op op_add pe_int (pe_op op_mod (pe_op op_fdiv (pv 5) pe_int) pe_int)) (pa_cons (pe_op op_add pe_int (pe_op op_mod (pe_op op_mulX (pe_callTy call_int1 (by rfl) m_int (by decide +kernel) (pa_cons (pv 5) pa_nil)) pe_int) pe_int)) pa_nil))))) (pe_op op_mod (pe_op op_fdiv (pv 5) pe_int) pe_int) (fun _ _ => rfl)) pa_nil)))) pa_nil)))) (pss_one (ps_if (pt_cmpR op_eq (pv 4) pe_int (nomark _)) (pss_one (ps_expr (pe_bm PySem.F.plainAttrs_list PySem.F.slot_list_append PySem.F.type_list_append mt_append (pv 2) (pa_cons (pe_tup (pa_cons pe_str pa_nil)) pa_nil)))) (pss_one (ps_if (pt_cmpR op_lt (pv 4) pe_int (nomark _)) (pss_one (ps_expr (pe_bm PySem.F.plainAttrs_list PySem.F.slot_list_append PySem.F.type_list_append mt_append (pv 2) (pa_cons (pe_tup (pa_cons (pe_ix ix_list (pe_lst (pa_cons pe_str (pa_cons pe_str (pa_cons pe_str (pa_cons pe_str pa_nil))))) (pe_op op_sub (pv 4) pe_int) (fun _ _ => rfl)) (pa_cons (pv 6) (pa_cons (pv 7) pa_nil)))) pa_nil)))) (pss_one (ps_expr (pe_bm PySem.F.plainAttrs_list PySem.F.slot_list_append PySem.F.type_list_append mt_append (pv 2) (pa_cons (pe_tup (pa_cons (pe_ix ix_list (pe_lst (pa_cons pe_str (pa_cons pe_str (pa_cons pe_str (pa_cons pe_str (pa_cons pe_str (pa_cons pe_str (pa_cons pe_str (pa_cons pe_str pa_nil))))))))) (pe_op op_sub (pv 4) pe_int) (fun _ _ => rfl)) (pa_cons (pv 6) pa_nil))) pa_nil)))))))))))))))
        (pss_one (ps_ret (pe_callTy call_tuple_of (by rfl) m_tuple (by decide +kernel) (pa_cons (pv 2) pa_nil)))))), ?_⟩
    refine q_asgL (el_lst ea_nil (show 0 ≤ 100000 by decide)) fun l H1 nl e1 hl1 => ?_
    refine st_is (σ' := [_, _, _, _, _, _, _, _]) rfl ?_
    have hsl := el_sl (σ := [some (.ref na), some (.int (most : Int)), some (.ref l), none, none, none, none, none]) (te := tVar 0) (th := tPart (tVar 1)) (ev_var rfl) eo_none (eo_some (ev_var rfl)) (ex_l e1 hN)
    rw [cut_take, ← List.map_take] at hsl
    have hall2 : ∀ x ∈ nums.take most, 0 ≤ x ∧ Bd 2000000 x := fun x hx => hall x (List.mem_of_mem_take hx)
    have hlen : (nums.take most).length ≤ most := by
      rw [List.length_take]
      omega
    have hlen2 : 0 < (nums.take most).length := by
      have := List.length_pos_iff.mpr hne
      rw [List.length_take]
      omega
    generalize nums.take most = nus at *
    refine q_forNLn hsl (fun p i σ' H' => p ≠ l ∧ H' p = some (.lst (nus.map V.int)) ∧ ∃ (x3 x4 x5 x6 x7 : Option V) (us : List V) (ss : List FStep), σ' = [some (.ref na), some (.int (most : Int)), some (.ref l), x3, x4, x5, x6, x7] ∧ FoAt H H' l us ss ∧ OkForm ss ∧ ss.length = i ∧ ∀ s ∈ ss, ∀ n ∈ s.2, n.natAbs ≤ 1000)
      (fun p H2 hp e2 h2 => ⟨(fun z => by rw [z, hl1] at hp; cases hp), h2, _, _, _, _, _, [], [], rfl, ⟨e1.trans e2, e2 _ _ hl1, .nil⟩, OkForm.nil, rfl, fun s hs => by simp at hs⟩) (fun p i σ' H' _ pp => sq_of pp.2.1) (fun p i x σ' H' hx pp => ?_) (fun p σ' H' pp => ?_)
    · obtain ⟨hpl, hp, x3, x4, x5, x6, x7, us, ss, rfl, F, hok, hsl2, hsmall⟩ := pp
      obtain ⟨n, hn, rfl⟩ : ∃ n, nus[i]? = some n ∧ x = V.int n := by
        rw [List.getElem?_map] at hx
        obtain ⟨n, h1, h2⟩ := Option.map_eq_some_iff.mp hx
        exact ⟨n, h1, h2.symm⟩
      obtain ⟨n0, nb⟩ := hall2 n (List.mem_of_getElem? hn)
      have hi100 : ss.length ≤ 100 := by
        have := (List.getElem?_eq_some_iff.mp hn).1
        omega
      refine st_is (σ' := [_, _, _, _, _, _, _, _]) rfl ?_
      -- kind, a, i, j
      obtain ⟨kd, hkd, hkd2⟩ : ∃ k : Int, n % 16 = k ∧ 0 ≤ k ∧ k < 16 := ⟨_, rfl, by omega, by omega⟩
      refine q_asg (ev_is (ev_op (ev_cb (ea_cons (ev_var rfl) ea_nil) rc_intI) ev_c (rv_I (by decide))) (congrArg V.int hkd)) fun H2 e2 => ?_
      refine st_is (σ' := [_, _, _, _, _, _, _, _]) rfl ?_
      have hab : Bd 2000000 (n / 16) := ab_div (by decide) nb
      obtain ⟨a, ha, ha0⟩ : ∃ a : Int, n / 16 = a ∧ 0 ≤ a := ⟨_, rfl, by omega⟩
      rw [ha] at hab
      refine q_asg (ev_is (ev_op (ev_cb (ea_cons (ev_var rfl) ea_nil) rc_intI) ev_c (rv_I ⟨by decide, by decide⟩)) (congrArg V.int ha)) fun H3 e3 => ?_
      refine st_is (σ' := [_, _, _, _, _, _, _, _]) rfl ?_
      replace F := F.mono (e2.trans e3)
      replace hp := (e2.trans e3) _ _ hp
      obtain ⟨M, hM, hM0, hM1⟩ : ∃ M : Int, max 1 (us.length : Int) = M ∧ 0 < M ∧ (0 < ss.length → M = (ss.length : Int)) := ⟨_, rfl, by omega, by have := F.st.1; omega⟩
      have evM : ∀ {σ : L2.St} {H' : Hp}, σ[2]? = some (some (.ref l)) → Ex H3 H' → Ev (tCB (fun xs H Q => ∃ i j, xs = [.int i, .int j] ∧ Q (.int (if j > i then j else i)) H) (tCons (tC (.int 1)) (tCons (tCB (fun xs H Q => ∃ x n, xs = [x] ∧ LenV K x H n ∧ Q (.int n) H) (tCons (tVar 2) tNil)) tNil))) σ H' (.int M) := fun h e => by
        rw [← hM]
        exact ev_cb (ea_cons ev_c (ea_cons (ev_cb (ea_cons (ev_var h) ea_nil) (rc_lenL (sq_of (e _ _ F.at_)))) ea_nil)) rc_max2
      obtain ⟨ii, hii, hi0, hi1⟩ : ∃ k : Int, a % M = k ∧ 0 ≤ k ∧ k < M := ⟨_, rfl, Int.emod_nonneg _ (by omega), Int.emod_lt_of_pos _ hM0⟩
      refine q_asg (ev_is (ev_op (ev_cb (ea_cons (ev_var rfl) ea_nil) rc_intI) (evM rfl (Ex.refl _)) (rv_I hM0)) (congrArg V.int hii)) fun H4 e4 => ?_
      refine st_is (σ' := [_, _, _, _, _, _, _, _]) rfl ?_
      obtain ⟨jj, hjj, hj0, hj1⟩ : ∃ k : Int, a / 16 % M = k ∧ 0 ≤ k ∧ k < M := ⟨_, rfl, Int.emod_nonneg _ (by omega), Int.emod_lt_of_pos _ hM0⟩
      refine q_asg (ev_is (ev_op (ev_op (ev_var rfl) ev_c (rv_I ⟨by decide, by decide⟩)) (evM rfl e4) (rv_I hM0)) (congrArg V.int hjj)) fun H5 e5 => ?_
      refine st_is (σ' := [_, _, _, _, _, _, _, _]) rfl ?_
      replace F := F.mono (e4.trans e5)
      replace hp := (e4.trans e5) _ _ hp
      clear evM
      have hus : us.length < 100000 := by
        have := F.st.1
        omega
      -- what each way ends in
      have done : ∀ {q : Addr} {H6 : Hp} {st : FStep}, Ex H5 H6 → H6 q = some (.tup (stV st)) → OkStep ss.length st → (∀ n ∈ st.2, n.natAbs ≤ 1000) → (p ≠ l ∧ (upd H6 l (.lst (us ++ [.ref q]))) p = some (.lst (nus.map V.int)) ∧ ∃ (x3 x4 x5 x6 x7 : Option V) (us' : List V) (ss' : List FStep), [some (V.ref na), some (.int (most : Int)), some (.ref l), some (.int n), some (.int kd), some (.int a), some (.int ii), some (.int jj)] = [some (.ref na), some (.int (most : Int)), some (.ref l), x3, x4, x5, x6, x7] ∧ FoAt H (upd H6 l (.lst (us ++ [.ref q]))) l us' ss' ∧ OkForm ss' ∧ ss'.length = i + 1 ∧ ∀ s ∈ ss', ∀ n ∈ s.2, n.natAbs ≤ 1000) := fun {q H6 st} e6 h6 hs hbb => by
        refine ⟨hpl, ?_, _, _, _, _, _, _, _, rfl, F.push nl e6 ⟨q, rfl, h6⟩, hok.snoc hs, ?_, fun s1 hs1 => ?_⟩
        · rw [upd_ne hpl]
          exact e6 _ _ hp
        · rw [List.length_append, hsl2]
          rfl
        · rcases List.mem_append.mp hs1 with h | h
          · exact hsmall s1 h
          · rw [List.mem_singleton] at h
            subst h
            exact hbb
      by_cases hA : kd < 3 ∨ ss = []
      · refine s_if (b := true) (et_is (et_or (et_test (ev_op (ev_var rfl) ev_c rv_I0)) fun _ => (et_test (ev_isEmpty F.at_ F.st hok.oks (ev_var rfl)))) (by
          rcases hA with h | h
          · rw [decide_eq_true h]
            rfl
          · rw [h]
            exact Bool.or_true _)) (fun _ H6 e6 => ?_) (fun hb => nomatch hb)
        obtain ⟨c, hc, hc1⟩ := item4 (x := 1 + a / 512 % 60) (y := 1 + a * 7 % 60) (i := a / 4 % 4) ⟨by omega, by omega⟩ ⟨by omega, by omega⟩ ⟨by omega, by omega⟩
        replace F := F.mono e6
        refine s_appU (ys := stV (("number" : Str), [a * 41 % 401 - 200, c])) F.at_ (ev_var rfl) (eu_tup (ea_cons ev_c (ea_cons (ev_op (ev_op (ev_op (ev_cb (ea_cons (ev_var rfl) ea_nil) rc_intI) ev_c (rv_I (mulx_ok (b := 6) hab (by decide) (by decide)))) ev_c (rv_I (by decide))) ev_c rv_I0)
          (ea_cons (ev_opL1 (el_lst (ea_cons ev_c (ea_cons ev_c (ea_cons (ev_op ev_c (ev_op (ev_op (ev_var rfl) ev_c (rv_I ⟨by decide, by decide⟩)) ev_c (rv_I (by decide))) rv_I0) (ea_cons (ev_op ev_c (ev_op (ev_op (ev_cb (ea_cons (ev_var rfl) ea_nil) rc_intI) ev_c (rv_I (mulx_ok (b := 6) hab (by decide) (by decide)))) ev_c (rv_I (by decide))) rv_I0) ea_nil)))) (show 4 ≤ 100000 by decide))
            (fun _ _ => ev_op (ev_op (ev_var rfl) ev_c (rv_I ⟨by decide, by decide⟩)) ev_c (rv_I (by decide))) (fun _ _ hp _ => rv_ixL (sq_of hp) hc)) ea_nil))) (show 3 ≤ 100000 by decide)) hus fun q H7 _ e7 h7 => ?_
        exact done (e6.trans e7) h7 (.inl ⟨_, c, rfl, hc1.1⟩) (fun n hn => by
          simp only [List.mem_cons, List.not_mem_nil, or_false] at hn
          rcases hn with rfl | rfl <;> omega)
      · have hA1 : ¬ kd < 3 := fun z => hA (.inl z)
        have hA2 : ss ≠ [] := fun z => hA (.inr z)
        have hss : 0 < ss.length := List.length_pos_iff.mpr hA2
        have hMs := hM1 hss
        refine s_if (b := false) (et_is (et_or (et_test (ev_op (ev_var rfl) ev_c rv_I0)) fun _ => (et_test (ev_isEmpty F.at_ F.st hok.oks (ev_var rfl)))) (by
          rw [decide_eq_false hA1, Bool.false_or]
          cases ss with
          | nil => exact absurd rfl hA2
          | cons x r => rfl)) (fun hb => nomatch hb) (fun _ H6 e6 => ?_)
        replace F := F.mono e6
        by_cases hB : kd = 3
        · refine s_if (b := true) (et_is (et_test (ev_op (ev_var rfl) ev_c (rv_eq rfl))) (decide_eq_true (congrArg V.int hB))) (fun _ H7 e7 => ?_) (fun hb => nomatch hb)
          replace F := F.mono e7
          refine s_appU (ys := stV (("pi" : Str), [])) F.at_ (ev_var rfl) (eu_tup (ea_cons ev_c ea_nil) (show 1 ≤ 100000 by decide)) hus fun q H8 _ e8 h8 => ?_
          exact done ((e6.trans e7).trans e8) h8 (.inr (.inl rfl)) (fun n hn => by simp at hn)
        · refine s_if (b := false) (et_is (et_test (ev_op (ev_var rfl) ev_c (rv_eq rfl))) (decide_eq_false fun z => hB (V.int.inj z))) (fun hb => nomatch hb) (fun _ H7 e7 => ?_)
          replace F := F.mono e7
          by_cases hC : kd < 8
          · refine s_if (b := true) (et_is (et_test (ev_op (ev_var rfl) ev_c rv_I0)) (decide_eq_true hC)) (fun _ H8 e8 => ?_) (fun hb => nomatch hb)
            replace F := F.mono e8
            obtain ⟨x, hx2, hxw⟩ := itemW2 (i := kd - 4) ⟨by omega, by omega⟩
            refine s_appU (ys := stV (x, [ii, jj])) F.at_ (ev_var rfl) (eu_tup (ea_cons (ev_opL1 (el_lst (ea_cons ev_c (ea_cons ev_c (ea_cons ev_c (ea_cons ev_c ea_nil)))) (show 4 ≤ 100000 by decide)) (fun _ _ => ev_op (ev_var rfl) ev_c rv_I0) (fun _ _ hp _ => rv_ixL (sq_of hp) hx2)) (ea_cons (ev_var rfl) (ea_cons (ev_var rfl) ea_nil))) (show 3 ≤ 100000 by decide)) hus fun q H9 _ e9 h9 => ?_
            exact done (((e6.trans e7).trans e8).trans e9) h9 (.inr (.inr (.inl ⟨x, ii, jj, hxw, rfl, ⟨hi0, by omega⟩, ⟨hj0, by omega⟩⟩))) (fun n hn => by
              simp only [List.mem_cons, List.not_mem_nil, or_false] at hn
              rcases hn with rfl | rfl <;> omega)
          · refine s_if (b := false) (et_is (et_test (ev_op (ev_var rfl) ev_c rv_I0)) (decide_eq_false hC)) (fun hb => nomatch hb) (fun _ H8 e8 => ?_)
            replace F := F.mono e8
            obtain ⟨x, hx2, hxw⟩ := itemW1 (i := kd - 8) ⟨by omega, by omega⟩
            refine s_appU (ys := stV (x, [ii])) F.at_ (ev_var rfl) (eu_tup (ea_cons (ev_opL1 (el_lst (ea_cons ev_c (ea_cons ev_c (ea_cons ev_c (ea_cons ev_c (ea_cons ev_c (ea_cons ev_c (ea_cons ev_c (ea_cons ev_c ea_nil)))))))) (show 8 ≤ 100000 by decide)) (fun _ _ => ev_op (ev_var rfl) ev_c rv_I0) (fun _ _ hp _ => rv_ixL (sq_of hp) hx2)) (ea_cons (ev_var rfl) ea_nil)) (show 2 ≤ 100000 by decide)) hus fun q H9 _ e9 h9 => ?_
            exact done (((e6.trans e7).trans e8).trans e9) h9 (.inr (.inr (.inr ⟨x, ii, hxw, rfl, ⟨hi0, by omega⟩⟩))) (fun n hn => by
              simp only [List.mem_cons, List.not_mem_nil, or_false] at hn
              rcases hn with rfl
              omega)
    · obtain ⟨hpl, hp, x3, x4, x5, x6, x7, us, ss, rfl, F, hok, hsl2, hsmall⟩ := pp
      rw [List.length_map] at hsl2
      have hne2 : ss ≠ [] := fun z => by
        rw [z] at hsl2
        simp at hsl2
        omega
      refine ⟨_, rfl, l, us, rfl, .inl ⟨sq_of F.at_, fun r hr2 => ?_⟩⟩
      exact q ss hok hne2 (by omega) hsmall r _ us (fresh_back F.ex hr2) (F.ex.trans (Ex.new hr2)) upd_same (F.st.mono (Ex.new hr2))
/-! ### the law -/
theorem few_bits {z : Int} (h : Builtin.Int.intBits z ≤ 1048576) : z.natAbs < 2 ^ 1048577 := by
  by_cases h0 : z.natAbs = 0
  · rw [h0]
    exact Nat.two_pow_pos _
  · have hz : (z == 0) = false := by
      cases h1 : z == 0
      · rfl
      · exact absurd (by rw [eq_of_beq h1]; rfl) h0
    have e : Builtin.Int.intBits z = z.natAbs.log2 + 1 := by
      unfold Builtin.Int.intBits
      rw [hz]
      rfl
    rw [e] at h
    exact (Nat.log2_lt h0).mp (by omega)
theorem cell_bd {ns : List Int} (h : ∀ z ∈ ns, Builtin.Int.intBits z ≤ 1048576) : Bd 1048577 (((cellOf ns 0).natAbs : Nat) : Int) := by
  show ((((cellOf ns 0).natAbs : Nat) : Int)).natAbs < 2 ^ 1048577
  rw [Int.natAbs_natCast]
  cases ns with
  | nil => exact Nat.two_pow_pos _
  | cons z r => exact few_bits (h z (List.mem_cons_self ..))
def spLaw (K : PySem.W.Frag) : Sp := fun vs H Q _ => ∃ (a : Addr) (ns : List Int), vs = [.ref a] ∧ SqL K H a (ns.map V.int) ∧ ns.length ≤ 63 ∧ (∀ z ∈ ns, Builtin.Int.intBits z ≤ 1048576) ∧ ∀ H', Q (.bl true) H'
theorem run_form {te2 : TE} {E : XK} {σ : L2.St} {H : Hp} {sa : Addr} {ns : List Int} {c : Int} {k : Nat} {Q : VK} (hS : SqL K H sa (ns.map V.int)) (hl : ns.length ≤ 63) (hσ : σ[0]? = some (some (.ref sa))) (hσ1 : σ[1]? = some (some (.int c))) (hc : 0 ≤ c ∧ Bd 2000000 c) (hk : 1 ≤ k ∧ k ≤ 100)
    (h2 : Ev te2 σ H (.int (k : Int))) (q : ∀ fa H1 us ff, Ex H H1 → H1 fa = some (.tup us) → StepsAt H1 us ff → OkForm ff → ff ≠ [] → ff.length ≤ k → (∀ s ∈ ff, ∀ i ∈ s.2, i.natAbs ≤ 1000) → Q (.ref fa) H1) :
    tCall (spFormula K) [] E (tCons (tOp rCat (tCall (spNumbers K) [] E (tCons (tVar 0) (tCons (tC (.int 1)) (tCons (tC (.int 10)) tNil)))) (tLst (tCons (tVar 1) tNil))) (tCons te2 tNil)) σ H Q := by
  refine ⟨_, hσ, sa, ns, 1, 10, rfl, hS, hl, by decide, by decide, fun p H2 xs np e2 hp hall hlen => ?_⟩
  refine ⟨_, hσ1, by show 1 ≤ sizeLine; decide, fun b hb => ⟨p, b, xs.map V.int, [.int c], rfl, rfl, ex_app (Ex.new hb) hp, upd_same, ?_, fun d hd => ?_⟩⟩
  · rw [List.length_map]
    exact sz_of (by simp; omega)
  · have e3 : Ex H (upd (upd H2 b (.lst [.int c])) d (.lst (xs.map V.int ++ [.int c]))) := (e2.trans (Ex.new hb)).trans (Ex.new hd)
    refine (h2.mono e3) _ (Ex.refl _) _ fun H4 e4 => ?_
    refine ⟨d, xs ++ [c], k, rfl, ?_, fun x hx => ?_, by simp, hk.1, hk.2, fun ss ok ne hz hsm a H5 us na e5 h5 s5 => q a H5 us ss ((e3.trans e4).trans e5) h5 s5 ok ne hz hsm⟩
    · rw [List.map_append]
      exact sq_of (e4 _ _ upd_same)
    · rcases List.mem_append.mp hx with h | h
      · have h6 := hall x h
        exact ⟨h6.1, ab_mono (a := 12) (show x.natAbs < 2 ^ 12 by omega) (by decide)⟩
      · rw [List.mem_singleton] at h
        subst h
        exact hc
theorem sm_small {i : Int} (h : i.natAbs ≤ 1000000000000) : Sm i.natAbs := Nat.lt_of_le_of_lt h (by decide +kernel)
theorem rc_strI {H : Hp} {i : Int} (h : Sm i.natAbs) : RC (fun xs H Q => ∃ i, xs = [.int i] ∧ i.natAbs.log2 < 1920 ∧ Q (.str (toString i)) H) [.int i] H (.str (S (intL i))) := fun H1 _ Q q => ⟨i, rfl, sm_lg h, by
  have e := int_text i
  show Q (.str (Str.ofString (toString i))) H1
  rw [e]
  exact q H1 (Ex.refl H1)⟩
theorem rv_cat {H : Hp} {a b : List Nat} (h : a.length + b.length ≤ 100000) : RV (fun x y H Q => ∃ i j, x = .str i ∧ y = .str j ∧ i.length + j.length ≤ sizeLine ∧ Q (.str (i ++ j)) H) (.str (S a)) (.str (S b)) H (.str (S (a ++ b))) := fun H1 _ Q q => ⟨S a, S b, rfl, rfl, by
  rw [S_len, S_len]
  exact sz_of h, by
  rw [S_cat]
  exact q H1 (Ex.refl H1)⟩
theorem pw {j : Int} (h : 0 ≤ j ∧ j ≤ 100) : CPow 10 j := ⟨h.1, by omega, by decide⟩
theorem e50 : (10 : Int) ^ ((50 : Int).toNat) = 100000000000000000000000000000000000000000000000000 := by decide +kernel
theorem e40 : (10 : Int) ^ ((40 : Int).toNat) = 10000000000000000000000000000000000000000 := by decide +kernel
theorem e60 : (10 : Int) ^ ((60 : Int).toNat) = 1000000000000000000000000000000000000000000000000000000000000 := by decide +kernel
theorem m150 : ((100000000000000000000000000000000000000000000000000 : Int) * 100000000000000000000000000000000000000000000000000) * 100000000000000000000000000000000000000000000000000 = 1000000000000000000000000000000000000000000000000000000000000000000000000000000000000000000000000000000000000000000000000000000000000000000000000000000 := by decide +kernel
theorem b50 : (100000000000000000000000000000000000000000000000000 : Int).natAbs < 2 ^ 200 := by decide +kernel
theorem b100 : ((100000000000000000000000000000000000000000000000000 : Int) * 100000000000000000000000000000000000000000000000000).natAbs < 2 ^ 400 := by decide +kernel
def big (c : Int) : Int := spr c 1000000000000000000000000000000000000000000000000000000000000000000000000000000000000000000000000000000000000000000000000000000000000000000000000000000
theorem big_sm (c : Int) : Sm (big c - 10000000000000000000000000000000000000000).natAbs := by
  have h1 : 0 ≤ big c := Int.emod_nonneg _ (by decide)
  have h2 : big c < 1000000000000000000000000000000000000000000000000000000000000000000000000000000000000000000000000000000000000000000000000000000000000000000000000000000 := Int.emod_lt_of_pos _ (by decide)
  have h3 : (big c - 10000000000000000000000000000000000000000).natAbs < 10000000000000000000000000000000000000000000000000000000000000000000000000000000000000000000000000000000000000000000000000000000000000000000000000000000 := by omega
  exact Nat.lt_trans h3 (by decide +kernel)
theorem sixty_sm : Sm (1000000000000000000000000000000000000000000000000000000000000 : Int).natAbs := by
  show (1000000000000000000000000000000000000000000000000000000000000 : Int).natAbs < 10 ^ 300
  decide +kernel
theorem flat_len : ∀ (L : List (List Nat)), (∀ p ∈ L, p.length ≤ 2000) → L.flatten.length ≤ L.length * 2000
  | [], _ => Nat.zero_le _
  | p :: L, h => by
    have h1 := h p (List.mem_cons_self ..)
    have h2 := flat_len L fun z hz => h z (List.mem_cons_of_mem _ hz)
    rw [List.flatten_cons, List.length_append, List.length_cons, Nat.add_mul]
    omega
def tx (b : Int) (rs : List Row) (i : Nat) : List Nat := (((TL.joinL [32] (headL b)) :: (rs.take i).map rowT).map (· ++ [10])).flatten
theorem tx_succ {b : Int} {rs : List Row} {i : Nat} {r : Row} (h : rs[i]? = some r) : tx b rs (i + 1) = tx b rs i ++ (rowT r ++ [10]) := by
  unfold tx
  rw [List.take_succ, h]
  simp
theorem tx_all (b : Int) (rs : List Row) : tx b rs rs.length = textL b rs := by
  unfold tx
  rw [List.take_length]
  exact (lines_flat 10 (linesL b rs) (List.cons_ne_nil _ _)).symm
theorem tx_len {b : Int} {rs : List Row} (i : Nat) (hb : (intL b).length ≤ 600) (h : ∀ r ∈ rs, RowSm r) (hr : rs.length ≤ 12) : (tx b rs i).length ≤ 26000 := by
  have h1 := flat_len (((TL.joinL [32] (headL b)) :: (rs.take i).map rowT).map (· ++ [10])) fun p hp => by
    obtain ⟨z, hz, rfl⟩ := List.mem_map.mp hp
    rw [List.length_append, List.length_singleton]
    rcases List.mem_cons.mp hz with rfl | hz
    · have : TL.joinL [32] (headL b) = paperL ++ ([32] ++ intL b) := rfl
      rw [this, List.length_append, List.length_append]
      show 5 + (1 + (intL b).length) + 1 ≤ 2000
      omega
    · obtain ⟨r, hr, rfl⟩ := List.mem_map.mp hz
      have := row_len (h r (List.mem_of_mem_take hr))
      omega
  rw [List.length_map, List.length_cons, List.length_map, List.length_take] at h1
  unfold tx
  omega
def WP (x : Str) : Prop := 32 ∉ x.cps.toList ∧ 10 ∉ x.cps.toList ∧ x.cps.toList.length ≤ 20
instance (x : Str) : Decidable (WP x) := by unfold WP; infer_instance
theorem wp2 : ∀ x ∈ W2, WP x := w2_all ⟨by decide +kernel, by decide +kernel, by decide +kernel, by decide +kernel⟩
theorem wp1 : ∀ x ∈ W1, WP x := w1_all ⟨by decide +kernel, by decide +kernel, by decide +kernel, by decide +kernel, by decide +kernel, by decide +kernel, by decide +kernel, by decide +kernel⟩
theorem wpn : WP "number" := by decide +kernel
theorem wpp : WP "pi" := by decide +kernel
theorem step_facts {k : Nat} {s : FStep} (h : OkStep k s) : WP s.1 ∧ (s.2 = [] ∨ (∃ i, s.2 = [i]) ∨ ∃ i j, s.2 = [i, j]) := by
  rcases h with ⟨p, q, rfl, _⟩ | rfl | ⟨w, i, j, hw, rfl, _⟩ | ⟨w, i, hw, rfl, _⟩
  · exact ⟨wpn, .inr (.inr ⟨p, q, rfl⟩)⟩
  · exact ⟨wpp, .inl rfl⟩
  · exact ⟨wp2 w hw, .inr (.inr ⟨i, j, rfl⟩)⟩
  · exact ⟨wp1 w hw, .inr (.inl ⟨i, rfl⟩)⟩
def encD (e : Enc) : PyData := .tuple [.int e.1, .int e.2]
theorem encs_dp {H : Hp} : ∀ {vs : List V} {es : List Enc}, EncsAt H vs es → DpAll K H vs (es.map encD)
  | [], [], _ => .nil
  | [], _ :: _, h => by simp [EncsAt] at h
  | _ :: _, [], h => by simp [EncsAt] at h
  | v :: vs, e :: es, h => by
    obtain ⟨p, hp, h2⟩ := h.2 0 v e rfl rfl
    subst hp
    exact .cons (.tup (st_of h2) (.cons (.int _) (.cons (.int _) .nil))) (encs_dp ⟨by simpa using h.1, fun i x y a b => h.2 (i + 1) x y a b⟩)
def papD (b : Int) (es : List Enc) : PyData := .tuple [.int b, .tuple (es.map encD)]
theorem pap_dp {H : Hp} {p : Addr} {b : Int} {es : List Enc} (h : PaperAt H p b es) : Dp K H (.ref p) (papD b es) := by
  obtain ⟨q, vs, h1, h2, h3⟩ := h
  exact .tup (st_of h1) (.cons (.int _) (.cons (.tup (st_of h2) (encs_dp h3)) .nil))
theorem lay_encs : ∀ es : List Enc, PyData.canLayAll0 (es.map encD) = true
  | [] => rfl
  | e :: r => by
    show (PyData.canLay0 (encD e) && PyData.canLayAll0 (r.map encD)) = true
    rw [lay_encs r]
    rfl
theorem dep_encs : ∀ es : List Enc, PyData.depthAll (es.map encD) ≤ 1
  | [] => Nat.zero_le _
  | e :: r => by
    show max 1 (PyData.depthAll (r.map encD)) ≤ 1
    have := dep_encs r
    omega
def backD (ff : List FStep) (b : Int) (es : List Enc) : PyData := .tuple [foD ff, papD b es]
theorem sh_back {ff : List FStep} {b : Int} {es : List Enc} (h : ∀ s ∈ ff, OkS s) : SeqAt.shaped (backD ff b es) = true := by
  unfold SeqAt.shaped
  rw [show PyData.canLay0 (backD ff b es) = (PyData.canLayAll0 (ff.map stD) && ((true && (PyData.canLayAll0 (es.map encD) && true)) && true)) from rfl, lay_sts h, lay_encs]
  refine decide_eq_true ?_
  show max (PyData.depthAll (ff.map stD) + 1) (max ((max 0 (max (PyData.depthAll (es.map encD) + 1) 0)) + 1) 0) + 1 ≤ 64
  have h1 := dep_sts ff
  have h2 := dep_encs es
  omega
theorem ok_law {f f0 f1 f2 f3 f4 f5 f6 f7 f8 f9 f10 f11 f12 f13 f14 d C : Addr} {fd fd0 fd1 fd2 fd3 fd4 fd5 fd6 fd7 fd8 fd9 fd10 fd11 fd12 fd13 fd14 : FuncData} (F : Fun K "law" "law" s_law f fd)
    (F_is_integer : Fun K "is_integer" "is_integer" s_is_integer f0 fd0) (F_are_integers : Fun K "are_integers" "are_integers" s_are_integers f1 fd1) (F_is_formula : Fun K "is_formula" "is_formula" s_is_formula f2 fd2) (F_is_step : Fun K "is_step" "is_step" s_is_step f3 fd3) (F_is_paper : Fun K "is_paper" "is_paper" s_is_paper f4 fd4) (F_is_enclosure : Fun K "is_enclosure" "is_enclosure" s_is_enclosure f5 fd5) (F_write_paper : Fun K "write_paper" "write_paper" s_write_paper f6 fd6) (F_read_paper : Fun K "read_paper" "read_paper" s_read_paper f7 fd7) (F_read_head : Fun K "read_head" "read_head" s_read_head f8 fd8) (F_read_row : Fun K "read_row" "read_row" s_read_row f9 fd9) (F_read_number : Fun K "read_number" "read_number" s_read_number f10 fd10) (F_law_cell : Fun K "_law_cell" "_law_cell" s_law_cell f11 fd11) (F_law_numbers : Fun K "_law_numbers" "_law_numbers" s_law_numbers f12 fd12) (F_law_formula : Fun K "_law_formula" "_law_formula" s_law_formula f13 fd13) (F_law_spread : Fun K "_law_spread" "_law_spread" s_law_spread f14 fd14)
    (b_is_integer : Binds K fd0 ["value"] []) (b_are_integers : Binds K fd1 ["values"] []) (b_is_formula : Binds K fd2 ["value"] []) (b_is_step : Binds K fd3 ["step", "place"] []) (b_is_paper : Binds K fd4 ["value"] []) (b_is_enclosure : Binds K fd5 ["value"] []) (b_write_paper : Binds K fd6 ["formula", "paper"] []) (b_read_paper : Binds K fd7 ["text"] []) (b_read_head : Binds K fd8 ["line"] []) (b_read_row : Binds K fd9 ["line"] []) (b_read_number : Binds K fd10 ["word"] []) (b_law_cell : Binds K fd11 ["script", "k"] []) (b_law_numbers : Binds K fd12 ["script", "first", "most"] []) (b_law_formula : Binds K fd13 ["numbers", "most"] []) (b_law_spread : Binds K fd14 ["figure", "most"] [])
    (g_is_integer : mg "is_integer" = some (.ref f0)) (g_are_integers : mg "are_integers" = some (.ref f1)) (g_is_formula : mg "is_formula" = some (.ref f2)) (g_is_step : mg "is_step" = some (.ref f3)) (g_is_paper : mg "is_paper" = some (.ref f4)) (g_is_enclosure : mg "is_enclosure" = some (.ref f5)) (g_write_paper : mg "write_paper" = some (.ref f6)) (g_read_paper : mg "read_paper" = some (.ref f7)) (g_read_head : mg "read_head" = some (.ref f8)) (g_read_row : mg "read_row" = some (.ref f9)) (g_read_number : mg "read_number" = some (.ref f10)) (g_law_cell : mg "_law_cell" = some (.ref f11)) (g_law_numbers : mg "_law_numbers" = some (.ref f12)) (g_law_formula : mg "_law_formula" = some (.ref f13)) (g_law_spread : mg "_law_spread" = some (.ref f14))
    (g_COUNTS : mg "COUNTS" = some (.ref d)) (Cn : Counts K w d) (T : Err K mg C) {t0 t1 t2 : Tok} (g_FEWEST_BITS : mg "FEWEST_BITS" = some (.int 8 t0)) (g_MOST_BITS : mg "MOST_BITS" = some (.int 4096 t1)) (g_MOST_DIGITS : mg "MOST_DIGITS" = some (.int 2000 t2))
    (m_len : mg "len" = none) (m_abs : mg "abs" = none) (m_int : mg "int" = none) (m_bool : mg "bool" = none) (m_str : mg "str" = none) (m_isinstance : mg "isinstance" = none) (m_tuple : mg "tuple" = none) (m_range : mg "range" = none) (m_max : mg "max" = none) (m_enumerate : mg "enumerate" = none) (m_zip : mg "zip" = none) : FnOk P w K mg base CX0 6 f fd ["script"] (spLaw K) := by
  have G_is_step : FnOk P w K mg base CX0 3 f3 fd3 ["step", "place"] spIsStep := ok_isstep F_is_step F_is_integer b_is_integer g_is_integer F_are_integers b_are_integers g_are_integers g_COUNTS Cn m_isinstance m_int m_bool m_len m_tuple m_str
  have G_is_formula : FnOk P w K mg base CX0 4 f2 fd2 ["value"] spIsForm := ok_isform F_is_formula F_is_step G_is_step b_is_step g_is_step m_isinstance m_len m_tuple m_enumerate
  have G_is_enclosure : FnOk P w K mg base CX0 3 f5 fd5 ["value"] spIsEnc := ok_isenc F_is_enclosure F_is_integer b_is_integer g_is_integer F_are_integers b_are_integers g_are_integers m_isinstance m_int m_bool m_len m_tuple
  have G_is_paper : FnOk P w K mg base CX0 4 f4 fd4 ["value"] spIsPaper := ok_ispaper F_is_paper G_is_enclosure F_is_enclosure b_is_enclosure g_is_enclosure F_is_integer b_is_integer g_is_integer g_FEWEST_BITS g_MOST_BITS m_isinstance m_int m_bool m_len m_tuple
  have G_read_number : FnOk P w K mg base (L2.CX P w) 1 f10 fd10 ["word"] spNum := ok_number F_read_number T g_MOST_DIGITS m_len m_int
  have G_read_head : FnOk P w K mg base (L2.CX P w) 2 f8 fd8 ["line"] spHead := ok_head F_read_head T G_read_number F_read_number b_read_number g_read_number m_len
  have G_read_row : FnOk P w K mg base (L2.CX P w) 2 f9 fd9 ["line"] spRow := ok_row F_read_row T G_read_number F_read_number b_read_number g_read_number m_len
  have G_read_paper : FnOk P w K mg base (L2.CX P w) 5 f7 fd7 ["text"] spRead := ok_read F_read_paper T G_read_head F_read_head b_read_head g_read_head G_read_row F_read_row b_read_row g_read_row G_is_formula F_is_formula b_is_formula g_is_formula G_is_paper F_is_paper b_is_paper g_is_paper m_tuple
  have G_write_paper : FnOk P w K mg base CX0 1 f6 fd6 ["formula", "paper"] spWrite := ok_write F_write_paper m_str m_zip
  have G_law_cell : FnOk P w K mg base CX0 1 f11 fd11 ["script", "k"] (spCell K) := ok_cell F_law_cell m_len
  have G_law_numbers : FnOk P w K mg base CX0 1 f12 fd12 ["script", "first", "most"] (spNumbers K) := ok_numbers F_law_numbers m_len m_abs m_int m_range
  have G_law_formula : FnOk P w K mg base CX0 1 f13 fd13 ["numbers", "most"] (spFormula K) := ok_formula F_law_formula m_len m_max m_int m_tuple
  have G_law_spread : FnOk P w K mg base CX0 1 f14 fd14 ["figure", "most"] spSpread := ok_spread F_law_spread m_abs m_int
  refine F.ok sc_law (fun vs H Q E h => ?_) (fun cdv A outer s H vs Q E hr h => ?_)
  · obtain ⟨a, ns, rfl, _⟩ := h
    rfl
  · obtain ⟨sa, ns, rfl, hS, hl, hbits, fin⟩ := h
    refine ⟨_, (pss_cons (ps_set (i := 1) sc_law.nd rfl (.inl rfl) (pe_callB call_abs (by rfl) m_abs (by decide +kernel) (pa_cons (pe_call G_law_cell (hr.mono (by decide)) (by rfl) g_law_cell F_law_cell.kp b_law_cell .nil pass0 (pa_cons (pv 0) (pa_cons pe_int pa_nil))) pa_nil)))
        (pss_cons (ps_set (i := 2) sc_law.nd rfl (.inl rfl) (pe_call G_law_formula (hr.mono (by decide)) (by rfl) g_law_formula F_law_formula.kp b_law_formula .nil pass0 (pa_cons (pe_op op_cat (pe_call G_law_numbers (hr.mono (by decide)) (by rfl) g_law_numbers F_law_numbers.kp b_law_numbers .nil pass0 (pa_cons (pv 0) (pa_cons pe_int (pa_cons pe_int pa_nil)))) (pe_lst (pa_cons (pv 1) pa_nil))) (pa_cons (pe_op op_add pe_int (pe_op op_mod (pe_callTy call_int1 (by rfl) m_int (by decide +kernel) (pa_cons (pv 1) pa_nil)) pe_int)) pa_nil))))
        (Evl.pss_cut (ps_if (pt_cmpR op_eq (pe_op op_mod (pe_op op_fdiv (pv 1) pe_int) pe_int) pe_int (nomark _)) (pss_one (ps_set (i := 2) sc_law.nd rfl (.inl rfl) (pe_op op_catT (pv 2) (pe_tup (pa_cons (pe_tup (pa_cons pe_str (pa_cons (pe_op op_sub (pe_call G_law_spread (hr.mono (by decide)) (by rfl) g_law_spread F_law_spread.kp b_law_spread .nil pass0 (pa_cons (pv 1) (pa_cons (pe_op op_mulX (pe_op op_mulX (pe_op op_pow pe_int pe_int) (pe_op op_pow pe_int pe_int)) (pe_op op_pow pe_int pe_int)) pa_nil))) (pe_op op_pow pe_int pe_int)) (pa_cons (pe_op op_pow pe_int pe_int) pa_nil)))) pa_nil))))) pss_nil)
        (pss_cons (ps_set (i := 3) sc_law.nd rfl (.inl rfl) (pe_op op_add pe_int (pe_op op_mod (pe_op op_fdiv (pv 1) pe_int) pe_int)))
        (pss_cons (ps_set (i := 4) sc_law.nd rfl (.inl rfl) (pe_call G_law_numbers (hr.mono (by decide)) (by rfl) g_law_numbers F_law_numbers.kp b_law_numbers .nil pass0 (pa_cons (pv 0) (pa_cons pe_int (pa_cons pe_int pa_nil)))))
        (pss_cons (ps_set (i := 5) sc_law.nd rfl (.inl rfl) (pe_lst pa_nil))
        (pss_cons (ps_for PassesOwn.never rfl (pi_range1 (by rfl) m_range (pa_cons (pe_callB call_len (by rfl) m_len (by decide +kernel) (pa_cons (pv 2) pa_nil)) pa_nil)) (pg_name (i := 6) sc_law.nd rfl (.inl rfl)) (pss_cons (ps_set (i := 7) sc_law.nd rfl (.inl rfl) (pe_op op_mulX pe_int (pv 6)))
        (pss_cons (ps_if (pt_cmpR op_lt (pv 6) (pe_callB call_len (by rfl) m_len (by decide +kernel) (pa_cons (pv 4) pa_nil)) (nomark _)) (pss_one (ps_set (i := 7) sc_law.nd rfl (.inl rfl) (pe_op op_mod (pe_callTy call_int1 (by rfl) m_int (by decide +kernel) (pa_cons (pe_ix ix_list (pv 4) (pv 6) (fun _ _ => rfl)) pa_nil)) pe_int))) pss_nil)
        (pss_one (ps_expr (pe_bm PySem.F.plainAttrs_list PySem.F.slot_list_append PySem.F.type_list_append mt_append (pv 5) (pa_cons (pe_tup (pa_cons (pe_op op_sub (pv 7) pe_int) (pa_cons (pe_op op_add (pe_op op_sub (pv 7) pe_int) (pe_op op_mulX (pv 6) pe_int)) pa_nil))) pa_nil)))))))
        (pss_cons (ps_set (i := 8) sc_law.nd rfl (.inl rfl) (pe_op op_add_str (pe_op op_add_str pe_str (pe_callTy call_str_int (by rfl) m_str (by decide +kernel) (pa_cons (pv 3) pa_nil))) pe_str))
        (pss_cons (ps_for PassesOwn.never rfl (pi_range1 (by rfl) m_range (pa_cons (pe_callB call_len (by rfl) m_len (by decide +kernel) (pa_cons (pv 2) pa_nil)) pa_nil)) (pg_name (i := 6) sc_law.nd rfl (.inl rfl)) (pss_one (ps_set (i := 8) sc_law.nd rfl (.inl rfl) (pe_op op_add_str (pe_op op_add_str (pe_op op_add_str (pe_op op_add_str (pe_op op_add_str (pe_op op_add_str (pv 8) (pe_join pe_str (pe_lc (own := [("item", 9)]) (g := gName 9) rfl sc_law.nd (pi_tup (pe_ix ix_tup (pv 2) (pv 6) (fun _ _ => rfl))) (blkOk_by (own := [("item", 9)]) (N := ["script", "digit", "formula", "bits", "numbers", "told", "k", "number", "text", "item", "paper", "actual", "back"]) (sc := defScope s_law) (by decide +kernel)) (fun _ _ _ _ _ => (pg_name (i := 9) sc_law.nd rfl (.inl rfl))) (fun _ _ _ _ _ => pts_nil) (fun _ _ _ _ _ => (pe_callTy (T := "str") (r := rStrAny) call_str_any (by rfl) m_str (by decide +kernel) (pa_cons (pv 9) pa_nil)))))) pe_str) (pe_callTy call_str_int (by rfl) m_str (by decide +kernel) (pa_cons (pe_ix ix_tup (pe_ix ix_list (pv 5) (pv 6) (fun _ _ => rfl)) pe_int (fun _ _ => rfl)) pa_nil))) pe_str) (pe_callTy call_str_int (by rfl) m_str (by decide +kernel) (pa_cons (pe_ix ix_tup (pe_ix ix_list (pv 5) (pv 6) (fun _ _ => rfl)) pe_int (fun _ _ => rfl)) pa_nil))) pe_str))))
        (pss_cons (ps_set (i := 10) sc_law.nd rfl (.inl rfl) (pe_tup (pa_cons (pv 3) (pa_cons (pe_callTy call_tuple_of (by rfl) m_tuple (by decide +kernel) (pa_cons (pv 5) pa_nil)) pa_nil))))
        (pss_cons (ps_set (i := 11) sc_law.nd rfl (.inl rfl) (pe_call G_write_paper (hr.mono (by decide)) (by rfl) g_write_paper F_write_paper.kp b_write_paper .nil pass0 (pa_cons (pv 2) (pa_cons (pv 10) pa_nil))))
        (pss_cons (ps_if (PW.pt (pw_or (pt_not (pt_val (pe_callB call_isi (by rfl) m_isinstance (by decide +kernel) (pa_cons (pv 11) (pa_cons (pe_bltn (by rfl) m_str (by decide +kernel) (show RelV (.ty "str") _ from rfl)) pa_nil))))) (pw_or1 (pt_cmpR op_ne (pv 11) (pv 8) (nomark _))))) (pss_one (ps_ret pe_bl)) pss_nil)
        (pss_cons (ps_set (i := 12) sc_law.nd rfl (.inl rfl) (pe_call G_read_paper (hr.mono (by decide)) (by rfl) g_read_paper F_read_paper.kp b_read_paper .nil passL (pa_cons (pv 8) pa_nil)))
        (pss_one (ps_ret (pe_and (pe_callB call_isi (by rfl) m_isinstance (by decide +kernel) (pa_cons (pv 12) (pa_cons (pe_bltn (by rfl) m_tuple (by decide +kernel) (show RelV (.ty "tuple") _ from rfl)) pa_nil))) (pe_one (pe_cmpR (op_eqD hr.units) (pv 12) (pe_tup (pa_cons (pv 2) (pa_cons (pv 10) pa_nil))) (nomark _))))))))))))))))))), ?_⟩
    refine q_asg (ev_cb (ea_cons (ev_call (z := .int (cellOf ns 0)) (ea_cons (ev_var rfl) (ea_cons ev_c ea_nil)) (fun H1 e1 Q1 q1 E1 => ⟨sa, ns, 0, rfl, ex_l e1 hS, q1 H1 (Ex.refl H1)⟩)) ea_nil) rc_abs) fun H1 e1 => ?_
    refine st_is (σ' := [_, _, _, _, _, _, _, _, _, _, _, _, _]) rfl ?_
    replace hS := ex_l e1 hS
    have hcb := cell_bd hbits
    obtain ⟨dg, hdg⟩ : ∃ n : Nat, (cellOf ns 0).natAbs = n := ⟨_, rfl⟩
    rw [hdg] at hcb ⊢
    -- formula
    refine q_asgP (fun v H2 => ∃ fa us ff, v = .ref fa ∧ H2 fa = some (.tup us) ∧ StepsAt H2 us ff ∧ OkForm ff ∧ ff ≠ [] ∧ ff.length ≤ 10 ∧ ∀ s ∈ ff, ∀ i ∈ s.2, i.natAbs ≤ 1000) (fun Q1 k1 => ?_) fun v H2 e2 hP => ?_
    · obtain ⟨k, hk, hk2⟩ : ∃ k : Nat, (1 : Int) + (dg : Int) % 10 = (k : Int) ∧ 1 ≤ k ∧ k ≤ 10 := ⟨1 + dg % 10, by omega, by omega, by omega⟩
      exact run_form hS hl rfl rfl ⟨by omega, ab_mono hcb (by decide)⟩ ⟨hk2.1, by omega⟩ (ev_is (ev_op ev_c (ev_op (ev_cb (ea_cons (ev_var rfl) ea_nil) rc_intI) ev_c (rv_I (by decide))) rv_I0) (congrArg V.int hk)) fun fa H3 us ff e3 h3 s3 ok ne hz hsm => k1 _ _ e3 ⟨fa, us, ff, rfl, h3, s3, ok, ne, by omega, hsm⟩
    obtain ⟨fa, us, ff, rfl, hfa, hst, hok, hne, hz, hsm⟩ := hP
    refine st_is (σ' := [_, _, _, _, _, _, _, _, _, _, _, _, _]) rfl ?_
    refine q_cut (M := fun σ' H' => ∃ fa us ff, σ' = [some (.ref sa), some (.int (dg : Int)), some (.ref fa), none, none, none, none, none, none, none, none, none, none] ∧ Ex H1 H' ∧ H' fa = some (.tup us) ∧ StepsAt H' us ff ∧ OkForm ff ∧ ff ≠ [] ∧ ff.length ≤ 11 ∧ ∀ s ∈ ff, ∀ i ∈ s.2, Sm i.natAbs) ?_ fun σ' H' hM => ?_
    · refine s_when (b := decide (V.int ((dg : Int) / 16 % 4) = V.int 0)) (et_test (ev_op (ev_op (ev_op (ev_var rfl) ev_c (rv_I ⟨by decide, by decide⟩)) ev_c (rv_I (by decide))) ev_c (rv_eq rfl))) (fun hb H3 e3 => ?_) (fun hb H3 e3 => ⟨fa, us, ff, rfl, e2.trans e3, e3 _ _ hfa, hst.mono e3, hok, hne, by omega, fun s hs i hi => sm_small (by have := hsm s hs i hi; omega)⟩)
      refine (ef_cat1 (K := K) (s := (("number" : Str), [big (dg : Int) - 10000000000000000000000000000000000000000, 1000000000000000000000000000000000000000000000000000000000000])) (e3 _ _ hfa) (hst.mono e3) hne (by omega) (ev_var rfl) (ea_cons ev_c (ea_cons (ev_op (ev_call (z := .int (big (dg : Int))) (ea_cons (ev_var rfl) (ea_cons (ev_is (ev_op (ev_op (ev_op ev_c ev_c (rv_I (pw ⟨by decide, by decide⟩))) (ev_op ev_c ev_c (rv_I (pw ⟨by decide, by decide⟩))) (rv_I (by rw [e50]; exact mulx_ok b50 b50 (by decide)))) (ev_op ev_c ev_c (rv_I (pw ⟨by decide, by decide⟩))) (rv_I (by rw [e50]; exact mulx_ok b100 b50 (by decide)))) (congrArg V.int (by rw [e50]; exact m150))) ea_nil)) (fun H5 e5 Q5 q5 E5 => ⟨_, _, rfl, hcb, by decide, q5⟩)) (ev_is (ev_op ev_c ev_c (rv_I (pw ⟨by decide, by decide⟩))) (congrArg V.int e40)) rv_I0) (ea_cons (ev_is (ev_op ev_c ev_c (rv_I (pw ⟨by decide, by decide⟩))) (congrArg V.int e60)) ea_nil))) (show 2 ≤ 100 by decide)) H3 (Ex.refl _) _ fun a H4 vs _ e4 h4 s4 => ?_
      refine ⟨a, vs, _, rfl, e2.trans (e3.trans e4), h4, s4, hok.snoc (.inl ⟨_, _, rfl, by decide⟩), by simp, by rw [List.length_append]; show ff.length + 1 ≤ 11; omega, fun s hs i hi => ?_⟩
      rcases List.mem_append.mp hs with h | h
      · exact sm_small (by have := hsm s h i hi; omega)
      · rw [List.mem_singleton] at h
        subst h
        simp only [List.mem_cons, List.not_mem_nil, or_false] at hi
        rcases hi with rfl | rfl
        · exact big_sm _
        · exact sixty_sm
    clear hfa hst hok hne hz hsm e2
    obtain ⟨fa, us, ff, rfl, e2, hfa, hst, hok, hne, hz, hsm⟩ := hM
    replace hS := ex_l e2 hS
    -- bits
    obtain ⟨bb, hbb, hb1⟩ : ∃ b : Int, 8 + (dg : Int) / 64 % 4089 = b ∧ 8 ≤ b ∧ b ≤ 4096 := ⟨_, rfl, by omega, by omega⟩
    refine q_asg (ev_is (ev_op ev_c (ev_op (ev_op (ev_var rfl) ev_c (rv_I ⟨by decide, by decide⟩)) ev_c (rv_I (by decide))) rv_I0) (congrArg V.int hbb)) fun H3 e3 => ?_
    refine st_is (σ' := [_, _, _, _, _, _, _, _, _, _, _, _, _]) rfl ?_
    replace hS := ex_l e3 hS
    -- numbers
    refine q_asgP (fun v H4 => ∃ ln xs, v = .ref ln ∧ H4 ln = some (.lst ((xs : List Int).map V.int))) (fun Q1 k1 => ?_) fun v H4 e4 hP => ?_
    · exact ⟨_, rfl, sa, ns, 2, 12, rfl, hS, hl, by decide, by decide, fun p H2 xs np e2 hp hall hlen => k1 _ _ e2 ⟨p, xs, rfl, hp⟩⟩
    obtain ⟨ln, xs, rfl, hln⟩ := hP
    refine st_is (σ' := [_, _, _, _, _, _, _, _, _, _, _, _, _]) rfl ?_
    -- told
    refine q_asgL (el_lst ea_nil (show 0 ≤ 100000 by decide)) fun lt H5 nlt e5 hlt => ?_
    refine st_is (σ' := [_, _, _, _, _, _, _, _, _, _, _, _, _]) rfl ?_
    have hfa5 := (e3.trans (e4.trans e5)) _ _ hfa
    have hst5 := hst.mono (e3.trans (e4.trans e5))
    have hln5 := e5 _ _ hln
    have nlt4 : H4 lt = none := nlt
    have hul : us.length = ff.length := hst.1
    refine q_forR1 (n := (us.length : Int)) (ea_cons (ev_cb (ea_cons (ev_var rfl) ea_nil) (rc_lenT (K := K) (st_of hfa5))) ea_nil) ⟨by omega, by omega⟩ (fun i σ' H' => ∃ x6 x7 tv es, σ' = [some (.ref sa), some (.int (dg : Int)), some (.ref fa), some (.int bb), some (.ref ln), some (.ref lt), x6, x7, none, none, none, none, none] ∧ Ex H4 H' ∧ H' lt = some (.lst tv) ∧ EncsAt H' tv es ∧ es.length = i ∧ ∀ e ∈ es, e.1 ≤ e.2 ∧ Sm e.1.natAbs ∧ Sm e.2.natAbs)
      (fun H6 e6 => ⟨_, _, [], [], rfl, e5.trans e6, e6 _ _ hlt, ⟨rfl, fun i v e a _ => by simp at a⟩, rfl, fun e he => by simp at he⟩) (fun i σ' H' hi pp => ?_) (fun σ' H' pp => ?_)
    · obtain ⟨x6, x7, tv, es, rfl, e6, htv, hen, hei, hes⟩ := pp
      refine st_is (σ' := [_, _, _, _, _, _, _, _, _, _, _, _, _]) rfl ?_
      refine q_asg (v := .int (7 * (i : Int))) (ev_op ev_c (ev_var rfl) (rv_I (mulx_ok (a := 4) (b := 20) (by decide) (by omega) (by decide)))) fun H7 e7 => ?_
      refine st_is (σ' := [_, _, _, _, _, _, _, _, _, _, _, _, _]) rfl ?_
      obtain ⟨nn, hnn, hn0⟩ : ∃ nn : Int, (if i < xs.length then xs.getD i 0 % 1000000007 else 7 * (i : Int)) = nn ∧ 0 ≤ nn ∧ nn ≤ 1000000007 := by
        refine ⟨_, rfl, ?_⟩
        split <;> omega
      have hlnx := e7 _ _ (e6 _ _ hln)
      refine q_ifAsg (v := .int nn) (b := decide ((i : Int) < ((xs.map V.int).length : Int))) (et_test (ev_op (ev_var rfl) (ev_cb (ea_cons (ev_var rfl) ea_nil) (rc_lenL (sq_of hlnx))) rv_I0)) (fun hb => ?_) (fun hb => ?_) fun H8 e8 => ?_
      · have h1 := of_decide_eq_true hb
        rw [List.length_map] at h1
        have h2 : i < xs.length := by omega
        rw [if_pos h2] at hnn
        rw [← hnn]
        refine ev_op (ev_cb (ea_cons (ev_op (ev_var rfl) (ev_var rfl) (rv_ixL (v := .int (xs.getD i 0)) (sq_of hlnx) (atI_nat ?_))) ea_nil) rc_intI) ev_c (rv_I (by decide))
        rw [List.getElem?_map, List.getElem?_eq_getElem h2, List.getD_eq_getElem?_getD, List.getElem?_eq_getElem h2]
        rfl
      · have h1 := of_decide_eq_false hb
        rw [List.length_map] at h1
        rw [if_neg (by omega)] at hnn
        rw [← hnn]
        rfl
      refine st_is (σ' := [_, _, _, _, _, _, _, _, _, _, _, _, _]) rfl ?_
      refine s_appU (ys := [.int (nn - 500000000), .int (nn - 500000000 + (i : Int) * 3)]) ((e7.trans e8) _ _ htv) (ev_var rfl) (eu_tup (ea_cons (ev_op (ev_var rfl) ev_c rv_I0) (ea_cons (ev_op (ev_op (ev_var rfl) ev_c rv_I0) (ev_op (ev_var rfl) ev_c (rv_I (mulx_ok (a := 20) (b := 4) (by omega) (by decide) (by decide)))) rv_I0) ea_nil)) (show 2 ≤ 100000 by decide)) (by have := hen.1; omega) fun p H9 _ e9 hp => ?_
      have htv9 := (e7.trans (e8.trans e9)) _ _ htv
      have stb : Kn.Stab H9 (upd H9 lt (.lst (tv ++ [.ref p]))) := Kn.Stab.upd htv9
      have hen9 := hen.mono (e7.trans (e8.trans e9))
      refine ⟨_, _, _, es ++ [(nn - 500000000, nn - 500000000 + (i : Int) * 3)], rfl, Ex.mut (e6.trans (e7.trans (e8.trans e9))) nlt4, upd_same, ⟨by rw [List.length_append, List.length_append, hen.1]; rfl, fun j v e a b => ?_⟩, by rw [List.length_append, hei]; rfl, fun e he => ?_⟩
      · by_cases hj : j < tv.length
        · rw [List.getElem?_append_left hj] at a
          rw [List.getElem?_append_left (by rw [← hen.1]; exact hj)] at b
          obtain ⟨p2, h1, h2⟩ := hen9.2 j v e a b
          exact ⟨p2, h1, stb.tup _ _ h2⟩
        · rw [List.getElem?_append_right (by omega)] at a
          rw [List.getElem?_append_right (by have := hen.1; omega), ← hen.1] at b
          have e0 : j - tv.length = 0 := by
            have := (List.getElem?_eq_some_iff.mp a).1
            simp at this
            omega
          rw [e0] at a b
          cases Option.some.inj a
          cases Option.some.inj b
          exact ⟨p, rfl, stb.tup _ _ hp⟩
      · rcases List.mem_append.mp he with h | h
        · exact hes e h
        · rw [List.mem_singleton] at h
          subst h
          exact ⟨by show nn - 500000000 ≤ nn - 500000000 + (i : Int) * 3; omega, sm_small (by show (nn - 500000000).natAbs ≤ 1000000000000; omega), sm_small (by show (nn - 500000000 + (i : Int) * 3).natAbs ≤ 1000000000000; omega)⟩
    · obtain ⟨x6, x7, tv, es, rfl, e6, htv, hen, hei, hes⟩ := pp
      rw [show ((us.length : Int)).toNat = us.length by omega] at hei
      have hlen : ff.length = es.length := by omega
      obtain ⟨rs, hrs⟩ : ∃ rs, ((ff.zip es).map fun p => (⟨p.1, p.2.1, p.2.2⟩ : Row)) = rs := ⟨_, rfl⟩
      have hrs1 : rs.map Row.s = ff := by
        rw [← hrs, List.map_map]
        exact List.map_fst_zip (by omega)
      have hrs2 : (rs.map fun r => (r.lo, r.hi)) = es := by
        rw [← hrs, List.map_map]
        exact List.map_snd_zip (by omega)
      have hrl : rs.length = ff.length := by
        rw [← hrs1, List.length_map]
      have hat : ∀ r ∈ rs, ∃ j, ff[j]? = some r.s ∧ (r.lo, r.hi) ∈ es := fun r hr => by
        obtain ⟨j, hj⟩ := List.getElem?_of_mem hr
        refine ⟨j, ?_, ?_⟩
        · rw [← hrs1, List.getElem?_map, hj]
          rfl
        · rw [← hrs2]
          exact List.mem_map.mpr ⟨r, hr, rfl⟩
      have hRs : ∀ r ∈ rs, RowSm r := fun r hr => by
        obtain ⟨j, h1, h2⟩ := hat r hr
        obtain ⟨h3, h4⟩ := step_facts (hok j r.s h1)
        obtain ⟨h5, h6, h7⟩ := hes _ h2
        exact ⟨h4, h3.2.2, fun i hi => hsm r.s (List.mem_of_getElem? h1) i hi, h6, h7⟩
      have hb0 : Sm bb.natAbs := sm_small (by omega)
      have hbl := sm_int hb0
      have R : RowsOk bb rs := ⟨hb1, fun r hr => by
        obtain ⟨j, h1, h2⟩ := hat r hr
        obtain ⟨h3, h4⟩ := step_facts (hok j r.s h1)
        have S := hRs r hr
        have a1 := sm_int S.lo
        have a2 := sm_int S.hi
        exact ⟨h3.1, h3.2.2, h4, fun i hi => by have := sm_int (S.args i hi); omega, by omega, by omega⟩, fun r hr => by
        obtain ⟨j, h1, h2⟩ := hat r hr
        exact (step_facts (hok j r.s h1)).1.2.1, fun r hr => by
        obtain ⟨j, h1, h2⟩ := hat r hr
        exact (hes _ h2).1, by rw [hrs1]; exact hok, fun z => hne (by rw [← hrs1, z]; rfl), by omega, by
        rw [← tx_all]
        have := tx_len (b := bb) rs.length (by omega) hRs (by omega)
        omega⟩
      have hfa6 := e6 _ _ ((e3.trans e4) _ _ hfa)
      have hst6 := hst.mono ((e3.trans e4).trans e6)
      rw [← hrs1] at hst6
      rw [← hrs2] at hen
      -- text
      refine q_asg (v := .str (S (tx bb rs 0))) (ev_is (ev_op (ev_op (ev_is (w := .str (S (paperL ++ [32]))) ev_c (congrArg V.str (by decide +kernel))) (ev_cb (ea_cons (ev_var rfl) ea_nil) (rc_strI hb0)) (rv_cat (a := paperL ++ [32]) (by show 6 + (intL bb).length ≤ 100000; omega))) ev_c (rv_cat (b := [10]) (by rw [List.length_append]; show 6 + (intL bb).length + 1 ≤ 100000; omega))) (congrArg (fun z => V.str (S z)) (by simp [tx, headL, TL.joinL]))) fun H7 e7 => ?_
      refine st_is (σ' := [_, _, _, _, _, _, _, _, _, _, _, _, _]) rfl ?_
      have hul2 : us.length = rs.length := by omega
      have hfa7 := e7 _ _ hfa6
      have hst7 := hst6.mono e7
      have htv7 := e7 _ _ htv
      have hen7 := hen.mono e7
      refine q_forR1 (n := (rs.length : Int)) (ea_cons (ev_is (ev_cb (ea_cons (ev_var rfl) ea_nil) (rc_lenT (K := K) (st_of hfa7))) (congrArg V.int (by omega))) ea_nil) ⟨by omega, by omega⟩ (fun i σ' H' => ∃ x6 x7, σ' = [some (.ref sa), some (.int (dg : Int)), some (.ref fa), some (.int bb), some (.ref ln), some (.ref lt), x6, x7, some (.str (S (tx bb rs i))), none, none, none, none] ∧ Ex H7 H') (fun H8 e8 => ⟨_, _, rfl, e8⟩) (fun i σ' H' hi pp => ?_) (fun σ' H' pp => ?_)
      · obtain ⟨x6, x7, rfl, e8⟩ := pp
        refine st_is (σ' := [_, _, _, _, _, _, _, _, _, _, _, _, _]) rfl ?_
        have hi2 : i < rs.length := by omega
        have hr1 : rs[i]? = some rs[i] := List.getElem?_eq_getElem hi2
        generalize rs[i] = r at hr1
        have hux : us[i]? = some us[i] := List.getElem?_eq_getElem (by omega)
        obtain ⟨s1, hs1, sp, hsp0, hsp⟩ := hst7.get hux
        rw [hsp0] at hux
        have htl : i < tv.length := by
          rw [hen7.1, List.length_map]
          exact hi2
        have htx : tv[i]? = some (tv[i]'htl) := List.getElem?_eq_getElem htl
        obtain ⟨en, hen1, ep, hep0, hep⟩ := hen7.get htx
        rw [hep0] at htx
        rw [List.getElem?_map, hr1] at hs1 hen1
        cases Option.some.inj hs1
        cases Option.some.inj hen1
        have S1 := hRs r (List.mem_of_getElem? hr1)
        have q1 := words_len S1
        have q2 := sm_int S1.lo
        have q3 := sm_int S1.hi
        have q4 := tx_len (b := bb) i (by omega) hRs (by omega)
        have te : SqT K H' ep [.int r.lo, .int r.hi] := st_of (e8 _ _ hep)
        have eT : ∀ {σ : L2.St}, σ[5]? = some (some (.ref lt)) → σ[6]? = some (some (.int (i : Int))) → Ev (tOp (rIxL K) (tVar 5) (tVar 6)) σ H' (.ref ep) := fun h1 h2 => ev_op (ev_var h1) (ev_var h2) (rv_ixL (sq_of (e8 _ _ htv7)) (atI_nat htx))
        refine s_asg (v := .str (S (tx bb rs (i + 1)))) (ev_is (ev_op (ev_op (ev_op (ev_op (ev_op (ev_op (ev_var rfl) (ev_words S1 (ev_op (ev_var rfl) (ev_var rfl) (rv_ixT (st_of (e8 _ _ hfa7)) (atI_nat hux))) (e8 _ _ hsp) (fun x => rfl) (fun x => rfl)) (rv_cat (a := tx bb rs i) (b := TL.joinL [32] (wordsL r.s)) (by omega)))
          ev_c (rv_cat (b := [32, 58, 32]) (by rw [List.length_append]; show _ + 3 ≤ 100000; omega))) (ev_cb (ea_cons (ev_op (eT rfl rfl) ev_c (rv_ixT te rfl)) ea_nil) (rc_strI S1.lo)) (rv_cat (by simp only [List.length_append, List.length_cons, List.length_nil]; omega))) ev_c (rv_cat (b := [32]) (by simp only [List.length_append, List.length_cons, List.length_nil]; omega)))
          (ev_cb (ea_cons (ev_op (eT rfl rfl) ev_c (rv_ixT te rfl)) ea_nil) (rc_strI S1.hi)) (rv_cat (by simp only [List.length_append, List.length_cons, List.length_nil]; omega))) ev_c (rv_cat (b := [10]) (by simp only [List.length_append, List.length_cons, List.length_nil]; omega))) (congrArg (fun z => V.str (S z)) (by
            rw [tx_succ hr1, row_words S1]
            simp only [List.append_assoc]))) fun H9 e9 => ⟨_, _, rfl, e8.trans e9⟩
      · obtain ⟨x6, x7, rfl, e8⟩ := pp
        rw [show ((rs.length : Int)).toNat = rs.length by omega, tx_all]
        -- paper
        refine q_asgP (fun v H9 => ∃ pa, v = .ref pa ∧ PaperAt H9 pa bb (rs.map fun r => (r.lo, r.hi))) (fun Q1 k1 => ?_) fun v H9 e9 hP => ?_
        · exact ⟨_, rfl, _, rfl, lt, tv, rfl, .inl ⟨sq_of (e8 _ _ htv7), fun r hr => ⟨by show 2 ≤ sizeLine; decide, fun c hc => k1 _ _ ((Ex.new hr).trans (Ex.new hc)) ⟨c, rfl, r, tv, upd_same, Ex.new hc _ _ upd_same, hen7.mono (e8.trans ((Ex.new hr).trans (Ex.new hc)))⟩⟩⟩⟩
        obtain ⟨pa, rfl, hpa⟩ := hP
        refine st_is (σ' := [_, _, _, _, _, _, _, _, _, _, _, _, _]) rfl ?_
        have hfa9 := (e8.trans e9) _ _ hfa7
        have hst9 := hst7.mono (e8.trans e9)
        -- actual
        refine q_asg (v := .str (S (textL bb rs))) (ev_call (ea_cons (ev_var rfl) (ea_cons (ev_var rfl) ea_nil)) (fun H10 e10 Q10 q10 E10 => ⟨fa, pa, us, bb, rs, rfl, e10 _ _ hfa9, hst9.mono e10, hpa.mono e10, hRs, by omega, hb0, q10⟩)) fun H10 e10 => ?_
        refine st_is (σ' := [_, _, _, _, _, _, _, _, _, _, _, _, _]) rfl ?_
        refine q_when (b := false) (et_is (et_or (a := false) (b := false) (et_is (et_not (et_B (ev_cb (ea_cons (ev_var rfl) (ea_cons ev_c ea_nil)) (rc_isiS (K := K))))) rfl) fun _ => (et_is (et_test (ev_op (ev_var rfl) (ev_var rfl) (rv_ne rfl))) (congrArg (fun b => !b) (decide_eq_true rfl)))) rfl) (fun z => nomatch z) fun _ H11 e11 => ?_
        -- back
        refine q_asgP (fun v H12 => ∃ a f p us, v = .ref a ∧ H12 a = some (.tup [.ref f, .ref p]) ∧ H12 f = some (.tup us) ∧ StepsAt H12 us (rs.map Row.s) ∧ PaperAt H12 p bb (rs.map fun r => (r.lo, r.hi))) (fun Q1 k1 => ?_) fun v H12 e12 hP => ?_
        · exact ⟨_, rfl, bb, rs, rfl, R, fun a f p us H2 na e2 ha hf hs hp => k1 _ _ e2 ⟨a, f, p, us, rfl, ha, hf, hs, hp⟩⟩
        obtain ⟨ba, bf, bp, bus, rfl, hba, hbf, hbs, hbp⟩ := hP
        refine st_is (σ' := [_, _, _, _, _, _, _, _, _, _, _, _, _]) rfl ?_
        have eA := (e10.trans (e11.trans e12))
        have ho : ∀ s ∈ rs.map Row.s, OkS s := by
          rw [hrs1]
          exact hok.oks
        refine s_ret (v := .bl true) (ev_is (ev_andV (ev_cb (ea_cons (ev_var rfl) (ea_cons ev_c ea_nil)) (rc_isiT (K := K) hba)) fun _ => (ev_opU (z := .bl true) (ev_var rfl) (eu_tup (ea_cons (ev_var rfl) (ea_cons (ev_var rfl) ea_nil)) (show 2 ≤ 100000 by decide)) fun c H13 hc e13 => rv_eqS (d := backD (rs.map Row.s) bb (rs.map fun r => (r.lo, r.hi))) (.tup (st_of (e13 _ _ hba)) (.cons (.tup (st_of (e13 _ _ hbf)) (hbs.mono e13).dp) (.cons (pap_dp (hbp.mono e13)) .nil))) (.tup (st_of hc) (.cons (.tup (st_of ((eA.trans e13) _ _ hfa9)) (hst9.mono (eA.trans e13)).dp) (.cons (pap_dp (hpa.mono (eA.trans e13))) .nil))) (sh_back ho))) rfl) fun H14 _ => fin H14
theorem all_mk {l : PySem.W.OpenLaw} {w : World} {K : PySem.W.Frag} {h : Heap} {mg : Str → Option Value} {fa f0 f1 f2 f3 f4 f5 f6 f7 f8 f9 f10 f11 f12 f13 f14 f15 : Addr} (X : K.In h) (G : h.Ns mainGlobals mg) (hfa : mg "law" = some (.ref fa))
    {od0 an0 od1 an1 od2 an2 od3 an3 od4 an4 od5 an5 od6 an6 od7 an7 od8 an8 od9 an9 od10 an10 od11 an11 od12 an12 od13 an13 od14 an14 od15 an15 : Option Addr} {sl0 sl1 sl2 sl3 sl4 sl5 sl6 sl7 sl8 sl9 sl10 sl11 sl12 sl13 sl14 sl15 : Array (Option Value)} {oc0 kV0 dc0 pm0 cd0 ct0 oc1 kV1 dc1 pm1 cd1 ct1 oc2 kV2 dc2 pm2 cd2 ct2 oc3 kV3 dc3 pm3 cd3 ct3 oc4 kV4 dc4 pm4 cd4 ct4 oc5 kV5 dc5 pm5 cd5 ct5 oc6 kV6 dc6 pm6 cd6 ct6 oc7 kV7 dc7 pm7 cd7 ct7 oc8 kV8 dc8 pm8 cd8 ct8 oc9 kV9 dc9 pm9 cd9 ct9 oc10 kV10 dc10 pm10 cd10 ct10 oc11 kV11 dc11 pm11 cd11 ct11 oc12 kV12 dc12 pm12 cd12 ct12 oc13 kV13 dc13 pm13 cd13 ct13 oc14 kV14 dc14 pm14 cd14 ct14 oc15 kV15 dc15 pm15 cd15 ct15 : Value}
    (a0 : PySem.W.nsIn K mainGlobals "is_integer" = some (some (.ref f0))) (l0 : K.lookup f0 = some ⟨oc0, od0, .func (PySem.W.fnOf "is_integer" "is_integer" (defArgs s_is_integer) (defBody s_is_integer) (defScope s_is_integer) .none kV0 dc0 pm0 an0 cd0 ct0), sl0⟩) (c0 : PySem.W.codeIn K cd0 "is_integer" = true) (k0 : PySem.W.keepIn K (.ref f0) = true)
    (a1 : PySem.W.nsIn K mainGlobals "are_integers" = some (some (.ref f1))) (l1 : K.lookup f1 = some ⟨oc1, od1, .func (PySem.W.fnOf "are_integers" "are_integers" (defArgs s_are_integers) (defBody s_are_integers) (defScope s_are_integers) .none kV1 dc1 pm1 an1 cd1 ct1), sl1⟩) (c1 : PySem.W.codeIn K cd1 "are_integers" = true) (k1 : PySem.W.keepIn K (.ref f1) = true)
    (a2 : PySem.W.nsIn K mainGlobals "is_formula" = some (some (.ref f2))) (l2 : K.lookup f2 = some ⟨oc2, od2, .func (PySem.W.fnOf "is_formula" "is_formula" (defArgs s_is_formula) (defBody s_is_formula) (defScope s_is_formula) .none kV2 dc2 pm2 an2 cd2 ct2), sl2⟩) (c2 : PySem.W.codeIn K cd2 "is_formula" = true) (k2 : PySem.W.keepIn K (.ref f2) = true)
    (a3 : PySem.W.nsIn K mainGlobals "is_step" = some (some (.ref f3))) (l3 : K.lookup f3 = some ⟨oc3, od3, .func (PySem.W.fnOf "is_step" "is_step" (defArgs s_is_step) (defBody s_is_step) (defScope s_is_step) .none kV3 dc3 pm3 an3 cd3 ct3), sl3⟩) (c3 : PySem.W.codeIn K cd3 "is_step" = true) (k3 : PySem.W.keepIn K (.ref f3) = true)
    (a4 : PySem.W.nsIn K mainGlobals "is_paper" = some (some (.ref f4))) (l4 : K.lookup f4 = some ⟨oc4, od4, .func (PySem.W.fnOf "is_paper" "is_paper" (defArgs s_is_paper) (defBody s_is_paper) (defScope s_is_paper) .none kV4 dc4 pm4 an4 cd4 ct4), sl4⟩) (c4 : PySem.W.codeIn K cd4 "is_paper" = true) (k4 : PySem.W.keepIn K (.ref f4) = true)
    (a5 : PySem.W.nsIn K mainGlobals "is_enclosure" = some (some (.ref f5))) (l5 : K.lookup f5 = some ⟨oc5, od5, .func (PySem.W.fnOf "is_enclosure" "is_enclosure" (defArgs s_is_enclosure) (defBody s_is_enclosure) (defScope s_is_enclosure) .none kV5 dc5 pm5 an5 cd5 ct5), sl5⟩) (c5 : PySem.W.codeIn K cd5 "is_enclosure" = true) (k5 : PySem.W.keepIn K (.ref f5) = true)
    (a6 : PySem.W.nsIn K mainGlobals "write_paper" = some (some (.ref f6))) (l6 : K.lookup f6 = some ⟨oc6, od6, .func (PySem.W.fnOf "write_paper" "write_paper" (defArgs s_write_paper) (defBody s_write_paper) (defScope s_write_paper) .none kV6 dc6 pm6 an6 cd6 ct6), sl6⟩) (c6 : PySem.W.codeIn K cd6 "write_paper" = true) (k6 : PySem.W.keepIn K (.ref f6) = true)
    (a7 : PySem.W.nsIn K mainGlobals "read_paper" = some (some (.ref f7))) (l7 : K.lookup f7 = some ⟨oc7, od7, .func (PySem.W.fnOf "read_paper" "read_paper" (defArgs s_read_paper) (defBody s_read_paper) (defScope s_read_paper) .none kV7 dc7 pm7 an7 cd7 ct7), sl7⟩) (c7 : PySem.W.codeIn K cd7 "read_paper" = true) (k7 : PySem.W.keepIn K (.ref f7) = true)
    (a8 : PySem.W.nsIn K mainGlobals "read_head" = some (some (.ref f8))) (l8 : K.lookup f8 = some ⟨oc8, od8, .func (PySem.W.fnOf "read_head" "read_head" (defArgs s_read_head) (defBody s_read_head) (defScope s_read_head) .none kV8 dc8 pm8 an8 cd8 ct8), sl8⟩) (c8 : PySem.W.codeIn K cd8 "read_head" = true) (k8 : PySem.W.keepIn K (.ref f8) = true)
    (a9 : PySem.W.nsIn K mainGlobals "read_row" = some (some (.ref f9))) (l9 : K.lookup f9 = some ⟨oc9, od9, .func (PySem.W.fnOf "read_row" "read_row" (defArgs s_read_row) (defBody s_read_row) (defScope s_read_row) .none kV9 dc9 pm9 an9 cd9 ct9), sl9⟩) (c9 : PySem.W.codeIn K cd9 "read_row" = true) (k9 : PySem.W.keepIn K (.ref f9) = true)
    (a10 : PySem.W.nsIn K mainGlobals "read_number" = some (some (.ref f10))) (l10 : K.lookup f10 = some ⟨oc10, od10, .func (PySem.W.fnOf "read_number" "read_number" (defArgs s_read_number) (defBody s_read_number) (defScope s_read_number) .none kV10 dc10 pm10 an10 cd10 ct10), sl10⟩) (c10 : PySem.W.codeIn K cd10 "read_number" = true) (k10 : PySem.W.keepIn K (.ref f10) = true)
    (a11 : PySem.W.nsIn K mainGlobals "_law_cell" = some (some (.ref f11))) (l11 : K.lookup f11 = some ⟨oc11, od11, .func (PySem.W.fnOf "_law_cell" "_law_cell" (defArgs s_law_cell) (defBody s_law_cell) (defScope s_law_cell) .none kV11 dc11 pm11 an11 cd11 ct11), sl11⟩) (c11 : PySem.W.codeIn K cd11 "_law_cell" = true) (k11 : PySem.W.keepIn K (.ref f11) = true)
    (a12 : PySem.W.nsIn K mainGlobals "_law_numbers" = some (some (.ref f12))) (l12 : K.lookup f12 = some ⟨oc12, od12, .func (PySem.W.fnOf "_law_numbers" "_law_numbers" (defArgs s_law_numbers) (defBody s_law_numbers) (defScope s_law_numbers) .none kV12 dc12 pm12 an12 cd12 ct12), sl12⟩) (c12 : PySem.W.codeIn K cd12 "_law_numbers" = true) (k12 : PySem.W.keepIn K (.ref f12) = true)
    (a13 : PySem.W.nsIn K mainGlobals "_law_formula" = some (some (.ref f13))) (l13 : K.lookup f13 = some ⟨oc13, od13, .func (PySem.W.fnOf "_law_formula" "_law_formula" (defArgs s_law_formula) (defBody s_law_formula) (defScope s_law_formula) .none kV13 dc13 pm13 an13 cd13 ct13), sl13⟩) (c13 : PySem.W.codeIn K cd13 "_law_formula" = true) (k13 : PySem.W.keepIn K (.ref f13) = true)
    (a14 : PySem.W.nsIn K mainGlobals "_law_spread" = some (some (.ref f14))) (l14 : K.lookup f14 = some ⟨oc14, od14, .func (PySem.W.fnOf "_law_spread" "_law_spread" (defArgs s_law_spread) (defBody s_law_spread) (defScope s_law_spread) .none kV14 dc14 pm14 an14 cd14 ct14), sl14⟩) (c14 : PySem.W.codeIn K cd14 "_law_spread" = true) (k14 : PySem.W.keepIn K (.ref f14) = true)
    (a15 : PySem.W.nsIn K mainGlobals "law" = some (some (.ref f15))) (l15 : K.lookup f15 = some ⟨oc15, od15, .func (PySem.W.fnOf "law" "law" (defArgs s_law) (defBody s_law) (defScope s_law) .none kV15 dc15 pm15 an15 cd15 ct15), sl15⟩) (c15 : PySem.W.codeIn K cd15 "law" = true) (k15 : PySem.W.keepIn K (.ref f15) = true)
    (z0 : PySem.W.nsIn K mainGlobals "len" = some none)
    (z1 : PySem.W.nsIn K mainGlobals "abs" = some none)
    (z2 : PySem.W.nsIn K mainGlobals "int" = some none)
    (z3 : PySem.W.nsIn K mainGlobals "bool" = some none)
    (z4 : PySem.W.nsIn K mainGlobals "str" = some none)
    (z5 : PySem.W.nsIn K mainGlobals "isinstance" = some none)
    (z6 : PySem.W.nsIn K mainGlobals "tuple" = some none)
    (z7 : PySem.W.nsIn K mainGlobals "range" = some none)
    (z8 : PySem.W.nsIn K mainGlobals "max" = some none)
    (z9 : PySem.W.nsIn K mainGlobals "enumerate" = some none)
    (z10 : PySem.W.nsIn K mainGlobals "zip" = some none)
    {dd : Addr} {es : Array DictEntry} {nd : Nat} {t0 t1 t2 t3 t4 t5 t6 t7 t8 t9 t10 t11 t12 t13 : Tok} (zc : PySem.W.nsIn K mainGlobals "COUNTS" = some (some (.ref dd))) (zl : K.lookup dd = some ⟨.type "dict", none, .dict es nd, #[]⟩) (zk : PySem.W.KeysLit w.params es.toList) (zo : (dd == sysModules) = false)
    (y0 : PySem.W.nsIn K dd "number" = some (some (.int 2 t0)))
    (y1 : PySem.W.nsIn K dd "pi" = some (some (.int 0 t1)))
    (y2 : PySem.W.nsIn K dd "add" = some (some (.int 2 t2)))
    (y3 : PySem.W.nsIn K dd "subtract" = some (some (.int 2 t3)))
    (y4 : PySem.W.nsIn K dd "times" = some (some (.int 2 t4)))
    (y5 : PySem.W.nsIn K dd "divide" = some (some (.int 2 t5)))
    (y6 : PySem.W.nsIn K dd "root" = some (some (.int 1 t6)))
    (y7 : PySem.W.nsIn K dd "sine" = some (some (.int 1 t7)))
    (y8 : PySem.W.nsIn K dd "cosine" = some (some (.int 1 t8)))
    (y9 : PySem.W.nsIn K dd "exp" = some (some (.int 1 t9)))
    (y10 : PySem.W.nsIn K dd "log" = some (some (.int 1 t10)))
    (y11 : PySem.W.nsIn K dd "arctan" = some (some (.int 1 t11)))
    (y12 : PySem.W.nsIn K dd "arcsine" = some (some (.int 1 t12)))
    (y13 : PySem.W.nsIn K dd "arccosine" = some (some (.int 1 t13)))
    {t0_ t1_ t2_ : Tok} (u0 : PySem.W.nsIn K mainGlobals "FEWEST_BITS" = some (some (.int 8 t0_))) (u1 : PySem.W.nsIn K mainGlobals "MOST_BITS" = some (some (.int 4096 t1_))) (u2 : PySem.W.nsIn K mainGlobals "MOST_DIGITS" = some (some (.int 2000 t2_)))
    {CI : Addr} (uI : PySem.W.nsIn K mainGlobals "InvalidText" = some (some (.ref CI))) (xI : PySem.W.excIn K CI [.type "ValueError", .type "Exception", .type "BaseException", .type "object"] "ValueError.__new__" = true) (kI : PySem.W.keepIn K (.ref CI) = true) (bI : PySem.W.subIn K (.ref CI) (.type "BaseException") = some true) (tI : PySem.W.typeIn K (.ref CI) = some (.type "type"))
    : ∃ fd : FuncData, (∀ (s : Shared) (v : Value), BindsTo s fd ⟨[v], []⟩ [("script", v)]) ∧ ∀ base : Heap, K.In base → base.Ns mainGlobals mg → FnOk l.prog w K mg base CX0 6 fa fd ["script"] (spLaw K) := by
  have e := hfa.symm.trans (PySem.W.mg_of X G a15)
  cases e
  have F_is_integer := fun_mk (st := s_is_integer) l0 c0 k0
  have F_are_integers := fun_mk (st := s_are_integers) l1 c1 k1
  have F_is_formula := fun_mk (st := s_is_formula) l2 c2 k2
  have F_is_step := fun_mk (st := s_is_step) l3 c3 k3
  have F_is_paper := fun_mk (st := s_is_paper) l4 c4 k4
  have F_is_enclosure := fun_mk (st := s_is_enclosure) l5 c5 k5
  have F_write_paper := fun_mk (st := s_write_paper) l6 c6 k6
  have F_read_paper := fun_mk (st := s_read_paper) l7 c7 k7
  have F_read_head := fun_mk (st := s_read_head) l8 c8 k8
  have F_read_row := fun_mk (st := s_read_row) l9 c9 k9
  have F_read_number := fun_mk (st := s_read_number) l10 c10 k10
  have F_law_cell := fun_mk (st := s_law_cell) l11 c11 k11
  have F_law_numbers := fun_mk (st := s_law_numbers) l12 c12 k12
  have F_law_formula := fun_mk (st := s_law_formula) l13 c13 k13
  have F_law_spread := fun_mk (st := s_law_spread) l14 c14 k14
  have F_law := fun_mk (st := s_law) l15 c15 k15
  have b_is_integer := F_is_integer.binds (ps := ["value"]) fun _ _ _ _ _ _ us hl => match us, hl with | [_], _ => rfl
  have g_is_integer := PySem.W.mg_of X G a0
  have b_are_integers := F_are_integers.binds (ps := ["values"]) fun _ _ _ _ _ _ us hl => match us, hl with | [_], _ => rfl
  have g_are_integers := PySem.W.mg_of X G a1
  have b_is_formula := F_is_formula.binds (ps := ["value"]) fun _ _ _ _ _ _ us hl => match us, hl with | [_], _ => rfl
  have g_is_formula := PySem.W.mg_of X G a2
  have b_is_step := F_is_step.binds (ps := ["step", "place"]) fun _ _ _ _ _ _ us hl => match us, hl with | [_, _], _ => rfl
  have g_is_step := PySem.W.mg_of X G a3
  have b_is_paper := F_is_paper.binds (ps := ["value"]) fun _ _ _ _ _ _ us hl => match us, hl with | [_], _ => rfl
  have g_is_paper := PySem.W.mg_of X G a4
  have b_is_enclosure := F_is_enclosure.binds (ps := ["value"]) fun _ _ _ _ _ _ us hl => match us, hl with | [_], _ => rfl
  have g_is_enclosure := PySem.W.mg_of X G a5
  have b_write_paper := F_write_paper.binds (ps := ["formula", "paper"]) fun _ _ _ _ _ _ us hl => match us, hl with | [_, _], _ => rfl
  have g_write_paper := PySem.W.mg_of X G a6
  have b_read_paper := F_read_paper.binds (ps := ["text"]) fun _ _ _ _ _ _ us hl => match us, hl with | [_], _ => rfl
  have g_read_paper := PySem.W.mg_of X G a7
  have b_read_head := F_read_head.binds (ps := ["line"]) fun _ _ _ _ _ _ us hl => match us, hl with | [_], _ => rfl
  have g_read_head := PySem.W.mg_of X G a8
  have b_read_row := F_read_row.binds (ps := ["line"]) fun _ _ _ _ _ _ us hl => match us, hl with | [_], _ => rfl
  have g_read_row := PySem.W.mg_of X G a9
  have b_read_number := F_read_number.binds (ps := ["word"]) fun _ _ _ _ _ _ us hl => match us, hl with | [_], _ => rfl
  have g_read_number := PySem.W.mg_of X G a10
  have b_law_cell := F_law_cell.binds (ps := ["script", "k"]) fun _ _ _ _ _ _ us hl => match us, hl with | [_, _], _ => rfl
  have g_law_cell := PySem.W.mg_of X G a11
  have b_law_numbers := F_law_numbers.binds (ps := ["script", "first", "most"]) fun _ _ _ _ _ _ us hl => match us, hl with | [_, _, _], _ => rfl
  have g_law_numbers := PySem.W.mg_of X G a12
  have b_law_formula := F_law_formula.binds (ps := ["numbers", "most"]) fun _ _ _ _ _ _ us hl => match us, hl with | [_, _], _ => rfl
  have g_law_formula := PySem.W.mg_of X G a13
  have b_law_spread := F_law_spread.binds (ps := ["figure", "most"]) fun _ _ _ _ _ _ us hl => match us, hl with | [_, _], _ => rfl
  have g_law_spread := PySem.W.mg_of X G a14
  have m_len := PySem.W.mg_none_of X G z0
  have m_abs := PySem.W.mg_none_of X G z1
  have m_int := PySem.W.mg_none_of X G z2
  have m_bool := PySem.W.mg_none_of X G z3
  have m_str := PySem.W.mg_none_of X G z4
  have m_isinstance := PySem.W.mg_none_of X G z5
  have m_tuple := PySem.W.mg_none_of X G z6
  have m_range := PySem.W.mg_none_of X G z7
  have m_max := PySem.W.mg_none_of X G z8
  have m_enumerate := PySem.W.mg_none_of X G z9
  have m_zip := PySem.W.mg_none_of X G z10
  have g_COUNTS := PySem.W.mg_of X G zc
  have C : Counts K w dd := ⟨⟨es, nd, zl, zk, zo⟩, ⟨_, y0⟩, ⟨_, y1⟩, w2_all ⟨⟨_, y2⟩, ⟨_, y3⟩, ⟨_, y4⟩, ⟨_, y5⟩⟩, w1_all ⟨⟨_, y6⟩, ⟨_, y7⟩, ⟨_, y8⟩, ⟨_, y9⟩, ⟨_, y10⟩, ⟨_, y11⟩, ⟨_, y12⟩, ⟨_, y13⟩⟩⟩
  have T : Err K mg CI := ⟨PySem.W.mg_of X G uI, xI, kI, bI, tI⟩
  exact ⟨PySem.W.fnOf "law" "law" (defArgs s_law) (defBody s_law) (defScope s_law) .none kV15 dc15 pm15 an15 cd15 ct15, fun s v => .of_eq rfl, fun base _ _ => ok_law F_law F_is_integer F_are_integers F_is_formula F_is_step F_is_paper F_is_enclosure F_write_paper F_read_paper F_read_head F_read_row F_read_number F_law_cell F_law_numbers F_law_formula F_law_spread b_is_integer b_are_integers b_is_formula b_is_step b_is_paper b_is_enclosure b_write_paper b_read_paper b_read_head b_read_row b_read_number b_law_cell b_law_numbers b_law_formula b_law_spread g_is_integer g_are_integers g_is_formula g_is_step g_is_paper g_is_enclosure g_write_paper g_read_paper g_read_head g_read_row g_read_number g_law_cell g_law_numbers g_law_formula g_law_spread g_COUNTS C T (PySem.W.mg_of X G u0) (PySem.W.mg_of X G u1) (PySem.W.mg_of X G u2) m_len m_abs m_int m_bool m_str m_isinstance m_tuple m_range m_max m_enumerate m_zip⟩
end
end K13
open PySem PySem.W PyProof.Rows
set_option maxHeartbeats 0 in
theorem PySem.Challenge.cw_portolan_k13_texts_of_papers_holds : PySem.Challenge.rw_portolan_k13_texts_of_papers.Holds := by
  w_on; o_law; k_head; (case hw => w_witness2)
  k_fill
  refine L2.walk_ofB (l := PySem.Challenge.rw_portolan_k13_texts_of_papers) (n := 63) (k := 6) (x := "script") (CX := fun _ => L2.CX0) (sp := fun w => K13.spLaw _) rfl (by decide) rfl ⟨rfl, by decide, by decide⟩ (fun w h Y => PySem.W.kIn_of Y) ?F (fun _ _ a ns hl hbits _ hS => ⟨a, ns, rfl, hS, hl, hbits, fun _ => rfl⟩) (fun _ _ _ _ _ h => h)
  case F =>
    intro w mg fa h KX G hmg
    refine' K13.all_mk KX G hmg ?a0 ?l0 ?c0 ?k0 ?a1 ?l1 ?c1 ?k1 ?a2 ?l2 ?c2 ?k2 ?a3 ?l3 ?c3 ?k3 ?a4 ?l4 ?c4 ?k4 ?a5 ?l5 ?c5 ?k5 ?a6 ?l6 ?c6 ?k6 ?a7 ?l7 ?c7 ?k7 ?a8 ?l8 ?c8 ?k8 ?a9 ?l9 ?c9 ?k9 ?a10 ?l10 ?c10 ?k10 ?a11 ?l11 ?c11 ?k11 ?a12 ?l12 ?c12 ?k12 ?a13 ?l13 ?c13 ?k13 ?a14 ?l14 ?c14 ?k14 ?a15 ?l15 ?c15 ?k15 ?z0 ?z1 ?z2 ?z3 ?z4 ?z5 ?z6 ?z7 ?z8 ?z9 ?z10 ?zc ?zl ?zk ?zo ?y0 ?y1 ?y2 ?y3 ?y4 ?y5 ?y6 ?y7 ?y8 ?y9 ?y10 ?y11 ?y12 ?y13 ?u0 ?u1 ?u2 ?uI ?xI ?kI ?bI ?tI
    (case a0 => k_is); (case l0 => k_is); (case c0 => k_is); (case k0 => k_is); (case a1 => k_is); (case l1 => k_is); (case c1 => k_is); (case k1 => k_is); (case a2 => k_is); (case l2 => k_is); (case c2 => k_is); (case k2 => k_is); (case a3 => k_is); (case l3 => k_is); (case c3 => k_is); (case k3 => k_is); (case a4 => k_is); (case l4 => k_is); (case c4 => k_is); (case k4 => k_is); (case a5 => k_is); (case l5 => k_is); (case c5 => k_is); (case k5 => k_is); (case a6 => k_is); (case l6 => k_is); (case c6 => k_is); (case k6 => k_is); (case a7 => k_is); (case l7 => k_is); (case c7 => k_is); (case k7 => k_is); (case a8 => k_is); (case l8 => k_is); (case c8 => k_is); (case k8 => k_is); (case a9 => k_is); (case l9 => k_is); (case c9 => k_is); (case k9 => k_is); (case a10 => k_is); (case l10 => k_is); (case c10 => k_is); (case k10 => k_is); (case a11 => k_is); (case l11 => k_is); (case c11 => k_is); (case k11 => k_is); (case a12 => k_is); (case l12 => k_is); (case c12 => k_is); (case k12 => k_is); (case a13 => k_is); (case l13 => k_is); (case c13 => k_is); (case k13 => k_is); (case a14 => k_is); (case l14 => k_is); (case c14 => k_is); (case k14 => k_is); (case a15 => k_is); (case l15 => k_is); (case c15 => k_is); (case k15 => k_is); (case z0 => k_is); (case z1 => k_is); (case z2 => k_is); (case z3 => k_is); (case z4 => k_is); (case z5 => k_is); (case z6 => k_is); (case z7 => k_is); (case z8 => k_is); (case z9 => k_is); (case z10 => k_is); (case zc => k_is); (case zl => k_is); (case zk => k_keys); (case zo => decide); (case y0 => k_is); (case y1 => k_is); (case y2 => k_is); (case y3 => k_is); (case y4 => k_is); (case y5 => k_is); (case y6 => k_is); (case y7 => k_is); (case y8 => k_is); (case y9 => k_is); (case y10 => k_is); (case y11 => k_is); (case y12 => k_is); (case y13 => k_is); (case u0 => k_is); (case u1 => k_is); (case u2 => k_is); (case uI => k_is); (case xI => k_exc); (case kI => k_is); (case bI => k_is); (case tI => k_is)

