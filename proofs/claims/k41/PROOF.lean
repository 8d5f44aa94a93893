import PyProof.Rows.All
import Wide.All
import OpenK.AllK
import Wide.FinOn
import HandS.ForMost
import HandS.ForExc
import HandS.ExcIs
import HandS.More
import HandS.Gcd
import HandS.EndBits
import HandS.Small
import HandS.Deep
import HandS.RevRange
import HandS.TupLen
import HandS.Dict
import HandS.SetFor
import HandS.Strs
import PyProof.ExcBaseAll.ValueError
import HandS.Evl
import HandS.Wide
import HandS.WideBits
import HandS.Style
import HandS.IsInst
import PyProof.P3Eq
import KE.GoesEnum
import HandS.Star
import HandS.Conv
import HandS.Walk
import PyProof.MaxThree
import Flt.RightSqrt
import KE.KMathG
import HandS.Codes
import HandS.StrMore
import HandS.Text
import KE.IntTextLaws
import PyProof.Rows.StrAscii
import HandS.DictComp
import HandS.Words
import HandS.Zip
import HandS.FStr
import KE.KDictZip
import KE.KTurns
import PyProof.ListNew
import HandS.Call
import HandS.List
import HandS.Flt
import HandS.Comp
import HandS.Exc
import HandS.ExcOwn
import HandS.MapJoin
import HandS.Nested
import HandS.EndTab
import KE.KNest
import PySem.Challenge.RW_portolan_k41_radians_and_degrees
set_option Elab.async false
set_option linter.all false
set_option maxRecDepth 100000
set_option maxHeartbeats 4000000
/-! Own rules over the layer: what a reading evaluates to, for texts that change nothing. -/
namespace Cm
open PySem PySem.Spec PyProof.Rows L2 Evl

theorem ex_app {H H' : Hp} (e : Ex H H') {p : Addr} {o : HO} (h : H p = some o) : H' p = some o := e p o h
/-- a new tuple comes back -/
def RetU (xs : List V) (H : Hp) (Q : VK) : Prop := ∀ p H2, H p = none → Ex H H2 → H2 p = some (.tup xs) → Q (.ref p) H2
def SpU (sp : Sp) (vs : List V) (H : Hp) (xs : List V) : Prop := ∀ H1, Ex H H1 → ∀ Q : VK, (∀ p H2, H1 p = none → Ex H1 H2 → H2 p = some (.tup xs) → Q (.ref p) H2) → ∀ E : XK, sp vs H1 Q E
section
variable {K : PySem.W.Frag} {σ : L2.St} {H H' : Hp} {ta tb tc te tx : TE} {t u : TT} {x y z v w : V} {r r' : R2} {D : Ends} {tz : TS}
/-- the slots written out anew -/
theorem st_is {σ' : L2.St} {ts : TS} (e : σ = σ') (h : ts D σ' H) : ts D σ H := by
  rw [e]
  exact h
theorem RetU.go {xs : List V} {Q : VK} (k : RetU xs H Q) (e : Ex H H') {p : Addr} {H2 : Hp} (hp : H' p = none) (e2 : Ex H' H2) (h : H2 p = some (.tup xs)) : Q (.ref p) H2 := k p H2 (fresh_back e hp) (e.trans e2) h
theorem eu_call {sp : Sp} {dvs vs xs : List V} {E : XK} {ta : TA} (h : EvA ta σ H vs) (hs : SpU sp (vs ++ dvs) H xs) : EvU (tCall sp dvs E ta) σ H xs := fun H1 e Q q =>
  h H1 e _ fun H2 e2 => hs H2 (e.trans e2) Q (fun p H3 hp e3 h3 => q p H3 (fresh_back e2 hp) (e2.trans e3) h3) E
theorem eu_is {xs ys : List V} (h : EvU te σ H xs) (e : xs = ys) : EvU te σ H ys := by
  rw [← e]
  exact h
/-- a call whose first argument is a new tuple -/
theorem ev_callU {sp : Sp} {dvs vs xs : List V} {E : XK} {tr : TA} (h1 : EvU te σ H xs) (h2 : EvA tr σ H vs) (hs : ∀ p H1, Ex H H1 → H1 p = some (.tup xs) → SpV sp (.ref p :: vs ++ dvs) H1 z) : Ev (tCall sp dvs E (tCons te tr)) σ H z := fun H1 e Q q =>
  h1 H1 e _ fun p H2 np e2 hp => h2 H2 (e.trans e2) _ fun H3 e3 => hs p H3 ((e.trans e2).trans e3) (e3 _ _ hp) H3 (Ex.refl H3) Q (fun H4 e4 => q H4 ((e2.trans e3).trans e4)) E
/-- .. whose second argument is a new tuple -/
theorem ev_callVU {sp : Sp} {dvs vs xs : List V} {E : XK} {tr : TA} (h0 : Ev ta σ H x) (h1 : EvU te σ H xs) (h2 : EvA tr σ H vs) (hs : ∀ p H1, Ex H H1 → H1 p = some (.tup xs) → SpV sp (x :: .ref p :: vs ++ dvs) H1 z) : Ev (tCall sp dvs E (tCons ta (tCons te tr))) σ H z := fun H1 e Q q =>
  h0 H1 e _ fun H2 e2 => h1 H2 (e.trans e2) _ fun p H3 np e3 hp => h2 H3 ((e.trans e2).trans e3) _ fun H4 e4 => hs p H4 (((e.trans e2).trans e3).trans e4) (e4 _ _ hp) H4 (Ex.refl H4) Q (fun H5 e5 => q H5 (((e2.trans e3).trans e4).trans e5)) E
theorem ev_chain {b c : Bool} (ha : Ev ta σ H x) (hb : Ev tb σ H y) (hc : Ev tc σ H w) (h1 : RV r x y H (.bl b)) (h2 : RV r' y w H (.bl c)) : Ev (tChain r r' ta tb tc) σ H (.bl (b && c)) := fun H1 e Q q =>
  ha H1 e _ fun H2 e2 => hb H2 (e.trans e2) _ fun H3 e3 => h1 H3 ((e.trans e2).trans e3) _ fun H4 e4 => ⟨b, rfl, by
    cases b with
    | true =>
      show tc σ H4 _
      exact hc H4 (((e.trans e2).trans e3).trans e4) _ fun H5 e5 => h2 H5 ((((e.trans e2).trans e3).trans e4).trans e5) Q fun H6 e6 => q H6 ((((e2.trans e3).trans e4).trans e5).trans e6)
    | false =>
      show Q (.bl false) H4
      exact q H4 ((e2.trans e3).trans e4)⟩
theorem rv_shl {i : Int} {k : Nat} (h : CShl i (k : Int)) : RV (fun x y H Q => ∃ (i : Int) (k : Nat), x = .int i ∧ y = .int (k : Int) ∧ CShl i (k : Int) ∧ Q (.int (i * 2 ^ k)) H) (.int i) (.int (k : Int)) H (.int (i * 2 ^ k)) :=
  fun H1 _ _ q => ⟨i, k, rfl, rfl, h, q H1 (Ex.refl H1)⟩
theorem rv_shr {i : Int} {k : Nat} : RV (fun x y H Q => ∃ (i : Int) (k : Nat), x = .int i ∧ y = .int (k : Int) ∧ Q (.int (i / 2 ^ k)) H) (.int i) (.int (k : Int)) H (.int (i / 2 ^ k)) :=
  fun H1 _ _ q => ⟨i, k, rfl, rfl, q H1 (Ex.refl H1)⟩
theorem rv_isB {a b : Bool} : RV rIsB (.bl a) (.bl b) H (.bl (decide (a = b))) := fun H1 _ _ q => ⟨a, b, rfl, rfl, q H1 (Ex.refl H1)⟩
theorem rv_notB {a b : Bool} : RV rNotB (.bl a) (.bl b) H (.bl (!decide (a = b))) := fun H1 _ _ q => ⟨a, b, rfl, rfl, q H1 (Ex.refl H1)⟩
theorem rv_isN : RV (fun x y H Q => y = .non ∧ Q (.bl (decide (x = .non))) H) x .non H (.bl (decide (x = .non))) := fun H1 _ _ q => ⟨rfl, q H1 (Ex.refl H1)⟩
theorem rv_notN : RV (fun x y H Q => y = .non ∧ Q (.bl (!decide (x = .non))) H) x .non H (.bl (!decide (x = .non))) := fun H1 _ _ q => ⟨rfl, q H1 (Ex.refl H1)⟩
theorem rc_abs {i : Int} : RC (fun xs H Q => ∃ i, xs = [.int i] ∧ Q (.int (if i < 0 then -i else i)) H) [.int i] H (.int (i.natAbs : Int)) := fun H1 _ Q q => ⟨i, rfl, by
  have e : (if i < 0 then -i else i) = (i.natAbs : Int) := by split <;> omega
  rw [e]
  exact q H1 (Ex.refl H1)⟩
theorem rc_max2 {i j : Int} : RC (fun xs H Q => ∃ i j, xs = [.int i, .int j] ∧ Q (.int (if j > i then j else i)) H) [.int i, .int j] H (.int (max i j)) := fun H1 _ Q q => ⟨i, j, rfl, by
  have e : (if j > i then j else i) = max i j := by split <;> omega
  rw [e]
  exact q H1 (Ex.refl H1)⟩
theorem rc_min2 {i j : Int} : RC (fun xs H Q => ∃ i j, xs = [.int i, .int j] ∧ Q (.int (if j < i then j else i)) H) [.int i, .int j] H (.int (min i j)) := fun H1 _ Q q => ⟨i, j, rfl, by
  have e : (if j < i then j else i) = min i j := by split <;> omega
  rw [e]
  exact q H1 (Ex.refl H1)⟩
theorem rc_intB {k : Bool} : RC (fun xs H Q => (∃ i, xs = [.int i] ∧ Q (.int i) H) ∨ ∃ k, xs = [.bl k] ∧ Q (.int (if k then 1 else 0)) H) [.bl k] H (.int (if k then 1 else 0)) := fun H1 _ Q q => Or.inr ⟨k, rfl, q H1 (Ex.refl H1)⟩
theorem rc_intI {i : Int} : RC (fun xs H Q => (∃ i, xs = [.int i] ∧ Q (.int i) H) ∨ ∃ k, xs = [.bl k] ∧ Q (.int (if k then 1 else 0)) H) [.int i] H (.int i) := fun H1 _ Q q => Or.inl ⟨i, rfl, q H1 (Ex.refl H1)⟩
theorem rc_isiT {p : Addr} {xs : List V} (h : H p = some (.tup xs)) : RC (rIsi K) [.ref p, .ty "tuple"] H (.bl true) := fun H1 e _ q =>
  ⟨.ref p, .ty "tuple", .type "tuple", .type "tuple", true, rfl, .ty _, .base (.tup (e _ _ h)), kit_ty (by decide +kernel), q H1 (Ex.refl H1)⟩
theorem rc_isiS {x : Str} : RC (rIsi K) [.str x, .ty "str"] H (.bl true) := fun H1 e _ q =>
  ⟨.str x, .ty "str", .type "str", .type "str", true, rfl, .ty _, .base (.str x), kit_ty (by decide +kernel), q H1 (Ex.refl H1)⟩
theorem rc_lenL {p : Addr} {xs : List V} (h : SqL K H p xs) : RC (fun xs H Q => ∃ x n, xs = [x] ∧ LenV K x H n ∧ Q (.int n) H) [.ref p] H (.int (xs.length : Int)) := fun H1 e _ q =>
  ⟨.ref p, (xs.length : Nat), rfl, .inl ⟨_, ex_l e h, rfl⟩, q H1 (Ex.refl H1)⟩
/-! ### data -/
mutual
theorem dp_mono (e : Ex H H') : ∀ (d : PyData) (v : V), Dp K H v d → Dp K H' v d
  | _, _, .non => .non
  | _, _, .bl b => .bl b
  | _, _, .int i => .int i
  | _, _, .str x => .str x
  | _, _, .lst h a => .lst (ex_l e h) (dps_mono e _ _ a)
  | _, _, .tup h a => .tup (ex_t e h) (dps_mono e _ _ a)
theorem dps_mono (e : Ex H H') : ∀ (ds : List PyData) (vs : List V), DpAll K H vs ds → DpAll K H' vs ds
  | _, _, .nil => .nil
  | _, _, .cons h t => .cons (dp_mono e _ _ h) (dps_mono e _ _ t)
end
theorem dpInts : ∀ (is : List Int), DpAll K H (is.map V.int) (is.map PyData.int)
  | [] => .nil
  | i :: r => .cons (.int i) (dpInts r)
theorem eqvS {d : PyData} (h : SeqAt.shaped d = true) : PyData.eqv d d = true := by
  unfold SeqAt.shaped at h
  rw [Bool.and_eq_true] at h
  exact PySem.SeqAt.eqv_refl d h.1
/-- the same data on both sides -/
theorem rv_neS {d : PyData} (hx : Dp K H x d) (hy : Dp K H y d) (hs : SeqAt.shaped d = true) : RV (rNeD K) x y H (.bl false) := fun H1 e Q q =>
  ⟨d, d, dp_mono e _ _ hx, dp_mono e _ _ hy, hs, hs, by
    rw [eqvS hs]
    exact q H1 (Ex.refl H1)⟩
theorem rv_eqS {d : PyData} (hx : Dp K H x d) (hy : Dp K H y d) (hs : SeqAt.shaped d = true) : RV (rEqD K) x y H (.bl true) := fun H1 e Q q =>
  ⟨d, d, dp_mono e _ _ hx, dp_mono e _ _ hy, hs, hs, by
    rw [eqvS hs]
    exact q H1 (Ex.refl H1)⟩
/-- a pair of ints -/
theorem dp2 {p : Addr} {i j : Int} (h : SqT K H p [.int i, .int j]) : Dp K H (.ref p) (.tuple [.int i, .int j]) := .tup h (.cons (.int i) (.cons (.int j) .nil))
theorem sh2 {i j : Int} : SeqAt.shaped (.tuple [.int i, .int j]) = true := rfl
end
/-! ### numbers -/
/-- a bound that omega does not look into -/
def Bd (k : Nat) (x : Int) : Prop := x.natAbs < 2 ^ k
theorem pow_pos (n : Nat) : (0 : Int) < 2 ^ n := PySem.W.kbt_pos n
theorem pow_abs (n : Nat) : ((2 : Int) ^ n).natAbs = 2 ^ n := by
  rw [Int.natAbs_pow]
  rfl
theorem ab_mono {x : Int} {a b : Nat} (h : x.natAbs < 2 ^ a) (hab : a ≤ b) : x.natAbs < 2 ^ b := Nat.lt_of_lt_of_le h (Nat.pow_le_pow_right (by decide) hab)
theorem ab_pow {n k : Nat} (h : n < k) : ((2 : Int) ^ n).natAbs < 2 ^ k := by
  rw [pow_abs]
  exact Nat.pow_lt_pow_right (by decide) h
theorem ab_shl {x : Int} {a n : Nat} (h : x.natAbs < 2 ^ a) : (x * 2 ^ n).natAbs < 2 ^ (a + n) := by
  rw [Int.natAbs_mul, pow_abs, Nat.pow_add]
  exact Nat.mul_lt_mul_of_pos_right h (Nat.two_pow_pos n)
theorem ab_mul {x y : Int} {a b : Nat} (hx : x.natAbs < 2 ^ a) (hy : y.natAbs < 2 ^ b) : (x * y).natAbs < 2 ^ (a + b) := wide_lt hx hy
theorem ab_add {x y : Int} {a : Nat} (hx : x.natAbs < 2 ^ a) (hy : y.natAbs < 2 ^ a) : (x + y).natAbs < 2 ^ (a + 1) := by
  have e : 2 ^ (a + 1) = 2 ^ a + 2 ^ a := by rw [Nat.pow_succ]; omega
  omega
theorem ab_neg {x : Int} {a : Nat} (hx : x.natAbs < 2 ^ a) : (-x).natAbs < 2 ^ a := by omega
theorem ab_sm {x : Int} {a c : Nat} (h : x.natAbs ≤ c) (hc : c < 2 ^ a) : x.natAbs < 2 ^ a := Nat.lt_of_le_of_lt h hc
theorem fl_le {s q : Int} (hq : 0 < q) : s / q * q ≤ s := Int.ediv_mul_le s (by omega)
theorem fl_lt {s q : Int} (hq : 0 < q) : s < (s / q + 1) * q := by
  rw [Int.add_mul, Int.one_mul]
  exact Int.lt_ediv_add_one_mul_self s hq |> fun h => by rw [Int.add_mul, Int.one_mul] at h; exact h
theorem cl_ge {s q : Int} (hq : 0 < q) : s ≤ -(-s / q) * q := by
  have h := fl_le (s := -s) hq
  rw [Int.neg_mul]
  omega
theorem cl_lt {s q : Int} (hq : 0 < q) : (-(-s / q) - 1) * q < s := by
  have h := fl_lt (s := -s) hq
  rw [Int.sub_mul, Int.one_mul, Int.neg_mul]
  rw [Int.add_mul, Int.one_mul] at h
  omega
theorem ab_div {x q : Int} {a : Nat} (hq : 0 < q) (h : x.natAbs < 2 ^ a) : (x / q).natAbs < 2 ^ a := by
  have h1 : (x / q).natAbs ≤ x.natAbs := by
    by_cases hx : 0 ≤ x
    · have := Int.ediv_le_self q hx
      have := Int.ediv_nonneg hx (Int.le_of_lt hq)
      omega
    · have h2 : x / q < 0 := Int.ediv_neg_of_neg_of_pos (by omega) hq
      have h3 := fl_lt (s := x) hq
      have h4 : (x / q + 1) * q ≤ (x / q + 1) := by
        have h5 : (x / q + 1) * (q - 1) ≤ 0 := Int.mul_nonpos_of_nonpos_of_nonneg (by omega) (by omega)
        rw [Int.mul_sub, Int.mul_one] at h5
        omega
      omega
  omega
theorem mul_le_r {a b q : Int} (h : a ≤ b) (hq : 0 < q) : a * q ≤ b * q := Int.mul_le_mul_of_nonneg_right h (Int.le_of_lt hq)
/-- the ceiling, by one more where the floor is not exact -/
theorem ceil_eq {s q : Int} (hq : 0 < q) : -(-s / q) = s / q + (if (!decide (s / q * q = s)) = true then 1 else 0) := by
  have a1 := fl_le (s := s) hq
  have a2 := fl_lt (s := s) hq
  have b1 := cl_ge (s := s) hq
  have b2 := cl_lt (s := s) hq
  have lt_of : ∀ {u v : Int}, u * q < v * q → u < v := fun h => Int.lt_of_mul_lt_mul_right h (Int.le_of_lt hq)
  have c1 : -(-s / q) - 1 < s / q + 1 := lt_of (Int.lt_trans b2 a2)
  by_cases e : s / q * q = s
  · rw [decide_eq_true e]
    have c2 : -(-s / q) - 1 < s / q := lt_of (by rw [e]; exact b2)
    have c3 : s / q - 1 < -(-s / q) := lt_of (Int.lt_of_lt_of_le (by rw [Int.sub_mul, Int.one_mul, e]; omega) b1)
    show _ = s / q + 0
    omega
  · rw [decide_eq_false e]
    have c3 : s / q < -(-s / q) := lt_of (by omega)
    show _ = s / q + 1
    omega
end Cm

/-! Own rule: for i, x in enumerate(t), t a tuple. -/
namespace Et
open PySem PySem.Spec PyProof.Rows L2

theorem meets1 {v : Value} {o : Obj} {H : Heap → Prop} (B : Begins v o H) :
    Meets (Builtin.«enumerate.__new__» ⟨[.type "enumerate", v], []⟩) (fun _ R s => H s.heap ∧
      R (.ok (.ret (.ref (s.heap.push o).objs.size))) { s with heap := (s.heap.push o).push { cls := .type "enumerate", data := .fields #[.none, .bool false, .ref s.heap.objs.size, rawInt 0, .none, .none] } }) :=
  .of_wp fun prog w A R s h => by
    obtain ⟨hp, g, d, tk, os⟩ := s; obtain ⟨h1, h⟩ := h
    have hsub := sub_enumerate
    have q1 : ∀ {A' : Around} {E : Value → Shared → Prop} {Q : Value → Shared → Prop}, Q (.ref hp.objs.size) ⟨hp.push o, g, d, tk, os⟩ → wpAny (model prog w) A' (pyIter v) Q E ⟨hp, g, d, tk, os⟩ :=
      fun q => B.iter prog w _ _ ⟨hp, g, d, tk, os⟩ _ h1 q
    wp_walk using q1
    refine wpAny_stack_any fun st => wpAny_pure ?_
    split
    · rename_i c _ _ _ _ _
      cases (c == Value.type "enumerate")
      · wp_walk using q1
        exact ⟨_, rfl, h⟩
      · wp_walk using q1
        exact ⟨_, rfl, h⟩
    · wp_walk using q1
      exact ⟨_, rfl, h⟩
section
variable {prog : Program} {w : World} {A : Around} {E : Value → Shared → Prop} {s : Shared}
theorem begins1 {v : Value} {o : Obj} {H : Heap → Prop} {Q : Value → Shared → Prop} (B : Begins v o H) (h1 : H s.heap)
    (h : ∀ h', IsEnum h' (s.heap.objs.size + 1) s.heap.objs.size 0 .none → h'.get? s.heap.objs.size = some o → h'.objs.size = s.heap.objs.size + 2 →
      (∀ b o, s.heap.get? b = some o → h'.get? b = some o) → Q (.ref (s.heap.objs.size + 1)) { s with heap := h' }) :
    wpAny (model prog w) A (call (.type "enumerate") [v]) Q E s := by
  refine callType_new F.called_enumerate (by decide) (F.typeCall_enumerate_1 _) (F.newCall_enumerate_1 _) (fun obj => F.args_object_init_2 obj _) F.entry_enumerate_new
    (meets1 B) ⟨h1, ?_⟩
  have hz : (s.heap.push o).objs.size = s.heap.objs.size + 1 := Heap.size_push ..
  show _ ∧ _
  rw [hz]
  have he : IsEnum ((s.heap.push o).push { cls := .type "enumerate", data := .fields #[.none, .bool false, .ref s.heap.objs.size, rawInt 0, .none, .none] }) (s.heap.objs.size + 1) s.heap.objs.size 0 .none := by
    have := Heap.get?_push_size (s.heap.push o) (o := { cls := .type "enumerate", data := .fields #[.none, .bool false, .ref s.heap.objs.size, rawInt 0, .none, .none] }) rfl
    rw [hz] at this; exact this
  refine ⟨⟨_, he, rfl⟩, h _ he (Heap.get?_push_of_some _ (Heap.get?_push_size _ B.free)) (by rw [Heap.size_push, hz]) fun b o x => Heap.get?_push_of_some _ (Heap.get?_push_of_some _ x)⟩
end
section
variable {prog : Program} {w : World} {A : Around} {E : Value → Shared → Prop} {s : Shared}
theorem enum_endT {e it l : Addr} {i : Nat} {items : Array Value} {old : Value} {Q : Option Value → Shared → Prop} (hh : A.handled = none)
    (he : IsEnum s.heap e it i old) (hit : s.heap.IsTupleIter it l i) (hl : s.heap.IsTuple l items) (hx : items[i]? = none)
    (hQ : ∀ h', Heap.ExtBut it s.heap h' → Q none { s with heap := h' }) : wpAny (model prog w) A (pyNext (.ref e)) Q E s := by
  have hT : s.TypeIs (.ref e) "enumerate" := ⟨_, he, rfl⟩
  unfold pyNext
  refine wpAny_bind (wpAny_attempt (wpAny_callSpecial?_slot (name := Str.ofString "__next__") hT F.slot_enumerate_next
    (wpAny_call_entry F.slot_enumerate_next hT F.entry_enumerate_next ?_ (F.args_enumerate_next_1 _))))
  show wpAny _ _ (field (.ref e) 2 >>= _) _ _ _
  refine wpAny_bind (wpAny_field he rfl (x := .ref it) rfl ?_)
  refine wpAny_bind (wpAny_nextOf_tuple_end hh hit hl hx fun h' x he' hx' => ?_)
  obtain ⟨o, ho, hc⟩ := hx'
  refine wpAny_bind (wpAny_isInstance (T := "StopIteration") (b := true) ⟨o, ho, hc⟩ isSubtype_stop ?_)
  exact wpAny_pure (hQ _ he')
end
/-- the tuple at a as it stands at each turn, each item in a new pair -/
def Iet (K : PySem.W.Frag) (a : Addr) : It :=
  ⟨fun i H => ∃ (xs : List V) (x : V), SqT K H a xs ∧ xs[i]? = some x, fun i H v H' => ∃ T x, v = .ref T ∧ H T = none ∧ H' = upd H T (.tup [.int (i : Nat), x]) ∧ ∀ xs, SqT K H a xs → xs[i]? = some x, fun i H => ∃ xs : List V, SqT K H a xs ∧ xs.length ≤ i⟩
theorem turn_enumT {P : Program} {w : World} {K : PySem.W.Frag} {elts : List Expr} {kk : Nat} {tpos : Pos} (a e it : Addr) :
    Turn P w K (.Tuple elts kk tpos) (Iet K a) [e, it] e (fun i h => (∃ old, IsEnum h e it ((i : Nat) : Int) old) ∧ h.IsTupleIter it a i ∧ e ≠ it) where
  mem := by simp
  obj := fun i h st b hb => by
    obtain ⟨⟨old, he⟩, ⟨o, ho, hc, hd⟩, _⟩ := st
    have e' : b = e ∨ b = it := by simpa using hb
    rcases e' with z | z
    · rw [z]; exact ⟨_, he, fun v q => nomatch q⟩
    · rw [z]; exact ⟨o, ho, fun v q => by rw [hd] at q; cases q⟩
  keep := fun i h h' st k => let ⟨⟨old, he⟩, hi, hne⟩ := st; ⟨⟨old, k e (by simp) _ he⟩, hi.at fun o q => k it (by simp) o q, hne⟩
  item := by
    intro X hP hw hK hc i pins s σ H E I hf st hg
    subst hP hw hK
    obtain ⟨⟨old, he⟩, hit, hne⟩ := st
    obtain ⟨xs, x, hq, hx⟩ := hg
    obtain ⟨its, rv, p, hz⟩ := I.tuple hq
    obtain ⟨u, hu, ru⟩ := rv.get hx
    have hel : e < s.heap.objs.size := Heap.lt_size he
    have hil : it < s.heap.objs.size := by obtain ⟨_, q, _⟩ := hit; exact Heap.lt_size q
    have hat : a ≠ it := fun z => by
      subst z
      obtain ⟨o1, e1, c1, _⟩ := hit
      obtain ⟨o2, e2, c2, _⟩ := p
      rw [e1] at e2
      cases e2
      rw [c1] at c2
      exact absurd (Value.type.inj c2) (by decide)
    have hae : a ≠ e := fun z => by
      subst z
      obtain ⟨o2, e2, c2, _⟩ := p
      rw [he] at e2
      cases e2
      exact absurd (Value.type.inj c2) (by decide)
    have hlt : i < its.toArray.size := by
      rw [List.size_toArray]
      exact (List.getElem?_eq_some_iff.mp hu).1
    refine wpAny_pyNext_enum_itemD (Draws.tuple (A := X.A.in1) (I.ok.hd hc) it a hat its.toArray) he ⟨hit, p⟩ hlt hne (by simp; exact ⟨hne, Ne.symm hae⟩) fun y h' tk hy ho hst' hT hsz hk => ?_
    have eu : y = u := by
      have h1 : its.toArray[i]? = some u := by simpa using hu
      rw [h1] at hy
      exact (Option.some.inj hy).symm
    subst eu
    refine ⟨_, rfl, wpAny_letOwnedTupleGo_enum (s := { s with heap := h', toks := tk + 1 }) ho fun h'' he' sb => ?_⟩
    have hT2 : h''.get? s.heap.objs.size = some { cls := .type "tuple", data := .seq #[.int i tk, y] } := (sb.2 _ (Nat.ne_of_gt hel)).trans hT
    have new : ObjOk X.prog X.w (upd H s.heap.objs.size (.tup [.int (i : Nat), x])) h'' s.heap.objs.size (.tup [.int (i : Nat), x]) :=
      ⟨by show 2 ≤ sizeLine; decide, [.int i tk, y], .cons ⟨_, rfl⟩ (.cons ru .nil), ⟨_, hT2, rfl, _, rfl⟩⟩
    have I1 : Inv X pins σ (upd H s.heap.objs.size (.tup [.int (i : Nat), x])) { s with heap := h'', toks := tk + 1 } :=
      I.turnedNew (ch := [e, it]) (fun b ob hb q => (sb.2 b (fun z => hb (by simp [z]))).trans (hk b ob (fun z => hb (by simp [z])) (fun z => hb (by simp [z])) q)) hf (Nat.le_refl _) new
    refine ⟨.ref s.heap.objs.size, _, I1, rfl, ⟨_, x, rfl, I.hok.fresh (Nat.le_refl _), rfl, fun ys hy => by rw [I.tuple_inj hy hq]; exact hx⟩, ⟨⟨y, ?_⟩, hst'.1.at fun o q => (sb.2 it (Ne.symm hne)).trans q, hne⟩, fun b hb => ?_⟩
    · have e1 : ((i + 1 : Nat) : Int) = (i : Int) + 1 := by omega
      rw [e1]; exact he'
    · have hb' : b < s.heap.objs.size := by
        have e' : b = e ∨ b = it := by simpa using hb
        rcases e' with z | z
        · rw [z]; exact hel
        · rw [z]; exact hil
      rw [upd_ne (Nat.ne_of_lt hb')]
      exact (hf b hb).1
  done := by
    intro X hP hw hK hc i pins s σ H E I hf st hg
    subst hP hw hK
    obtain ⟨⟨old, he⟩, hit, hne⟩ := st
    obtain ⟨xs, hq, hx⟩ := hg
    obtain ⟨its, rv, p, hz⟩ := I.tuple hq
    obtain ⟨f0, f1, f2, f3, f4, f5⟩ := hf it (by simp)
    have hl := rv.length
    refine enum_endT (I.ok.hd hc) he hit p (by simp; omega) fun h' eb => ⟨rfl, I.turned (t' := s.toks) (fun b o hb q => eb b o hb q) f0 f1 f3 f4 f5⟩
  self := fun A i s Q E st h => let ⟨⟨_, he⟩, _⟩ := st; wpAny_pyIter_enum he h
def iEnumT (K : PySem.W.Frag) (ta : TA) : TI := fun σ H R => ta σ H fun vs H1 => ∃ a xs, vs = [.ref a] ∧ SqT K H1 a xs ∧ R (Iet K a) H1
theorem pi_enumT {X : Cx} {e : Expr} {ta : TA} {p pos tpos : Pos} {elts : List Expr} {kk : Nat} (hg : Gl X "enumerate") (hm : X.mg "enumerate" = none) (ha : PA X [e] ta) (hs : starEach [e] X.env = [(false, eval e X.env)] := by rfl) :
    PI X (.Tuple elts kk tpos) (.Call (.Name "enumerate" p) [e] [] pos) (iEnumT X.K ta) := by
  refine ⟨fun pins s σ H R I h => ?_⟩
  refine Call_ (ld_blt I hg hm boot_enumerate (PyProof.Rows.callWith_type1 (thn (ha.run pos pins s σ H _ I h) fun us s1 ⟨vs, H1, I1, r1, q1⟩ => ?_) hs rfl))
  obtain ⟨a, xs, ex, hq, q⟩ := q1
  subst ex
  cases r1 with
  | cons r rr =>
    cases rr
    cases r
    obtain ⟨its, rv, p', hz⟩ := I1.tuple hq
    refine begins1 (begins_tuple a its.toArray) p' fun h' he hit hsz hk => wpAny_pyIter_enum he ?_
    have I2 : Inv X pins σ H1 { s1 with heap := h' } := I1.kept (t' := s1.toks) hk
    refine ⟨s1.heap.objs.size + 1, [s1.heap.objs.size + 1, s1.heap.objs.size], _, _, H1, rfl, I2, turn_enumT a (s1.heap.objs.size + 1) s1.heap.objs.size, ⟨⟨.none, he⟩, ⟨_, hit, rfl, rfl⟩, Nat.succ_ne_self _⟩, fun b hb => ?_, q⟩
    have e' : b = s1.heap.objs.size + 1 ∨ b = s1.heap.objs.size := by simpa using hb
    have hle : s1.heap.objs.size ≤ b := by
      rcases e' with z | z
      · rw [z]; exact Nat.le_add_right _ _
      · rw [z]; exact Nat.le_refl _
    exact I1.fpOk hle (I1.hok.fresh hle)
end Et

/-! Own data: formulas as they stand in the heap. -/
namespace Fm
open PySem PySem.Spec PyProof.Rows L2 Evl Cm Et

abbrev FStep := Str × List Int
def stV (s : FStep) : List V := .str s.1 :: s.2.map V.int
def stD (s : FStep) : PyData := .tuple (.str s.1 :: s.2.map PyData.int)
def StepAt (H : Hp) (v : V) (s : FStep) : Prop := ∃ p, v = .ref p ∧ H p = some (.tup (stV s))
def StepsAt (H : Hp) (vs : List V) (ss : List FStep) : Prop := vs.length = ss.length ∧ ∀ (i : Nat) v s, vs[i]? = some v → ss[i]? = some s → StepAt H v s
section
variable {K : PySem.W.Frag} {σ : L2.St} {H H' : Hp} {ta tb tc te tx tl : TE} {t u : TT} {x y z v w : V} {r r' : R2} {D : Ends} {tu tz : TS} {vs ws : List V} {ss ts : List FStep} {s : FStep} {g : TG}
theorem StepAt.mono (e : Ex H H') (h : StepAt H v s) : StepAt H' v s := by
  obtain ⟨p, h1, h2⟩ := h
  exact ⟨p, h1, e _ _ h2⟩
theorem StepsAt.mono (e : Ex H H') (h : StepsAt H vs ss) : StepsAt H' vs ss := ⟨h.1, fun i v s a b => (h.2 i v s a b).mono e⟩
theorem StepsAt.nil : StepsAt H [] [] := ⟨rfl, fun i v s h _ => by simp at h⟩
theorem StepsAt.app (h1 : StepsAt H vs ss) (h2 : StepsAt H ws ts) : StepsAt H (vs ++ ws) (ss ++ ts) := by
  refine ⟨by rw [List.length_append, List.length_append, h1.1, h2.1], fun i v s a b => ?_⟩
  by_cases hi : i < vs.length
  · rw [List.getElem?_append_left hi] at a
    rw [List.getElem?_append_left (by rw [← h1.1]; exact hi)] at b
    exact h1.2 i v s a b
  · rw [List.getElem?_append_right (by omega)] at a
    rw [List.getElem?_append_right (by have := h1.1; omega)] at b
    rw [← h1.1] at b
    exact h2.2 _ v s a b
theorem StepsAt.one (h : StepAt H v s) : StepsAt H [v] [s] := ⟨rfl, fun i x y a b => by
  cases i with
  | zero =>
    cases Option.some.inj a
    cases Option.some.inj b
    exact h
  | succ i => simp at a⟩
theorem StepsAt.snoc (h1 : StepsAt H vs ss) (h : StepAt H v s) : StepsAt H (vs ++ [v]) (ss ++ [s]) := h1.app (.one h)
theorem StepsAt.get (h : StepsAt H vs ss) {i : Nat} (hi : vs[i]? = some v) : ∃ s, ss[i]? = some s ∧ StepAt H v s := by
  have h1 : i < ss.length := by
    rw [← h.1]
    exact (List.getElem?_eq_some_iff.mp hi).1
  exact ⟨ss[i], List.getElem?_eq_getElem h1, h.2 i v _ hi (List.getElem?_eq_getElem h1)⟩
theorem StepAt.dp (h : StepAt H v s) : Dp K H v (stD s) := by
  obtain ⟨p, rfl, h⟩ := h
  exact .tup (st_of h) (.cons (.str _) (dpInts _))
theorem StepsAt.dp : ∀ {vs : List V} {ss : List FStep}, StepsAt H vs ss → DpAll K H vs (ss.map stD)
  | [], [], _ => .nil
  | [], _ :: _, h => by simp [StepsAt] at h
  | _ :: _, [], h => by simp [StepsAt] at h
  | v :: vs, s :: ss, h => .cons (StepAt.dp (h.2 0 v s rfl rfl)) (StepsAt.dp ⟨by simpa using h.1, fun i x y a b => h.2 (i + 1) x y a b⟩)
theorem lay_ints : ∀ (is : List Int), PyData.canLayAll0 (is.map PyData.int) = true
  | [] => rfl
  | i :: r => by
    show (PyData.canLay0 (.int i) && PyData.canLayAll0 (r.map PyData.int)) = true
    rw [lay_ints r]
    rfl
theorem dep_ints : ∀ (is : List Int), PyData.depthAll (is.map PyData.int) = 0
  | [] => rfl
  | i :: r => by
    show max 0 (PyData.depthAll (r.map PyData.int)) = 0
    rw [dep_ints r]
    rfl
theorem dep_st (s : FStep) : PyData.depth (stD s) = 1 := by
  show max 0 (PyData.depthAll (s.2.map PyData.int)) + 1 = 1
  rw [dep_ints]
  rfl
theorem dep_sts : ∀ (ss : List FStep), PyData.depthAll (ss.map stD) ≤ 1
  | [] => Nat.zero_le _
  | s :: r => by
    show max (PyData.depth (stD s)) (PyData.depthAll (r.map stD)) ≤ 1
    rw [dep_st]
    have := dep_sts r
    omega
def OkS (s : FStep) : Prop := PyData.strOk s.1 = true
theorem lay_st {s : FStep} (h : OkS s) : PyData.canLay0 (stD s) = true := by
  show (PyData.canLay0 (.str s.1) && PyData.canLayAll0 (s.2.map PyData.int)) = true
  rw [lay_ints, Bool.and_true]
  exact h
theorem lay_sts : ∀ {ss : List FStep}, (∀ s ∈ ss, OkS s) → PyData.canLayAll0 (ss.map stD) = true
  | [], _ => rfl
  | s :: r, h => by
    show (PyData.canLay0 (stD s) && PyData.canLayAll0 (r.map stD)) = true
    rw [lay_st (h s (.head _)), lay_sts fun x hx => h x (.tail _ hx)]
    rfl
def foD (ss : List FStep) : PyData := .tuple (ss.map stD)
theorem sh_form (h : ∀ s ∈ ss, OkS s) : SeqAt.shaped (foD ss) = true := by
  unfold SeqAt.shaped
  rw [show PyData.canLay0 (foD ss) = PyData.canLayAll0 (ss.map stD) from rfl, lay_sts h, Bool.true_and]
  refine decide_eq_true ?_
  show PyData.depthAll (ss.map stD) + 1 ≤ 64
  have := dep_sts ss
  omega
theorem sh_list (h : ∀ s ∈ ss, OkS s) : SeqAt.shaped (.list (ss.map stD)) = true := sh_form h
/-! ### what is a formula -/
def W2 : List Str := ["add", "subtract", "times", "divide"]
def W1 : List Str := ["root", "sine", "cosine", "exp", "log", "arctan", "arcsine", "arccosine"]
def OkStep (k : Nat) (s : FStep) : Prop :=
  (∃ p q, s = (("number" : Str), [p, q]) ∧ 1 ≤ q) ∨ s = (("pi" : Str), []) ∨ (∃ w i j, w ∈ W2 ∧ s = (w, [i, j]) ∧ (0 ≤ i ∧ i < k) ∧ (0 ≤ j ∧ j < k)) ∨ (∃ w i, w ∈ W1 ∧ s = (w, [i]) ∧ (0 ≤ i ∧ i < k))
def OkForm (ss : List FStep) : Prop := ∀ k s, ss[k]? = some s → OkStep k s
theorem w2_all {P : Str → Prop} (h : P "add" ∧ P "subtract" ∧ P "times" ∧ P "divide") : ∀ w ∈ W2, P w := by
  intro w hw
  unfold W2 at hw
  simp only [List.mem_cons, List.not_mem_nil, or_false] at hw
  obtain ⟨h1, h2, h3, h4⟩ := h
  rcases hw with rfl | rfl | rfl | rfl <;> assumption
theorem w1_all {P : Str → Prop} (h : P "root" ∧ P "sine" ∧ P "cosine" ∧ P "exp" ∧ P "log" ∧ P "arctan" ∧ P "arcsine" ∧ P "arccosine") : ∀ w ∈ W1, P w := by
  intro w hw
  unfold W1 at hw
  simp only [List.mem_cons, List.not_mem_nil, or_false] at hw
  obtain ⟨h1, h2, h3, h4, h5, h6, h7, h8⟩ := h
  rcases hw with rfl | rfl | rfl | rfl | rfl | rfl | rfl | rfl <;> assumption
theorem w2_ok : ∀ w ∈ W2, PyData.strOk w = true := w2_all ⟨by decide +kernel, by decide +kernel, by decide +kernel, by decide +kernel⟩
theorem w1_ok : ∀ w ∈ W1, PyData.strOk w = true := w1_all ⟨by decide +kernel, by decide +kernel, by decide +kernel, by decide +kernel, by decide +kernel, by decide +kernel, by decide +kernel, by decide +kernel⟩
theorem w2_nn : ∀ w ∈ W2, w ≠ "number" := w2_all ⟨by decide +kernel, by decide +kernel, by decide +kernel, by decide +kernel⟩
theorem w2_np : ∀ w ∈ W2, w ≠ "pi" := w2_all ⟨by decide +kernel, by decide +kernel, by decide +kernel, by decide +kernel⟩
theorem w1_nn : ∀ w ∈ W1, w ≠ "number" := w1_all ⟨by decide +kernel, by decide +kernel, by decide +kernel, by decide +kernel, by decide +kernel, by decide +kernel, by decide +kernel, by decide +kernel⟩
theorem w1_np : ∀ w ∈ W1, w ≠ "pi" := w1_all ⟨by decide +kernel, by decide +kernel, by decide +kernel, by decide +kernel, by decide +kernel, by decide +kernel, by decide +kernel, by decide +kernel⟩
theorem pi_nn : ("pi" : Str) ≠ "number" := by decide +kernel
theorem ok_num : PyData.strOk "number" = true := by decide +kernel
theorem ok_pi : PyData.strOk "pi" = true := by decide +kernel
theorem OkStep.oks {k : Nat} (h : OkStep k s) : OkS s := by
  rcases h with ⟨p, q, rfl, _⟩ | rfl | ⟨w, i, j, hw, rfl, _⟩ | ⟨w, i, hw, rfl, _⟩
  · exact ok_num
  · exact ok_pi
  · exact w2_ok w hw
  · exact w1_ok w hw
theorem OkStep.mono {k m : Nat} (hk : k ≤ m) (h : OkStep k s) : OkStep m s := by
  rcases h with h | h | ⟨w, i, j, hw, rfl, h1, h2⟩ | ⟨w, i, hw, rfl, h1⟩
  · exact .inl h
  · exact .inr (.inl h)
  · exact .inr (.inr (.inl ⟨w, i, j, hw, rfl, ⟨h1.1, by omega⟩, ⟨h2.1, by omega⟩⟩))
  · exact .inr (.inr (.inr ⟨w, i, hw, rfl, ⟨h1.1, by omega⟩⟩))
theorem OkForm.oks (h : OkForm ss) : ∀ s ∈ ss, OkS s := fun s hs => by
  obtain ⟨k, hk⟩ := List.getElem?_of_mem hs
  exact (h k s hk).oks
theorem OkForm.nil : OkForm [] := fun k s h => by simp at h
theorem OkForm.snoc (h : OkForm ss) (hs : OkStep ss.length s) : OkForm (ss ++ [s]) := fun k x hk => by
  by_cases hi : k < ss.length
  · rw [List.getElem?_append_left hi] at hk
    exact h k x hk
  · rw [List.getElem?_append_right (by omega)] at hk
    have e : k - ss.length = 0 := by
      have := (List.getElem?_eq_some_iff.mp hk).1
      simp at this
      omega
    rw [e] at hk
    cases Option.some.inj hk
    exact hs.mono (by omega)
def shiftS (m : Nat) (s : FStep) : FStep := if s.1 = "number" then s else (s.1, s.2.map fun i => (m : Int) + i)
theorem OkStep.shift {k m : Nat} (h : OkStep k s) : OkStep (m + k) (shiftS m s) := by
  rcases h with ⟨p, q, rfl, hq⟩ | rfl | ⟨w, i, j, hw, rfl, h1, h2⟩ | ⟨w, i, hw, rfl, h1⟩
  · unfold shiftS
    rw [if_pos rfl]
    exact .inl ⟨p, q, rfl, hq⟩
  · unfold shiftS
    rw [if_neg pi_nn]
    exact .inr (.inl rfl)
  · unfold shiftS
    rw [if_neg (w2_nn w hw)]
    exact .inr (.inr (.inl ⟨w, (m : Int) + i, (m : Int) + j, hw, rfl, ⟨by omega, by omega⟩, ⟨by omega, by omega⟩⟩))
  · unfold shiftS
    rw [if_neg (w1_nn w hw)]
    exact .inr (.inr (.inr ⟨w, (m : Int) + i, hw, rfl, ⟨by omega, by omega⟩⟩))
def joinS (w : Str) (f g : List FStep) : List FStep := f ++ g.map (shiftS f.length) ++ [(w, [(f.length : Int) - 1, (f.length : Int) + (g.length : Int) - 1])]
theorem OkForm.app_shift {f gg : List FStep} (hf : OkForm f) (hg : OkForm gg) : OkForm (f ++ gg.map (shiftS f.length)) := fun k x hk => by
  by_cases hi : k < f.length
  · rw [List.getElem?_append_left hi] at hk
    exact hf k x hk
  · rw [List.getElem?_append_right (by omega), List.getElem?_map] at hk
    obtain ⟨s, h1, rfl⟩ := Option.map_eq_some_iff.mp hk
    have h2 := (hg _ s h1).shift (m := f.length)
    rw [show f.length + (k - f.length) = k by omega] at h2
    exact h2
theorem OkForm.join {f gg : List FStep} {w : Str} (hf : OkForm f) (hg : OkForm gg) (hw : w ∈ W2) (h1 : f ≠ []) (h2 : gg ≠ []) : OkForm (joinS w f gg) := by
  have l1 : 0 < f.length := List.length_pos_iff.mpr h1
  have l2 : 0 < gg.length := List.length_pos_iff.mpr h2
  refine OkForm.snoc (hf.app_shift hg) (.inr (.inr (.inl ⟨w, _, _, hw, rfl, ⟨by omega, ?_⟩, ⟨by omega, ?_⟩⟩)))
  · rw [List.length_append, List.length_map]
    omega
  · rw [List.length_append, List.length_map]
    omega
theorem OkForm.app1 {f : List FStep} {w : Str} (hf : OkForm f) (hw : w ∈ W1) (h1 : f ≠ []) : OkForm (f ++ [(w, [(f.length : Int) - 1])]) := by
  have l1 : 0 < f.length := List.length_pos_iff.mpr h1
  exact hf.snoc (.inr (.inr (.inr ⟨w, _, hw, rfl, by omega, by omega⟩)))
/-! ### what comes back -/
def RetF (ss : List FStep) (H : Hp) (Q : VK) : Prop := ∀ a H2 vs, H a = none → Ex H H2 → H2 a = some (.tup vs) → StepsAt H2 vs ss → Q (.ref a) H2
def RetS (s : FStep) (H : Hp) (Q : VK) : Prop := ∀ v H2, Ex H H2 → StepAt H2 v s → Q v H2
def EvF (te : TE) (σ : L2.St) (H : Hp) (ss : List FStep) : Prop := ∀ H1, Ex H H1 → ∀ Q : VK, RetF ss H1 Q → te σ H1 Q
def SpF (sp : Sp) (vs : List V) (H : Hp) (ss : List FStep) : Prop := ∀ H1, Ex H H1 → ∀ Q : VK, RetF ss H1 Q → ∀ E : XK, sp vs H1 Q E
theorem RetF.go {Q : VK} (k : RetF ss H Q) (e : Ex H H') {a : Addr} {H2 : Hp} (ha : H' a = none) (e2 : Ex H' H2) (h : H2 a = some (.tup vs)) (h2 : StepsAt H2 vs ss) : Q (.ref a) H2 := k a H2 vs (fresh_back e ha) (e.trans e2) h h2
theorem ef_call {sp : Sp} {dvs ws : List V} {E : XK} {ta : TA} (h : EvA ta σ H ws) (hs : SpF sp (ws ++ dvs) H ss) : EvF (tCall sp dvs E ta) σ H ss := fun H1 e Q q =>
  h H1 e _ fun H2 e2 => hs H2 (e.trans e2) Q (fun a H3 vs ha e3 h3 hs3 => q a H3 vs (fresh_back e2 ha) (e2.trans e3) h3 hs3) E
theorem q_asgF {i : Nat} (h : EvF te σ H ss) (k : ∀ a H1 vs, Ex H H1 → H1 a = some (.tup vs) → StepsAt H1 vs ss → tz D (σ.set i (some (.ref a))) H1) : tSeq (tAsg te (gName i)) tz D σ H :=
  h H (Ex.refl H) _ fun a H1 vs _ e h1 h2 => k a H1 vs e h1 h2
theorem q_asgP {i : Nat} (P : V → Hp → Prop) (h : ∀ Q : VK, (∀ v H1, Ex H H1 → P v H1 → Q v H1) → te σ H Q) (k : ∀ v H1, Ex H H1 → P v H1 → tz D (σ.set i (some v)) H1) : tSeq (tAsg te (gName i)) tz D σ H := h _ k
theorem s_retF (h : EvF te σ H ss) (k : RetF ss H D.rt) : tRet te D σ H := h H (Ex.refl H) _ k
theorem ev_neFF (ha : EvF ta σ H ss) (hb : EvF tb σ H ss) (hs : ∀ s ∈ ss, OkS s) : Ev (tOp (rNeD K) ta tb) σ H (.bl false) := fun H1 e Q q =>
  ha H1 e _ fun p H2 vs _ e2 hp hv => hb H2 (e.trans e2) _ fun p2 H3 ws _ e3 hp2 hw =>
    rv_neS (H := H3) (d := foD ss) (.tup (st_of (e3 _ _ hp)) (hv.mono e3).dp) (.tup (st_of hp2) hw.dp) (sh_form hs) H3 (Ex.refl _) Q fun H4 e4 => q H4 ((e2.trans e3).trans e4)
theorem ev_eqF {p : Addr} (h : H p = some (.tup vs)) (hv : StepsAt H vs ss) (ha : Ev ta σ H (.ref p)) (hb : EvF tb σ H ss) (hs : ∀ s ∈ ss, OkS s) : Ev (tOp (rEqD K) ta tb) σ H (.bl true) := fun H1 e Q q =>
  ha H1 e _ fun H2 e2 => hb H2 (e.trans e2) _ fun p2 H3 ws _ e3 hp2 hw =>
    rv_eqS (H := H3) (d := foD ss) (.tup (st_of (((e.trans e2).trans e3) _ _ h)) (hv.mono ((e.trans e2).trans e3)).dp) (.tup (st_of hp2) hw.dp) (sh_form hs) H3 (Ex.refl _) Q fun H4 e4 => q H4 ((e2.trans e3).trans e4)
/-- a call whose argument is a new formula -/
theorem ev_callF {sp : Sp} {dvs ws : List V} {E : XK} {tr : TA} (h1 : EvF te σ H ss) (h2 : EvA tr σ H ws) (hs : ∀ p H1 us, Ex H H1 → H1 p = some (.tup us) → StepsAt H1 us ss → SpV sp (.ref p :: ws ++ dvs) H1 z) : Ev (tCall sp dvs E (tCons te tr)) σ H z := fun H1 e Q q =>
  h1 H1 e _ fun p H2 us np e2 hp hu => h2 H2 (e.trans e2) _ fun H3 e3 => hs p H3 us ((e.trans e2).trans e3) (e3 _ _ hp) (hu.mono e3) H3 (Ex.refl H3) Q (fun H4 e4 => q H4 ((e2.trans e3).trans e4)) E
theorem rc_isiI {i : Int} : RC (rIsi K) [.int i, .ty "int"] H (.bl true) := fun H1 e _ q =>
  ⟨.int i, .ty "int", .type "int", .type "int", true, rfl, .ty _, .base (.int i), kit_ty (by decide +kernel), q H1 (Ex.refl H1)⟩
theorem rc_isiIB {i : Int} : RC (rIsi K) [.int i, .ty "bool"] H (.bl false) := fun H1 e _ q =>
  ⟨.int i, .ty "bool", .type "int", .type "bool", false, rfl, .ty _, .base (.int i), kit_ty (by decide +kernel), q H1 (Ex.refl H1)⟩
theorem rc_lenT {p : Addr} {xs : List V} (h : SqT K H p xs) : RC (fun xs H Q => ∃ x n, xs = [x] ∧ LenV K x H n ∧ Q (.int n) H) [.ref p] H (.int (xs.length : Int)) := fun H1 e _ q =>
  ⟨.ref p, (xs.length : Nat), rfl, .inr ⟨_, ex_t e h, rfl⟩, q H1 (Ex.refl H1)⟩
theorem cut1 (xs : List V) : cutV xs (some 1) none = xs.drop 1 := by
  unfold cutV
  rw [show HT.sIx xs.length 0 (some 1) = min 1 xs.length from HT.sIx_nat xs.length 0 1, HT.sIx_none]
  cases xs with
  | nil => rfl
  | cons x r =>
    rw [show min 1 (x :: r).length = 1 by
      rw [List.length_cons]
      omega]
    show (List.take ((x :: r).length - 1) r) = r
    rw [List.length_cons, Nat.add_sub_cancel]
    exact List.take_length
/-- t[1:] of a tuple that is not empty -/
theorem eu_tail {a : Addr} {xs : List V} (h : Ev te σ H (.ref a)) (hx : SqT K H a (y :: xs)) : EvU (tSl (rSlT K) te (tPart (tC (.int 1))) tNoPart) σ H xs := fun H1 e Q q =>
  h H1 e _ fun H2 e2 => ⟨1, rfl, a, y :: xs, rfl, ex_t (e.trans e2) hx, fun z => by
    have z1 : HT.sIx (y :: xs).length 0 (some 1) = min 1 (y :: xs).length := HT.sIx_nat (y :: xs).length 0 1
    have z2 := z.1
    rw [z1, List.length_cons] at z2
    omega, fun p hp => by
    have e3 : cutV (y :: xs) (some 1) none = xs := cut1 (y :: xs)
    rw [e3]
    exact q p _ (fresh_back e2 hp) (e2.trans (Ex.new hp)) upd_same⟩
/-- for over a new tuple -/
theorem s_forNT {xs : List V} (h : EvU tl σ H xs) (Pv : Addr → Nat → L2.St → Hp → Prop) (h0 : ∀ p H1, H p = none → Ex H H1 → H1 p = some (.tup xs) → Pv p 0 σ H1) (hl : ∀ p i σ' H', i ≤ xs.length → Pv p i σ' H' → SqT K H' p xs)
    (hs : ∀ p i x σ' H', xs[i]? = some x → Pv p i σ' H' → g x σ' H' fun σ2 H2 => tu { D with nx := Pv p (i + 1), ct := Pv p (i + 1), bk := D.nx } σ2 H2) (hd : ∀ p σ' H', Pv p xs.length σ' H' → D.nx σ' H') : tFor (iTup K tl) g tu D σ H :=
  h H (Ex.refl H) _ fun p H1 hp e h1 => ⟨p, rfl, ⟨xs, st_of h1⟩, for_tup (Pv p) (h0 p H1 hp e h1) (hl p) (hs p) (hd p)⟩
theorem q_forNT {xs : List V} (h : EvU tl σ H xs) (Pv : Addr → Nat → L2.St → Hp → Prop) (h0 : ∀ p H1, H p = none → Ex H H1 → H1 p = some (.tup xs) → Pv p 0 σ H1) (hl : ∀ p i σ' H', i ≤ xs.length → Pv p i σ' H' → SqT K H' p xs)
    (hs : ∀ p i x σ' H', xs[i]? = some x → Pv p i σ' H' → g x σ' H' fun σ2 H2 => tu { D with nx := Pv p (i + 1), ct := Pv p (i + 1), bk := tz D } σ2 H2) (hd : ∀ p σ' H', Pv p xs.length σ' H' → tz D σ' H') : tSeq (tFor (iTup K tl) g tu) tz D σ H :=
  s_forNT (D := { D with nx := tz D }) h Pv h0 hl hs hd
/-- for i, x in enumerate(t) -/
theorem q_forET {a : Addr} {xs : List V} {ta : TA} (h : EvA ta σ H [.ref a]) (hx : SqT K H a xs) (Pv : Nat → L2.St → Hp → Prop) (h0 : ∀ H1, Ex H H1 → Pv 0 σ H1) (hG : ∀ i σ' H', i ≤ xs.length → Pv i σ' H' → SqT K H' a xs)
    (hs : ∀ i x σ' H' T, xs[i]? = some x → Pv i σ' H' → H' T = none → g (.ref T) σ' (upd H' T (.tup [.int (i : Nat), x])) fun σ2 H2 => tu { D with nx := Pv (i + 1), ct := Pv (i + 1), bk := tz D } σ2 H2) (hd : ∀ σ' H', Pv xs.length σ' H' → tz D σ' H') :
    tSeq (tFor (iEnumT K ta) g tu) tz D σ H := h H (Ex.refl H) _ fun H1 e => by
  have wk : Walk (Iet K a) xs.length (fun H => SqT K H a xs) (YPair (fun i => some (.int (i : Nat))) (fun i => xs[i]?)) := by
    refine ⟨fun i _ hi q => ⟨xs, xs[i], q, by simp [hi]⟩, fun _ q => ⟨xs, q, Nat.le_refl _⟩, fun i H v H' _ q y => ?_⟩
    obtain ⟨T, x, h1, h2, h3, h4⟩ := y
    exact ⟨T, .int (i : Nat), x, h1, h2, h3, rfl, h4 xs q⟩
  refine ⟨a, xs, rfl, ex_t e hx, for_it (D := { D with nx := tz D }) wk Pv (h0 H1 e) hG (fun i x σ' H' H'' hi p y => ?_) hd⟩
  obtain ⟨T, x1, x2, rfl, hT, rfl, e1, e2⟩ := y
  cases Option.some.inj e1
  exact hs i x2 σ' H' T e2 p hT
/-- [e for x in a new tuple], e told -/
theorem el_mapNT {xs : List V} {j : Nat} {vs : List Nat} (fv : Nat → V) (h : EvU tl σ H xs) (hz : xs.length ≤ 40000) (hw : ∀ x, wipe ((wipe σ vs).set j (some x)) vs = wipe σ vs)
    (he : ∀ (i : Nat) (x : V) H1, Ex H H1 → xs[i]? = some x → Ev te ((wipe σ vs).set j (some x)) H1 (fv i)) :
    EvL (tLc (iTup K tl) (gName j) tYes te vs) σ H (given xs.length (fun _ => true) fv) := fun H0 e Q q => h H0 e _ fun a H1 ha e1 hx => ⟨a, rfl, ⟨xs, st_of hx⟩, fun Dl hD =>
  lc_tup (xs := xs) (Cw H1 (fun _ => true) fv Dl) ⟨hD, Ex.new hD, upd_same⟩ (fun i H' _ p => st_of (p.2.1 a _ hx)) (fun i x H' hi p => ⟨hw x, cw_turn p (by have := (List.getElem?_eq_some_iff.mp hi).1; omega) (fun H3 _ Q3 q3 => q3 H3 (Ex.refl H3)) (fun hf => he i x H1 (e.trans e1) hi)⟩)
    (fun H' p => q Dl H' (fresh_back e1 p.1) (e1.trans p.2.1) p.2.2)⟩
theorem given_all (n : Nat) (fv : Nat → V) : given n (fun _ => true) fv = (List.range n).map fv := by
  unfold given
  rw [List.filter_eq_self.mpr (fun _ _ => rfl)]
/-- a formula that grows in a list -/
structure FoAt (H H' : Hp) (l : Addr) (us : List V) (ss : List FStep) : Prop where
  ex : Ex H H'
  at_ : H' l = some (.lst us)
  st : StepsAt H' us ss
theorem FoAt.mono {H H1 H2 : Hp} {l : Addr} {us : List V} (F : FoAt H H1 l us ss) (e : Ex H1 H2) : FoAt H H2 l us ss := ⟨F.ex.trans e, e _ _ F.at_, F.st.mono e⟩
theorem steps_upd {l : Addr} {us zs : List V} {xs : List V} (hl : H l = some (.lst xs)) (h : StepsAt H us ss) : StepsAt (upd H l (.lst zs)) us ss := ⟨h.1, fun i v s a b => by
  obtain ⟨p, r1, r2⟩ := h.2 i v s a b
  refine ⟨p, r1, ?_⟩
  rw [upd_ne (fun z => by rw [z, hl] at r2; cases r2)]
  exact r2⟩
theorem step_upd {l : Addr} {zs : List V} {xs : List V} (hl : H l = some (.lst xs)) (h : StepAt H v s) : StepAt (upd H l (.lst zs)) v s := by
  obtain ⟨p, r1, r2⟩ := h
  refine ⟨p, r1, ?_⟩
  rw [upd_ne (fun z => by rw [z, hl] at r2; cases r2)]
  exact r2
theorem FoAt.push {H H1 H2 : Hp} {l : Addr} {us : List V} (hn : H l = none) (F : FoAt H H1 l us ss) (e : Ex H1 H2) (hs : StepAt H2 v s) : FoAt H (upd H2 l (.lst (us ++ [v]))) l (us ++ [v]) (ss ++ [s]) :=
  ⟨Ex.mut (F.ex.trans e) hn, upd_same, (steps_upd (e _ _ F.at_) (F.st.mono e)).snoc (step_upd (e _ _ F.at_) hs)⟩
/-- steps == [] -/
theorem ev_isEmpty {l : Addr} {us : List V} (hl : H l = some (.lst us)) (hs : StepsAt H us ss) (ho : ∀ s ∈ ss, OkS s) (ha : Ev ta σ H (.ref l)) : Ev (tOp (rEqD K) ta (tLst tNil)) σ H (.bl ss.isEmpty) :=
  ev_opL ha (el_lst ea_nil (show 0 ≤ 100000 by decide)) fun p H1 hp e H2 e2 Q q => ⟨.list (ss.map stD), .list [], .lst (sq_of ((e.trans e2) _ _ hl)) (hs.mono (e.trans e2)).dp, .lst (sq_of (e2 _ _ hp)) .nil, sh_list ho, rfl, by
    have e3 : PyData.eqv (.list (ss.map stD)) (.list []) = ss.isEmpty := by cases ss <;> rfl
    rw [e3]
    exact q H2 (Ex.refl _)⟩
theorem cut_take (xs : List V) (m : Nat) : cutV xs none (some (m : Int)) = xs.take m := by
  unfold cutV
  rw [HT.sIx_none, HT.sIx_nat, List.drop_zero, Nat.sub_zero]
  by_cases h : m ≤ xs.length
  · rw [Nat.min_eq_left h]
  · rw [Nat.min_eq_right (by omega), List.take_length, List.take_of_length_le (by omega)]
/-- f + (step,) -/
theorem ef_cat1 {a : Addr} {us : List V} {tt : TA} (ha : H a = some (.tup us)) (hs : StepsAt H us ss) (hne : ss ≠ []) (hl : ss.length ≤ 1000) (h : Ev ta σ H (.ref a)) (ht : EvA tt σ H (stV s)) (hz : s.2.length ≤ 100) : EvF (tOp (rCatT K) ta (tTup (tCons (tTup tt) tNil))) σ H (ss ++ [s]) := fun H1 e Q q =>
  h H1 e _ fun H2 e2 => ht H2 (e.trans e2) _ fun H3 e3 => ⟨by show (stV s).length ≤ sizeLine; exact sz_of (by simp [stV]; omega), fun p hp => ⟨by show 1 ≤ sizeLine; decide, fun r hr => by
    have e4 : Ex H3 (upd H3 p (.tup (stV s))) := Ex.new hp
    have e5 := e4.trans (Ex.new (o := .tup [V.ref p]) hr)
    have e6 := ((e.trans e2).trans e3).trans e5
    refine ⟨a, r, us, [.ref p], rfl, rfl, st_of (e6 _ _ ha), st_of upd_same, fun z => ?_, ?_, (fun z => nomatch z), fun _ c hc => ?_⟩
    · rw [z] at hs
      have := hs.1
      exact hne (List.eq_nil_of_length_eq_zero this.symm)
    · rw [hs.1]
      exact sz_of (by simp; omega)
    · refine q c _ _ (fresh_back ((e2.trans e3).trans e5) hc) (((e2.trans e3).trans e5).trans (Ex.new hc)) upd_same ?_
      exact ((hs.mono e6).snoc ⟨p, rfl, ex_app (Ex.new hr) upd_same⟩).mono (Ex.new hc)⟩⟩
/-- (step,) -/
theorem ef_one {tt : TA} (ht : EvA tt σ H (stV s)) (hz : s.2.length ≤ 100) : EvF (tTup (tCons (tTup tt) tNil)) σ H [s] := fun H1 e Q q =>
  ht H1 e _ fun H3 e3 => ⟨by show (stV s).length ≤ sizeLine; exact sz_of (by simp [stV]; omega), fun p hp => ⟨by show 1 ≤ sizeLine; decide, fun r hr => by
    have e4 : Ex H3 (upd H3 p (.tup (stV s))) := Ex.new hp
    exact q r _ _ (fresh_back (e3.trans e4) hr) ((e3.trans e4).trans (Ex.new hr)) upd_same (.one ⟨p, rfl, ex_app (Ex.new hr) upd_same⟩)⟩⟩
theorem ev_cbF {r : List V → Hp → VK → Prop} {tr : TA} {ws : List V} (h1 : EvF te σ H ss) (h2 : EvA tr σ H ws) (hr : ∀ p H1 us, H1 p = some (.tup us) → Ex H H1 → RC r (.ref p :: ws) H1 z) : Ev (tCB r (tCons te tr)) σ H z := fun H1 e Q q =>
  h1 H1 e _ fun p H2 us np e2 hp hu => h2 H2 (e.trans e2) _ fun H3 e3 => hr p H3 us (e3 _ _ hp) ((e.trans e2).trans e3) H3 (Ex.refl _) Q fun H4 e4 => q H4 ((e2.trans e3).trans e4)
theorem yes_go {A B : Hp → Prop} (h : A H) : tYes σ H fun b H3 => if b = true then A H3 else B H3 := by
  show (if true = true then A H else B H)
  rw [if_pos rfl]
  exact h
theorem at0 (st : FStep) : atI (stV st) 0 = some (.str st.1) := atI_nat (j := 0) rfl
end
end Fm

/-! Own rules: min and max of four ints, isqrt, // by any divisor. -/
namespace Mi
open PySem PySem.Spec PyProof.Rows L2 Evl Cm
theorem args_min4 (a b c d : Value) : argsOk "min" ⟨[a, b, c, d], []⟩ := by unfold argsOk; kernel_rfl
theorem args_max4 (a b c d : Value) : argsOk "max" ⟨[a, b, c, d], []⟩ := by unfold argsOk; kernel_rfl
section
variable {prog : Program} {w : World} {A : Around} {E : Value → Shared → Prop} {s : Shared}
theorem call_min_four {a b c d : Value} {Q : Value → Shared → Prop}
    (h : wpAny (model prog w) A.in1 (pyIter (.ref s.heap.objs.size)) (fun it s₂ => ∃ I fp wr n P St bt, it = .ref I ∧ Walks prog w A.in1 I fp wr n P St ∧ St 0 s₂.heap ∧ (∀ b ∈ fp, b < s₂.heap.objs.size) ∧ 0 < n ∧ CmpOf prog w A.in1 .Lt P bt ∧
      ∀ v h' tk, P (argBest bt (n - 1)) v → (∀ b o, b ∉ wr → s₂.heap.get? b = some o → h'.get? b = some o) → Q v { s₂ with heap := h', toks := tk }) E
      { s with heap := s.heap.push { cls := .type "tuple", data := .seq #[a, b, c, d] } }) :
    wpAny (model prog w) A (call (.builtin "min") [a, b, c, d]) Q E s := by
  have hname : (toString "min" ++ toString ".loop" : String) = "min.loop" := by decide
  refine call_function_tree F.kind_min F.plain_min F.entry_min (args_min4 _ _ _ _) ?_
  show wpAny _ A.in1 (Builtin.Builtins.bindParams "min" ["key", "default"] 0 ⟨[], []⟩ >>= _) _ _ s
  refine wpAny_bind (wpAny_of_eq (show Builtin.Builtins.bindParams "min" ["key", "default"] 0 ⟨[], []⟩ = pure [none, none] from rfl) ?_)
  show wpAny _ A.in1 (newTuple [a, b, c, d] >>= _) _ _ s
  refine wpAny_bind (wpAny_newObj_type ?_)
  refine wpAny_bind (wpAny_mono h (fun it s₂ h₂ => ?_) fun _ _ e => e)
  obtain ⟨I, fp, wr, n, P, St, bt, rfl, W, hst, hfp, hn, hcmp, hQ⟩ := h₂
  refine wpAny_bind (wpAny_newObj_type ?_)
  have hSf : s₂.heap.objs.size ∉ fp := fun hm => Nat.lt_irrefl _ (hfp _ hm)
  rw [hname]
  refine wpAny_pure ⟨plainId_quiet F.plain_min_loop _, codeAny_min_loop_first W bt hcmp s₂.heap.objs.size hSf hn (W.frame _ _ _ hst fun b _ o e => Heap.get?_push_of_some _ e) (Heap.get?_push_size _ rfl) fun v h' tk hP hk => ?_⟩
  exact hQ v h' tk hP fun b o hbw e => hk b o hbw (Nat.ne_of_lt (Heap.lt_size e)) (Heap.get?_push_of_some _ e)
theorem call_max_four {a b c d : Value} {Q : Value → Shared → Prop}
    (h : wpAny (model prog w) A.in1 (pyIter (.ref s.heap.objs.size)) (fun it s₂ => ∃ I fp wr n P St bt, it = .ref I ∧ Walks prog w A.in1 I fp wr n P St ∧ St 0 s₂.heap ∧ (∀ b ∈ fp, b < s₂.heap.objs.size) ∧ 0 < n ∧ CmpOf prog w A.in1 .Gt P bt ∧
      ∀ v h' tk, P (argBest bt (n - 1)) v → (∀ b o, b ∉ wr → s₂.heap.get? b = some o → h'.get? b = some o) → Q v { s₂ with heap := h', toks := tk }) E
      { s with heap := s.heap.push { cls := .type "tuple", data := .seq #[a, b, c, d] } }) :
    wpAny (model prog w) A (call (.builtin "max") [a, b, c, d]) Q E s := by
  have hname : (toString "max" ++ toString ".loop" : String) = "max.loop" := by decide
  refine call_function_tree F.kind_max F.plain_max F.entry_max (args_max4 _ _ _ _) ?_
  show wpAny _ A.in1 (Builtin.Builtins.bindParams "max" ["key", "default"] 0 ⟨[], []⟩ >>= _) _ _ s
  refine wpAny_bind (wpAny_of_eq (show Builtin.Builtins.bindParams "max" ["key", "default"] 0 ⟨[], []⟩ = pure [none, none] from rfl) ?_)
  show wpAny _ A.in1 (newTuple [a, b, c, d] >>= _) _ _ s
  refine wpAny_bind (wpAny_newObj_type ?_)
  refine wpAny_bind (wpAny_mono h (fun it s₂ h₂ => ?_) fun _ _ e => e)
  obtain ⟨I, fp, wr, n, P, St, bt, rfl, W, hst, hfp, hn, hcmp, hQ⟩ := h₂
  refine wpAny_bind (wpAny_newObj_type ?_)
  have hSf : s₂.heap.objs.size ∉ fp := fun hm => Nat.lt_irrefl _ (hfp _ hm)
  rw [hname]
  refine wpAny_pure ⟨plainId_quiet F.plain_max_loop _, codeAny_max_loop_first W bt hcmp s₂.heap.objs.size hSf hn (W.frame _ _ _ hst fun b _ o e => Heap.get?_push_of_some _ e) (Heap.get?_push_size _ rfl) fun v h' tk hP hk => ?_⟩
  exact hQ v h' tk hP fun b o hbw e => hk b o hbw (Nat.ne_of_lt (Heap.lt_size e)) (Heap.get?_push_of_some _ e)
theorem min4 {a b c d : Int} {t u x y : Tok} {Q : Value → Shared → Prop} (hh : A.handled = none)
    (h : ∀ h' tk t', (∀ z o, s.heap.get? z = some o → h'.get? z = some o) → Q (.int (min (min a b) (min c d)) t') { s with heap := h', toks := tk }) :
    wpAny (model prog w) A (call (.builtin "min") [.int a t, .int b u, .int c x, .int d y]) Q E s := by
  have hT : (s.heap.push { cls := .type "tuple", data := .seq #[.int a t, .int b u, .int c x, .int d y] }).IsTuple s.heap.objs.size (intItems #[(a, t), (b, u), (c, x), (d, y)]) := ⟨_, Heap.get?_push_size _ rfl, rfl, 0, by simp [intItems]⟩
  refine call_min_four (wpAny_pyIter_tuple hT ?_)
  have hsz : (s.heap.push { cls := .type "tuple", data := .seq #[.int a t, .int b u, .int c x, .int d y] }).objs.size = s.heap.objs.size + 1 := Heap.size_push ..
  refine ⟨_, [_, s.heap.objs.size], [_], _, _, _, _, rfl, Walks.tuple (A := A.in1) hh _ s.heap.objs.size (by rw [hsz]; exact Nat.ne_of_lt (Nat.lt_succ_self _)) (intItems #[(a, t), (b, u), (c, x), (d, y)]),
    ⟨⟨_, Heap.get?_push_size _ rfl, rfl, rfl⟩, hT.push _⟩, fun z hz => ?_, by simp [intItems], CmpOf.ints_lt (numAt #[(a, t), (b, u), (c, x), (d, y)]) (fun _ _ => intItems_at), fun v h' tk hP hk => ?_⟩
  · show z < ((s.heap.push _).push _).objs.size
    rw [Heap.size_push, hsz]
    rcases List.mem_cons.mp hz with rfl | hz
    · rw [hsz]; exact Nat.lt_succ_self _
    · rcases List.mem_cons.mp hz with rfl | hz
      · exact Nat.lt_succ_of_lt (Nat.lt_succ_self _)
      · cases hz
  · have hold : ∀ z o, s.heap.get? z = some o → h'.get? z = some o := fun z o e => by
      refine hk z o (fun hm => ?_) (Heap.get?_push_of_some _ (Heap.get?_push_of_some _ e))
      rcases List.mem_cons.mp hm with e1 | hm
      · have := Heap.lt_size e; rw [e1, hsz] at this; exact Nat.lt_irrefl _ (Nat.lt_of_succ_lt this)
      · cases hm
    have hs4 : (intItems #[(a, t), (b, u), (c, x), (d, y)]).size - 1 = 3 := by simp [intItems]
    rw [hs4] at hP
    obtain ⟨t', rfl⟩ := intItems_at hP
    obtain ⟨h1, h2⟩ := argBest_lt (numAt #[(a, t), (b, u), (c, x), (d, y)]) 3
    have n0 : numAt #[(a, t), (b, u), (c, x), (d, y)] 0 = a := rfl
    have n1 : numAt #[(a, t), (b, u), (c, x), (d, y)] 1 = b := rfl
    have n2 : numAt #[(a, t), (b, u), (c, x), (d, y)] 2 = c := rfl
    have n3 : numAt #[(a, t), (b, u), (c, x), (d, y)] 3 = d := rfl
    have m0 := h2 0 (by omega)
    have m1 := h2 1 (by omega)
    have m2 := h2 2 (by omega)
    have m3 := h2 3 (by omega)
    rw [n0] at m0
    rw [n1] at m1
    rw [n2] at m2
    rw [n3] at m3
    generalize hB : argBest (fun i j => decide (numAt #[(a, t), (b, u), (c, x), (d, y)] i < numAt #[(a, t), (b, u), (c, x), (d, y)] j)) 3 = B at *
    have hv : numAt #[(a, t), (b, u), (c, x), (d, y)] B = min (min a b) (min c d) := by
      have h4 : B = 0 ∨ B = 1 ∨ B = 2 ∨ B = 3 := by omega
      rcases h4 with z | z | z | z
      · rw [z, n0] at m0 m1 m2 m3 ⊢; omega
      · rw [z, n1] at m0 m1 m2 m3 ⊢; omega
      · rw [z, n2] at m0 m1 m2 m3 ⊢; omega
      · rw [z, n3] at m0 m1 m2 m3 ⊢; omega
    rw [hv]
    exact h h' tk t' hold
theorem max4 {a b c d : Int} {t u x y : Tok} {Q : Value → Shared → Prop} (hh : A.handled = none)
    (h : ∀ h' tk t', (∀ z o, s.heap.get? z = some o → h'.get? z = some o) → Q (.int (max (max a b) (max c d)) t') { s with heap := h', toks := tk }) :
    wpAny (model prog w) A (call (.builtin "max") [.int a t, .int b u, .int c x, .int d y]) Q E s := by
  have hT : (s.heap.push { cls := .type "tuple", data := .seq #[.int a t, .int b u, .int c x, .int d y] }).IsTuple s.heap.objs.size (intItems #[(a, t), (b, u), (c, x), (d, y)]) := ⟨_, Heap.get?_push_size _ rfl, rfl, 0, by simp [intItems]⟩
  refine call_max_four (wpAny_pyIter_tuple hT ?_)
  have hsz : (s.heap.push { cls := .type "tuple", data := .seq #[.int a t, .int b u, .int c x, .int d y] }).objs.size = s.heap.objs.size + 1 := Heap.size_push ..
  refine ⟨_, [_, s.heap.objs.size], [_], _, _, _, _, rfl, Walks.tuple (A := A.in1) hh _ s.heap.objs.size (by rw [hsz]; exact Nat.ne_of_lt (Nat.lt_succ_self _)) (intItems #[(a, t), (b, u), (c, x), (d, y)]),
    ⟨⟨_, Heap.get?_push_size _ rfl, rfl, rfl⟩, hT.push _⟩, fun z hz => ?_, by simp [intItems], CmpOf.ints_gt (numAt #[(a, t), (b, u), (c, x), (d, y)]) (fun _ _ => intItems_at), fun v h' tk hP hk => ?_⟩
  · show z < ((s.heap.push _).push _).objs.size
    rw [Heap.size_push, hsz]
    rcases List.mem_cons.mp hz with rfl | hz
    · rw [hsz]; exact Nat.lt_succ_self _
    · rcases List.mem_cons.mp hz with rfl | hz
      · exact Nat.lt_succ_of_lt (Nat.lt_succ_self _)
      · cases hz
  · have hold : ∀ z o, s.heap.get? z = some o → h'.get? z = some o := fun z o e => by
      refine hk z o (fun hm => ?_) (Heap.get?_push_of_some _ (Heap.get?_push_of_some _ e))
      rcases List.mem_cons.mp hm with e1 | hm
      · have := Heap.lt_size e; rw [e1, hsz] at this; exact Nat.lt_irrefl _ (Nat.lt_of_succ_lt this)
      · cases hm
    have hs4 : (intItems #[(a, t), (b, u), (c, x), (d, y)]).size - 1 = 3 := by simp [intItems]
    rw [hs4] at hP
    obtain ⟨t', rfl⟩ := intItems_at hP
    obtain ⟨h1, h2⟩ := argBest_gt (numAt #[(a, t), (b, u), (c, x), (d, y)]) 3
    have n0 : numAt #[(a, t), (b, u), (c, x), (d, y)] 0 = a := rfl
    have n1 : numAt #[(a, t), (b, u), (c, x), (d, y)] 1 = b := rfl
    have n2 : numAt #[(a, t), (b, u), (c, x), (d, y)] 2 = c := rfl
    have n3 : numAt #[(a, t), (b, u), (c, x), (d, y)] 3 = d := rfl
    have m0 := h2 0 (by omega)
    have m1 := h2 1 (by omega)
    have m2 := h2 2 (by omega)
    have m3 := h2 3 (by omega)
    rw [n0] at m0
    rw [n1] at m1
    rw [n2] at m2
    rw [n3] at m3
    generalize hB : argBest (fun i j => decide (numAt #[(a, t), (b, u), (c, x), (d, y)] i > numAt #[(a, t), (b, u), (c, x), (d, y)] j)) 3 = B at *
    have hv : numAt #[(a, t), (b, u), (c, x), (d, y)] B = max (max a b) (max c d) := by
      have h4 : B = 0 ∨ B = 1 ∨ B = 2 ∨ B = 3 := by omega
      rcases h4 with z | z | z | z
      · rw [z, n0] at m0 m1 m2 m3 ⊢; omega
      · rw [z, n1] at m0 m1 m2 m3 ⊢; omega
      · rw [z, n2] at m0 m1 m2 m3 ⊢; omega
      · rw [z, n3] at m0 m1 m2 m3 ⊢; omega
    rw [hv]
    exact h h' tk t' hold
end
theorem vals4 {x y z v : V} {us : List Value} (r : Vals [x, y, z, v] us) : ∃ u1 u2 u3 u4, us = [u1, u2, u3, u4] ∧ RelV x u1 ∧ RelV y u2 ∧ RelV z u3 ∧ RelV v u4 := by
  cases r with
  | cons r1 r =>
    cases r with
    | cons r2 r =>
      cases r with
      | cons r3 r =>
        cases r with
        | cons r4 r =>
          cases r
          exact ⟨_, _, _, _, rfl, r1, r2, r3, r4⟩
section
variable {X : Cx}
def rMin4 : List V → Hp → VK → Prop := fun xs H Q => ∃ i j k l, xs = [.int i, .int j, .int k, .int l] ∧ Q (.int (min (min i j) (min k l))) H
def rMax4 : List V → Hp → VK → Prop := fun xs H Q => ∃ i j k l, xs = [.int i, .int j, .int k, .int l] ∧ Q (.int (max (max i j) (max k l))) H
theorem call_min4 (hc : X.calm = true) : CallR X (.builtin "min") rMin4 := by
  intro pins s σ H xs us Q I r h
  obtain ⟨i, j, k, l, rfl, q⟩ := h
  obtain ⟨u1, u2, u3, u4, rfl, ⟨t1, rfl⟩, ⟨t2, rfl⟩, ⟨t3, rfl⟩, ⟨t4, rfl⟩⟩ := vals4 r
  exact min4 (I.ok.hd hc) fun h' tk t' k => ⟨.int _, H, I.kept k, ⟨_, rfl⟩, q⟩
theorem call_max4 (hc : X.calm = true) : CallR X (.builtin "max") rMax4 := by
  intro pins s σ H xs us Q I r h
  obtain ⟨i, j, k, l, rfl, q⟩ := h
  obtain ⟨u1, u2, u3, u4, rfl, ⟨t1, rfl⟩, ⟨t2, rfl⟩, ⟨t3, rfl⟩, ⟨t4, rfl⟩⟩ := vals4 r
  exact max4 (I.ok.hd hc) fun h' tk t' k => ⟨.int _, H, I.kept k, ⟨_, rfl⟩, q⟩
/-- isqrt of a number below 2 ^ 4000 -/
def rSqrt : List V → Hp → VK → Prop := fun xs H Q => ∃ i : Int, xs = [.int i] ∧ 0 ≤ i ∧ Bd 4000 i ∧ ∀ r : Nat, (r : Int) * r ≤ i → i < ((r : Int) + 1) * ((r : Int) + 1) → Q (.int (r : Int)) H
theorem call_sqrt : CallR X (.builtin "math.isqrt") rSqrt := by
  intro pins s σ H xs us Q I r h
  obtain ⟨i, rfl, h0, hb, q⟩ := h
  obtain ⟨u1, rfl, ⟨t1, rfl⟩⟩ := vals1 r
  obtain ⟨n, rfl⟩ := Int.eq_ofNat_of_zero_le h0
  have hl : n.log2 ≤ 3999 := PySem.W.mg_log (show n < 2 ^ (3999 + 1) from hb)
  have hs := PySem.Float64.isqrt_spec n
  have qq := q (Float64.isqrt n) (by have := hs.1; exact_mod_cast this) (by have := hs.2; exact_mod_cast this)
  exact call_function_meets PySem.W.MGF.kind_isqrt PySem.W.MGF.plain_isqrt PySem.W.MGF.entry_isqrt (PySem.W.MGF.args_isqrt _) (PySem.W.mg_run_isqrt (n : Int) t1 (by omega) (by rw [Int.toNat_natCast]; omega) (by rw [Int.toNat_natCast]; omega)).meets ⟨.int _, H, I.tok _, ⟨_, rfl⟩, qq⟩
/-- // by a divisor that is not 0 and below 2 ^ 9000 -/
def CDivA (_ j : Int) : Prop := j ≠ 0 ∧ j.natAbs.log2 < 9000
theorem op_fdivA : OpR X (binaryOp .FloorDiv) (rI CDivA fun i j => .int (i.fdiv j)) := opI fun i j _ _ _ _ _ hc q => floordiv_int hc.1 q (.inl (PyProof.noPylong_of_log2 hc.2))
end
section
variable {H : Hp} {K : PySem.W.Frag}
theorem rc_min4 {i j k l : Int} : RC rMin4 [.int i, .int j, .int k, .int l] H (.int (min (min i j) (min k l))) := fun H1 _ _ q => ⟨i, j, k, l, rfl, q H1 (Ex.refl _)⟩
theorem rc_max4 {i j k l : Int} : RC rMax4 [.int i, .int j, .int k, .int l] H (.int (max (max i j) (max k l))) := fun H1 _ _ q => ⟨i, j, k, l, rfl, q H1 (Ex.refl _)⟩
end
end Mi

/-! Own data: the digits of a number. -/
namespace Dg
open PySem PySem.Builtin PySem.Builtin.Str SX TL
/-- the last k digits -/
def pad : Nat → Nat → List Nat
  | 0, _ => []
  | k + 1, n => pad k (n / 10) ++ [48 + n % 10]
theorem pad_len : ∀ k n, (pad k n).length = k
  | 0, _ => rfl
  | k + 1, n => by
    show (pad k (n / 10) ++ [48 + n % 10]).length = k + 1
    rw [List.length_append, pad_len k]
    rfl
theorem pow_div (n k : Nat) : n / 10 / 10 ^ k = n / 10 ^ (k + 1) := by
  rw [Nat.div_div_eq_div_mul, Nat.pow_succ, Nat.mul_comm]
theorem lt_pow {n k : Nat} (h : n < 10 ^ (k + 1)) : n / 10 < 10 ^ k := by
  rw [Nat.pow_succ] at h
  exact Nat.div_lt_of_lt_mul (by rw [Nat.mul_comm]; exact h)
theorem num_split : ∀ k n, 10 ^ k ≤ n → numL n = numL (n / 10 ^ k) ++ pad k n
  | 0, n, _ => by
    show numL n = numL (n / 1) ++ []
    rw [Nat.div_one, List.append_nil]
  | k + 1, n, h => by
    have h1 : 10 ^ k * 10 ≤ n := by
      rw [← Nat.pow_succ]
      exact h
    have h0 : 0 < 10 ^ k := Nat.pow_pos (by decide)
    have h2 : 10 ^ k ≤ n / 10 := (Nat.le_div_iff_mul_le (by decide)).mpr h1
    rw [numL_step (by omega), num_split k (n / 10) h2, pow_div, List.append_assoc]
    rfl
theorem pad_zero : ∀ k, pad k 0 = List.replicate k 48
  | 0 => rfl
  | k + 1 => by
    show pad k 0 ++ [48] = _
    rw [pad_zero k, List.replicate_succ']
theorem num_len : ∀ k n, n < 10 ^ (k + 1) → (numL n).length ≤ k + 1
  | 0, n, h => by
    rw [numL_lt (by omega)]
    exact Nat.le_refl _
  | k + 1, n, h => by
    by_cases h1 : n < 10
    · rw [numL_lt h1]
      show 1 ≤ k + 1 + 1
      omega
    · rw [numL_step (by omega), List.length_append]
      have := num_len k (n / 10) (lt_pow h)
      show (numL (n / 10)).length + 1 ≤ k + 1 + 1
      omega
theorem num_pad : ∀ k n, n < 10 ^ (k + 1) → List.replicate (k + 1 - (numL n).length) 48 ++ numL n = pad (k + 1) n
  | 0, n, h => by
    have h1 : n < 10 := by omega
    rw [numL_lt h1]
    show [] ++ [48 + n] = [] ++ [48 + n % 10]
    rw [Nat.mod_eq_of_lt h1]
  | k + 1, n, h => by
    by_cases h1 : n < 10
    · rw [numL_lt h1]
      show List.replicate (k + 1) 48 ++ [48 + n] = pad (k + 1) (n / 10) ++ [48 + n % 10]
      rw [Nat.mod_eq_of_lt h1, Nat.div_eq_of_lt h1, pad_zero]
    · have ih := num_pad k (n / 10) (lt_pow h)
      rw [numL_step (by omega), List.length_append]
      show List.replicate (k + 1 + 1 - ((numL (n / 10)).length + 1)) 48 ++ (numL (n / 10) ++ [48 + n % 10]) = pad (k + 1) (n / 10) ++ [48 + n % 10]
      rw [← ih, ← List.append_assoc, show k + 1 + 1 - ((numL (n / 10)).length + 1) = k + 1 - (numL (n / 10)).length by omega]
theorem pad_cons : ∀ k n, n < 10 ^ k → pad (k + 1) n = 48 :: pad k n
  | 0, n, h => by
    have h1 : n = 0 := by
      have : (10 : Nat) ^ 0 = 1 := rfl
      omega
    subst h1
    rfl
  | k + 1, n, h => by
    show pad (k + 1) (n / 10) ++ [48 + n % 10] = 48 :: (pad k (n / 10) ++ [48 + n % 10])
    rw [pad_cons k (n / 10) (lt_pow h)]
    rfl
theorem pad_front : ∀ k n, pad (k + 1) n = (48 + n / 10 ^ k % 10) :: pad k n
  | 0, n => by
    show [] ++ [48 + n % 10] = [48 + n / 1 % 10]
    rw [Nat.div_one]
    rfl
  | k + 1, n => by
    show pad (k + 1) (n / 10) ++ [48 + n % 10] = _ :: (pad k (n / 10) ++ [48 + n % 10])
    rw [pad_front k (n / 10), pow_div]
    rfl
theorem pad_mod : ∀ k n, pad k (n % 10 ^ k) = pad k n
  | 0, _ => rfl
  | k + 1, n => by
    have e : n % 10 ^ (k + 1) = n % 10 + 10 * (n / 10 % 10 ^ k) := by
      rw [Nat.pow_succ, Nat.mul_comm, Nat.mod_mul]
    show pad k (n % 10 ^ (k + 1) / 10) ++ [48 + n % 10 ^ (k + 1) % 10] = pad k (n / 10) ++ [48 + n % 10]
    rw [e, show (n % 10 + 10 * (n / 10 % 10 ^ k)) / 10 = n / 10 % 10 ^ k by omega, show (n % 10 + 10 * (n / 10 % 10 ^ k)) % 10 = n % 10 by omega, pad_mod k]
theorem num_head (n : Nat) : ∃ c r, numL n = c :: r ∧ 48 ≤ c ∧ c ≤ 57 := by
  cases h : numL n with
  | nil => exact absurd h (numL_ne n)
  | cons c r =>
    have h2 := numL_digits n c (by rw [h]; exact List.mem_cons_self ..)
    exact ⟨c, r, rfl, h2⟩
theorem zfill_long {n m : Nat} (h : m ≤ (numL n).length) : Txt.zfill (S (numL n)) (m : Int) = S (numL n) := by
  unfold Txt.zfill
  rw [S_len, if_pos (by omega)]
theorem zfill_short {n m : Nat} (h : (numL n).length < m) : Txt.zfill (S (numL n)) (m : Int) = S (List.replicate (m - (numL n).length) 48 ++ numL n) := by
  unfold Txt.zfill
  rw [S_len, if_neg (by omega), Int.toNat_natCast]
  obtain ⟨c, r, hc, h1, h2⟩ := num_head n
  refine TL.ext_tl ?_
  have e : (S (numL n)).cps[0]? = some c := by
    show (numL n).toArray[0]? = some c
    rw [hc]
    rfl
  have e2 : zfilled (S (numL n)) (m - (numL n).length) = padded (S (numL n)) (m - (numL n).length) 0 48 := by
    unfold zfilled
    rw [e]
    split
    · rename_i z
      cases Option.some.inj z
      omega
    · rename_i z
      cases Option.some.inj z
      omega
    · rfl
  rw [e2]
  show (padded (S (numL n)) (m - (numL n).length) 0 48).cps.toList = _
  rw [PyProof.Rows.padded_list]
  simp
/-- a number with fewer than m digits, filled -/
theorem zfill_num {n m : Nat} (hm : 1 ≤ m) (h : n < 10 ^ m) : Txt.zfill (S (numL n)) (m : Int) = S (pad m n) := by
  obtain ⟨k, rfl⟩ : ∃ k, m = k + 1 := ⟨m - 1, by omega⟩
  rw [← num_pad k n h]
  by_cases hl : k + 1 ≤ (numL n).length
  · rw [zfill_long hl, show k + 1 - (numL n).length = 0 by omega]
    rfl
  · exact zfill_short (by omega)
/-- .. to one digit more than its places -/
theorem zfill_places (n p : Nat) : Txt.zfill (S (numL n)) ((p + 1 : Nat) : Int) = S (numL (n / 10 ^ p) ++ pad p n) := by
  by_cases h : 10 ^ p ≤ n
  · have e := num_split p n h
    have h1 : p + 1 ≤ (numL n).length := by
      rw [e, List.length_append, pad_len]
      have := List.length_pos_iff.mpr (numL_ne (n / 10 ^ p))
      omega
    rw [zfill_long h1, ← e]
  · have h0 : n < 10 ^ p := by omega
    have h1 : n < 10 ^ (p + 1) := by
      rw [Nat.pow_succ]
      omega
    rw [zfill_num (by omega) h1, pad_cons p n h0, Nat.div_eq_of_lt h0, numL_lt (by decide)]
    rfl
theorem joinL_nil : ∀ ps : List (List Nat), joinL [] ps = ps.flatten
  | [] => rfl
  | [p] => by
    show p = p ++ []
    rw [List.append_nil]
  | p :: q :: r => by
    show p ++ ([] ++ joinL [] (q :: r)) = p ++ (q :: r).flatten
    rw [joinL_nil (q :: r)]
    rfl
theorem join_nil (ps : List (List Nat)) : Txt.join (S []) (ps.map S) = S ps.flatten := by rw [join_S, joinL_nil]
theorem slice_to_neg {a b : List Nat} (h : 0 < b.length) : Txt.slice (S (a ++ b)) none (some (-(b.length : Int))) = S a := by
  have e := beq_iff_eq.mp (PyProof.Rows.slice_closes_to_neg (x := S (a ++ b)) (j := -(b.length : Int)) (k := (a.length : Int)) (by omega) (by rw [S_len, List.length_append]; omega) (by rw [S_len, List.length_append]; omega))
  refine e.trans (TL.ext_tl ?_)
  show ((a ++ b).drop (0 : Int).toNat).take ((a.length : Int) - 0).toNat = a
  rw [show (0 : Int).toNat = 0 from rfl, List.drop_zero, show ((a.length : Int) - 0).toNat = a.length by omega, List.take_left]
theorem slice_from_neg {a b : List Nat} (h : 0 < b.length) : Txt.slice (S (a ++ b)) (some (-(b.length : Int))) none = S b := by
  have e := beq_iff_eq.mp (PyProof.Rows.slice_closes_from_neg (x := S (a ++ b)) (i := -(b.length : Int)) (a := (a.length : Int)) (b := ((a ++ b).length : Int)) (by omega) (by rw [S_len, List.length_append]; omega) (by rw [S_len, List.length_append]; omega) (by rw [S_len]))
  refine e.trans (TL.ext_tl ?_)
  show ((a ++ b).drop (a.length : Int).toNat).take (((a ++ b).length : Int) - (a.length : Int)).toNat = b
  rw [Int.toNat_natCast, List.drop_left, List.take_of_length_le (by rw [List.length_append]; omega)]
end Dg

/-! Own data: whole numbers as texts, there and back. -/
namespace Tx
open PySem PySem.Builtin PySem.Builtin.Str SX TL Dg
/-- a whole number's signs -/
def intL (i : Int) : List Nat := if i < 0 then 45 :: numL i.natAbs else numL i.natAbs
theorem intL_neg (n : Nat) : intL (-((n + 1 : Nat) : Int)) = 45 :: numL (n + 1) := by
  unfold intL
  rw [if_pos (by omega), Int.natAbs_neg, Int.natAbs_natCast]
theorem intL_nat (n : Nat) : intL (n : Int) = numL n := by
  unfold intL
  rw [if_neg (by omega), Int.natAbs_natCast]
theorem str_cons (s : String) : Str.ofString ("-" ++ s) = S (45 :: (Str.ofString s).cps.toList) := by
  refine TL.ext_tl ?_
  show (Str.ofString ("-" ++ s)).cps.toList = _
  simp [Str.ofString_eq_toList]
theorem int_text (i : Int) : Str.ofString (toString i) = S (intL i) := by
  cases i with
  | ofNat n =>
    rw [show (Int.ofNat n) = (n : Int) from rfl, intL_nat]
    exact num_S n
  | negSucc n =>
    have h := num_S (n + 1)
    rw [show (Int.negSucc n) = -((n + 1 : Nat) : Int) from rfl, intL_neg]
    show Str.ofString ("-" ++ Nat.repr (n + 1)) = _
    rw [str_cons]
    have e : (Str.ofString (Nat.repr (n + 1))).cps.toList = numL (n + 1) := congrArg (fun x : Str => x.cps.toList) h
    rw [e]
theorem num_all (n : Nat) : ∀ c ∈ numL n, 48 ≤ c ∧ c ≤ 57 := numL_digits n
theorem ascii_num (n : Nat) : Txt.isascii (S (numL n)) = true := by
  show (numL n).toArray.all (· < 128) = true
  rw [← Array.all_toList]
  exact List.all_eq_true.mpr fun c hc => decide_eq_true (by have := num_all n c hc; omega)
theorem digit_num (n : Nat) : Txt.isdigit (S (numL n)) = true := by
  show (decide ((S (numL n)).length > 0) && (numL n).toArray.all Unicode.isDigit) = true
  rw [S_len, decide_eq_true (List.length_pos_iff.mpr (numL_ne n)), Bool.true_and, ← Array.all_toList]
  refine List.all_eq_true.mpr fun c hc => ?_
  have h := num_all n c hc
  have : ∀ c, c < 58 → 48 ≤ c → Unicode.isDigit c = true := by decide +kernel
  exact this c (by omega) h.1
theorem starts1 (c : Nat) (a : List Nat) (d : Nat) : Txt.startswith (S (d :: a)) (S [c]) = decide (d = c) := by
  unfold Txt.startswith
  rw [S_len, S_len, decide_eq_true (by simp), Bool.true_and]
  simp [subAt, S_len]
  exact Bool.eq_iff_iff.mpr (by simp)
theorem head_ge (n : Nat) (h : 0 < n) : ∃ d q, numL n = (49 + d) :: q := by
  induction n using Nat.strongRecOn with
  | ind n ih =>
    by_cases h10 : n < 10
    · exact ⟨n - 1, [], by rw [numL_lt h10]; exact congrArg (fun z => [z]) (by omega)⟩
    · obtain ⟨d, q, e⟩ := ih (n / 10) (by omega) (by omega)
      exact ⟨d, q ++ [48 + n % 10], by rw [numL_step (by omega), e]; rfl⟩
theorem head0 {n : Nat} {r : List Nat} {c : Nat} (h : numL n = c :: r) (h0 : c = 48) : n = 0 := by
  by_cases hn : 0 < n
  · obtain ⟨d, q, e⟩ := head_ge n hn
    rw [e] at h
    have := (List.cons.inj h).1
    omega
  · omega
/-- read back -/
theorem int_back {i : Int} (h : (intL i).length ≤ 4300) : intText? (S (intL i)) = some i := by
  by_cases hi : i < 0
  · have e : intL i = 45 :: numL i.natAbs := by
      unfold intL
      rw [if_pos hi]
    rw [e] at h ⊢
    have h2 := PySem.intText_neg (x := S (45 :: numL i.natAbs)) (cs := numL i.natAbs) rfl (numL_digits _) (numL_ne _) (by rw [S_len]; exact h)
    rw [h2]
    have h3 : NumText.digitsVal (numL i.natAbs) = i.natAbs := PySem.W.KIN.val_back i.natAbs
    rw [h3]
    exact congrArg some (by omega)
  · obtain ⟨n, rfl⟩ := Int.eq_ofNat_of_zero_le (show 0 ≤ i by omega)
    rw [intL_nat] at h ⊢
    rw [← num_S]
    exact int_num h
end Tx

/-! Own data: formulas tidied. -/
namespace Td
open PySem Fm
/-- the indexes of a step, and a step with its indexes changed -/
def ix (s : FStep) : List Nat := if s.1 = "number" then [] else s.2.map Int.toNat
def ren (f : Nat → Nat) (s : FStep) : FStep := if s.1 = "number" then s else (s.1, s.2.map fun i => ((f i.toNat : Nat) : Int))
theorem ren_word (f : Nat → Nat) (s : FStep) : (ren f s).1 = s.1 := by
  unfold ren
  split <;> rfl
theorem ix_ren (f : Nat → Nat) (s : FStep) : ix (ren f s) = (ix s).map f := by
  unfold ix
  rw [ren_word]
  by_cases h : s.1 = "number"
  · rw [if_pos h, if_pos h]
    rfl
  · rw [if_neg h, if_neg h]
    unfold ren
    rw [if_neg h, List.map_map, List.map_map]
    rfl
theorem ren_congr {f g : Nat → Nat} {s : FStep} (h : ∀ i ∈ ix s, f i = g i) : ren f s = ren g s := by
  unfold ren
  by_cases hn : s.1 = "number"
  · rw [if_pos hn, if_pos hn]
  · rw [if_neg hn, if_neg hn]
    refine congrArg _ (List.map_congr_left fun i hi => ?_)
    have : i.toNat ∈ ix s := by
      unfold ix
      rw [if_neg hn]
      exact List.mem_map_of_mem hi
    rw [h _ this]
theorem ok_pos {k : Nat} {s : FStep} (h : OkStep k s) (hn : s.1 ≠ "number") : ∀ i ∈ s.2, 0 ≤ i ∧ i < (k : Int) := by
  rcases h with ⟨p, q, rfl, _⟩ | rfl | ⟨x, i, j, _, rfl, h1, h2⟩ | ⟨x, i, _, rfl, h1⟩
  · exact absurd rfl hn
  · intro i hi
    simp at hi
  · intro y hy
    simp only [List.mem_cons, List.not_mem_nil, or_false] at hy
    rcases hy with rfl | rfl
    · exact h1
    · exact h2
  · intro y hy
    simp only [List.mem_cons, List.not_mem_nil, or_false] at hy
    subst hy
    exact h1
theorem ok_ix {k : Nat} {s : FStep} (h : OkStep k s) : ∀ i ∈ ix s, i < k := by
  intro i hi
  unfold ix at hi
  by_cases hn : s.1 = "number"
  · rw [if_pos hn] at hi
    exact absurd hi (by simp)
  · rw [if_neg hn] at hi
    obtain ⟨j, hj, rfl⟩ := List.mem_map.mp hi
    have := ok_pos h hn j hj
    omega
theorem ren_id {k : Nat} {s : FStep} (h : OkStep k s) {f : Nat → Nat} (hf : ∀ i ∈ ix s, f i = i) : ren f s = s := by
  unfold ren
  by_cases hn : s.1 = "number"
  · rw [if_pos hn]
  · rw [if_neg hn]
    have : (s.2.map fun i => ((f i.toNat : Nat) : Int)) = s.2 := by
      conv => rhs; rw [← List.map_id s.2]
      refine List.map_congr_left fun i hi => ?_
      have h1 := ok_pos h hn i hi
      have h2 : i.toNat ∈ ix s := by
        unfold ix
        rw [if_neg hn]
        exact List.mem_map_of_mem hi
      rw [hf _ h2]
      show ((i.toNat : Nat) : Int) = i
      omega
    rw [this]
theorem ok_ren {k m : Nat} {s : FStep} (h : OkStep k s) {f : Nat → Nat} (hf : ∀ i ∈ ix s, f i < m) : OkStep m (ren f s) := by
  rcases h with ⟨p, q, rfl, hq⟩ | rfl | ⟨x, i, j, hx, rfl, h1, h2⟩ | ⟨x, i, hx, rfl, h1⟩
  · exact .inl ⟨p, q, rfl, hq⟩
  · exact .inr (.inl rfl)
  · have hn : x ≠ "number" := fun z => absurd hx (by rw [z]; decide +kernel)
    have e : ix (x, [i, j]) = [i.toNat, j.toNat] := by
      unfold ix
      rw [if_neg hn]
      rfl
    rw [e] at hf
    have a1 := hf i.toNat (by simp)
    have a2 := hf j.toNat (by simp)
    refine .inr (.inr (.inl ⟨x, (f i.toNat : Nat), (f j.toNat : Nat), hx, ?_, ⟨by omega, by omega⟩, ⟨by omega, by omega⟩⟩))
    unfold ren
    rw [if_neg hn]
    rfl
  · have hn : x ≠ "number" := fun z => absurd hx (by rw [z]; decide +kernel)
    have e : ix (x, [i]) = [i.toNat] := by
      unfold ix
      rw [if_neg hn]
      rfl
    rw [e] at hf
    have a1 := hf i.toNat (by simp)
    refine .inr (.inr (.inr ⟨x, (f i.toNat : Nat), hx, ?_, ⟨by omega, by omega⟩⟩))
    unfold ren
    rw [if_neg hn]
    rfl
theorem map_inj_on {f : Nat → Nat} : ∀ {l m : List Int}, (∀ i ∈ l, 0 ≤ i) → (∀ i ∈ m, 0 ≤ i) → (∀ i ∈ l, ∀ j ∈ m, f i.toNat = f j.toNat → i.toNat = j.toNat) → (l.map fun i => ((f i.toNat : Nat) : Int)) = (m.map fun i => ((f i.toNat : Nat) : Int)) → l = m
  | [], [], _, _, _, _ => rfl
  | [], _ :: _, _, _, _, h => by simp at h
  | _ :: _, [], _, _, _, h => by simp at h
  | a :: l, b :: m, h1, h2, hf, h => by
    rw [List.map_cons, List.map_cons] at h
    have e1 := (List.cons.inj h).1
    have e2 := (List.cons.inj h).2
    have e3 := hf a (List.mem_cons_self ..) b (List.mem_cons_self ..) (by omega)
    have p1 := h1 a (List.mem_cons_self ..)
    have p2 := h2 b (List.mem_cons_self ..)
    rw [map_inj_on (fun i hi => h1 i (List.mem_cons_of_mem _ hi)) (fun i hi => h2 i (List.mem_cons_of_mem _ hi)) (fun i hi j hj => hf i (List.mem_cons_of_mem _ hi) j (List.mem_cons_of_mem _ hj)) e2, show a = b by omega]
theorem ren_inj {k m : Nat} {s t : FStep} (hs : OkStep k s) (ht : OkStep m t) {f : Nat → Nat} (hf : ∀ i ∈ ix s, ∀ j ∈ ix t, f i = f j → i = j) (h : ren f s = ren f t) : s = t := by
  have hw : s.1 = t.1 := by rw [← ren_word f s, ← ren_word f t, h]
  by_cases hn : s.1 = "number"
  · have hn2 : t.1 = "number" := hw ▸ hn
    unfold ren at h
    rw [if_pos hn, if_pos hn2] at h
    exact h
  · have hn2 : t.1 ≠ "number" := hw ▸ hn
    unfold ren at h
    rw [if_neg hn, if_neg hn2] at h
    have h2 := (Prod.mk.inj h).2
    have hx : ∀ {u : FStep}, u.1 ≠ "number" → ∀ i ∈ u.2, i.toNat ∈ ix u := fun hu i hi => by
      unfold ix
      rw [if_neg hu]
      exact List.mem_map_of_mem hi
    have h3 := map_inj_on (fun i hi => (ok_pos hs hn i hi).1) (fun i hi => (ok_pos ht hn2 i hi).1) (fun i hi j hj => hf _ (hx hn i hi) _ (hx hn2 j hj)) h2
    exact Prod.ext hw h3
/-! ### going through the steps: each one once -/
def mstep (acc : List FStep × List Nat) (s : FStep) : List FStep × List Nat :=
  if ren (fun i => acc.2.getD i 0) s ∈ acc.1 then (acc.1, acc.2 ++ [acc.1.idxOf (ren (fun i => acc.2.getD i 0) s)]) else (acc.1 ++ [ren (fun i => acc.2.getD i 0) s], acc.2 ++ [acc.1.length])
def merge (F : List FStep) : List FStep × List Nat := F.foldl mstep ([], [])
structure Mg (n : Nat) (acc : List FStep × List Nat) : Prop where
  len : acc.2.length = n
  lt : ∀ p ∈ acc.2, p < acc.1.length
  ok : OkForm acc.1
  nd : acc.1.Nodup
  le : acc.1.length ≤ n
theorem getD_mem {l : List Nat} {i : Nat} (h : i < l.length) : l.getD i 0 ∈ l := by
  rw [List.getD_eq_getElem?_getD, List.getElem?_eq_getElem h]
  exact List.getElem_mem h
theorem Mg.step {n : Nat} {acc : List FStep × List Nat} (g : Mg n acc) {s : FStep} (hs : OkStep n s) : OkStep acc.1.length (ren (fun i => acc.2.getD i 0) s) :=
  ok_ren hs fun i hi => g.lt _ (getD_mem (by rw [g.len]; exact ok_ix hs i hi))
theorem OkForm.snoc {F : List FStep} {s : FStep} (h : OkForm F) (hs : OkStep F.length s) : OkForm (F ++ [s]) := by
  intro k t hk
  by_cases hlt : k < F.length
  · rw [List.getElem?_append_left hlt] at hk
    exact h k t hk
  · rw [List.getElem?_append_right (by omega)] at hk
    have h0 : k - F.length = 0 := by
      have := (List.getElem?_eq_some_iff.mp hk).1
      simp at this
      omega
    rw [h0] at hk
    cases Option.some.inj hk
    have : k = F.length := by omega
    rw [this]
    exact hs
theorem Mg.next {n : Nat} {acc : List FStep × List Nat} (g : Mg n acc) {s : FStep} (hs : OkStep n s) : Mg (n + 1) (mstep acc s) := by
  have h1 := g.step hs
  unfold mstep
  split
  · rename_i hm
    refine ⟨by rw [List.length_append, g.len]; rfl, fun p hp => ?_, g.ok, g.nd, Nat.le_succ_of_le g.le⟩
    rcases List.mem_append.mp hp with h | h
    · exact g.lt p h
    · rw [List.mem_singleton] at h
      rw [h]
      exact List.idxOf_lt_length_of_mem hm
  · rename_i hm
    refine ⟨by rw [List.length_append, g.len]; rfl, fun p hp => ?_, OkForm.snoc g.ok h1, List.nodup_append.mpr ⟨g.nd, by simp, fun a ha b hb => ?_⟩, by rw [List.length_append]; exact Nat.succ_le_succ g.le⟩
    · rw [List.length_append, List.length_singleton]
      rcases List.mem_append.mp hp with h | h
      · exact Nat.lt_succ_of_lt (g.lt p h)
      · rw [List.mem_singleton] at h
        omega
    · rw [List.mem_singleton] at hb
      subst hb
      exact fun z => hm (z ▸ ha)
theorem Mg.nil : Mg 0 ([], []) := ⟨rfl, fun p hp => absurd hp (by simp), fun k s h => by simp at h, List.nodup_nil, Nat.le_refl _⟩
theorem mg_take {F : List FStep} (h : OkForm F) : ∀ i, i ≤ F.length → Mg i ((F.take i).foldl mstep ([], []))
  | 0, _ => Mg.nil
  | i + 1, hi => by
    have hlt : i < F.length := hi
    rw [List.take_add_one, List.getElem?_eq_getElem hlt]
    show Mg (i + 1) ((F.take i ++ [F[i]]).foldl mstep ([], []))
    rw [List.foldl_append]
    exact (mg_take h i (Nat.le_of_lt hlt)).next (h i _ (List.getElem?_eq_getElem hlt))
theorem mg_merge {F : List FStep} (h : OkForm F) : Mg F.length (merge F) := by
  have := mg_take h F.length (Nat.le_refl _)
  rw [List.take_length] at this
  exact this
/-! ### the steps that are used -/
def upass (T : List FStep) : Nat → List Nat → List Nat
  | 0, L => L
  | n + 1, L => upass T n (if n ∈ L then L ++ ix (T.getD n ("pi", [])) else L)
theorem up_sub (T : List FStep) : ∀ n L, ∀ x ∈ L, x ∈ upass T n L
  | 0, _, x, h => h
  | n + 1, L, x, h => by
    unfold upass
    refine up_sub T n _ x ?_
    split
    · exact List.mem_append_left _ h
    · exact h
theorem ok_getD {T : List FStep} (h : OkForm T) (n : Nat) : ∀ i ∈ ix (T.getD n ("pi", [])), i < n := by
  intro i hi
  rw [List.getD_eq_getElem?_getD] at hi
  cases e : T[n]? with
  | none =>
    rw [e] at hi
    have e1 : ix (("pi" : Str), ([] : List Int)) = [] := by decide +kernel
    rw [Option.getD_none, e1] at hi
    exact absurd hi (List.not_mem_nil)
  | some s =>
    rw [e] at hi
    exact ok_ix (h n s e) i hi
/-- what is in the end at a place or above stood there before -/
theorem up_high {T : List FStep} (h : OkForm T) : ∀ n L, ∀ x ∈ upass T n L, n ≤ x + 1 → x ∈ L ∨ x + 1 ≤ n
  | 0, L, x, hx, _ => .inl hx
  | n + 1, L, x, hx, hn => by
    by_cases e : x + 1 ≤ n + 1
    · exact .inr e
    · unfold upass at hx
      rcases up_high h n _ x hx (by omega) with h1 | h1
      · split at h1
        · rcases List.mem_append.mp h1 with h2 | h2
          · exact .inl h2
          · have := ok_getD h n x h2
            omega
        · exact .inl h1
      · omega
theorem up_back {T : List FStep} (h : OkForm T) : ∀ n L, ∀ x, n ≤ x → x ∈ upass T n L → x ∈ L
  | 0, L, x, _, hx => hx
  | n + 1, L, x, hn, hx => by
    unfold upass at hx
    have h1 := up_back h n _ x (by omega) hx
    split at h1
    · rcases List.mem_append.mp h1 with h2 | h2
      · exact h2
      · have := ok_getD h n x h2
        omega
    · exact h1
/-- used steps' indexes are used -/
theorem up_closed {T : List FStep} (h : OkForm T) : ∀ n L, ∀ x, x < n → x ∈ upass T n L → ∀ i ∈ ix (T.getD x ("pi", [])), i ∈ upass T n L
  | 0, L, x, hn, _, _, _ => absurd hn (Nat.not_lt_zero _)
  | n + 1, L, x, hn, hx, i, hi => by
    unfold upass at hx ⊢
    by_cases e : x = n
    · subst e
      have h1 := up_back h x _ x (Nat.le_refl _) hx
      by_cases hm : x ∈ L
      · rw [if_pos hm]
        exact up_sub T x _ i (List.mem_append_right _ hi)
      · rw [if_neg hm] at h1
        exact absurd h1 hm
    · exact up_closed h n _ x (by omega) hx i hi
/-- each used step but the first ones has a used step above it -/
theorem up_parent {T : List FStep} (h : OkForm T) : ∀ n L, ∀ x ∈ upass T n L, x ∈ L ∨ ∃ y ∈ upass T n L, x ∈ ix (T.getD y ("pi", []))
  | 0, L, x, hx => .inl hx
  | n + 1, L, x, hx => by
    unfold upass at hx ⊢
    rcases up_parent h n _ x hx with h1 | h1
    · by_cases hm : n ∈ L
      · rw [if_pos hm] at h1 ⊢
        rcases List.mem_append.mp h1 with h2 | h2
        · exact .inl h2
        · exact .inr ⟨n, up_sub T n _ n (List.mem_append_left _ hm), h2⟩
      · rw [if_neg hm] at h1
        exact .inl h1
    · exact .inr h1
theorem up_le {T : List FStep} (h : OkForm T) {m : Nat} : ∀ n L, (∀ x ∈ L, x ≤ m) → ∀ x ∈ upass T n L, x ≤ m
  | 0, L, hL, x, hx => hL x hx
  | n + 1, L, hL, x, hx => by
    unfold upass at hx
    refine up_le h n _ (fun y hy => ?_) x hx
    split at hy
    · rename_i hm
      rcases List.mem_append.mp hy with h2 | h2
      · exact hL y h2
      · have h3 := ok_getD h n y h2
        have h4 := hL n hm
        omega
    · exact hL y hy
/-- places above all that is used change nothing -/
theorem up_skip {T : List FStep} {m : Nat} : ∀ n L, (∀ x ∈ L, x ≤ m) → m + 1 ≤ n → upass T n L = upass T (m + 1) L
  | 0, L, _, hn => absurd hn (by omega)
  | n + 1, L, hL, hn => by
    by_cases e : n = m
    · rw [e]
    · have hm : n ∉ L := fun z => by
        have := hL n z
        omega
      show upass T n (if n ∈ L then _ else L) = _
      rw [if_neg hm]
      exact up_skip n L hL (by omega)
/-! ### the whole -/
def used (T : List FStep) (last : Nat) : List Nat := upass T (last + 1) [last]
def order (T : List FStep) (last : Nat) : List Nat := (List.range (last + 1)).filter fun x => decide (x ∈ used T last)
def rank (T : List FStep) (last : Nat) (x : Nat) : Nat := ((List.range x).filter fun y => decide (y ∈ used T last)).length
def picked (T : List FStep) (last : Nat) : List FStep := (order T last).map fun x => ren (rank T last) (T.getD x ("pi", []))
def tidy (F : List FStep) : List FStep := picked (merge F).1 ((merge F).2.getLastD 0)
theorem used_last (T : List FStep) (last : Nat) : last ∈ used T last := up_sub T _ _ _ (by simp)
theorem mem_order {T : List FStep} {last x : Nat} (h : OkForm T) : x ∈ order T last ↔ x ∈ used T last := by
  unfold order
  rw [List.mem_filter, List.mem_range]
  refine ⟨fun z => of_decide_eq_true z.2, fun z => ⟨?_, decide_eq_true z⟩⟩
  have := up_le h (m := last) (last + 1) [last] (fun y hy => by simp at hy; omega) x z
  omega
theorem rank_succ (T : List FStep) (last x : Nat) : rank T last (x + 1) = rank T last x + (if x ∈ used T last then 1 else 0) := by
  unfold rank
  rw [List.range_succ, List.filter_append, List.length_append, List.filter_cons]
  by_cases h : x ∈ used T last
  · rw [if_pos h, if_pos (decide_eq_true h)]
    rfl
  · rw [if_neg h, if_neg (by simpa using h)]
    rfl
theorem rank_mono (T : List FStep) (last : Nat) : ∀ {x y : Nat}, x ≤ y → rank T last x ≤ rank T last y := by
  intro x y h
  induction h with
  | refl => exact Nat.le_refl _
  | step _ ih =>
    rw [rank_succ]
    omega
theorem rank_lt {T : List FStep} {last x y : Nat} (h : x < y) (hx : x ∈ used T last) : rank T last x < rank T last y := by
  have h1 := rank_mono T last (show x + 1 ≤ y from h)
  rw [rank_succ, if_pos hx] at h1
  omega
theorem rank_inj {T : List FStep} {last x y : Nat} (hx : x ∈ used T last) (hy : y ∈ used T last) (h : rank T last x = rank T last y) : x = y := by
  rcases Nat.lt_trichotomy x y with z | z | z
  · have := rank_lt z hx
    omega
  · exact z
  · have := rank_lt z hy
    omega
theorem order_len (T : List FStep) (last : Nat) : (order T last).length = rank T last (last + 1) := rfl
/-! ### places in a filtered range -/
theorem filt_at (p : Nat → Bool) : ∀ n y, y < n → p y = true → ((List.range n).filter p)[((List.range y).filter p).length]? = some y
  | 0, y, h, _ => absurd h (Nat.not_lt_zero _)
  | n + 1, y, h, hp => by
    rw [List.range_succ, List.filter_append]
    by_cases e : y < n
    · have h1 := filt_at p n y e hp
      rw [List.getElem?_append_left (List.getElem?_eq_some_iff.mp h1).1]
      exact h1
    · have e2 : y = n := by omega
      subst e2
      rw [List.getElem?_append_right (Nat.le_refl _), Nat.sub_self, List.filter_cons, if_pos hp]
      rfl
theorem filt_of (p : Nat → Bool) : ∀ n x, x < ((List.range n).filter p).length → ∃ y, y < n ∧ p y = true ∧ ((List.range y).filter p).length = x
  | 0, x, h => absurd h (by simp)
  | n + 1, x, h => by
    rw [List.range_succ, List.filter_append, List.length_append] at h
    by_cases e : x < ((List.range n).filter p).length
    · obtain ⟨y, h1, h2, h3⟩ := filt_of p n x e
      exact ⟨y, by omega, h2, h3⟩
    · by_cases hp : p n = true
      · rw [List.filter_cons, if_pos hp] at h
        exact ⟨n, by omega, hp, by simp at h; omega⟩
      · rw [List.filter_cons, if_neg hp] at h
        simp at h
        omega
theorem order_at {T : List FStep} {last y : Nat} (h : OkForm T) (hy : y ∈ used T last) : (order T last)[rank T last y]? = some y := by
  have h1 : y < last + 1 := by
    have := (mem_order h).mpr hy
    unfold order at this
    rw [List.mem_filter, List.mem_range] at this
    exact this.1
  exact filt_at _ (last + 1) y h1 (decide_eq_true hy)
theorem order_of {T : List FStep} {last x : Nat} (hx : x < (order T last).length) : ∃ y, y < last + 1 ∧ y ∈ used T last ∧ rank T last y = x := by
  obtain ⟨y, h1, h2, h3⟩ := filt_of _ (last + 1) x hx
  exact ⟨y, h1, of_decide_eq_true h2, h3⟩
theorem picked_len (T : List FStep) (last : Nat) : (picked T last).length = (order T last).length := List.length_map ..
theorem picked_at {T : List FStep} {last y : Nat} (h : OkForm T) (hy : y ∈ used T last) : (picked T last)[rank T last y]? = some (ren (rank T last) (T.getD y ("pi", []))) := by
  unfold picked
  rw [List.getElem?_map, order_at h hy]
  rfl
theorem used_ix {T : List FStep} {last y i : Nat} (h : OkForm T) (hy : y ∈ used T last) (hi : i ∈ ix (T.getD y ("pi", []))) : i ∈ used T last := by
  have h1 : y < last + 1 := by
    have := (mem_order h).mpr hy
    unfold order at this
    rw [List.mem_filter, List.mem_range] at this
    exact this.1
  exact up_closed h (last + 1) [last] y h1 hy i hi
theorem getD_ok {T : List FStep} (h : OkForm T) {y : Nat} (hy : y < T.length) : OkStep y (T.getD y ("pi", [])) := by
  rw [List.getD_eq_getElem?_getD, List.getElem?_eq_getElem hy]
  exact h y _ (List.getElem?_eq_getElem hy)
theorem picked_ok {T : List FStep} {last : Nat} (h : OkForm T) (hl : last < T.length) : OkForm (picked T last) := by
  intro k s hk
  have hlt := (List.getElem?_eq_some_iff.mp hk).1
  rw [picked_len] at hlt
  obtain ⟨y, h1, h2, h3⟩ := order_of hlt
  rw [← h3, picked_at h h2] at hk
  cases Option.some.inj hk
  refine ok_ren (getD_ok h (by omega)) fun i hi => ?_
  rw [← h3]
  exact rank_lt (ok_getD h y i hi) (used_ix h h2 hi)
theorem picked_ne (T : List FStep) (last : Nat) : 0 < (picked T last).length := by
  rw [picked_len, order_len, rank_succ, if_pos (used_last T last)]
  omega
theorem picked_le (T : List FStep) (last : Nat) : (picked T last).length ≤ last + 1 := by
  rw [picked_len]
  unfold order
  have := List.length_filter_le (fun x => decide (x ∈ used T last)) (List.range (last + 1))
  rw [List.length_range] at this
  exact this
theorem picked_nd {T : List FStep} {last : Nat} (h : OkForm T) (hn : T.Nodup) (hl : last < T.length) : (picked T last).Nodup := by
  unfold picked
  refine List.pairwise_map.mpr ?_
  have hp : (order T last).Pairwise (fun a b => a < b) := by
    unfold order
    exact List.Pairwise.filter _ List.pairwise_lt_range
  refine List.Pairwise.imp_of_mem ?_ hp
  intro a b ha hb hab he
  have hb1 : b < T.length := by
    unfold order at hb
    rw [List.mem_filter, List.mem_range] at hb
    omega
  have ua := (mem_order h).mp ha
  have ub := (mem_order h).mp hb
  have e := ren_inj (getD_ok h (by omega)) (getD_ok h hb1) (fun i hi j hj z => rank_inj (used_ix h ua hi) (used_ix h ub hj) z) he
  rw [List.getD_eq_getElem?_getD, List.getD_eq_getElem?_getD, List.getElem?_eq_getElem (show a < T.length by omega), List.getElem?_eq_getElem hb1] at e
  have := (List.getElem_inj hn).mp (show T[a] = T[b] from e)
  omega
/-! ### a formula without equal steps, all used -/
theorem merge_nd {F : List FStep} (h : OkForm F) (hn : F.Nodup) : merge F = (F, List.range F.length) := by
  have key : ∀ i, i ≤ F.length → (F.take i).foldl mstep ([], []) = (F.take i, List.range i) := by
    intro i
    induction i with
    | zero => exact fun _ => rfl
    | succ i ih =>
      intro hi
      have hlt : i < F.length := hi
      rw [List.take_add_one, List.getElem?_eq_getElem hlt]
      show (F.take i ++ [F[i]]).foldl mstep ([], []) = (F.take i ++ [F[i]], _)
      rw [List.foldl_append, ih (Nat.le_of_lt hlt)]
      have hs := h i _ (List.getElem?_eq_getElem hlt)
      have e : ren (fun j => (List.range i).getD j 0) F[i] = F[i] := ren_id hs fun j hj => by
        have := ok_ix hs j hj
        rw [List.getD_eq_getElem?_getD, List.getElem?_range this]
        rfl
      have hm : F[i] ∉ F.take i := by
        intro z
        obtain ⟨j, hj, hz⟩ := List.getElem_of_mem z
        rw [List.getElem_take] at hz
        have := (List.getElem_inj hn).mp hz
        rw [List.length_take] at hj
        omega
      show mstep (F.take i, List.range i) F[i] = _
      unfold mstep
      rw [e, if_neg hm, List.range_succ, List.length_take, Nat.min_eq_left (Nat.le_of_lt hlt)]
  have := key F.length (Nat.le_refl _)
  rw [List.take_length] at this
  exact this
theorem picked_all {G : List FStep} {m : Nat} (h : OkForm G) (hm : G.length = m + 1) (ha : ∀ x, x < G.length → x ∈ used G m) : picked G m = G := by
  have hr : ∀ x, x ≤ m + 1 → rank G m x = x := by
    intro x hx
    unfold rank
    rw [List.filter_eq_self.mpr (fun y hy => decide_eq_true (ha y (by rw [List.mem_range] at hy; omega))), List.length_range]
  have ho : order G m = List.range (m + 1) := List.filter_eq_self.mpr fun y hy => decide_eq_true (ha y (by rw [List.mem_range] at hy; omega))
  unfold picked
  rw [ho]
  refine List.ext_getElem (by rw [List.length_map, List.length_range, hm]) fun k h1 h2 => ?_
  rw [List.getElem_map, List.getElem_range, List.getD_eq_getElem?_getD, List.getElem?_eq_getElem h2]
  have hs := h k _ (List.getElem?_eq_getElem h2)
  exact ren_id hs fun i hi => hr i (by have := ok_ix hs i hi; omega)
theorem picked_used {T : List FStep} {last : Nat} (h : OkForm T) (hl : last < T.length) : ∀ x, x < (picked T last).length → x ∈ used (picked T last) ((picked T last).length - 1) := by
  have hG := picked_ok h hl
  have hlen : (picked T last).length - 1 = rank T last last := by
    rw [picked_len, order_len, rank_succ, if_pos (used_last T last)]
    rfl
  have hp := picked_ne T last
  have key : ∀ d y, d + y = last → y ∈ used T last → rank T last y ∈ used (picked T last) ((picked T last).length - 1) := by
    intro d
    induction d using Nat.strongRecOn with
    | _ d ih =>
      intro y hd hy
      rcases up_parent h (last + 1) [last] y hy with h1 | ⟨z, hz, h1⟩
      · rw [List.mem_singleton] at h1
        rw [h1, ← hlen]
        exact used_last _ _
      · have hz1 : z < last + 1 := by
          have := (mem_order h).mpr (show z ∈ used T last from hz)
          unfold order at this
          rw [List.mem_filter, List.mem_range] at this
          exact this.1
        have hlt := ok_getD h z y h1
        have h2 := ih (last - z) (by omega) z (by omega) hz
        refine used_ix hG h2 ?_
        rw [List.getD_eq_getElem?_getD, picked_at h hz]
        show _ ∈ ix (ren _ _)
        rw [ix_ren]
        exact List.mem_map_of_mem h1
  intro x hx
  rw [picked_len] at hx
  obtain ⟨y, h1, h2, h3⟩ := order_of hx
  rw [← h3]
  exact key (last - y) y (by omega) h2
theorem range_last (n : Nat) : (List.range (n + 1)).getLastD 0 = n := by
  rw [List.range_succ, List.getLastD_concat]
theorem last_lt {F : List FStep} (h : OkForm F) (hne : F ≠ []) : (merge F).2.getLastD 0 < (merge F).1.length := by
  have g := mg_merge h
  have h1 : (merge F).2 ≠ [] := fun z => hne (List.length_eq_zero_iff.mp (by rw [← g.len, z]; rfl))
  rw [List.getLastD_eq_getLast?, List.getLast?_eq_some_getLast h1]
  exact g.lt _ (List.getLast_mem h1)
theorem tidy_ok {F : List FStep} (h : OkForm F) (hne : F ≠ []) : OkForm (tidy F) := picked_ok (mg_merge h).ok (last_lt h hne)
theorem tidy_ne (F : List FStep) : 0 < (tidy F).length := picked_ne _ _
theorem tidy_le {F : List FStep} (h : OkForm F) (hne : F ≠ []) : (tidy F).length ≤ F.length := by
  have h1 := picked_le (merge F).1 ((merge F).2.getLastD 0)
  have h2 := last_lt h hne
  have h3 := (mg_merge h).le
  unfold tidy
  omega
theorem tidy_tidy {F : List FStep} (h : OkForm F) (hne : F ≠ []) : tidy (tidy F) = tidy F := by
  have hG := tidy_ok h hne
  have g := mg_merge h
  have hl := last_lt h hne
  have hnd : (tidy F).Nodup := picked_nd g.ok g.nd hl
  have hp := tidy_ne F
  obtain ⟨m, hm⟩ : ∃ m, (tidy F).length = m + 1 := ⟨(tidy F).length - 1, by omega⟩
  show picked (merge (tidy F)).1 ((merge (tidy F)).2.getLastD 0) = _
  rw [merge_nd hG hnd]
  show picked (tidy F) ((List.range (tidy F).length).getLastD 0) = _
  rw [hm, range_last]
  refine picked_all hG hm fun x hx => ?_
  have := picked_used g.ok hl x hx
  show x ∈ used (tidy F) m
  have e : (picked (merge F).1 ((merge F).2.getLastD 0)).length - 1 = m := by
    show (tidy F).length - 1 = m
    omega
  rw [e] at this
  exact this
end Td

/-! Own: what the steps of a formula are worth, whatever is reckoned; each step once changes nothing. -/
namespace Mg
open PySem Fm Td
section
variable {C : Type} [Inhabited C]
def at' (l : List C) (j : Nat) : C := l.getD j default
def evs (ev : (Nat → C) → FStep → C) (ss : List FStep) : List C := ss.foldl (fun acc s => acc ++ [ev (at' acc) s]) []
variable {ev : (Nat → C) → FStep → C}
theorem evs_snoc (ss : List FStep) (s : FStep) : evs ev (ss ++ [s]) = evs ev ss ++ [ev (at' (evs ev ss)) s] := by
  unfold evs
  rw [List.foldl_append]
  rfl
theorem evs_take (ss : List FStep) {i : Nat} (hi : i < ss.length) : evs ev (ss.take (i + 1)) = evs ev (ss.take i) ++ [ev (at' (evs ev (ss.take i))) ss[i]] := by
  have e : ss.take (i + 1) = ss.take i ++ [ss[i]] := by rw [List.take_succ, List.getElem?_eq_getElem hi]; rfl
  rw [e, evs_snoc]
theorem evs_len : ∀ (n : Nat) (ss : List FStep), ss.length = n → (evs ev ss).length = n
  | 0, ss, h => by
    rw [List.length_eq_zero_iff.mp h]
    rfl
  | n + 1, ss, h => by
    have hn : n < ss.length := by omega
    have e : ss = ss.take n ++ [ss[n]] := by
      have := List.take_succ (l := ss) (i := n)
      rw [List.getElem?_eq_getElem hn] at this
      rw [List.take_of_length_le (by omega)] at this
      exact this
    rw [e, evs_snoc, List.length_append, evs_len n (ss.take n) (by rw [List.length_take]; omega)]
    rfl
theorem evs_length (ss : List FStep) : (evs ev ss).length = ss.length := evs_len _ ss rfl
theorem at_app_l {l m : List C} {j : Nat} (h : j < l.length) : at' (l ++ m) j = at' l j := by
  unfold at'
  rw [List.getD_eq_getElem?_getD, List.getD_eq_getElem?_getD, List.getElem?_append_left h]
theorem at_app_r {l : List C} {x : C} : at' (l ++ [x]) l.length = x := by
  unfold at'
  rw [List.getD_eq_getElem?_getD, List.getElem?_append_right (Nat.le_refl _)]
  simp
/-- the first values do not depend on what comes later -/
theorem evs_pre (ss ts : List FStep) {j : Nat} (hj : j < ss.length) : at' (evs ev (ss ++ ts)) j = at' (evs ev ss) j := by
  have key : ∀ (n : Nat) (ts : List FStep), ts.length = n → at' (evs ev (ss ++ ts)) j = at' (evs ev ss) j := by
    intro n
    induction n with
    | zero =>
      intro ts h
      rw [List.length_eq_zero_iff.mp h, List.append_nil]
    | succ n ih =>
      intro ts h
      have hn : n < ts.length := by omega
      have e : ts = ts.take n ++ [ts[n]] := by
        have := List.take_succ (l := ts) (i := n)
        rw [List.getElem?_eq_getElem hn, List.take_of_length_le (by omega)] at this
        exact this
      rw [e, ← List.append_assoc, evs_snoc, at_app_l (by rw [evs_length, List.length_append]; omega), ih (ts.take n) (by rw [List.length_take]; omega)]
  exact key _ ts rfl
theorem evs_at (ss : List FStep) {i : Nat} (hi : i < ss.length) : at' (evs ev ss) i = ev (at' (evs ev (ss.take i))) ss[i] := by
  have e : ss = ss.take (i + 1) ++ ss.drop (i + 1) := (List.take_append_drop _ _).symm
  conv => lhs; rw [e]
  rw [evs_pre _ _ (by rw [List.length_take]; omega), evs_take ss hi]
  have hl : (evs ev (ss.take i)).length = i := by rw [evs_length, List.length_take]; omega
  have z := at_app_r (l := evs ev (ss.take i)) (x := ev (at' (evs ev (ss.take i))) ss[i])
  rw [hl] at z
  exact z
theorem evs_take_at (ss : List FStep) {i j : Nat} (hj : j < i) (hi : i ≤ ss.length) : at' (evs ev (ss.take i)) j = at' (evs ev ss) j := by
  have e : ss = ss.take i ++ ss.drop i := (List.take_append_drop _ _).symm
  conv => rhs; rw [e]
  rw [evs_pre _ _ (by rw [List.length_take]; omega)]
/-- what is reckoned depends on the values of the arguments alone -/
structure Nat' (ev : (Nat → C) → FStep → C) : Prop where
  loc : ∀ (ρ ρ' : Nat → C) (s : FStep), (∀ i ∈ ix s, ρ i = ρ' i) → ev ρ s = ev ρ' s
  ren : ∀ (ρ : Nat → C) (f : Nat → Nat) (s : FStep), ev ρ (Td.ren f s) = ev (fun i => ρ (f i)) s
/-- behind some steps: the places tell where the values stand -/
structure Inv (ev : (Nat → C) → FStep → C) (ff : List FStep) (A : List FStep) (B : List Nat) (i : Nat) : Prop where
  len : B.length = i
  lt : ∀ j, j < i → B.getD j 0 < A.length
  val : ∀ j, j < i → at' (evs ev A) (B.getD j 0) = at' (evs ev ff) j
  src : ∀ k, (hk : k < A.length) → ∃ j, ∃ hj : j < ff.length, j < i ∧ A[k] = Td.ren (fun m => B.getD m 0) ff[j] ∧ B.getD j 0 = k
  ixs : ∀ k, (hk : k < A.length) → ∀ m ∈ ix A[k], m < k
theorem Inv.zero (ff : List FStep) : Inv ev ff [] [] 0 := ⟨rfl, fun j h => by omega, fun j h => by omega, fun k h => by simp at h, fun k h => by simp at h⟩
theorem getD_snoc_l {B : List Nat} {m j : Nat} (h : j < B.length) : (B ++ [m]).getD j 0 = B.getD j 0 := by
  rw [List.getD_eq_getElem?_getD, List.getD_eq_getElem?_getD, List.getElem?_append_left h]
theorem getD_snoc_r {B : List Nat} {m : Nat} : (B ++ [m]).getD B.length 0 = m := by
  rw [List.getD_eq_getElem?_getD, List.getElem?_append_right (Nat.le_refl _)]
  simp
theorem ok_at {ff : List FStep} (ok : OkForm ff) {j : Nat} (hj : j < ff.length) : OkStep j ff[j] := ok j _ (List.getElem?_eq_getElem hj)
theorem Inv.step (N : Nat' ev) {ff A : List FStep} {B : List Nat} {i : Nat} (ok : OkForm ff) (I : Inv ev ff A B i) (hi : i < ff.length) : Inv ev ff (mstep (A, B) ff[i]).1 (mstep (A, B) ff[i]).2 (i + 1) := by
  have e0 : mstep (A, B) ff[i] = if Td.ren (fun i => B.getD i 0) ff[i] ∈ A then (A, B ++ [A.idxOf (Td.ren (fun i => B.getD i 0) ff[i])]) else (A ++ [Td.ren (fun i => B.getD i 0) ff[i]], B ++ [A.length]) := rfl
  have hix := ok_ix (ok_at ok hi)
  -- what the new step is worth
  have worth : ev (at' (evs ev A)) (Td.ren (fun i => B.getD i 0) ff[i]) = at' (evs ev ff) i := by
    rw [N.ren, evs_at ff hi]
    refine N.loc _ _ _ fun m hm => ?_
    rw [I.val m (hix m hm), evs_take_at ff (hix m hm) (Nat.le_of_lt hi)]
  have renL : ∀ {m j : Nat} (hj : j < ff.length), j ≤ i → Td.ren (fun j => (B ++ [m]).getD j 0) ff[j] = Td.ren (fun j => B.getD j 0) ff[j] := fun {m j} hj hle => ren_congr fun x hx => getD_snoc_l (by rw [I.len]; exact Nat.lt_of_lt_of_le (ok_ix (ok_at ok hj) x hx) hle)
  have renIx : ∀ m ∈ ix (Td.ren (fun i => B.getD i 0) ff[i]), m < A.length := fun m hm => by
    rw [ix_ren] at hm
    obtain ⟨x, hx, rfl⟩ := List.mem_map.mp hm
    exact I.lt x (hix x hx)
  rw [e0]
  by_cases hm : Td.ren (fun i => B.getD i 0) ff[i] ∈ A
  · rw [if_pos hm]
    have hk : A.idxOf (Td.ren (fun i => B.getD i 0) ff[i]) < A.length := List.idxOf_lt_length_of_mem hm
    have hget : A[A.idxOf (Td.ren (fun i => B.getD i 0) ff[i])] = Td.ren (fun i => B.getD i 0) ff[i] := List.getElem_idxOf hk
    generalize A.idxOf (Td.ren (fun i => B.getD i 0) ff[i]) = k at hk hget
    refine ⟨by rw [List.length_append, I.len]; rfl, fun j hj => ?_, fun j hj => ?_, fun k' hk' => ?_, I.ixs⟩
    · by_cases z : j < i
      · rw [getD_snoc_l (by rw [I.len]; exact z)]
        exact I.lt j z
      · have : j = B.length := by rw [I.len]; omega
        rw [this, getD_snoc_r]
        exact hk
    · by_cases z : j < i
      · rw [getD_snoc_l (by rw [I.len]; exact z)]
        exact I.val j z
      · have : j = B.length := by rw [I.len]; omega
        rw [this, getD_snoc_r, I.len, ← worth, evs_at A hk, hget]
        refine N.loc _ _ _ fun m hm' => evs_take_at A ?_ (Nat.le_of_lt hk)
        rw [← hget] at hm'
        exact I.ixs k hk m hm'
    · obtain ⟨j, hj, h1, h2, h3⟩ := I.src k' hk'
      exact ⟨j, hj, by omega, by rw [renL hj (Nat.le_of_lt h1)]; exact h2, by rw [getD_snoc_l (by rw [I.len]; exact h1)]; exact h3⟩
  · rw [if_neg hm]
    generalize hf : Td.ren (fun i => B.getD i 0) ff[i] = fit at worth renIx
    have evA : evs ev (A ++ [fit]) = evs ev A ++ [ev (at' (evs ev A)) fit] := evs_snoc A fit
    refine ⟨by rw [List.length_append, I.len]; rfl, fun j hj => ?_, fun j hj => ?_, fun k' hk' => ?_, fun k' hk' => ?_⟩
    · rw [List.length_append]
      by_cases z : j < i
      · rw [getD_snoc_l (by rw [I.len]; exact z)]
        exact Nat.lt_succ_of_lt (I.lt j z)
      · have : j = B.length := by rw [I.len]; omega
        rw [this, getD_snoc_r]
        exact Nat.lt_succ_self _
    · by_cases z : j < i
      · rw [getD_snoc_l (by rw [I.len]; exact z), evs_pre _ _ (I.lt j z)]
        exact I.val j z
      · have : j = B.length := by rw [I.len]; omega
        rw [this, getD_snoc_r, I.len, ← worth, evA]
        have hl : (evs ev A).length = A.length := evs_length A
        rw [← hl]
        exact at_app_r
    · by_cases z : k' < A.length
      · obtain ⟨j, hj, h1, h2, h3⟩ := I.src k' z
        refine ⟨j, hj, by omega, ?_, by rw [getD_snoc_l (by rw [I.len]; exact h1)]; exact h3⟩
        rw [renL hj (Nat.le_of_lt h1), List.getElem_append_left z]
        exact h2
      · have hk2 : k' = A.length := by
          rw [List.length_append] at hk'
          simp at hk'
          omega
        subst hk2
        refine ⟨i, hi, by omega, ?_, ?_⟩
        · rw [renL hi (Nat.le_refl _), hf, List.getElem_append_right (Nat.le_refl _)]
          simp
        · conv => lhs; rw [← I.len]
          exact getD_snoc_r
    · by_cases z : k' < A.length
      · intro m hm'
        rw [List.getElem_append_left z] at hm'
        exact I.ixs k' z m hm'
      · have hk2 : k' = A.length := by
          rw [List.length_append] at hk'
          simp at hk'
          omega
        subst hk2
        intro m hm'
        rw [List.getElem_append_right (Nat.le_refl _)] at hm'
        simp only [Nat.sub_self, List.getElem_cons_zero] at hm'
        exact renIx m hm'
theorem Inv.fold (N : Nat' ev) {ff : List FStep} (ok : OkForm ff) : ∀ i, i ≤ ff.length → Inv ev ff ((ff.take i).foldl mstep ([], [])).1 ((ff.take i).foldl mstep ([], [])).2 i
  | 0, _ => Inv.zero ff
  | i + 1, h => by
    have e : ff.take (i + 1) = ff.take i ++ [ff[i]] := by rw [List.take_succ, List.getElem?_eq_getElem (by omega)]; rfl
    have I := Inv.fold N ok i (by omega)
    rw [e, List.foldl_append]
    generalize (ff.take i).foldl mstep ([], []) = acc at I
    obtain ⟨A, B⟩ := acc
    exact I.step N ok (by omega)
theorem merge_inv (N : Nat' ev) {ff : List FStep} (ok : OkForm ff) : Inv ev ff (merge ff).1 (merge ff).2 ff.length := by
  have I := Inv.fold (ev := ev) N ok ff.length (Nat.le_refl _)
  rw [List.take_length] at I
  exact I
/-- what holds of all steps of a formula, holds of the kept ones -/
theorem merge_cond (N : Nat' ev) {ff : List FStep} (ok : OkForm ff) {Cd : (Nat → C) → FStep → Prop} (loc : ∀ (ρ ρ' : Nat → C) (s : FStep), (∀ i ∈ ix s, ρ i = ρ' i) → Cd ρ s → Cd ρ' s) (ren : ∀ (ρ : Nat → C) (f : Nat → Nat) (s : FStep), Cd (fun i => ρ (f i)) s → Cd ρ (Td.ren f s))
    (h : ∀ j, (hj : j < ff.length) → Cd (at' (evs ev ff)) ff[j]) : ∀ k, (hk : k < (merge ff).1.length) → Cd (at' (evs ev (merge ff).1)) (merge ff).1[k] := fun k hk => by
  have I := merge_inv N ok
  obtain ⟨j, hj, _, h2, _⟩ := I.src k hk
  rw [h2]
  refine ren _ _ _ (loc _ _ _ (fun i hi => ?_) (h j hj))
  exact (I.val i (Nat.lt_trans (ok_ix (ok_at ok hj) i hi) hj)).symm
theorem at_app_r2 {l m : List C} {j : Nat} : at' (l ++ m) (l.length + j) = at' m j := by
  unfold at'
  rw [List.getD_eq_getElem?_getD, List.getD_eq_getElem?_getD, List.getElem?_append_right (by omega)]
  congr 2
  omega
theorem shift_ren {m k : Nat} {s : FStep} (h : OkStep k s) : Td.ren (fun i => m + i) s = shiftS m s := by
  unfold Td.ren shiftS
  by_cases hn : s.1 = "number"
  · rw [if_pos hn, if_pos hn]
  · rw [if_neg hn, if_neg hn]
    refine congrArg _ (List.map_congr_left fun i hi => ?_)
    have := ok_pos h hn i hi
    show ((m + i.toNat : Nat) : Int) = (m : Int) + i
    omega
/-- two formulas behind each other -/
theorem evs_app (N : Nat' ev) (f : List FStep) : ∀ (n : Nat) (g : List FStep), g.length = n → OkForm g → evs ev (f ++ g.map (shiftS f.length)) = evs ev f ++ evs ev g
  | 0, g, h, _ => by
    rw [List.length_eq_zero_iff.mp h]
    simp [evs]
  | n + 1, g, h, ok => by
    have hn : n < g.length := by omega
    have e : g = g.take n ++ [g[n]] := by
      have := List.take_succ (l := g) (i := n)
      rw [List.getElem?_eq_getElem hn, List.take_of_length_le (by omega)] at this
      exact this
    have okn : OkStep n g[n] := ok n _ (List.getElem?_eq_getElem hn)
    have ok' : OkForm (g.take n) := fun k s hk => ok k s (by
      have hk2 : k < (g.take n).length := (List.getElem?_eq_some_iff.mp hk).1
      rw [List.length_take] at hk2
      rw [List.getElem?_take_of_lt (by omega)] at hk
      exact hk)
    have ih := evs_app N f n (g.take n) (by rw [List.length_take]; omega) ok'
    generalize hs : g[n] = s at e okn
    rw [e, List.map_append, ← List.append_assoc]
    show evs ev (f ++ (g.take n).map (shiftS f.length) ++ [shiftS f.length s]) = _
    rw [evs_snoc, ih, evs_snoc, ← List.append_assoc, ← shift_ren okn, N.ren]
    congr 2
    refine congrArg (fun r => ev r s) (funext fun i => ?_)
    have hl : (evs ev f).length = f.length := evs_length f
    rw [← hl]
    exact at_app_r2
end
end Mg

/-! Own: sums of arctan(1 / n) with floors (k41), no program in it. -/
namespace Lp
/-- the term k with w bits, its sign left out -/
def tm (n w k : Nat) : Nat := 2 ^ w / (n ^ (2 * k + 1) * (2 * k + 1))
def sg (k : Nat) : Int := if k % 2 = 0 then 1 else -1
/-- the sum of the first terms -/
def tsum (n w : Nat) : Nat → Int
  | 0 => 0
  | k + 1 => tsum n w k + sg k * (tm n w k : Int)
theorem tm_le (n w s k : Nat) : 2 ^ s * tm n w k ≤ tm n (w + s) k := by
  unfold tm
  generalize n ^ (2 * k + 1) * (2 * k + 1) = D
  rw [Nat.pow_add, Nat.mul_comm (2 ^ w)]
  exact Nat.mul_div_le_mul_div_assoc (2 ^ s) (2 ^ w) D
theorem tm_lt {n : Nat} (hn : 0 < n) (w s k : Nat) : tm n (w + s) k < 2 ^ s * tm n w k + 2 ^ s := by
  unfold tm
  have hD : 0 < n ^ (2 * k + 1) * (2 * k + 1) := Nat.mul_pos (Nat.pow_pos hn) (by omega)
  generalize n ^ (2 * k + 1) * (2 * k + 1) = D at hD
  rw [Nat.div_lt_iff_lt_mul hD, Nat.pow_add]
  have h1 := Nat.lt_mul_div_succ (2 ^ w) hD
  have h2 : 2 ^ w * 2 ^ s < D * (2 ^ w / D + 1) * 2 ^ s := Nat.mul_lt_mul_of_pos_right h1 (Nat.pow_pos (by decide))
  calc 2 ^ w * 2 ^ s < D * (2 ^ w / D + 1) * 2 ^ s := h2
    _ = (2 ^ s * (2 ^ w / D) + 2 ^ s) * D := by
      rw [Nat.mul_comm D, Nat.mul_right_comm, Nat.add_mul, Nat.one_mul, Nat.mul_comm (2 ^ w / D)]
/-- more bits: the sums agree but for one unit a term -/
theorem tsum_near {n : Nat} (hn : 0 < n) (w s : Nat) : ∀ k, (tsum n (w + s) k - 2 ^ s * tsum n w k).natAbs ≤ k * 2 ^ s
  | 0 => by simp [tsum]
  | k + 1 => by
    have ih := tsum_near hn w s k
    have h1 := tm_le n w s k
    have h2 := tm_lt hn w s k
    unfold tsum
    generalize tsum n (w + s) k = a at ih
    generalize tsum n w k = b at ih
    generalize tm n (w + s) k = x at h1 h2
    generalize tm n w k = y at h1 h2
    have h3 : ((2 ^ s * y : Nat) : Int) = 2 ^ s * (y : Int) := by push_cast; rfl
    have h4 : ((2 ^ s : Nat) : Int) = 2 ^ s := by push_cast; rfl
    rw [Nat.add_mul, Nat.one_mul]
    unfold sg
    have h5 : (2 : Int) ^ s * (b + 1 * (y : Int)) = 2 ^ s * b + 2 ^ s * (y : Int) := by rw [Int.one_mul, Int.mul_add]
    have h6 : (2 : Int) ^ s * (b + -1 * (y : Int)) = 2 ^ s * b - 2 ^ s * (y : Int) := by rw [Int.mul_add, Int.neg_mul, Int.one_mul, Int.mul_neg]; omega
    generalize hz : 2 ^ s * y = z at h1 h2 h3
    generalize hp : (2 : Nat) ^ s = p at h2 h4 ih ⊢
    generalize k * p = kp at ih ⊢
    split
    · rw [h5, ← h3]
      generalize (2 : Int) ^ s * b = c at ih ⊢
      omega
    · rw [h6, ← h3]
      generalize (2 : Int) ^ s * b = c at ih ⊢
      omega
/-- terms that are 0 -/
theorem tm_zero {n w k : Nat} (hk : 2 ^ w < n ^ (2 * k + 1)) : tm n w k = 0 := by
  unfold tm
  have h : n ^ (2 * k + 1) * 1 ≤ n ^ (2 * k + 1) * (2 * k + 1) := Nat.mul_le_mul_left _ (by omega)
  exact Nat.div_eq_of_lt (by omega)
theorem tsum_stays {n w k0 : Nat} (hn : 0 < n) (h : 2 ^ w < n ^ (2 * k0 + 1)) : ∀ j, tsum n w (k0 + j) = tsum n w k0
  | 0 => rfl
  | j + 1 => by
    show tsum n w (k0 + j) + sg (k0 + j) * (tm n w (k0 + j) : Int) = _
    have h2 : n ^ (2 * k0 + 1) ≤ n ^ (2 * (k0 + j) + 1) := Nat.pow_le_pow_right hn (by omega)
    rw [tm_zero (by omega), tsum_stays hn h j]
    simp
/-- what both programs reckon: power / divisor with floors, step by step -/
theorem pow_step (n w k : Nat) : 2 ^ w / n ^ (2 * k + 1) / (n * n) = 2 ^ w / n ^ (2 * (k + 1) + 1) := by
  rw [Nat.div_div_eq_div_mul]
  congr 1
  rw [show 2 * (k + 1) + 1 = (2 * k + 1) + 2 by omega, Nat.pow_add n (2 * k + 1) 2, Nat.pow_two]
theorem tm_of (n w k : Nat) : 2 ^ w / n ^ (2 * k + 1) / (2 * k + 1) = tm n w k := by
  unfold tm
  rw [Nat.div_div_eq_div_mul]
end Lp

/-! Own: enclosures of fractions N / D by whole numbers: products and quotients, how wide. No program in it. -/
namespace Np
theorem lin_lo {a t c z m : Int} (h1 : a ≤ t) (h2 : t ≤ c) (k1 : m ≤ a * z) (k2 : m ≤ c * z) : m ≤ t * z := by
  rcases Int.le_total 0 z with h | h
  · exact Int.le_trans k1 (Int.mul_le_mul_of_nonneg_right h1 h)
  · have e := Int.mul_le_mul_of_nonpos_right h2 h
    omega
theorem lin_hi {a t c z m : Int} (h1 : a ≤ t) (h2 : t ≤ c) (k1 : a * z ≤ m) (k2 : c * z ≤ m) : t * z ≤ m := by
  rcases Int.le_total 0 z with h | h
  · exact Int.le_trans (Int.mul_le_mul_of_nonneg_right h2 h) k2
  · have e := Int.mul_le_mul_of_nonpos_right h1 h
    omega
theorem mul_abs {a c A C : Int} (h1 : -A ≤ a) (h2 : a ≤ A) (h3 : -C ≤ c) (h4 : c ≤ C) : a * c ≤ A * C ∧ -(A * C) ≤ a * c := by
  have hA : 0 ≤ A := by omega
  have hC : 0 ≤ C := by omega
  have e1 : a.natAbs * c.natAbs ≤ A.natAbs * C.natAbs := Nat.mul_le_mul (by omega) (by omega)
  have e2 : ((a * c).natAbs : Int) ≤ A * C := by
    rw [Int.natAbs_mul]
    have e3 : ((A.natAbs * C.natAbs : Nat) : Int) = A * C := by
      rw [Int.natCast_mul, Int.natAbs_of_nonneg hA, Int.natAbs_of_nonneg hC]
    omega
  omega
/-- an enclosure with b bits of N / D, at most w wide, at most m great -/
structure G (B lo hi N D w m : Int) : Prop where
  d : 0 < D
  cl : lo * D ≤ N * B
  ch : N * B ≤ hi * D
  wd : hi - lo ≤ w
  a1 : -(m * B) ≤ lo
  a2 : hi ≤ m * B
section
variable {B x1 x2 y1 y2 Nx Dx Ny Dy wx wy mx my : Int}
theorem G.le (h : G B x1 x2 Nx Dx wx mx) : x1 ≤ x2 := by
  have e := Int.le_trans h.cl h.ch
  exact Int.le_of_mul_le_mul_right e h.d
theorem G.wpos (h : G B x1 x2 Nx Dx wx mx) : 0 ≤ wx := by
  have := h.le
  have := h.wd
  omega
theorem fl_le (a : Int) {c : Int} (hc : 0 < c) : a / c * c ≤ a := Int.ediv_mul_le a (by omega)
theorem fl_lt (a : Int) {c : Int} (hc : 0 < c) : a < (a / c + 1) * c := by
  have := Int.lt_ediv_add_one_mul_self a hc
  exact this
theorem ce_ge (a : Int) {c : Int} (hc : 0 < c) : a ≤ -(-a / c) * c := by
  have := fl_le (-a) hc
  rw [Int.neg_mul]
  omega
theorem ce_lt (a : Int) {c : Int} (hc : 0 < c) : (-(-a / c) - 1) * c < a := by
  have := fl_lt (-a) hc
  have e : (-(-a / c) - 1) * c = -((-a / c + 1) * c) := by
    rw [← Int.neg_mul]
    congr 1
    omega
  rw [e]
  omega
/-- a product -/
theorem G.mul (hB : 0 < B) (hx : G B x1 x2 Nx Dx wx mx) (hy : G B y1 y2 Ny Dy wy my) :
    G B (min (min (x1 * y1) (x1 * y2)) (min (x2 * y1) (x2 * y2)) / B) (-(-(max (max (x1 * y1) (x1 * y2)) (max (x2 * y1) (x2 * y2))) / B)) (Nx * Ny) (Dx * Dy) (mx * wy + my * wx + 2) (mx * my + 1) := by
  have lx := hx.le
  have ly := hy.le
  obtain ⟨dx, xl, xh, xw, xa, xb⟩ := hx
  obtain ⟨dy, yl, yh, yw, ya, yb⟩ := hy
  have hDD : 0 < Dx * Dy := Int.mul_pos dx dy
  generalize hmn : min (min (x1 * y1) (x1 * y2)) (min (x2 * y1) (x2 * y2)) = mn
  generalize hmx : max (max (x1 * y1) (x1 * y2)) (max (x2 * y1) (x2 * y2)) = mxx
  have f1 := fl_le mn hB
  have f2 := fl_lt mn hB
  have c1 := ce_ge mxx hB
  have c2 := ce_lt mxx hB
  generalize mn / B = lo at f1 f2
  generalize -(-mxx / B) = hi at c1 c2
  -- the ends
  have n11 : mn ≤ x1 * y1 := by omega
  have n12 : mn ≤ x1 * y2 := by omega
  have n21 : mn ≤ x2 * y1 := by omega
  have n22 : mn ≤ x2 * y2 := by omega
  have m11 : x1 * y1 ≤ mxx := by omega
  have m12 : x1 * y2 ≤ mxx := by omega
  have m21 : x2 * y1 ≤ mxx := by omega
  have m22 : x2 * y2 ≤ mxx := by omega
  have sc : ∀ {u v : Int}, u ≤ v → u * Dx ≤ v * Dx := fun h => Int.mul_le_mul_of_nonneg_right h (Int.le_of_lt dx)
  have sd : ∀ {u v : Int}, u ≤ v → u * Dy ≤ v * Dy := fun h => Int.mul_le_mul_of_nonneg_right h (Int.le_of_lt dy)
  -- X = Nx B, Y = Ny B
  have loX : ∀ y : Int, lo * B ≤ x1 * y → lo * B ≤ x2 * y → lo * B * Dx ≤ Nx * B * y := fun y h1 h2 => lin_lo xl xh (by
    have := sc h1
    rwa [Int.mul_right_comm x1 y Dx] at this) (by
    have := sc h2
    rwa [Int.mul_right_comm x2 y Dx] at this)
  have hiX : ∀ y : Int, x1 * y ≤ hi * B → x2 * y ≤ hi * B → Nx * B * y ≤ hi * B * Dx := fun y h1 h2 => lin_hi xl xh (by
    have := sc h1
    rwa [Int.mul_right_comm x1 y Dx] at this) (by
    have := sc h2
    rwa [Int.mul_right_comm x2 y Dx] at this)
  have l1 := loX y1 (by omega) (by omega)
  have l2 := loX y2 (by omega) (by omega)
  have h1 := hiX y1 (by omega) (by omega)
  have h2 := hiX y2 (by omega) (by omega)
  have LO : lo * B * Dx * Dy ≤ Ny * B * (Nx * B) := lin_lo yl yh (by
    have := sd l1
    rw [Int.mul_right_comm y1 Dy, Int.mul_comm y1]
    exact this) (by
    have := sd l2
    rw [Int.mul_right_comm y2 Dy, Int.mul_comm y2]
    exact this)
  have HI : Ny * B * (Nx * B) ≤ hi * B * Dx * Dy := lin_hi yl yh (by
    have := sd h1
    rw [Int.mul_right_comm y1 Dy, Int.mul_comm y1]
    exact this) (by
    have := sd h2
    rw [Int.mul_right_comm y2 Dy, Int.mul_comm y2]
    exact this)
  have cancel : ∀ t : Int, t * B * Dx * Dy = t * (Dx * Dy) * B := fun t => by
    rw [Int.mul_right_comm t B Dx, Int.mul_right_comm (t * Dx) B Dy, Int.mul_assoc t Dx Dy]
  have prod : Ny * B * (Nx * B) = Nx * Ny * B * B := by
    rw [Int.mul_comm (Ny * B), Int.mul_assoc Nx B, Int.mul_left_comm B Ny B, ← Int.mul_assoc Nx Ny, ← Int.mul_assoc (Nx * Ny) B B]
  rw [cancel, prod] at LO HI
  have LO' := Int.le_of_mul_le_mul_right LO hB
  have HI' := Int.le_of_mul_le_mul_right HI hB
  -- how wide
  have pr : ∀ {u v s t : Int}, (-(mx * B) ≤ u ∧ u ≤ mx * B) → (-wy ≤ s - t ∧ s - t ≤ wy) → (-(my * B) ≤ t ∧ t ≤ my * B) → (-wx ≤ u - v ∧ u - v ≤ wx) → u * s - v * t ≤ mx * B * wy + my * B * wx := fun {u v s t} p1 p2 p3 p4 => by
    have q1 := (mul_abs p1.1 p1.2 p2.1 p2.2).1
    have q2 := (mul_abs p3.1 p3.2 p4.1 p4.2).1
    have e : u * s - v * t = u * (s - t) + t * (u - v) := by
      rw [Int.mul_sub, Int.mul_sub, Int.mul_comm t u, Int.mul_comm t v]
      omega
    omega
  have X1 : -(mx * B) ≤ x1 ∧ x1 ≤ mx * B := by omega
  have X2 : -(mx * B) ≤ x2 ∧ x2 ≤ mx * B := by omega
  have Y1 : -(my * B) ≤ y1 ∧ y1 ≤ my * B := by omega
  have Y2 : -(my * B) ≤ y2 ∧ y2 ≤ my * B := by omega
  have wide : mxx - mn ≤ mx * B * wy + my * B * wx := by
    have a1 := pr X1 (show -wy ≤ y1 - y1 ∧ y1 - y1 ≤ wy by omega) Y1 (show -wx ≤ x1 - x1 ∧ x1 - x1 ≤ wx by omega)
    have a2 := pr X1 (show -wy ≤ y1 - y2 ∧ y1 - y2 ≤ wy by omega) Y2 (show -wx ≤ x1 - x1 ∧ x1 - x1 ≤ wx by omega)
    have a3 := pr X1 (show -wy ≤ y1 - y1 ∧ y1 - y1 ≤ wy by omega) Y1 (show -wx ≤ x1 - x2 ∧ x1 - x2 ≤ wx by omega)
    have a4 := pr X1 (show -wy ≤ y1 - y2 ∧ y1 - y2 ≤ wy by omega) Y2 (show -wx ≤ x1 - x2 ∧ x1 - x2 ≤ wx by omega)
    have a5 := pr X1 (show -wy ≤ y2 - y1 ∧ y2 - y1 ≤ wy by omega) Y1 (show -wx ≤ x1 - x1 ∧ x1 - x1 ≤ wx by omega)
    have a6 := pr X1 (show -wy ≤ y2 - y1 ∧ y2 - y1 ≤ wy by omega) Y1 (show -wx ≤ x1 - x2 ∧ x1 - x2 ≤ wx by omega)
    have a7 := pr X1 (show -wy ≤ y2 - y2 ∧ y2 - y2 ≤ wy by omega) Y2 (show -wx ≤ x1 - x2 ∧ x1 - x2 ≤ wx by omega)
    have b1 := pr X2 (show -wy ≤ y1 - y1 ∧ y1 - y1 ≤ wy by omega) Y1 (show -wx ≤ x2 - x1 ∧ x2 - x1 ≤ wx by omega)
    have b2 := pr X2 (show -wy ≤ y1 - y2 ∧ y1 - y2 ≤ wy by omega) Y2 (show -wx ≤ x2 - x1 ∧ x2 - x1 ≤ wx by omega)
    have b3 := pr X2 (show -wy ≤ y1 - y2 ∧ y1 - y2 ≤ wy by omega) Y2 (show -wx ≤ x2 - x2 ∧ x2 - x2 ≤ wx by omega)
    have b4 := pr X2 (show -wy ≤ y2 - y1 ∧ y2 - y1 ≤ wy by omega) Y1 (show -wx ≤ x2 - x1 ∧ x2 - x1 ≤ wx by omega)
    have b5 := pr X2 (show -wy ≤ y2 - y2 ∧ y2 - y2 ≤ wy by omega) Y2 (show -wx ≤ x2 - x1 ∧ x2 - x1 ≤ wx by omega)
    have b6 := pr X2 (show -wy ≤ y2 - y1 ∧ y2 - y1 ≤ wy by omega) Y1 (show -wx ≤ x2 - x2 ∧ x2 - x2 ≤ wx by omega)
    omega
  have eW : mx * B * wy + my * B * wx = (mx * wy + my * wx) * B := by
    rw [Int.add_mul, Int.mul_right_comm mx B wy, Int.mul_right_comm my B wx]
  have big : ∀ u s : Int, (-(mx * B) ≤ u ∧ u ≤ mx * B) → (-(my * B) ≤ s ∧ s ≤ my * B) → u * s ≤ mx * my * B * B ∧ -(mx * my * B * B) ≤ u * s := fun u s p1 p2 => by
    have q := mul_abs p1.1 p1.2 p2.1 p2.2
    have e : mx * B * (my * B) = mx * my * B * B := by
      rw [Int.mul_assoc mx B, Int.mul_left_comm B my B, ← Int.mul_assoc mx my, ← Int.mul_assoc (mx * my) B B]
    rwa [e] at q
  have g11 := big x1 y1 X1 Y1
  have g12 := big x1 y2 X1 Y2
  have g21 := big x2 y1 X2 Y1
  have g22 := big x2 y2 X2 Y2
  refine ⟨hDD, LO', HI', ?_, ?_, ?_⟩
  · -- (hi - 1) B < mxx, mn < (lo + 1) B
    rw [eW] at wide
    have e : (hi - 1 - (lo + 1)) * B < (mx * wy + my * wx) * B := by
      rw [Int.sub_mul]
      omega
    have := Int.lt_of_mul_lt_mul_right e (Int.le_of_lt hB)
    omega
  · have e : -(mx * my * B) * B < (lo + 1) * B := by
      rw [Int.neg_mul]
      omega
    have := Int.lt_of_mul_lt_mul_right e (Int.le_of_lt hB)
    rw [Int.add_mul]
    omega
  · have e : (hi - 1) * B < mx * my * B * B := by omega
    have := Int.lt_of_mul_lt_mul_right e (Int.le_of_lt hB)
    rw [Int.add_mul]
    omega
/-- a quotient; the divisor at least 1 -/
theorem G.div (hB : 0 < B) (hx : G B x1 x2 Nx Dx wx mx) (hy : G B y1 y2 Ny Dy wy my) (hNy : 0 < Ny) (hy1 : B ≤ y1) (hm : 0 ≤ mx) :
    G B (min (min (x1 * B / y1) (x1 * B / y2)) (min (x2 * B / y1) (x2 * B / y2))) (max (max (-(-(x1 * B) / y1)) (-(-(x1 * B) / y2))) (max (-(-(x2 * B) / y1)) (-(-(x2 * B) / y2)))) (Nx * Dy) (Dx * Ny) (mx * wy + wx + 1) (mx + 1) := by
  have lx := hx.le
  have ly := hy.le
  have wx0 := hx.wpos
  have wy0 := hy.wpos
  obtain ⟨dx, xl, xh, xw, xa, xb⟩ := hx
  obtain ⟨dy, yl, yh, yw, ya, yb⟩ := hy
  have p1 : 0 < y1 := by omega
  have p2 : 0 < y2 := by omega
  have hy2 : B ≤ y2 := by omega
  have hDN : 0 < Dx * Ny := Int.mul_pos dx hNy
  have f11 := fl_le (x1 * B) p1
  have f12 := fl_le (x1 * B) p2
  have g11 := fl_lt (x1 * B) p1
  have g12 := fl_lt (x1 * B) p2
  have g21 := fl_lt (x2 * B) p1
  have g22 := fl_lt (x2 * B) p2
  have c21 := ce_ge (x2 * B) p1
  have c22 := ce_ge (x2 * B) p2
  have d11 := ce_lt (x1 * B) p1
  have d12 := ce_lt (x1 * B) p2
  have d21 := ce_lt (x2 * B) p1
  have d22 := ce_lt (x2 * B) p2
  generalize x1 * B / y1 = q11 at f11 g11 ⊢
  generalize x1 * B / y2 = q12 at f12 g12 ⊢
  generalize x2 * B / y1 = q21 at g21 ⊢
  generalize x2 * B / y2 = q22 at g22 ⊢
  generalize -(-(x1 * B) / y1) = r11 at d11 ⊢
  generalize -(-(x1 * B) / y2) = r12 at d12 ⊢
  generalize -(-(x2 * B) / y1) = r21 at c21 d21 ⊢
  generalize -(-(x2 * B) / y2) = r22 at c22 d22 ⊢
  generalize hlo : min (min q11 q12) (min q21 q22) = lo
  generalize hhi : max (max r11 r12) (max r21 r22) = hi
  have l1 : lo * y1 ≤ x1 * B := Int.le_trans (Int.mul_le_mul_of_nonneg_right (show lo ≤ q11 by omega) (Int.le_of_lt p1)) f11
  have l2 : lo * y2 ≤ x1 * B := Int.le_trans (Int.mul_le_mul_of_nonneg_right (show lo ≤ q12 by omega) (Int.le_of_lt p2)) f12
  have h1 : x2 * B ≤ hi * y1 := Int.le_trans c21 (Int.mul_le_mul_of_nonneg_right (show r21 ≤ hi by omega) (Int.le_of_lt p1))
  have h2 : x2 * B ≤ hi * y2 := Int.le_trans c22 (Int.mul_le_mul_of_nonneg_right (show r22 ≤ hi by omega) (Int.le_of_lt p2))
  have sd : ∀ {u v : Int}, u ≤ v → u * Dy ≤ v * Dy := fun h => Int.mul_le_mul_of_nonneg_right h (Int.le_of_lt dy)
  -- Y = Ny B lies between y1 Dy and y2 Dy
  have LO : Ny * B * lo ≤ x1 * B * Dy := lin_hi yl yh (by
    have := sd l1
    rw [Int.mul_comm (y1 * Dy), ← Int.mul_assoc]
    exact this) (by
    have := sd l2
    rw [Int.mul_comm (y2 * Dy), ← Int.mul_assoc]
    exact this)
  have HI : x2 * B * Dy ≤ Ny * B * hi := lin_lo yl yh (by
    have := sd h1
    rw [Int.mul_comm (y1 * Dy), ← Int.mul_assoc]
    exact this) (by
    have := sd h2
    rw [Int.mul_comm (y2 * Dy), ← Int.mul_assoc]
    exact this)
  have LO' : lo * Ny ≤ x1 * Dy := by
    rw [Int.mul_right_comm Ny B lo, Int.mul_right_comm x1 B Dy, Int.mul_comm Ny] at LO
    exact Int.le_of_mul_le_mul_right LO hB
  have HI' : x2 * Dy ≤ hi * Ny := by
    rw [Int.mul_right_comm Ny B hi, Int.mul_right_comm x2 B Dy, Int.mul_comm Ny] at HI
    exact Int.le_of_mul_le_mul_right HI hB
  have scx : ∀ {u v : Int}, u ≤ v → u * Dx ≤ v * Dx := fun h => Int.mul_le_mul_of_nonneg_right h (Int.le_of_lt dx)
  refine ⟨hDN, ?_, ?_, ?_, ?_, ?_⟩
  · have e1 := scx LO'
    have e2 := sd xl
    rw [Int.mul_right_comm x1 Dy Dx] at e1
    rw [Int.mul_comm Dx Ny, ← Int.mul_assoc, Int.mul_right_comm Nx Dy B]
    exact Int.le_trans e1 e2
  · have e1 := scx HI'
    have e2 := sd xh
    rw [Int.mul_right_comm x2 Dy Dx] at e1
    rw [Int.mul_comm Dx Ny, ← Int.mul_assoc, Int.mul_right_comm Nx Dy B]
    exact Int.le_trans e2 e1
  · -- how wide
    have pr : ∀ {u v s t c f : Int}, (-(mx * B) ≤ u ∧ u ≤ mx * B) → B ≤ s → B ≤ t → (-wy ≤ t - s ∧ t - s ≤ wy) → (-wx ≤ u - v ∧ u - v ≤ wx) → (c - 1) * s < u * B → v * B < (f + 1) * t → c - f ≤ mx * wy + wx + 1 := fun {u v s t c f} q1 q2 q3 q4 q5 q6 q7 => by
      have s0 : 0 < s := by omega
      have t0 : 0 < t := by omega
      have k1 : (c - 1) * s * t < u * B * t := Int.mul_lt_mul_of_pos_right q6 t0
      have k2 : v * B * s < (f + 1) * t * s := Int.mul_lt_mul_of_pos_right q7 s0
      -- u t - v s = u (t - s) + s (u - v)
      have k3 := (mul_abs q1.1 q1.2 q4.1 q4.2).1
      have k4 : s * (u - v) ≤ s * wx := Int.mul_le_mul_of_nonneg_left q5.2 (Int.le_of_lt s0)
      have e1 : u * t - v * s = u * (t - s) + s * (u - v) := by
        rw [Int.mul_sub, Int.mul_sub, Int.mul_comm s u, Int.mul_comm s v]
        omega
      have k5 : (u * t - v * s) * B ≤ (mx * B * wy + s * wx) * B := Int.mul_le_mul_of_nonneg_right (by omega) (Int.le_of_lt hB)
      -- and each part at most s t times as great
      have m1 : mx * B * wy * B ≤ mx * wy * (s * t) := by
        have a1 : B * B ≤ s * t := Int.mul_le_mul q2 q3 (Int.le_of_lt hB) (Int.le_of_lt s0)
        have a2 : 0 ≤ mx * wy := Int.mul_nonneg hm wy0
        have a3 := Int.mul_le_mul_of_nonneg_left a1 a2
        have e : mx * B * wy * B = mx * wy * (B * B) := by
          rw [Int.mul_right_comm mx B wy, Int.mul_assoc (mx * wy)]
        omega
      have m2 : s * wx * B ≤ wx * (s * t) := by
        have a1 : s * B ≤ s * t := Int.mul_le_mul_of_nonneg_left q3 (Int.le_of_lt s0)
        have a3 := Int.mul_le_mul_of_nonneg_left a1 wx0
        have e : s * wx * B = wx * (s * B) := by rw [Int.mul_comm s wx, Int.mul_assoc]
        omega
      have k6 : (c - 1 - (f + 1)) * (s * t) < (mx * wy + wx) * (s * t) := by
        have e2 : (c - 1 - (f + 1)) * (s * t) = (c - 1) * s * t - (f + 1) * t * s := by
          rw [Int.sub_mul, Int.mul_assoc (c - 1), Int.mul_assoc (f + 1), Int.mul_comm t s]
        have e3 : (u * t - v * s) * B = u * B * t - v * B * s := by rw [Int.sub_mul, Int.mul_right_comm u t B, Int.mul_right_comm v s B]
        rw [e2, Int.add_mul (mx * wy) wx]
        rw [e3, Int.add_mul (mx * B * wy)] at k5
        omega
      have k7 := Int.lt_of_mul_lt_mul_right k6 (Int.le_of_lt (Int.mul_pos s0 t0))
      omega
    have X1 : -(mx * B) ≤ x1 ∧ x1 ≤ mx * B := by omega
    have X2 : -(mx * B) ≤ x2 ∧ x2 ≤ mx * B := by omega
    have z11 : -wx ≤ x1 - x1 ∧ x1 - x1 ≤ wx := by omega
    have z12 : -wx ≤ x1 - x2 ∧ x1 - x2 ≤ wx := by omega
    have z21 : -wx ≤ x2 - x1 ∧ x2 - x1 ≤ wx := by omega
    have z22 : -wx ≤ x2 - x2 ∧ x2 - x2 ≤ wx := by omega
    have w11 : -wy ≤ y1 - y1 ∧ y1 - y1 ≤ wy := by omega
    have w12 : -wy ≤ y1 - y2 ∧ y1 - y2 ≤ wy := by omega
    have w21 : -wy ≤ y2 - y1 ∧ y2 - y1 ≤ wy := by omega
    have w22 : -wy ≤ y2 - y2 ∧ y2 - y2 ≤ wy := by omega
    have hc : ∃ u s, (u = x1 ∨ u = x2) ∧ (s = y1 ∨ s = y2) ∧ (hi - 1) * s < u * B := by
      have : hi = r11 ∨ hi = r12 ∨ hi = r21 ∨ hi = r22 := by omega
      rcases this with e | e | e | e
      · exact ⟨x1, y1, .inl rfl, .inl rfl, by rw [e]; exact d11⟩
      · exact ⟨x1, y2, .inl rfl, .inr rfl, by rw [e]; exact d12⟩
      · exact ⟨x2, y1, .inr rfl, .inl rfl, by rw [e]; exact d21⟩
      · exact ⟨x2, y2, .inr rfl, .inr rfl, by rw [e]; exact d22⟩
    have hf : ∃ v t, (v = x1 ∨ v = x2) ∧ (t = y1 ∨ t = y2) ∧ v * B < (lo + 1) * t := by
      have : lo = q11 ∨ lo = q12 ∨ lo = q21 ∨ lo = q22 := by omega
      rcases this with e | e | e | e
      · exact ⟨x1, y1, .inl rfl, .inl rfl, by rw [e]; exact g11⟩
      · exact ⟨x1, y2, .inl rfl, .inr rfl, by rw [e]; exact g12⟩
      · exact ⟨x2, y1, .inr rfl, .inl rfl, by rw [e]; exact g21⟩
      · exact ⟨x2, y2, .inr rfl, .inr rfl, by rw [e]; exact g22⟩
    obtain ⟨u, s, hu, hs, k1⟩ := hc
    obtain ⟨v, t, hv, ht, k2⟩ := hf
    refine pr (u := u) (v := v) (s := s) (t := t) ?_ ?_ ?_ ?_ ?_ k1 k2
    · rcases hu with rfl | rfl <;> assumption
    · rcases hs with rfl | rfl <;> assumption
    · rcases ht with rfl | rfl <;> assumption
    · rcases hs with rfl | rfl <;> rcases ht with rfl | rfl <;> assumption
    · rcases hu with rfl | rfl <;> rcases hv with rfl | rfl <;> assumption
  · -- how great
    have lowest : ∀ {v t f : Int}, -(mx * B) ≤ v → B ≤ t → v * B < (f + 1) * t → -(mx * B) ≤ f := fun {v t f} k1 k2 k3 => by
      refine Int.not_lt.mp fun z => ?_
      have t0 : 0 < t := by omega
      have e1 : (f + 1) * t ≤ -(mx * B) * t := Int.mul_le_mul_of_nonneg_right (by omega) (Int.le_of_lt t0)
      have e2 : -(mx * B) * t ≤ -(mx * B) * B := Int.mul_le_mul_of_nonpos_left (by
        have := Int.mul_nonneg hm (Int.le_of_lt hB)
        omega) k2
      have e3 : -(mx * B) * B ≤ v * B := Int.mul_le_mul_of_nonneg_right k1 (Int.le_of_lt hB)
      omega
    have o11 := lowest xa hy1 g11
    have o12 := lowest xa hy2 g12
    have o21 := lowest (show -(mx * B) ≤ x2 by omega) hy1 g21
    have o22 := lowest (show -(mx * B) ≤ x2 by omega) hy2 g22
    rw [Int.add_mul]
    omega
  · have highest : ∀ {v t c : Int}, v ≤ mx * B → B ≤ t → (c - 1) * t < v * B → c ≤ mx * B + 1 := fun {v t c} k1 k2 k3 => by
      refine Int.not_lt.mp fun z => ?_
      have t0 : 0 < t := by omega
      have n0 := Int.mul_nonneg hm (Int.le_of_lt hB)
      have e1 : mx * B * t ≤ (c - 1) * t := Int.mul_le_mul_of_nonneg_right (by omega) (Int.le_of_lt t0)
      have e2 : mx * B * B ≤ mx * B * t := Int.mul_le_mul_of_nonneg_left k2 n0
      have e3 : v * B ≤ mx * B * B := Int.mul_le_mul_of_nonneg_right k1 (Int.le_of_lt hB)
      omega
    have o11 := highest (show x1 ≤ mx * B by omega) hy1 d11
    have o12 := highest (show x1 ≤ mx * B by omega) hy2 d12
    have o21 := highest xb hy1 d21
    have o22 := highest xb hy2 d22
    rw [Int.add_mul]
    omega
/-- N / D is known by other numbers -/
theorem G.same {N D : Int} (h : G B x1 x2 Nx Dx wx mx) (hD : 0 < D) (e : N * Dx = Nx * D) : G B x1 x2 N D wx mx := by
  obtain ⟨dx, xl, xh, xw, xa, xb⟩ := h
  refine ⟨hD, ?_, ?_, xw, xa, xb⟩
  · refine Int.le_of_mul_le_mul_right ?_ dx
    have := Int.mul_le_mul_of_nonneg_right xl (Int.le_of_lt hD)
    rw [Int.mul_right_comm N B Dx, e, Int.mul_right_comm x1 D Dx, Int.mul_right_comm Nx D B]
    exact this
  · refine Int.le_of_mul_le_mul_right ?_ dx
    have := Int.mul_le_mul_of_nonneg_right xh (Int.le_of_lt hD)
    rw [Int.mul_right_comm N B Dx, e, Int.mul_right_comm x2 D Dx, Int.mul_right_comm Nx D B]
    exact this
theorem G.mono {w m : Int} (hB : 0 < B) (h : G B x1 x2 Nx Dx wx mx) (hw : wx ≤ w) (hm : mx ≤ m) : G B x1 x2 Nx Dx w m := by
  obtain ⟨dx, xl, xh, xw, xa, xb⟩ := h
  have := Int.mul_le_mul_of_nonneg_right hm (Int.le_of_lt hB)
  exact ⟨dx, xl, xh, by omega, by omega, by omega⟩
end
end Np

/-! Own object: a dict whose keys are tuples of ints and texts, new ones or those that the top has made. -/
namespace Dx
open PySem PySem.Spec PyProof.Rows L2 Evl Cm
abbrev KX : Type := List (List L2.Key × Addr × V)
def valX (kvs : KX) (k : List L2.Key) : Option V := (kvs.find? fun e => decide (e.1 = k)).map (·.2.2)
abbrev PX (p : List L2.Key × Addr × V) (q : List L2.Key × Addr × Value) : Prop := p.1 = q.1 ∧ p.2.1 = q.2.1 ∧ RelV p.2.2 q.2.2
def phi (P : Program) (w : World) (a : Addr) (kvs : KX) (h : Heap) : Prop := kvs.length ≤ sizeLine ∧ (a == sysModules) = false ∧ ∃ xs : List (List L2.Key × Addr × Value), Paired PX kvs xs ∧ ∃ o es ep, h.get? a = some o ∧ o.ExactDict ∧ o.data = .dict es ep ∧ es.toList = xs.map (entryOfKey (tupleKind (mixKind P w))) ∧ (xs.map (·.1)).Nodup
def DxO (P : Program) (w : World) (a : Addr) (kvs : KX) : HO := .ext (phi P w a kvs)
structure DX (P : Program) (w : World) (K : PySem.W.Frag) (H : Hp) (a : Addr) (kvs : KX) : Prop where
  self : H a = some (DxO P w a kvs)
  keys : ∀ e ∈ kvs, SqT K H e.2.1 (e.1.map kV)
theorem dxo_ok {P : Program} {w : World} {H : Hp} {h : Heap} {a : Addr} {kvs : KX} (p : phi P w a kvs h) : ObjOk P w H h a (DxO P w a kvs) := by
  refine ⟨p, ?_, fun h1 h2 q k => ?_⟩
  · obtain ⟨_, _, _, _, o, _, _, e, _⟩ := p
    exact ⟨o, e⟩
  · obtain ⟨a1, a2, xs, a3, o, es, ep, e, c⟩ := q
    exact ⟨a1, a2, xs, a3, o, es, ep, k o e, c⟩
theorem dxo_empty {P : Program} {w : World} {H : Hp} (h : Heap) (hb : sysModules < h.objs.size) : ObjOk P w H (h.push { cls := .type "dict", data := .dict #[] }) h.objs.size (DxO P w h.objs.size []) :=
  dxo_ok ⟨Nat.zero_le _, beq_eq_false_iff_ne.mpr (Ne.symm (Nat.ne_of_lt hb)), [], .nil, _, #[], 0, Heap.get?_push_size _ rfl, ⟨rfl, rfl, rfl⟩, rfl, rfl, List.nodup_nil⟩
theorem px_val {kvs : KX} {xs : List (List L2.Key × Addr × Value)} (r : Paired PX kvs xs) (k : List L2.Key) : RelO (valX kvs k) ((atKey xs k).map (·.2)) := by
  induction r with
  | nil => exact True.intro
  | @cons p q ps qs g t ih =>
    obtain ⟨e1, _, e2⟩ := g
    unfold valX atKey at ih ⊢
    rw [List.find?_cons, List.find?_cons, e1]
    by_cases z : q.1 = k
    · rw [decide_eq_true z]
      exact e2
    · rw [decide_eq_false z]
      exact ih
section
variable {X : Cx} {pins : List (Addr × Obj)} {σ : L2.St} {H : Hp} {s : Shared} {a b : Addr} {kvs : KX} {k : List L2.Key} {v : V} {A : Around} {E : Value → Shared → Prop}
/-- a tuple of ints and texts, tracked or the program's own, is a key -/
theorem key_at (I : Inv X pins σ H s) (h : SqT X.K H b (k.map kV)) : (tupleKind (mixKind X.prog X.w)).is s.heap k b := by
  obtain ⟨its, r, ⟨o, h1, h2, n, h3⟩, _⟩ := I.tuple h
  exact ⟨o, its.toArray, n, h1, h2, h3, by simpa using items_are r⟩
theorem DX.out (D : DX X.prog X.w X.K H a kvs) (I : Inv X pins σ H s) : kvs.length ≤ sizeLine ∧ (a == sysModules) = false ∧ ∃ xs, Paired PX kvs xs ∧ s.heap.DictOfH (tupleKind (mixKind X.prog X.w)) a xs := by
  obtain ⟨⟨a1, a2, xs, a3, o, es, ep, h1, h2, h3, h4, h5⟩, _⟩ := (show ObjOk X.prog X.w H s.heap a (DxO X.prog X.w a kvs) from I.hok a _ D.self)
  refine ⟨a1, a2, xs, a3, o, es, ep, h1, h2, h3, h4, fun x hx => ?_, h5⟩
  have all : ∀ {l : KX} {m : List (List L2.Key × Addr × Value)}, Paired PX l m → (∀ e ∈ l, SqT X.K H e.2.1 (e.1.map kV)) → ∀ x ∈ m, (tupleKind (mixKind X.prog X.w)).is s.heap x.1 x.2.1 := by
    intro l m q
    induction q with
    | nil => intro _ x hx; exact nomatch hx
    | @cons p q ps qs hq t ih =>
      intro hk x hx
      rcases List.mem_cons.mp hx with e | hx
      · subst e
        rw [← hq.1, ← hq.2.1]
        exact key_at I (hk p (.head _))
      · exact ih (fun e he => hk e (.tail _ he)) x hx
  exact all a3 D.keys x hx
theorem DX.mono {P : Program} {w : World} {K : PySem.W.Frag} {H1 : Hp} (e : Ex H H1) (D : DX P w K H a kvs) : DX P w K H1 a kvs := ⟨e _ _ D.self, fun x hx => ex_t e (D.keys x hx)⟩
theorem x_notIn {Q : Value → Shared → Prop} (hu : A.units + 1 < cLine) (I : Inv X pins σ H s) (D : DX X.prog X.w X.K H a kvs) (hb : SqT X.K H b (k.map kV)) (q : ∀ s', Inv X pins σ H s' → Q (.bool (!(valX kvs k).isSome)) s') :
    wpAny (model X.prog X.w) A (compareOp .NotIn (.ref b) (.ref a)) Q E s := by
  obtain ⟨_, n2, xs, rel, dd⟩ := D.out I
  refine wpAny_notIn_heap (tupleKind_room_in1 hu) (key_at I hb) n2 dd ?_
  have e := (px_val rel k).isSome_eq
  rw [Option.isSome_map] at e
  rw [← e]
  exact q _ (I.tok _)
theorem x_get {Q : Value → Shared → Prop} (hu : A.units + 1 < cLine) (I : Inv X pins σ H s) (D : DX X.prog X.w X.K H a kvs) (hb : SqT X.K H b (k.map kV)) (hv : valX kvs k = some v) (q : ∀ u s', Inv X pins σ H s' → RelV v u → Q u s') :
    wpAny (model X.prog X.w) A (getItem (.ref a) (.ref b)) Q E s := by
  obtain ⟨_, n2, xs, rel, dd⟩ := D.out I
  have r := px_val rel k
  rw [hv] at r
  obtain ⟨u, hu2, ru⟩ := RelO.some_of r
  obtain ⟨p, hp, hp2⟩ := Option.map_eq_some_iff.mp hu2
  refine wpAny_getItem_heap (tupleKind_room_in1 hu) (key_at I hb) dd hp ?_
  rw [hp2]
  exact q u _ (I.tok _) ru
theorem put_phi {h : Heap} {xs : List (List L2.Key × Addr × Value)} {u : Value} (n1 : kvs.length < sizeLine) (n2 : (a == sysModules) = false) (rel : Paired PX kvs xs) (hv : valX kvs k = none) (ru : RelV v u) (dd : h.DictOfH (tupleKind (mixKind X.prog X.w)) a (storedH xs k b u)) : phi X.prog X.w a (kvs ++ [(k, b, v)]) h := by
  obtain ⟨w1, w2, w3, w4, w5, w6, w7, _, w8⟩ := dd
  have no : atKey xs k = none := by
    have e := (px_val rel k).isSome_eq
    rw [hv, Option.isSome_map] at e
    cases z : atKey xs k with
    | none => rfl
    | some p => rw [z] at e; cases e
  rw [storedH_new no] at w7 w8
  exact ⟨by rw [List.length_append]; exact n1, n2, _, Paired.snoc rel ⟨rfl, rfl, ru⟩, w1, w2, w3, w4, w5, w6, w7, w8⟩
theorem x_set {Q : Unit → Shared → Prop} {u : Value} (hu : A.units + 1 < cLine) (I : Inv X pins σ H s) (D : DX X.prog X.w X.K H a kvs) (hb : SqT X.K H b (k.map kV)) (hv : valX kvs k = none) (n1 : kvs.length < sizeLine) (ru : RelV v u) (q : ∀ s', Inv X pins σ (upd H a (DxO X.prog X.w a (kvs ++ [(k, b, v)]))) s' → Q () s') :
    wpAny (model X.prog X.w) A (setItem (.ref a) (.ref b) u) Q E s := by
  obtain ⟨m1, n2, xs, rel, dd⟩ := D.out I
  refine wpAny_setItem_heap (hsz := by rw [← Paired.length rel]; exact m1) (tupleKind_room_in1 hu) (key_at I hb) dd fun h' dd' sb => q _ ?_
  have p := put_phi (X := X) n1 n2 rel hv ru dd'
  exact d_write I (by rw [D.self]; exact True.intro) sb (by obtain ⟨q1, _, _, q2, _⟩ := dd'; exact ⟨q1, q2⟩) (dxo_ok p)
theorem x_store {Q : Unit → Shared → Prop} {u : Value} (hu : A.units + 1 < cLine) (I : Inv X pins σ H s) (D : DX X.prog X.w X.K H a kvs) (hb : SqT X.K H b (k.map kV)) (hv : valX kvs k = none) (n1 : kvs.length < sizeLine) (ru : RelV v u) (q : ∀ s', Inv X pins σ (upd H a (DxO X.prog X.w a (kvs ++ [(k, b, v)]))) s' → Q () s') :
    wpAny (model X.prog X.w) A (dictSet a (.ref b) u) Q E s := by
  obtain ⟨m1, n2, xs, rel, dd⟩ := D.out I
  refine wpAny_dictSet_heap (knd := tupleKind (mixKind X.prog X.w)) (Nat.lt_of_succ_lt hu) (key_at I hb) dd (fun h' dd' sb => q _ ?_) (by rw [← Paired.length rel]; exact m1)
  have p := put_phi (X := X) n1 n2 rel hv ru dd'
  exact d_write I (by rw [D.self]; exact True.intro) sb (by obtain ⟨q1, _, _, q2, _⟩ := dd'; exact ⟨q1, q2⟩) (dxo_ok p)
end
/-- what is put: the heap behind it -/
def Put (P : Program) (w : World) (K : PySem.W.Frag) (H : Hp) (a : Addr) (y v : V) (H' : Hp) : Prop := ∃ kvs k b, y = .ref b ∧ DX P w K H a kvs ∧ SqT K H b (k.map kV) ∧ valX kvs k = none ∧ kvs.length < sizeLine ∧ H' = upd H a (DxO P w a (kvs ++ [(k, b, v)]))
def tNewX (P : Program) (w : World) : TE := fun _ H Q => ∀ p, H p = none → Q (.ref p) (upd H p (DxO P w p []))
def tNotInX (P : Program) (w : World) (K : PySem.W.Frag) (ty td : TE) : TE := fun σ H Q => ty σ H fun y H1 => td σ H1 fun x H2 => ∃ a b kvs k, x = .ref a ∧ y = .ref b ∧ DX P w K H2 a kvs ∧ SqT K H2 b (k.map kV) ∧ Q (.bl (!(valX kvs k).isSome)) H2
def tGetX (P : Program) (w : World) (K : PySem.W.Frag) (td ty : TE) : TE := fun σ H Q => td σ H fun x H1 => ty σ H1 fun y H2 => ∃ a b kvs k v, x = .ref a ∧ y = .ref b ∧ DX P w K H2 a kvs ∧ SqT K H2 b (k.map kV) ∧ valX kvs k = some v ∧ Q v H2
def rSetX (P : Program) (w : World) (K : PySem.W.Frag) : TSet := fun o i v H Q => ∃ a H', o = .ref a ∧ Put P w K H a i v H' ∧ Q H'
section
variable {X : Cx} {o i : Expr} {td ty : TE} {pos : Pos}
theorem pe_newX : PE X (.Dict [] [] pos) (tNewX X.prog X.w) := ⟨fun pins s σ H Q I h =>
  wpAny_Dict_empty ⟨.ref s.heap.objs.size, _, I.laid (a := s.heap.objs.size) (t' := s.toks) (fun _ _ q => Heap.get?_push_of_some _ q) (Nat.le_refl _) (dxo_empty s.heap I.big), rfl, h _ (I.hok.fresh (Nat.le_refl _))⟩⟩
theorem pc_notinX (hu : X.A.units + 1 < cLine) (hi : PE X i ty) (ho : PE X o td) : PC X .NotIn i o (tNotInX X.prog X.w X.K ty td) := by
  refine ⟨fun pins s σ H Q I h => ?_⟩
  refine thn (hi.run pins s σ H _ I h) fun iv z1 ⟨y, G1, v1, ry, h1⟩ => thn (ho.run pins z1 σ G1 _ v1 h1) fun ov z2 ⟨x, G2, v2, rx, a, b, kvs, k, ex, ey, D, hb, h2⟩ => ?_
  subst ex
  subst ey
  cases (show ov = Value.ref a from rx)
  cases (show iv = Value.ref b from ry)
  exact x_notIn hu v2 D hb fun z3 v3 => ⟨.bl (!(valX kvs k).isSome), G2, v3, rfl, h2⟩
theorem pe_getX (hu : X.A.units + 1 < cLine) (ho : PE X o td) (hi : PE X i ty) (hs : NoSl i) : PE X (.Subscript o i pos) (tGetX X.prog X.w X.K td ty) := by
  refine ⟨fun pins s σ H Q I h => ?_⟩
  refine subD_of PySem.F.slot_dict_getitem.lookup hs (thn (ho.run pins s σ H _ I h) fun ov z1 ⟨x, G1, v1, rx, h1⟩ => thn (hi.run pins z1 σ G1 _ v1 h1) fun iv z2 ⟨y, G2, v2, ry, a, b, kvs, k, v, ex, ey, D, hb, hv, h2⟩ => ?_)
  subst ex
  subst ey
  cases (show ov = Value.ref a from rx)
  cases (show iv = Value.ref b from ry)
  obtain ⟨_, _, xs, _, dd⟩ := D.out v2
  exact ⟨dd.typeIs, x_get hu v2 D hb hv fun u z3 v3 ru => ⟨v, G2, v3, ru, h2⟩⟩
theorem set_X (hu : X.A.units + 1 < cLine) : PSet X (rSetX X.prog X.w X.K) := by
  intro pins s σ H o i v ov iv u Q I ro ri rv h
  obtain ⟨a, H', eo, ⟨kvs, k, b, ei, D, hb, hv, n1, eH⟩, q⟩ := h
  subst eo
  subst ei
  subst eH
  cases (show ov = Value.ref a from ro)
  cases (show iv = Value.ref b from ri)
  exact x_set hu I D hb hv n1 rv fun z v' => ⟨_, v', q⟩
end
end Dx

/-! Own rule: a dict comprehension whose keys are tuples. -/
namespace Dk
open PySem PySem.Spec PyProof.Rows L2 Evl Cm Dx
/-- {k: v for target in iter if ..}, keys tuples -/
def tDcT (P : Program) (w : World) (K : PySem.W.Frag) (wi : TI) (g : TG) (tt : TT) (tk tv : TE) (vs : List Nat) : TE := fun σ H Q => wi σ H fun J H1 => ∀ D, H1 D = none → ∃ Ms : Nat → Nat → Hp → Prop, (∃ m, Ms 0 m (upd H1 D (DxO P w D []))) ∧ ∀ i m G, Ms i m G →
  (J.stop i G ∧ Q (.ref D) G) ∨ (J.go i G ∧ ∃ Nx : Hp → Prop, (∀ G', Nx G' → ∃ m', m' < m ∧ Ms (i + 1) m' G') ∧ ∀ x G', J.yld i G x G' → g x (wipe σ vs) G' fun σ2 G2 => wipe σ2 vs = wipe σ vs ∧ tt σ2 G2 fun c G3 =>
    if c = true then tk σ2 G3 fun y G4 => tv σ2 G4 fun z G5 => ∃ G6, Put P w K G5 D y z G6 ∧ Nx G6 else Nx G3)
abbrev Blk (X : Cx) (sc : Scope) : (Cx → Prop) → Prop := fun P => ∀ (z : Shared) (G : Hp) (C : Addr) (cl : List (Str × Addr)) (fp : List Addr), P (X.blk z G sc (compEnvC sc cl C X.env) fp)
theorem core {X : Cx} {pins : List (Addr × Obj)} {s : Shared} {σ : L2.St} {H : Hp} {Q : VK} {kx vx tg iter : Expr} {ifs : List Expr} {sc : Scope} {own : List (Str × Nat)} {p1 p2 : Pos} {wi : TI} {g : TG} {tt : TT} {tk tv : TE} {use : Option (Value → Sem Unit)} {Qf : Value → Shared → Prop}
    (hu : X.A.units + 1 < cLine) (calm : X.calm = true) (nd : X.N.Nodup) (I : Inv X pins σ H s) (hi : PI X tg iter wi) (ok : BlkOk X.N X.env.scope sc own)
    (hg : Blk X sc fun Y => PG Y tg g) (ht : Blk X sc fun Y => PTs Y ifs tt) (hk : Blk X sc fun Y => PE Y kx tk) (he : Blk X sc fun Y => PE Y vx tv) (fold : ∀ x, foldedSetIterable iter X.env x = pure x)
    (h : tDcT X.prog X.w X.K wi g tt tk tv (own.map (·.2)) σ H Q)
    (ret : ∀ D C t m G, Inv X pins σ G t → Q (.ref D) G → t.heap.Ns C m → FpOk X pins G C → compPost (model X.prog X.w) X.A X.xe use Qf (.ref D) C (.ok .next) t) :
    wpAny (model X.prog X.w) X.A (comprehension (.DictComp kx vx [⟨tg, iter, ifs, 0⟩] sc p1) sc X.env p2 newDict false (eval iter X.env) use) Qf X.xe s := by
  have frees : ∀ y ∈ sc.names, y.2 = .free → ∃ c, X.env.cells.lookup y.1 = some c := fun y hy e => (ok.free y hy e).elim (fun k => I.ok.has _ (.inl k)) fun k => I.ok.has _ (.inr k)
  refine wpAny_comprehension_free (use := use) rfl fold (closure_ok frees) ok.kind (fun y hy e => by rw [ok.uniq y hy, e]) (thn (hi.run pins s σ H _ I h) fun xv z1 hx => thn hx fun itv z2 h2 => ?_)
  obtain ⟨it, fp, tn, J, G2, e, v2, T, kt2, ff2, q⟩ := h2
  subst e
  refine wpAny_newObj_type (newEnv_comp ?_)
  generalize hD : z2.heap.objs.size = D
  have hDn : G2 D = none := v2.hok.fresh (Nat.le_of_eq hD)
  obtain ⟨Ms, ⟨m0, ms0⟩, turn⟩ := q D hDn
  generalize hs3 : ({ z2 with heap := z2.heap.push { cls := .type "dict", data := .dict #[] } } : Shared) = z3
  have v3 : Inv X pins σ (upd G2 D (DxO X.prog X.w D [])) z3 := by
    rw [← hs3, ← hD]
    exact v2.laid (t' := z2.toks) (fun b o e => Heap.get?_push_of_some _ e) (Nat.le_refl _) (dxo_empty z2.heap v2.big)
  have h3 : z3.heap = z2.heap.push { cls := .type "dict", data := .dict #[] } := by rw [← hs3]
  have ff3 : ∀ b ∈ fp, FpOk X pins (upd G2 D (DxO X.prog X.w D [])) b ∧ b < z3.heap.objs.size := fun b hb => by
    obtain ⟨o, eo, _⟩ := T.obj _ _ kt2 b hb
    have lt := Heap.lt_size eo
    refine ⟨⟨?_, (ff2 b hb).2⟩, by rw [h3, Heap.size_push]; exact Nat.lt_succ_of_lt lt⟩
    rw [upd_ne (by rw [← hD]; exact Nat.ne_of_lt lt)]
    exact (ff2 b hb).1
  have kt3 : tn 0 z3.heap := T.keep _ _ _ kt2 fun b _ o eo => by rw [h3]; exact Heap.get?_push_of_some _ eo
  have v4 := block_start v3 ok nd ff3
  have pg := hg z3 (upd G2 D (DxO X.prog X.w D [])) z3.heap.objs.size (cellsFrom (z3.heap.objs.size + 1) sc.names (cloFrom X.env.cells sc.names [])) fp
  have pt := ht z3 (upd G2 D (DxO X.prog X.w D [])) z3.heap.objs.size (cellsFrom (z3.heap.objs.size + 1) sc.names (cloFrom X.env.cells sc.names [])) fp
  have pk := hk z3 (upd G2 D (DxO X.prog X.w D [])) z3.heap.objs.size (cellsFrom (z3.heap.objs.size + 1) sc.names (cloFrom X.env.cells sc.names [])) fp
  have pe := he z3 (upd G2 D (DxO X.prog X.w D [])) z3.heap.objs.size (cellsFrom (z3.heap.objs.size + 1) sc.names (cloFrom X.env.cells sc.names [])) fp
  show codeAny _ _ (.compStart (.DictComp kx vx [⟨tg, iter, ifs, 0⟩] sc p1) 0 (.ref it) (.ref D) (compEnvC sc (cellsFrom (z3.heap.objs.size + 1) sc.names (cloFrom X.env.cells sc.names [])) z3.heap.objs.size X.env)) (compPost (model X.prog X.w) X.A X.xe use Qf (.ref D) z3.heap.objs.size) { z3 with heap := pushCells (z3.heap.push { cls := .type "dict", data := .dict #[] }) sc.names }
  have nfp : ∀ b ∈ fp, (upd G2 D (DxO X.prog X.w D [])) b = none := fun b hb => (ff3 b hb).1.1
  generalize hce : compEnvC sc (cellsFrom (z3.heap.objs.size + 1) sc.names (cloFrom X.env.cells sc.names [])) z3.heap.objs.size X.env = ce at v4 pg pt pk pe ⊢
  have cL : ce.locals = z3.heap.objs.size := by subst hce; rfl
  generalize hH3 : upd G2 D (DxO X.prog X.w D []) = G3 at v3 v4 pg pt pk pe ms0 nfp ff3
  generalize hs4 : ({ z3 with heap := pushCells (z3.heap.push { cls := .type "dict", data := .dict #[] }) sc.names } : Shared) = z4 at v4 ⊢
  have kt4 : tn 0 z4.heap := T.keep _ _ _ kt3 fun b _ o eo => by rw [← hs4]; exact pushCells_keeps _ _ _ _ (Heap.get?_push_of_some _ eo)
  have stat : ∀ {σ' : L2.St} {G' : Hp} {t : Shared}, Inv (X.blk z3 G3 sc ce fp) [] σ' G' t → (∀ b ∈ fp, G' b = none) → ∀ b ∈ fp, FpOk (X.blk z3 G3 sc ce fp) [] G' b := fun {σ' G' t} J' hn b hb =>
    ⟨hn b hb, (J'.ok.exf b hb).1, J'.ok.exfs b hb, .inl hb, fun x c e => (J'.ok.exf b hb).2 x c e, fun p hp => absurd (show p ∈ ([] : List (Addr × Obj)) ++ [] from hp) (by simp)⟩
  have loop : codeAny (model X.prog X.w) X.A (.compLoop (.DictComp kx vx [⟨tg, iter, ifs, 0⟩] sc p1) 0 (.ref it) (.ref D) ce) (compPost (model X.prog X.w) X.A X.xe use Qf (.ref D) z3.heap.objs.size) z4 := by
    refine compLoop_anyD (fun n t => ∃ i G', Inv (X.blk z3 G3 sc ce fp) [] (wipe σ (own.map (·.2))) G' t ∧ tn i t.heap ∧ (∀ b ∈ fp, G' b = none) ∧ Ms i n G') ?_ m0 ⟨0, G3, v4, kt4, nfp, ms0⟩
    rintro n z5 ⟨i, G5, v5, kt5, nn5, ms5⟩
    rcases turn i n G5 ms5 with ⟨stop, qq⟩ | ⟨go, Nx, hNx, step⟩
    · have td := T.done (X.blk z3 G3 sc ce fp) rfl rfl rfl calm i [] z5 _ G5 (fun _ _ => False) v5 (stat v5 nn5) kt5 stop
      refine thnF td fun r z6 ⟨hr, v6⟩ => ?_
      subst hr
      have v7 : Inv X pins σ G5 z6 := v3.call' (ch := fp) v6.os v6.base v6.hok v6.bare fun b hb => ⟨(ff3 b hb).1.2.2.2.1, (ff3 b hb).1.2.1, (ff3 b hb).1.2.2.2.2.1, (ff3 b hb).1.2.2.2.2.2⟩
      have nC : G5 z3.heap.objs.size = none := cL ▸ (show G5 ce.locals = none from v6.free)
      obtain ⟨m, hn, _⟩ := v6.loc
      have hn : z6.heap.Ns ce.locals m := hn
      rw [cL] at hn
      exact ret D z3.heap.objs.size z6 m G5 v7 qq hn (v3.fpOk (Nat.le_refl _) nC)
    · have ti := T.item (X.blk z3 G3 sc ce fp) rfl rfl rfl calm i [] z5 _ G5 (fun _ _ => False) v5 (stat v5 nn5) kt5 go
      refine thnF ti fun r z6 ⟨u, hr, h6⟩ => ?_
      subst hr
      refine thnF h6 fun _ z7 ⟨x, G7, v7, rv7, y7, kt7, nn7⟩ => ?_
      refine thnF (pg.run _ z7 _ G7 x u _ (v7.pinned (stat v7 nn7) (T.obj _ _ kt7)) rv7 (step x G7 y7)) fun _ z8 ⟨σ8, G8, v8, hw8, qu8⟩ => ?_
      refine thnF (pt.run _ z8 σ8 G8 _ v8 qu8) fun b z9 ⟨G9, v9, qu9⟩ => ?_
      have fin : ∀ {t : Shared} {G' : Hp}, Inv (X.blk z3 G3 sc ce fp) ([] ++ pinsAt fp z7.heap) σ8 G' t → Nx G' → ∃ m, m < n ∧ ∃ i G', Inv (X.blk z3 G3 sc ce fp) [] (wipe σ (own.map (·.2))) G' t ∧ tn i t.heap ∧ (∀ b ∈ fp, G' b = none) ∧ Ms i m G' := fun {t G'} J' nx => by
        obtain ⟨m', lt, w'⟩ := hNx G' nx
        have still : ∀ b ∈ fp, ∀ o, z7.heap.get? b = some o → t.heap.get? b = some o ∧ G' b = none := fun b hb o eo =>
          ⟨(J'.pin (b, o) (List.mem_append_right _ (List.mem_append_right _ (mem_pinsAt hb eo)))).1, (J'.pin (b, o) (List.mem_append_right _ (List.mem_append_right _ (mem_pinsAt hb eo)))).2.1⟩
        have len8 : (wipe σ (own.map (·.2))).length = σ8.length := by rw [← hw8, wipe_length]
        refine ⟨m', lt, i + 1, G', (J'.unpinned (pins := [])).weak len8 (fun j v e => ?_), T.keep _ _ _ kt7 fun b hb o eo => (still b hb o eo).1, fun b hb => ?_, w'⟩
        · rw [← hw8] at e
          exact (wipe_some e).1
        · obtain ⟨o, eo, _⟩ := T.obj _ _ kt7 b hb
          exact (still b hb o eo).2
      cases b with
      | false =>
        simp only [Bool.false_eq_true, if_false] at qu9 ⊢
        exact fin v9 qu9
      | true =>
        simp only [if_true] at qu9 ⊢
        refine thnF (pk.run _ z9 σ8 G9 _ v9 qu9) fun ky z10 ⟨yk, G10, v10, rk10, qu10⟩ => ?_
        refine thnF (pe.run _ z10 σ8 G10 _ v10 qu10) fun vy z11 ⟨yv, G11, v11, rv11, G12, ⟨kvs, k, b2, ek, dx, hb2, no, lt11, e12⟩, nx⟩ => ?_
        subst ek
        subst e12
        cases (show ky = Value.ref b2 from rk10)
        exact x_store (X := X.blk z3 G3 sc ce fp) hu v11 dx hb2 no lt11 rv11 fun z12 v12 => fin v12 nx
  exact codeAny_compStart_dict loop (T.self X.A 0 _ _ _ kt4 loop)
section
variable {X : Cx} {kx vx tg iter : Expr} {ifs : List Expr} {sc : Scope} {own : List (Str × Nat)} {pos spos py : Pos} {wi : TI} {g : TG} {tt : TT} {tk tv : TE} {i : Nat} {y : Str}
/-- name = {..} on one line, the name a local -/
theorem ps_setDcT (hu : X.A.units + 1 < cLine) (calm : X.calm = true) (nd : X.N.Nodup) (hy : X.N[i]? = some y) (hyl : X.env.scope.names.lookup y = some .local)
    (hsw : swapsWith (.DictComp kx vx [⟨tg, iter, ifs, 0⟩] sc pos) (some (.Name y py)) spos.line X.env = pure true) (hi : PI X tg iter wi) (ok : BlkOk X.N X.env.scope sc own)
    (hg : Blk X sc fun Y => PG Y tg g) (ht : Blk X sc fun Y => PTs Y ifs tt) (hk : Blk X sc fun Y => PE Y kx tk) (he : Blk X sc fun Y => PE Y vx tv) (fold : ∀ x, foldedSetIterable iter X.env x = pure x := by intro _; rfl) :
    PS X (.Assign [.Name y py] (.DictComp kx vx [⟨tg, iter, ifs, 0⟩] sc pos) spos) (tAsg (tDcT X.prog X.w X.K wi g tt tk tv (own.map (·.2))) (gName i)) := by
  refine ⟨fun pins s σ H D I h => ?_⟩
  rw [exec_Assign_Name_used _ _ _ _ hsw]
  refine wpAny_bind (wpAny_standAt (wpAny_bind ?_))
  have k : tDcT X.prog X.w X.K wi g tt tk tv (own.map (·.2)) σ H (fun x H1 => gName i x σ H1 D.nx) := h
  refine (show wpAny _ X.A (do let _ ← comprehension (.DictComp kx vx [⟨tg, iter, ifs, 0⟩] sc pos) sc X.env (firstIterPos [⟨tg, iter, ifs, 0⟩] pos) newDict false (eval iter X.env) (some (assign (.Name y py) X.env))) _ _ s from wpAny_bind (thn (core (Qf := fun _ t => SP X pins D .next t) hu calm nd I hi ok hg ht hk he fold k fun L C t m G I2 q hn f => ?_) fun _ t hq => wpAny_pure (wpAny_pure hq)))
  refine (show wpAny _ _ (assign (.Name y py) X.env (.ref L)) _ _ _ from wpAny_assign_Name (store_ok2 (v := V.ref L) I2 nd hy (.inl hyl) rfl (fun t2 J2 ⟨a, sb, ha⟩ => ?_) (.inr hyl)))
  have haC : C ≠ a := fun z => ha.elim (fun y2 => f.2.1 (z.trans y2)) fun y2 => f.2.2.2.2.1 _ _ y2 z.symm
  exact ⟨m, hn.sameBut sb haC, fun g3 sb3 => ⟨_, G, J2.turned (t' := t2.toks) (fun b o hb e => (sb3.2 b hb).trans e) f.1 f.2.1 f.2.2.2.1 f.2.2.2.2.1 f.2.2.2.2.2, q⟩⟩
theorem sw_dict {gs : List Comprehension} {l : Nat} {env : Env} (hk : env.scope.kind = .function) (hy : env.scope.names.lookup y = some .local) (hl : (py.line == pos.line) = true)
    (ha : (sc.names.any fun (n, k) => n == y && (k == .local || k == .cell)) = false) : swapsWith (.DictComp kx vx gs sc pos) (some (.Name y py)) l env = pure true := by
  unfold swapsWith
  simp only [show env.blockKind = .function by unfold Env.blockKind; rw [hk]; rfl, show env.kindOf y = some .local from hy, ha, Expr.pos, hl]
  rfl
end
end Dk

/-! Own rules: an index into a list or a dict by one rule; set(a list of ints). -/
namespace Ld
open PySem PySem.Spec PyProof.Rows L2
theorem hu65 {A : Around} {k : Nat} (hr : Room k A) : A.units + 65 < cLine := by
  have := hr.un
  omega
def rDG : R2 := fun x y H Q => ∃ a v, x = .ref a ∧ DGet H a y (some v) ∧ Q v H
def rLD (K : PySem.W.Frag) : R2 := fun x y H Q => rIxL K x y H Q ∨ rDG x y H Q
section
variable {X : Cx}
theorem ix_dg (hu : X.A.units + 1 < cLine) : IxR X rDG := fun value slice pins s σ H x y v u Q I rx ry h hs => by
  obtain ⟨a, z, rfl, g, q⟩ := h
  cases (show v = Value.ref a from rx)
  exact tail_any (dict_typeIs I g) PySem.F.slot_dict_getitem.lookup (d_getItem hu I g ry fun r s1 I1 rr => ⟨z, H, I1, rr, q⟩) hs
theorem ix_ld (hu : X.A.units + 1 < cLine) : IxR X (rLD X.K) := IxR.or ix_list (ix_dg hu)
end
section
variable {P : Program} {w : World} {A : Around} {E : Value → Shared → Prop} {s : Shared}
abbrev bare (w : World) : Obj := { cls := .type "set", dict := none, data := .set #[] 0 (.fresh 0 0 (!w.params.followText "set-order")) }
abbrev withBare (w : World) (s : Shared) : Shared := { s with heap := s.heap.push (bare w) }
theorem bare_at (w : World) (h : Heap) : (h.push (bare w)).get? h.objs.size = some (bare w) := Heap.get?_push_size _ rfl
/-- what stands when the set is filled -/
def Filled (w : World) (s : Shared) (ns : List Int) (s2 : Shared) : Prop := ∃ h2 t2 c, s2 = { s with heap := h2, toks := t2 } ∧ SetR w h2 s.heap.objs.size (fun j => decide (j ∈ ns)) c ∧ c ≤ ns.length ∧ ∀ b o, s.heap.get? b = some o → h2.get? b = some o
theorem fill {l : Addr} {its : Array Value} (ns : List Int) (hh : A.handled = none) (hl : s.heap.IsList l its) (hi : IntsAre its.toList ns) (hb : ns.length + 1 < scanBound) :
    codeAny (model P w) A (.builtin "set.__init__" ⟨[.ref s.heap.objs.size, .ref l], []⟩) (wants (fun r s2 => r = .none ∧ Filled w s ns s2) E) (withBare w s) := by
  have sz : its.size = ns.length := by
    rw [← Array.length_toList]
    exact IntsAre.length hi
  have here := bare_at w s.heap
  have ty : Shared.TypeIs (withBare w s) (.ref s.heap.objs.size) "set" := ⟨_, here, rfl⟩
  obtain ⟨⟨cl, di, da, sl⟩, ho, hc, nl, hd⟩ := hl
  cases hc
  cases hd
  have lt : l < s.heap.objs.size := Heap.lt_size ho
  have ho2 := Heap.get?_push_of_some (bare w) ho
  have il : (s.heap.push (bare w)).IsList l its := ⟨_, ho2, rfl, nl, rfl⟩
  have n1 := F.sub_list_set
  have n2 := F.sub_list_frozenset
  have n3 : (Value.type "list" == Value.type "dict") = false := by decide
  refine codeAny_builtin F.entry_set_init ?_
  rw [Around.under_plainId (by first | exact F.plain_set_init | exact F.called_set.init.plain) _]
  unfold Builtin.«set.__init__» noKeywords
  unfold Builtin.Frozenset.updateFrom
  generalize gi : pyIter = PI
  wp_walk
  subst gi
  refine wpAny_pyIter_list il (wpAny_bind (wpAny_runValue ?_))
  have size2 : (s.heap.push (bare w)).objs.size = s.heap.objs.size + 1 := Heap.size_push ..
  have ne1 : l ≠ (s.heap.push (bare w)).objs.size := size2 ▸ Nat.ne_of_lt (Nat.lt_succ_of_lt lt)
  have out : s.heap.objs.size ∉ [(s.heap.push (bare w)).objs.size, l] := by
    intro z
    rcases List.mem_cons.mp z with z1 | z1
    · exact Nat.ne_of_lt (Nat.lt_succ_self _) (z1.trans size2)
    · exact Nat.ne_of_gt lt (List.mem_singleton.mp z1)
  have vals : ∀ (i : Nat) (v : Value), its[i]? = some v → ∃ k t, ns[i]? = some k ∧ v = .int k t := fun i v hv => by
    have lt2 : i < ns.length := by
      rw [← sz]
      exact (Array.getElem?_eq_some_iff.mp hv).1
    obtain ⟨t, e⟩ := IntsAre.int_at hi i v (by rw [Array.getElem?_toList]; exact hv)
    rw [List.getD_eq_getElem?_getD, List.getElem?_eq_getElem lt2, Option.getD_some] at e
    exact ⟨_, t, List.getElem?_eq_getElem lt2, e⟩
  have hn3 : A.in1.in1.handled = none := by simp [hh]
  refine set_update_ints ((Walks.list hn3 _ l ne1 its).toS) s.heap.objs.size out ns sz hb vals (its.size - 0) 0 _ (Nat.sub_zero _ ▸ rfl) (Nat.zero_le _) ⟨⟨_, Heap.get?_push_size _ rfl, rfl, rfl⟩, il.push _⟩ ?z1 ?z2
  case z1 => exact ⟨0, Nat.le_refl 0, setR_new_at (Heap.get?_push_of_some _ here)⟩
  intro s3 c3 mv R3a R3
  obtain ⟨h3, gs, dr, tk, os⟩ := s3
  cases (show gs = s.gens from mv.gens)
  cases (show dr = s.drawn from mv.drawn)
  cases (show os = s.os from mv.os)
  refine wpAny_pure (wpAny_pure ⟨rfl, h3, tk, c3, rfl, R3, sz ▸ R3a, fun b o e => mv.heap b o (fun z => ?_) (Heap.get?_push_of_some _ (Heap.get?_push_of_some _ e))⟩)
  have ltb : b < s.heap.objs.size := Heap.lt_size e
  rcases List.mem_cons.mp z with z1 | z1
  · exact Nat.ne_of_lt ltb z1
  · exact Nat.ne_of_lt (Nat.lt_succ_of_lt ltb) ((List.mem_singleton.mp z1).trans size2)
theorem set_of {l : Addr} {its : Array Value} (ns : List Int) {Q : Value → Shared → Prop} (hh : A.handled = none) (hl : s.heap.IsList l its) (hi : IntsAre its.toList ns) (hb : ns.length + 1 < scanBound)
    (k : ∀ s2, Filled w s ns s2 → Q (.ref s.heap.objs.size) s2) : wpAny (model P w) A (call (.type "set") [.ref l]) Q E s := by
  have ⟨cc, tt, mro⟩ := F.called_set.mro
  have made := F.called_set.made
  have sub := F.called_set.sub
  have ncls := F.called_set.notType
  have canC := F.called_set.canCreate
  have tc := F.typeCall_set_1 (.ref l)
  refine wpAny_call (codeAny_of_tree (show wpAny _ _ (callAny (.type "set") _) _ _ _ from wpAny_pure ⟨Code.quiet_builtin _ (by decide +kernel), codeAny_builtin F.entry_type_call ?_⟩))
  rw [Around.under_plain (weight_type_call_type "set" [.ref l] []) rfl]
  repeat (any_goals (first | assumption | wp_step))
  refine codeAny_mono (code_set_led1 (.ref l) (E := E) (Q₁ := fun x s1 => x = .ref s.heap.objs.size ∧ s1 = withBare w s) ⟨rfl, rfl⟩) fun r1 s1 g1 => ?_
  have lk := F.called_set.init.lookup
  have bd := F.called_set.init.bind (.ref s.heap.objs.size)
  cases r1 with
  | error e => exact g1
  | ok fl =>
    cases fl with
    | ret ob =>
      obtain ⟨rfl, rfl⟩ := g1
      have ty : Shared.TypeIs (withBare w s) (.ref s.heap.objs.size) "set" := ⟨_, bare_at w s.heap, rfl⟩
      repeat (any_goals (first | assumption | wp_step))
      refine codeAny_mono (codeAny_call_builtin_code (R := wants (fun r s2 => r = .none ∧ Filled w s ns s2) E) (plainId_quiet F.called_set.init.plain _) (check_set_init_1 ty (fill ns hh hl hi hb))) fun r2 s2 g2 => ?_
      cases r2 with
      | error e => exact g2
      | ok f2 =>
        cases f2 with
        | ret v =>
          obtain ⟨rfl, g3⟩ := g2
          repeat (any_goals (first | assumption | wp_step))
          exact k _ g3
        | _ => exact g2.elim
    | _ => exact g1.elim
end
def rSetI (K : PySem.W.Frag) (w : World) : List V → Hp → VK → Prop := fun xs H Q => ∃ (l : Addr) (ns : List Int), xs = [V.ref l] ∧ SqL K H l (ns.map V.int) ∧ ns.length ≤ 60 ∧ ∀ p n, H p = none → n ≤ ns.length → Q (.ref p) (upd H p (SetO w p (fun j => decide (j ∈ ns)) n))
theorem cr_setI {X : Cx} (hc : X.calm = true) : CallR X (.type "set") (rSetI X.K X.w) := fun pins s σ H xs us Q I r h => by
  obtain ⟨l, ns, rfl, hl, hz, q⟩ := h
  rw [Vals.ref1 r]
  obtain ⟨its, rv, pl, _⟩ := I.list hl
  refine set_of ns (I.ok.hd hc) pl.isList (by simpa using ints_of_vals rv) (by unfold scanBound; omega) fun s2 g => ?_
  obtain ⟨h2, t2, c, rfl, R, le, kp⟩ := g
  exact ⟨.ref s.heap.objs.size, upd H s.heap.objs.size (SetO X.w s.heap.objs.size (fun j => decide (j ∈ ns)) c), I.laid (t' := t2) kp (Nat.le_refl _) (setO_new R), rfl, q _ c (I.hok.fresh (Nat.le_refl _)) le⟩
end Ld

/-! Own data: areas of polygons by their corners, bits of tiles. -/
namespace Pg
abbrev Pt := Int × Int
def cr (p q : Pt) : Int := p.2 * q.1 - q.2 * p.1
theorem cr_anti (p q : Pt) : cr p q + cr q p = 0 := by
  unfold cr
  omega
def path : List Pt → Int
  | [] => 0
  | [_] => 0
  | a :: b :: r => cr a b + path (b :: r)
theorem path_join : ∀ (l : List Pt) (m : Pt) (r : List Pt), path (l ++ m :: r) = path (l ++ [m]) + path (m :: r)
  | [], m, r => by
    show path (m :: r) = path [m] + path (m :: r)
    show path (m :: r) = 0 + path (m :: r)
    omega
  | [a], m, r => by
    show cr a m + path (m :: r) = (cr a m + path [m]) + path (m :: r)
    show cr a m + path (m :: r) = (cr a m + 0) + path (m :: r)
    omega
  | a :: b :: l, m, r => by
    have := path_join (b :: l) m r
    show cr a b + path ((b :: l) ++ m :: r) = (cr a b + path ((b :: l) ++ [m])) + path (m :: r)
    omega
def area2 : List Pt → Int
  | [] => 0
  | a :: r => path (a :: r ++ [a])
theorem area_rot (l m : List Pt) : area2 (l ++ m) = area2 (m ++ l) := by
  cases l with
  | nil => rw [List.nil_append, List.append_nil]
  | cons a l =>
    cases m with
    | nil => rw [List.nil_append, List.append_nil]
    | cons b m =>
      have e1 : area2 ((a :: l) ++ b :: m) = path ((a :: l) ++ b :: (m ++ [a])) := by
        show path (((a :: l) ++ b :: m) ++ [a]) = _
        rw [List.append_assoc]
        rfl
      have e2 : area2 ((b :: m) ++ a :: l) = path ((b :: m) ++ a :: (l ++ [b])) := by
        show path (((b :: m) ++ a :: l) ++ [b]) = _
        rw [List.append_assoc]
        rfl
      rw [e1, e2, path_join, path_join (b :: m)]
      show path ((a :: l) ++ [b]) + path ((b :: m) ++ [a]) = path ((b :: m) ++ [a]) + path ((a :: l) ++ [b])
      omega
theorem area_two (A M Z : List Pt) (p q : Pt) : area2 (p :: M ++ [q]) + area2 (q :: (Z ++ A) ++ [p]) = area2 (A ++ (p :: M ++ q :: Z)) := by
  rw [area_rot A]
  have e1 : area2 (p :: M ++ [q]) = path (p :: M ++ [q]) + cr q p := by
    show path ((p :: M ++ [q]) ++ [p]) = _
    rw [List.append_assoc]
    show path (p :: M ++ q :: [p]) = _
    rw [path_join]
    show path (p :: M ++ [q]) + (cr q p + path [p]) = _
    show path (p :: M ++ [q]) + (cr q p + 0) = _
    omega
  have e2 : area2 (q :: (Z ++ A) ++ [p]) = path (q :: (Z ++ A) ++ [p]) + cr p q := by
    show path ((q :: (Z ++ A) ++ [p]) ++ [q]) = _
    rw [List.append_assoc]
    show path (q :: (Z ++ A) ++ p :: [q]) = _
    rw [path_join]
    show path (q :: (Z ++ A) ++ [p]) + (cr p q + path [q]) = _
    show path (q :: (Z ++ A) ++ [p]) + (cr p q + 0) = _
    omega
  have e3 : area2 ((p :: M ++ q :: Z) ++ A) = path (p :: M ++ [q]) + path (q :: (Z ++ A) ++ [p]) := by
    show path (((p :: M ++ q :: Z) ++ A) ++ [p]) = _
    rw [List.append_assoc, List.append_assoc]
    show path (p :: M ++ q :: (Z ++ (A ++ [p]))) = _
    rw [path_join, ← List.append_assoc]
    rfl
  rw [e1, e2, e3]
  have := cr_anti p q
  omega
/-- by the indexes of the two corners -/
theorem area_halves (c : List Pt) {i k : Nat} (h : i < k) (hk : k < c.length) : area2 ((c.drop i).take (k - i + 1)) + area2 (c.drop k ++ c.take (i + 1)) = area2 c := by
  have hi : i < c.length := by omega
  have hc : c = c.take i ++ (c[i] :: ((c.drop (i + 1)).take (k - i - 1)) ++ c[k] :: c.drop (k + 1)) := by
    have e1 : c.drop i = c[i] :: c.drop (i + 1) := List.drop_eq_getElem_cons hi
    have e2 : c.drop k = c[k] :: c.drop (k + 1) := List.drop_eq_getElem_cons hk
    have e3 : c.drop (i + 1) = (c.drop (i + 1)).take (k - i - 1) ++ c.drop k := by
      have := (List.take_append_drop (k - i - 1) (c.drop (i + 1))).symm
      rw [List.drop_drop, show i + 1 + (k - i - 1) = k by omega] at this
      exact this
    calc c = c.take i ++ c.drop i := (List.take_append_drop i c).symm
      _ = _ := by
        rw [e1]
        conv => lhs; rw [e3, e2]
        rfl
  have h1 : (c.drop i).take (k - i + 1) = c[i] :: ((c.drop (i + 1)).take (k - i - 1)) ++ [c[k]] := by
    rw [List.drop_eq_getElem_cons hi, List.take_succ_cons]
    have e : k - i = (k - i - 1) + 1 := by omega
    conv => lhs; rw [e]
    rw [List.take_add_one, List.getElem?_drop, show i + 1 + (k - i - 1) = k by omega, List.getElem?_eq_getElem hk]
    rfl
  have h2 : c.drop k ++ c.take (i + 1) = c[k] :: (c.drop (k + 1) ++ c.take i) ++ [c[i]] := by
    rw [List.drop_eq_getElem_cons hk, List.take_add_one, List.getElem?_eq_getElem hi]
    show c[k] :: c.drop (k + 1) ++ (c.take i ++ [c[i]]) = _
    rw [← List.append_assoc]
    rfl
  rw [h1, h2]
  conv => rhs; rw [hc]
  exact area_two _ _ _ _ _
def side (p q r : Pt) : Int := (q.2 - p.2) * (r.1 - p.1) - (q.1 - p.1) * (r.2 - p.2)
theorem side_cr (p q r : Pt) : side p q r = cr p q + cr q r + cr r p := by
  unfold side cr
  simp only [Int.sub_mul, Int.mul_sub]
  have a1 := Int.mul_comm q.1 r.2
  have a2 := Int.mul_comm q.1 p.2
  have a3 := Int.mul_comm p.1 r.2
  have a4 := Int.mul_comm p.1 p.2
  have a5 := Int.mul_comm r.1 p.2
  have a6 := Int.mul_comm r.1 q.2
  have a7 := Int.mul_comm p.1 q.2
  omega
def fan (a : Pt) : List Pt → Int
  | [] => 0
  | [_] => 0
  | b :: c :: r => side a b c + fan a (c :: r)
theorem fan_area (a : Pt) : ∀ (b : Pt) (r : List Pt), fan a (b :: r) = area2 (a :: b :: r)
  | b, [] => by
    have := cr_anti a b
    show 0 = cr a b + (cr b a + 0)
    omega
  | b, c :: r => by
    have e := fan_area a c r
    have e2 : area2 (a :: c :: r) = cr a c + path (c :: r ++ [a]) := rfl
    have e3 : area2 (a :: b :: c :: r) = cr a b + (cr b c + path (c :: r ++ [a])) := rfl
    have := cr_anti a c
    rw [e3]
    show side a b c + fan a (c :: r) = _
    rw [e, e2, side_cr]
    omega
/-! ### bits -/
def join (ds : List Nat) : Nat := ds.foldl (fun a d => 2 * a + d) 0
theorem join_from (a : Nat) : ∀ ds : List Nat, ds.foldl (fun a d => 2 * a + d) a = a * 2 ^ ds.length + join ds
  | [] => by simp [join]
  | d :: r => by
    show r.foldl _ (2 * a + d) = _
    rw [join_from (2 * a + d) r]
    have e : join (d :: r) = d * 2 ^ r.length + join r := by
      show r.foldl _ (2 * 0 + d) = _
      rw [Nat.mul_zero, Nat.zero_add]
      exact join_from d r
    rw [e, List.length_cons, Nat.pow_succ, Nat.add_mul, Nat.mul_comm 2 a, Nat.mul_assoc, Nat.mul_comm 2]
    omega
theorem join_snoc (ds : List Nat) (d : Nat) : join (ds ++ [d]) = 2 * join ds + d := by
  unfold join
  rw [List.foldl_append]
  rfl
theorem join_lt : ∀ {ds : List Nat}, (∀ d ∈ ds, d < 2) → join ds < 2 ^ ds.length := by
  intro ds
  induction ds with
  | nil => exact fun _ => by decide
  | cons d r ih =>
    intro h
    have e : join (d :: r) = d * 2 ^ r.length + join r := by
      show r.foldl _ (2 * 0 + d) = _
      rw [Nat.mul_zero, Nat.zero_add]
      exact join_from d r
    have h1 := ih fun x hx => h x (List.mem_cons_of_mem _ hx)
    have h2 := h d (List.mem_cons_self ..)
    rw [e, List.length_cons, Nat.pow_succ]
    have h3 : d = 0 ∨ d = 1 := by omega
    rcases h3 with rfl | rfl
    · omega
    · omega
/-- the z lowest bits, the highest first -/
def bits (x : Nat) : Nat → List Nat
  | 0 => []
  | z + 1 => bits (x / 2) z ++ [x % 2]
theorem bits_len : ∀ (z x : Nat), (bits x z).length = z
  | 0, x => rfl
  | z + 1, x => by
    show (bits (x / 2) z ++ [x % 2]).length = _
    rw [List.length_append, bits_len z]
    rfl
theorem bits_lt : ∀ (z x : Nat), ∀ d ∈ bits x z, d < 2
  | 0, x, d, h => absurd h (List.not_mem_nil)
  | z + 1, x, d, h => by
    rcases List.mem_append.mp h with h | h
    · exact bits_lt z _ d h
    · rw [List.mem_singleton] at h
      omega
theorem join_bits : ∀ (z x : Nat), x < 2 ^ z → join (bits x z) = x
  | 0, x, h => by
    have : x = 0 := by
      rw [Nat.pow_zero] at h
      omega
    rw [this]
    rfl
  | z + 1, x, h => by
    show join (bits (x / 2) z ++ [x % 2]) = x
    rw [Nat.pow_succ] at h
    rw [join_snoc, join_bits z (x / 2) (by omega)]
    omega
theorem bits_join : ∀ (z : Nat) (ds : List Nat), ds.length = z → (∀ d ∈ ds, d < 2) → bits (join ds) z = ds
  | 0, ds, h, _ => by
    rw [List.length_eq_zero_iff.mp h]
    rfl
  | z + 1, ds, h, hd => by
    have hne : ds ≠ [] := fun e => by rw [e] at h; cases h
    obtain ⟨l, d, rfl⟩ : ∃ l d, ds = l ++ [d] := ⟨ds.dropLast, ds.getLast hne, (List.dropLast_concat_getLast hne).symm⟩
    rw [List.length_append, List.length_singleton] at h
    have h1 := hd d (by simp)
    have h2 := bits_join z l (by omega) fun x hx => hd x (List.mem_append_left _ hx)
    rw [join_snoc]
    show bits ((2 * join l + d) / 2) z ++ [(2 * join l + d) % 2] = _
    rw [show (2 * join l + d) / 2 = join l by omega, show (2 * join l + d) % 2 = d by omega, h2]
theorem bits_at : ∀ (z x k : Nat), k < z → (bits x z)[k]? = some (x / 2 ^ (z - 1 - k) % 2)
  | 0, x, k, h => absurd h (Nat.not_lt_zero _)
  | z + 1, x, k, h => by
    show (bits (x / 2) z ++ [x % 2])[k]? = _
    by_cases e : k < z
    · rw [List.getElem?_append_left (by rw [bits_len]; exact e), bits_at z (x / 2) k e, Nat.div_div_eq_div_mul, ← Nat.pow_succ']
      rw [show (z - 1 - k).succ = z + 1 - 1 - k by omega]
    · have e2 : k = z := by omega
      subst e2
      rw [List.getElem?_append_right (by rw [bits_len]; exact Nat.le_refl _), bits_len, Nat.sub_self]
      rw [show k + 1 - 1 - k = 0 by omega, Nat.pow_zero, Nat.div_one]
      rfl
end Pg

/-! Own data layer: what slots hold as data, whatever the heap; expressions, statements and defs told by data alone. -/
namespace Ja
open PySem PySem.Spec PyProof.Rows L2 Evl Cm
mutual
/-- a value as data, its lists tracked -/
inductive Dt (K : PySem.W.Frag) (H : Hp) : V → PyData → Prop
  | non : Dt K H .non .none
  | bl (b : Bool) : Dt K H (.bl b) (.bool b)
  | int (i : Int) : Dt K H (.int i) (.int i)
  | str (x : Str) : Dt K H (.str x) (.str x)
  | lst {a : Addr} {xs : List V} {ds : List PyData} : H a = some (.lst xs) → DtAll K H xs ds → Dt K H (.ref a) (.list ds)
  | tup {a : Addr} {xs : List V} {ds : List PyData} : SqT K H a xs → DtAll K H xs ds → Dt K H (.ref a) (.tuple ds)
inductive DtAll (K : PySem.W.Frag) (H : Hp) : List V → List PyData → Prop
  | nil : DtAll K H [] []
  | cons {v : V} {vs : List V} {d : PyData} {ds : List PyData} : Dt K H v d → DtAll K H vs ds → DtAll K H (v :: vs) (d :: ds)
end
section
variable {K : PySem.W.Frag} {H H' : Hp}
mutual
theorem dt_mono (e : Ex H H') : ∀ (d : PyData) (v : V), Dt K H v d → Dt K H' v d
  | _, _, .non => .non
  | _, _, .bl b => .bl b
  | _, _, .int i => .int i
  | _, _, .str x => .str x
  | _, _, .lst h a => .lst (e _ _ h) (dts_mono e _ _ a)
  | _, _, .tup h a => .tup (ex_t e h) (dts_mono e _ _ a)
theorem dts_mono (e : Ex H H') : ∀ (ds : List PyData) (vs : List V), DtAll K H vs ds → DtAll K H' vs ds
  | _, _, .nil => .nil
  | _, _, .cons h t => .cons (dt_mono e _ _ h) (dts_mono e _ _ t)
end
mutual
theorem dt_dp : ∀ (d : PyData) (v : V), Dt K H v d → Dp K H v d
  | _, _, .non => .non
  | _, _, .bl b => .bl b
  | _, _, .int i => .int i
  | _, _, .str x => .str x
  | _, _, .lst h a => .lst (sq_of h) (dts_dp _ _ a)
  | _, _, .tup h a => .tup h (dts_dp _ _ a)
theorem dts_dp : ∀ (ds : List PyData) (vs : List V), DtAll K H vs ds → DpAll K H vs ds
  | _, _, .nil => .nil
  | _, _, .cons h t => .cons (dt_dp _ _ h) (dts_dp _ _ t)
end
theorem DtAll.len : ∀ {vs : List V} {ds : List PyData}, DtAll K H vs ds → vs.length = ds.length
  | _, _, .nil => rfl
  | _, _, .cons _ r => congrArg (· + 1) r.len
theorem DtAll.get : ∀ {vs : List V} {ds : List PyData}, DtAll K H vs ds → ∀ {i : Nat} {d : PyData}, ds[i]? = some d → ∃ v, vs[i]? = some v ∧ Dt K H v d
  | _, _, .cons h r, 0, d, e => by
    cases Option.some.inj e
    exact ⟨_, rfl, h⟩
  | _, _, .cons h r, i + 1, d, e => r.get (i := i) e
theorem DtAll.getV : ∀ {vs : List V} {ds : List PyData}, DtAll K H vs ds → ∀ {i : Nat} {v : V}, vs[i]? = some v → ∃ d, ds[i]? = some d ∧ Dt K H v d
  | _, _, .cons h r, 0, d, e => by
    cases Option.some.inj e
    exact ⟨_, rfl, h⟩
  | _, _, .cons h r, i + 1, d, e => r.getV (i := i) e
theorem DtAll.app : ∀ {vs ws : List V} {ds es : List PyData}, DtAll K H vs ds → DtAll K H ws es → DtAll K H (vs ++ ws) (ds ++ es)
  | _, _, _, _, .nil, h => h
  | _, _, _, _, .cons h r, h2 => .cons h (r.app h2)
theorem DtAll.one {v : V} {d : PyData} (h : Dt K H v d) : DtAll K H [v] [d] := .cons h .nil
theorem DtAll.take : ∀ {vs : List V} {ds : List PyData}, DtAll K H vs ds → ∀ n, DtAll K H (vs.take n) (ds.take n)
  | _, _, h, 0 => by
    rw [List.take_zero, List.take_zero]
    exact .nil
  | _, _, .nil, n + 1 => .nil
  | _, _, .cons h r, n + 1 => .cons h (r.take n)
theorem DtAll.drop : ∀ {vs : List V} {ds : List PyData}, DtAll K H vs ds → ∀ n, DtAll K H (vs.drop n) (ds.drop n)
  | _, _, h, 0 => h
  | _, _, .nil, n + 1 => .nil
  | _, _, .cons h r, n + 1 => r.drop n
theorem DtAll.of : ∀ {vs : List V} {ds : List PyData}, vs.length = ds.length → (∀ (i : Nat) v d, vs[i]? = some v → ds[i]? = some d → Dt K H v d) → DtAll K H vs ds
  | [], [], _, _ => .nil
  | [], _ :: _, h, _ => by simp at h
  | _ :: _, [], h, _ => by simp at h
  | v :: vs, d :: ds, h, g => .cons (g 0 v d rfl rfl) (DtAll.of (by simpa using h) fun i x y a b => g (i + 1) x y a b)
theorem DtAll.set : ∀ {vs : List V} {ds : List PyData}, DtAll K H vs ds → ∀ (i : Nat) {v : V} {d : PyData}, Dt K H v d → DtAll K H (vs.set i v) (ds.set i d)
  | _, _, .nil, _, _, _, _ => .nil
  | _, _, .cons h r, 0, _, _, g => .cons g r
  | _, _, .cons h r, i + 1, _, _, g => .cons h (r.set i g)
theorem DtAll.rev {vs : List V} {ds : List PyData} (h : DtAll K H vs ds) : DtAll K H vs.reverse ds.reverse := by
  have hl := h.len
  refine .of (by simpa using hl) fun i v d a b => ?_
  have hi : i < vs.length := by
    have := (List.getElem?_eq_some_iff.mp a).1
    simpa using this
  rw [List.getElem?_reverse hi] at a
  rw [List.getElem?_reverse (by omega)] at b
  obtain ⟨e, h1, h2⟩ := h.getV a
  rw [hl] at h1
  rw [h1] at b
  cases Option.some.inj b
  exact h2
theorem dt_ints : ∀ (ns : List Int), DtAll K H (ns.map V.int) (ns.map PyData.int)
  | [] => .nil
  | n :: r => .cons (.int n) (dt_ints r)
theorem dt_ints_inv : ∀ {vs : List V} (ns : List Int), DtAll K H vs (ns.map PyData.int) → vs = ns.map V.int
  | _, [], .nil => rfl
  | _, n :: r, .cons h t => by
    cases h
    rw [dt_ints_inv r t]
    rfl
theorem dt_strs_inv : ∀ {vs : List V} (ns : List Str), DtAll K H vs (ns.map PyData.str) → vs = ns.map V.str
  | _, [], .nil => rfl
  | _, n :: r, .cons h t => by
    cases h
    rw [dt_strs_inv r t]
    rfl
end
/-- what is true of a value, and stays so -/
structure MP where
  P : Hp → V → Prop
  mono : ∀ {B B' : Hp} {v : V}, Ex B B' → P B v → P B' v
inductive Sl where
  | no
  | raw (v : V)
  | dat (d : PyData)
  | own (ds : List PyData)
  | sem (m : MP)
abbrev nI (i : Int) : Sl := .dat (.int i)
abbrev nB (b : Bool) : Sl := .dat (.bool b)
abbrev nS (x : Str) : Sl := .dat (.str x)
/-- a list of ints that is only read -/
def scrP (K : PySem.W.Frag) (ns : List Int) : MP := ⟨fun B v => ∃ a, v = .ref a ∧ SqL K B a (ns.map V.int), fun e ⟨a, h1, h2⟩ => ⟨a, h1, ex_l e h2⟩⟩
/-- what a value is -/
def Is (K : PySem.W.Frag) (B : Hp) (v : V) : Sl → Prop
  | .raw w => v = w
  | .dat d => Dt K B v d
  | .sem m => m.P B v
  | _ => False
def Vl : Sl → Bool
  | .no => false
  | .own _ => false
  | _ => true
theorem Is.vl {K : PySem.W.Frag} {B : Hp} {v : V} : ∀ {s : Sl}, Is K B v s → Vl s = true
  | .raw _, _ => rfl
  | .dat _, _ => rfl
  | .sem _, _ => rfl
  | .no, h => h.elim
  | .own _, h => h.elim
inductive IsAll (K : PySem.W.Frag) (B : Hp) : List V → List Sl → Prop
  | nil : IsAll K B [] []
  | cons {v : V} {vs : List V} {s : Sl} {ss : List Sl} : Is K B v s → IsAll K B vs ss → IsAll K B (v :: vs) (s :: ss)
/-- no list at a -/
def NoL (H : Hp) (a : Addr) : Prop := ∀ xs, H a ≠ some (.lst xs)
theorem NoL.of {H : Hp} {a : Addr} (h : H a = none) : NoL H a := fun xs z => by
  rw [h] at z
  cases z
/-- from the base B and the heap H to B', H' -/
structure Stp (B H B' H' : Hp) : Prop where
  b : Ex B B'
  bh : Ex B' H'
  h : Ex H H'
  n : ∀ a, B' a ≠ none → B a ≠ none ∨ NoL H a
theorem Is.mono {K : PySem.W.Frag} {B B' : Hp} {v : V} (e : Ex B B') : ∀ {s : Sl}, Is K B v s → Is K B' v s
  | .raw _, h => h
  | .dat d, h => dt_mono e d v h
  | .sem m, h => m.mono e h
  | .no, h => h
  | .own _, h => h
theorem IsAll.mono {K : PySem.W.Frag} {B B' : Hp} (e : Ex B B') : ∀ {vs : List V} {ss : List Sl}, IsAll K B vs ss → IsAll K B' vs ss
  | _, _, .nil => .nil
  | _, _, .cons h r => .cons (h.mono e) (r.mono e)
theorem IsAll.len {K : PySem.W.Frag} {B : Hp} : ∀ {vs : List V} {ss : List Sl}, IsAll K B vs ss → vs.length = ss.length
  | _, _, .nil => rfl
  | _, _, .cons _ r => congrArg (· + 1) r.len
theorem Stp.refl {B H : Hp} (e : Ex B H) : Stp B H B H := ⟨.refl _, e, .refl _, fun a h => .inl h⟩
theorem none_of {H H' : Hp} {a : Addr} (e : Ex H H') (h : H' a = none) : H a = none := fresh_back e h
theorem Stp.trans {B H B1 H1 B2 H2 : Hp} (x : Stp B H B1 H1) (y : Stp B1 H1 B2 H2) : Stp B H B2 H2 := ⟨x.b.trans y.b, y.bh, x.h.trans y.h, fun a h => by
  rcases y.n a h with h | h
  · exact x.n a h
  · exact .inr fun xs z => h xs (x.h _ _ z)⟩
/-- a new object -/
theorem Stp.new {B H : Hp} {p : Addr} {o : HO} (e : Ex B H) (hp : H p = none) : Stp B H (upd B p o) (upd H p o) := by
  have hb : B p = none := none_of e hp
  refine ⟨Ex.new hb, fun a u h => ?_, Ex.new hp, fun a h => ?_⟩
  · by_cases z : a = p
    · subst z
      rw [upd_same] at h ⊢
      exact h
    · rw [upd_ne z] at h ⊢
      exact e a u h
  · by_cases z : a = p
    · subst z
      exact .inr (.of hp)
    · rw [upd_ne z] at h
      exact .inl h
/-- slots, as data over the base B; lists of its own beside it -/
structure Sc (K : PySem.W.Frag) (B0 H0 B H : Hp) (σ : L2.St) (δ : List Sl) : Prop where
  st : Stp B0 H0 B H
  len : σ.length = δ.length
  val : ∀ (i : Nat) (s : Sl), δ[i]? = some s → Vl s = true → ∃ v, σ[i]? = some (some v) ∧ Is K B v s
  own : ∀ (i : Nat) (ds : List PyData), δ[i]? = some (Sl.own ds) → ∃ l vs, σ[i]? = some (some (V.ref l)) ∧ H l = some (.lst vs) ∧ B l = none ∧ H0 l = none ∧ DtAll K B vs ds
  dis : ∀ (i j : Nat) (ds es : List PyData) (l : Addr), δ[i]? = some (Sl.own ds) → δ[j]? = some (Sl.own es) → σ[i]? = some (some (V.ref l)) → σ[j]? = some (some (V.ref l)) → i = j
section
variable {K : PySem.W.Frag} {B0 H0 B H B' H' : Hp} {σ : L2.St} {δ : List Sl}
/-- on to a later base and heap: nothing of its own has changed -/
theorem Sc.go (h : Sc K B0 H0 B H σ δ) (s : Stp B H B' H') : Sc K B0 H0 B' H' σ δ := by
  refine ⟨h.st.trans s, h.len, fun i t hi ht => ?_, fun i ds hi => ?_, h.dis⟩
  · obtain ⟨v, h1, h2⟩ := h.val i t hi ht
    exact ⟨v, h1, h2.mono s.b⟩
  · obtain ⟨l, vs, h1, h2, h3, h4, h5⟩ := h.own i ds hi
    refine ⟨l, vs, h1, s.h l _ h2, ?_, h4, dts_mono s.b ds vs h5⟩
    cases e : B' l with
    | none => rfl
    | some o =>
      rcases s.n l (by rw [e]; exact fun z => by cases z) with z | z
      · exact absurd h3 z
      · exact absurd h2 (z vs)
theorem get_set_cases {α : Type} {l : List α} {i j : Nat} {x y : α} (h : (l.set i x)[j]? = some y) : (i = j ∧ x = y ∧ i < l.length) ∨ (i ≠ j ∧ l[j]? = some y) := by
  by_cases e : i = j
  · subst e
    rw [List.getElem?_set_self'] at h
    cases hl : l[i]? with
    | none =>
      rw [hl] at h
      cases h
    | some z =>
      rw [hl] at h
      exact .inl ⟨rfl, Option.some.inj h, (List.getElem?_eq_some_iff.mp hl).1⟩
  · rw [List.getElem?_set_ne e] at h
    exact .inr ⟨e, h⟩
theorem get_set_ne {α : Type} {l : List α} {i j : Nat} {x y : α} (e : i ≠ j) (h : l[j]? = some y) : (l.set i x)[j]? = some y := by
  rw [List.getElem?_set_ne e]
  exact h
theorem get_set_eq {α : Type} {l : List α} {i : Nat} {x : α} (h : i < l.length) : (l.set i x)[i]? = some x := by
  rw [List.getElem?_set_self h]
/-- a slot takes a value of which s is true, or nothing is said of it any more -/
theorem Sc.set' (h : Sc K B0 H0 B H σ δ) {o : Option V} {s : Sl} (i : Nat) (hv : (∃ v, o = some v ∧ Is K B v s) ∨ s = .no) : Sc K B0 H0 B H (σ.set i o) (δ.set i s) := by
  have hn : ∀ {j : Nat} {ds : List PyData}, (δ.set i s)[j]? = some (Sl.own ds) → i ≠ j ∧ δ[j]? = some (Sl.own ds) := fun {j ds} hj => by
    rcases get_set_cases hj with ⟨e1, e2, e3⟩ | ⟨e1, e2⟩
    · rcases hv with ⟨v, _, hv⟩ | hv
      · rw [e2] at hv
        exact hv.elim
      · rw [hv] at e2
        cases e2
    · exact ⟨e1, e2⟩
  refine ⟨h.st, by rw [List.length_set, List.length_set, h.len], fun j t hj ht => ?_, fun j ds hj => ?_, fun j k ds es l hj hk h1 h2 => ?_⟩
  · rcases get_set_cases hj with ⟨rfl, e2, e3⟩ | ⟨e1, e2⟩
    · subst e2
      rcases hv with ⟨v, rfl, hv⟩ | hv
      · exact ⟨v, get_set_eq (by rw [h.len]; exact e3), hv⟩
      · rw [hv] at ht
        cases ht
    · obtain ⟨w, h1, h2⟩ := h.val j t e2 ht
      exact ⟨w, get_set_ne e1 h1, h2⟩
  · obtain ⟨e1, e2⟩ := hn hj
    obtain ⟨l, vs, h1, h2⟩ := h.own j ds e2
    exact ⟨l, vs, get_set_ne e1 h1, h2⟩
  · obtain ⟨e1, e2⟩ := hn hj
    obtain ⟨e3, e4⟩ := hn hk
    rw [List.getElem?_set_ne e1] at h1
    rw [List.getElem?_set_ne e3] at h2
    exact h.dis j k ds es l e2 e4 h1 h2
theorem Sc.set (h : Sc K B0 H0 B H σ δ) {v : V} {s : Sl} (i : Nat) (hv : Is K B v s) : Sc K B0 H0 B H (σ.set i (some v)) (δ.set i s) := h.set' i (.inl ⟨v, rfl, hv⟩)
/-- .. with any value in it -/
theorem Sc.put (h : Sc K B0 H0 B H σ δ) (i : Nat) (o : Option V) : Sc K B0 H0 B H (σ.set i o) (δ.set i Sl.no) := h.set' i (.inr rfl)
/-- a new list of its own -/
theorem Sc.setO (h : Sc K B0 H0 B H σ δ) {l : Addr} {vs : List V} {ds : List PyData} (i : Nat) (h1 : H l = some (.lst vs)) (h2 : B l = none) (h3 : H0 l = none) (h4 : DtAll K B vs ds) (h5 : ∀ (j : Nat) (es : List PyData), i ≠ j → δ[j]? = some (Sl.own es) → σ[j]? ≠ some (some (V.ref l))) : Sc K B0 H0 B H (σ.set i (some (V.ref l))) (δ.set i (Sl.own ds)) := by
  refine ⟨h.st, by rw [List.length_set, List.length_set, h.len], fun j t hj ht => ?_, fun j es hj => ?_, fun j k es fs m hj hk g1 g2 => ?_⟩
  · rcases get_set_cases hj with ⟨_, e2, _⟩ | ⟨e1, e2⟩
    · subst e2
      cases ht
    · obtain ⟨w, g1, g2⟩ := h.val j t e2 ht
      exact ⟨w, get_set_ne e1 g1, g2⟩
  · rcases get_set_cases hj with ⟨rfl, e2, e3⟩ | ⟨e1, e2⟩
    · cases e2
      exact ⟨l, vs, get_set_eq (by rw [h.len]; exact e3), h1, h2, h3, h4⟩
    · obtain ⟨m, ws, g1, g2⟩ := h.own j es e2
      exact ⟨m, ws, get_set_ne e1 g1, g2⟩
  · rcases get_set_cases hj with ⟨rfl, e2, e3⟩ | ⟨e1, e2⟩
    · rcases get_set_cases hk with ⟨rfl, _, _⟩ | ⟨f1, f2⟩
      · rfl
      · rw [get_set_eq (by rw [h.len]; exact e3)] at g1
        rw [List.getElem?_set_ne f1] at g2
        cases Option.some.inj (Option.some.inj g1)
        exact absurd g2 (h5 k fs f1 f2)
    · rcases get_set_cases hk with ⟨rfl, _, f3⟩ | ⟨f1, f2⟩
      · rw [get_set_eq (by rw [h.len]; exact f3)] at g2
        rw [List.getElem?_set_ne e1] at g1
        cases Option.some.inj (Option.some.inj g2)
        exact absurd g1 (h5 j es e1 e2)
      · rw [List.getElem?_set_ne e1] at g1
        rw [List.getElem?_set_ne f1] at g2
        exact h.dis j k es fs m e2 f2 g1 g2
/-- a list of its own that was changed -/
theorem Sc.mut (h : Sc K B0 H0 B H σ δ) {i : Nat} {ds es : List PyData} {l : Addr} {ws : List V} (hi : δ[i]? = some (Sl.own ds)) (hl : σ[i]? = some (some (V.ref l))) (hw : DtAll K B ws es) : Sc K B0 H0 B (upd H l (.lst ws)) σ (δ.set i (Sl.own es)) := by
  obtain ⟨l', vs, g1, g2, g3, g4, g5⟩ := h.own i ds hi
  rw [hl] at g1
  cases Option.some.inj (Option.some.inj g1)
  have hlt : i < δ.length := (List.getElem?_eq_some_iff.mp hi).1
  refine ⟨⟨h.st.b, fun a o ha => ?_, Ex.mut h.st.h g4, h.st.n⟩, by rw [List.length_set, h.len], fun j t hj ht => ?_, fun j fs hj => ?_, fun j k fs hs m hj hk k1 k2 => ?_⟩
  · rw [upd_ne (fun z => by rw [z, g3] at ha; cases ha)]
    exact h.st.bh a o ha
  · rcases get_set_cases hj with ⟨_, e2, _⟩ | ⟨e1, e2⟩
    · subst e2
      cases ht
    · exact h.val j t e2 ht
  · rcases get_set_cases hj with ⟨rfl, e2, e3⟩ | ⟨e1, e2⟩
    · cases e2
      exact ⟨l, ws, hl, upd_same, g3, g4, hw⟩
    · obtain ⟨m, us, q1, q2, q3⟩ := h.own j fs e2
      refine ⟨m, us, q1, ?_, q3⟩
      rw [upd_ne (fun z => by
        subst z
        exact e1 (h.dis i j ds fs m hi e2 hl q1))]
      exact q2
  · have same : ∀ {j : Nat} {fs : List PyData}, (δ.set i (Sl.own es))[j]? = some (Sl.own fs) → ∃ gs, δ[j]? = some (Sl.own gs) := fun {j fs} hj => by
      rcases get_set_cases hj with ⟨rfl, _, _⟩ | ⟨e1, e2⟩
      · exact ⟨ds, hi⟩
      · exact ⟨fs, e2⟩
    obtain ⟨_, s1⟩ := same hj
    obtain ⟨_, s2⟩ := same hk
    exact h.dis j k _ _ m s1 s2 k1 k2
/-- a list of its own, from now on data -/
theorem Sc.freeze (h : Sc K B0 H0 B H σ δ) {i : Nat} {ds : List PyData} (hi : δ[i]? = some (Sl.own ds)) : ∃ B', Ex B B' ∧ Sc K B0 H0 B' H σ (δ.set i (Sl.dat (.list ds))) := by
  obtain ⟨l, vs, g1, g2, g3, g4, g5⟩ := h.own i ds hi
  have eb : Ex B (upd B l (.lst vs)) := Ex.new g3
  have bh : Ex (upd B l (.lst vs)) H := fun a o ha => by
    by_cases z : a = l
    · subst z
      rw [upd_same] at ha
      rw [g2]
      exact ha
    · rw [upd_ne z] at ha
      exact h.st.bh a o ha
  refine ⟨upd B l (.lst vs), eb, ⟨h.st.b.trans eb, bh, h.st.h, fun a ha => ?_⟩, by rw [List.length_set, h.len], fun j t hj ht => ?_, fun j es hj => ?_, fun j k fs hs m hj hk k1 k2 => ?_⟩
  · by_cases z : a = l
    · subst z
      exact .inr (.of g4)
    · rw [upd_ne z] at ha
      exact h.st.n a ha
  · rcases get_set_cases hj with ⟨rfl, e2, e3⟩ | ⟨e1, e2⟩
    · subst e2
      exact ⟨V.ref l, g1, .lst upd_same (dts_mono eb ds vs g5)⟩
    · obtain ⟨w, q1, q2⟩ := h.val j t e2 ht
      exact ⟨w, q1, q2.mono eb⟩
  · rcases get_set_cases hj with ⟨_, e2, _⟩ | ⟨e1, e2⟩
    · cases e2
    · obtain ⟨m, us, q1, q2, q3, q4, q5⟩ := h.own j es e2
      refine ⟨m, us, q1, q2, ?_, q4, dts_mono eb es us q5⟩
      rw [upd_ne (fun z => by
        subst z
        exact e1 (h.dis i j ds es m hi e2 g1 q1))]
      exact q3
  · rcases get_set_cases hj with ⟨_, e2, _⟩ | ⟨e1, e2⟩
    · cases e2
    · rcases get_set_cases hk with ⟨_, f2, _⟩ | ⟨f1, f2⟩
      · cases f2
      · exact h.dis j k fs hs m e2 f2 k1 k2
/-- at the entry of a def -/
theorem sc_start {vs : List V} {ss : List Sl} (n : Nat) (e : Ex B H) (h : IsAll K B vs ss) : Sc K B H B H (vs.map some ++ List.replicate n none) (ss ++ List.replicate n Sl.no) := by
  have hl := h.len
  have key : ∀ {vs : List V} {ss : List Sl}, IsAll K B vs ss → ∀ (i : Nat) (s : Sl), ss[i]? = some s → ∃ v, vs[i]? = some v ∧ Is K B v s := by
    intro vs ss h
    induction h with
    | nil => intro i s hi; simp at hi
    | cons h r ih =>
      intro i s hi
      cases i with
      | zero =>
        cases Option.some.inj hi
        exact ⟨_, rfl, h⟩
      | succ i => exact ih i s hi
  have g : ∀ (i : Nat) (s : Sl), (ss ++ List.replicate n Sl.no)[i]? = some s → s ≠ .no → ∃ v, (vs.map some ++ List.replicate n none)[i]? = some (some v) ∧ Is K B v s := fun i s hi hs => by
    by_cases z : i < ss.length
    · rw [List.getElem?_append_left z] at hi
      obtain ⟨v, h1, h2⟩ := key h i s hi
      exact ⟨v, by rw [List.getElem?_append_left (by rw [List.length_map]; omega), List.getElem?_map, h1]; rfl, h2⟩
    · rw [List.getElem?_append_right (by omega)] at hi
      have := (List.mem_replicate.mp (List.mem_of_getElem? hi)).2
      exact absurd this hs
  refine ⟨.refl e, by simp [hl], fun i t hi ht => g i t hi (by intro z; rw [z] at ht; cases ht), fun i ds hi => ?_, fun i j ds es l hi hj h1 h2 => ?_⟩
  · obtain ⟨w, h1, h2⟩ := g i _ hi (by intro z; cases z)
    exact h2.elim
  · obtain ⟨w, _, h3⟩ := g i _ hi (by intro z; cases z)
    exact h3.elim
end
end Ja

/-! Own data layer: expressions. -/
namespace Ja
open PySem PySem.Spec PyProof.Rows L2 Evl Cm
/-- an expression gives a value of which s is true -/
def EvS (K : PySem.W.Frag) (B0 H0 : Hp) (te : TE) (δ : List Sl) (s : Sl) : Prop := ∀ B H σ, Sc K B0 H0 B H σ δ → ∀ Q : VK, (∀ v B' H', Stp B H B' H' → Is K B' v s → Q v H') → te σ H Q
/-- a new list of these -/
def EvN (K : PySem.W.Frag) (B0 H0 : Hp) (te : TE) (δ : List Sl) (ds : List PyData) : Prop := ∀ B H σ, Sc K B0 H0 B H σ δ → ∀ Q : VK, (∀ l vs B' H', Stp B H B' H' → H l = none → B' l = none → H' l = some (.lst vs) → DtAll K B' vs ds → Q (.ref l) H') → te σ H Q
/-- some data of which P is true -/
def EvR (K : PySem.W.Frag) (B0 H0 : Hp) (te : TE) (δ : List Sl) (P : PyData → Prop) : Prop := ∀ B H σ, Sc K B0 H0 B H σ δ → ∀ Q : VK, (∀ v d B' H', P d → Stp B H B' H' → Dt K B' v d → Q v H') → te σ H Q
def EvB (K : PySem.W.Frag) (B0 H0 : Hp) (tt : TT) (δ : List Sl) (b : Bool) : Prop := ∀ B H σ, Sc K B0 H0 B H σ δ → ∀ Q : Bool → Hp → Prop, (∀ B' H', Stp B H B' H' → Q b H') → tt σ H Q
def EvA (K : PySem.W.Frag) (B0 H0 : Hp) (ta : TA) (δ : List Sl) (ss : List Sl) : Prop := ∀ B H σ, Sc K B0 H0 B H σ δ → ∀ Q : List V → Hp → Prop, (∀ vs B' H', Stp B H B' H' → IsAll K B' vs ss → Q vs H') → ta σ H Q
/-- all of them data -/
def EvD (K : PySem.W.Frag) (B0 H0 : Hp) (ta : TA) (δ : List Sl) (ds : List PyData) : Prop := ∀ B H σ, Sc K B0 H0 B H σ δ → ∀ Q : List V → Hp → Prop, (∀ vs B' H', Stp B H B' H' → DtAll K B' vs ds → Q vs H') → ta σ H Q
def EvO (K : PySem.W.Frag) (B0 H0 : Hp) (to : TO) (δ : List Sl) (o : Option Int) : Prop := ∀ B H σ, Sc K B0 H0 B H σ δ → ∀ Q : Option Int → Hp → Prop, (∀ B' H', Stp B H B' H' → Q o H') → to σ H Q
/-- values that are the same in every heap -/
inductive Sv : V → PyData → Prop
  | non : Sv .non .none
  | bl (b : Bool) : Sv (.bl b) (.bool b)
  | int (i : Int) : Sv (.int i) (.int i)
  | str (x : Str) : Sv (.str x) (.str x)
section
variable {K : PySem.W.Frag} {B0 H0 B H B' H' : Hp} {σ : L2.St} {δ : List Sl} {ta tb tc td te : TE} {tt tu : TT} {r r' : R2} {s s' : Sl} {d e : PyData} {ds es : List PyData} {i j k : Int} {b c : Bool} {x y z : V}
theorem Sv.eq {v : V} (h : Sv x d) (g : Dt K B v d) : v = x := by
  cases h <;> cases g <;> rfl
theorem Sv.dt (h : Sv x d) : Dt K B x d := by
  cases h
  · exact .non
  · exact .bl _
  · exact .int _
  · exact .str _
theorem bh (h : Sc K B0 H0 B H σ δ) : Ex B H := h.st.bh
theorem Stp.same (e : Ex B H) (h : Ex H H') : Stp B H B H' := ⟨.refl _, e.trans h, h, fun a q => .inl q⟩
/-! ### leaves -/
theorem d_var {n : Nat} (h : δ[n]? = some s) (hv : Vl s = true := by rfl) : EvS K B0 H0 (tVar n) δ s := fun B H σ S Q q => by
  obtain ⟨v, h1, h2⟩ := S.val n s h hv
  exact ⟨v, h1, q v B H (.refl S.st.bh) h2⟩
theorem d_ci : EvS K B0 H0 (tC (.int i)) δ (nI i) := fun B H σ S Q q => q _ B H (.refl S.st.bh) (Dt.int i)
theorem d_cb : EvS K B0 H0 (tC (.bl b)) δ (nB b) := fun B H σ S Q q => q _ B H (.refl S.st.bh) (Dt.bl b)
theorem d_cs {x : Str} : EvS K B0 H0 (tC (.str x)) δ (nS x) := fun B H σ S Q q => q _ B H (.refl S.st.bh) (Dt.str x)
theorem d_cn : EvS K B0 H0 (tC .non) δ (.dat .none) := fun B H σ S Q q => q _ B H (.refl S.st.bh) Dt.non
theorem d_cr {v : V} : EvS K B0 H0 (tC v) δ (.raw v) := fun B H σ S Q q => q _ B H (.refl S.st.bh) rfl
theorem d_is (h : EvS K B0 H0 te δ s) (e : s = s') : EvS K B0 H0 te δ s' := e ▸ h
theorem d_isI (h : EvS K B0 H0 te δ (nI i)) (e : i = j) : EvS K B0 H0 te δ (nI j) := e ▸ h
theorem d_isB (h : EvS K B0 H0 te δ (nB b)) (e : b = c) : EvS K B0 H0 te δ (nB c) := e ▸ h
theorem b_is (h : EvB K B0 H0 tt δ b) (e : b = c) : EvB K B0 H0 tt δ c := e ▸ h
theorem r_of (h : EvS K B0 H0 te δ (.dat d)) {P : PyData → Prop} (hp : P d) : EvR K B0 H0 te δ P := fun B H σ S Q q => h B H σ S Q fun v B' H' st iv => q v d B' H' hp st iv
theorem r_imp {P P' : PyData → Prop} (h : EvR K B0 H0 te δ P) (hp : ∀ d, P d → P' d) : EvR K B0 H0 te δ P' := fun B H σ S Q q => h B H σ S Q fun v d B' H' p st iv => q v d B' H' (hp d p) st iv
/-! ### operators on values that are the same in every heap -/
theorem d_op (ha : EvS K B0 H0 ta δ (.dat d)) (hb : EvS K B0 H0 tb δ (.dat e)) (sx : Sv x d) (sy : Sv y e) (hr : ∀ H, RV r x y H z) {f : PyData} (sz : Sv z f) : EvS K B0 H0 (tOp r ta tb) δ (.dat f) := fun B H σ S Q q =>
  ha B H σ S _ fun v B1 H1 s1 i1 => hb B1 H1 σ (S.go s1) _ fun w B2 H2 s2 i2 => by
    rw [sx.eq i1, sy.eq i2]
    exact hr H2 H2 (.refl _) Q fun H3 e3 => q z B2 H3 ((s1.trans s2).trans (.same s2.bh e3)) sz.dt
theorem d_ii (ha : EvS K B0 H0 ta δ (nI i)) (hb : EvS K B0 H0 tb δ (nI j)) (hr : ∀ H, RV r (.int i) (.int j) H (.int k)) : EvS K B0 H0 (tOp r ta tb) δ (nI k) := d_op ha hb (.int i) (.int j) hr (.int k)
theorem d_iib (ha : EvS K B0 H0 ta δ (nI i)) (hb : EvS K B0 H0 tb δ (nI j)) (hr : ∀ H, RV r (.int i) (.int j) H (.bl b)) : EvS K B0 H0 (tOp r ta tb) δ (nB b) := d_op ha hb (.int i) (.int j) hr (.bl b)
theorem d_bbb {b1 b2 : Bool} (ha : EvS K B0 H0 ta δ (nB b1)) (hb : EvS K B0 H0 tb δ (nB b2)) (hr : ∀ H, RV r (.bl b1) (.bl b2) H (.bl b)) : EvS K B0 H0 (tOp r ta tb) δ (nB b) := d_op ha hb (.bl b1) (.bl b2) hr (.bl b)
theorem d_ssb {x y : Str} (ha : EvS K B0 H0 ta δ (nS x)) (hb : EvS K B0 H0 tb δ (nS y)) (hr : ∀ H, RV r (.str x) (.str y) H (.bl b)) : EvS K B0 H0 (tOp r ta tb) δ (nB b) := d_op ha hb (.str x) (.str y) hr (.bl b)
theorem d_sss {x y z : Str} (ha : EvS K B0 H0 ta δ (nS x)) (hb : EvS K B0 H0 tb δ (nS y)) (hr : ∀ H, RV r (.str x) (.str y) H (.str z)) : EvS K B0 H0 (tOp r ta tb) δ (nS z) := d_op ha hb (.str x) (.str y) hr (.str z)
theorem d_sis {x z : Str} (ha : EvS K B0 H0 ta δ (nS x)) (hb : EvS K B0 H0 tb δ (nI j)) (hr : ∀ H, RV r (.str x) (.int j) H (.str z)) : EvS K B0 H0 (tOp r ta tb) δ (nS z) := d_op ha hb (.str x) (.int j) hr (.str z)
/-- a sum, a difference, a test of two ints: nothing is asked -/
theorem d_i0 {g : Int → Int → Int} (ha : EvS K B0 H0 ta δ (nI i)) (hb : EvS K B0 H0 tb δ (nI j)) : EvS K B0 H0 (tOp (rI0 fun i j => .int (g i j)) ta tb) δ (nI (g i j)) := d_ii ha hb fun _ => rv_I0
theorem d_b0 {g : Int → Int → Bool} (ha : EvS K B0 H0 ta δ (nI i)) (hb : EvS K B0 H0 tb δ (nI j)) : EvS K B0 H0 (tOp (rI0 fun i j => .bl (g i j)) ta tb) δ (nB (g i j)) := d_iib ha hb fun _ => rv_I0
theorem d_iC {C : Int → Int → Prop} {g : Int → Int → Int} (ha : EvS K B0 H0 ta δ (nI i)) (hb : EvS K B0 H0 tb δ (nI j)) (hc : C i j) : EvS K B0 H0 (tOp (rI C fun i j => .int (g i j)) ta tb) δ (nI (g i j)) := d_ii ha hb fun _ => rv_I hc
theorem d_eqI (ha : EvS K B0 H0 ta δ (nI i)) (hb : EvS K B0 H0 tb δ (nI j)) : EvS K B0 H0 (tOp rEq ta tb) δ (nB (decide (i = j))) := d_iib ha hb fun _ H e Q q => rv_eq rfl H e Q fun H1 e1 => by
  have h := q H1 e1
  rw [show decide (V.int i = V.int j) = decide (i = j) from decide_eq_decide.mpr ⟨fun z => by cases z; rfl, fun z => by rw [z]⟩]
  exact h
theorem d_neI (ha : EvS K B0 H0 ta δ (nI i)) (hb : EvS K B0 H0 tb δ (nI j)) : EvS K B0 H0 (tOp rNe ta tb) δ (nB (!decide (i = j))) := d_iib ha hb fun _ H e Q q => rv_ne rfl H e Q fun H1 e1 => by
  have h := q H1 e1
  rw [show decide (V.int i = V.int j) = decide (i = j) from decide_eq_decide.mpr ⟨fun z => by cases z; rfl, fun z => by rw [z]⟩]
  exact h
theorem d_eqB {b1 b2 : Bool} (ha : EvS K B0 H0 ta δ (nB b1)) (hb : EvS K B0 H0 tb δ (nB b2)) : EvS K B0 H0 (tOp rEq ta tb) δ (nB (decide (b1 = b2))) := d_bbb ha hb fun _ H e Q q => rv_eq rfl H e Q fun H1 e1 => by
  have h := q H1 e1
  rw [show decide (V.bl b1 = V.bl b2) = decide (b1 = b2) from decide_eq_decide.mpr ⟨fun z => by cases z; rfl, fun z => by rw [z]⟩]
  exact h
theorem d_neB {b1 b2 : Bool} (ha : EvS K B0 H0 ta δ (nB b1)) (hb : EvS K B0 H0 tb δ (nB b2)) : EvS K B0 H0 (tOp rNe ta tb) δ (nB (!decide (b1 = b2))) := d_bbb ha hb fun _ H e Q q => rv_ne rfl H e Q fun H1 e1 => by
  have h := q H1 e1
  rw [show decide (V.bl b1 = V.bl b2) = decide (b1 = b2) from decide_eq_decide.mpr ⟨fun z => by cases z; rfl, fun z => by rw [z]⟩]
  exact h
theorem d_eqS {x y : Str} (ha : EvS K B0 H0 ta δ (nS x)) (hb : EvS K B0 H0 tb δ (nS y)) : EvS K B0 H0 (tOp rEq ta tb) δ (nB (decide (x = y))) := d_ssb ha hb fun _ H e Q q => rv_eq rfl H e Q fun H1 e1 => by
  have h := q H1 e1
  rw [show decide (V.str x = V.str y) = decide (x = y) from decide_eq_decide.mpr ⟨fun z => by cases z; rfl, fun z => by rw [z]⟩]
  exact h
theorem d_neS {x y : Str} (ha : EvS K B0 H0 ta δ (nS x)) (hb : EvS K B0 H0 tb δ (nS y)) : EvS K B0 H0 (tOp rNe ta tb) δ (nB (!decide (x = y))) := d_ssb ha hb fun _ H e Q q => rv_ne rfl H e Q fun H1 e1 => by
  have h := q H1 e1
  rw [show decide (V.str x = V.str y) = decide (x = y) from decide_eq_decide.mpr ⟨fun z => by cases z; rfl, fun z => by rw [z]⟩]
  exact h
theorem d_neg (ha : EvS K B0 H0 ta δ (nI i)) : EvS K B0 H0 (tUn (rU fun i => .int (-i)) ta) δ (nI (-i)) := fun B H σ S Q q => ha B H σ S _ fun v B1 H1 s1 i1 => by
  cases i1
  exact ⟨i, rfl, q _ B1 H1 s1 (Dt.int _)⟩
/-! ### tests -/
theorem b_test (h : EvS K B0 H0 te δ (nB b)) : EvB K B0 H0 (tTest te) δ b := fun B H σ S Q q => h B H σ S _ fun v B1 H1 s1 i1 => by
  cases i1
  exact ⟨b, rfl, q B1 H1 s1⟩
theorem b_val (h : EvS K B0 H0 te δ (nB b)) : EvB K B0 H0 (tB te) δ b := fun B H σ S Q q => h B H σ S _ fun v B1 H1 s1 i1 => by
  cases i1
  exact ⟨b, rfl, q B1 H1 s1⟩
theorem b_and (h1 : EvB K B0 H0 tt δ b) (h2 : b = true → EvB K B0 H0 tu δ c) : EvB K B0 H0 (tAnd tt tu) δ (b && c) := fun B H σ S Q q => h1 B H σ S _ fun B1 H1 s1 => by
  cases b with
  | true => exact h2 rfl B1 H1 σ (S.go s1) Q fun B2 H2 s2 => q B2 H2 (s1.trans s2)
  | false => exact q B1 H1 s1
theorem b_or (h1 : EvB K B0 H0 tt δ b) (h2 : b = false → EvB K B0 H0 tu δ c) : EvB K B0 H0 (tOr tt tu) δ (b || c) := fun B H σ S Q q => h1 B H σ S _ fun B1 H1 s1 => by
  cases b with
  | false => exact h2 rfl B1 H1 σ (S.go s1) Q fun B2 H2 s2 => q B2 H2 (s1.trans s2)
  | true => exact q B1 H1 s1
theorem b_not (h : EvB K B0 H0 tt δ b) : EvB K B0 H0 (tNot tt) δ (!b) := fun B H σ S Q q => h B H σ S _ fun B1 H1 s1 => q B1 H1 s1
theorem b_yes : EvB K B0 H0 tYes δ true := fun B H σ S Q q => q B H (.refl S.st.bh)
theorem d_andV (h1 : EvS K B0 H0 ta δ (nB b)) (h2 : b = true → EvS K B0 H0 tb δ (nB c)) : EvS K B0 H0 (tAndV ta tb) δ (nB (b && c)) := fun B H σ S Q q => h1 B H σ S _ fun v B1 H1 s1 i1 => by
  cases i1
  refine ⟨b, rfl, ?_⟩
  cases b with
  | true => exact h2 rfl B1 H1 σ (S.go s1) Q fun v B2 H2 s2 i2 => q v B2 H2 (s1.trans s2) i2
  | false => exact q _ B1 H1 s1 (Dt.bl _)
theorem d_orV (h1 : EvS K B0 H0 ta δ (nB b)) (h2 : b = false → EvS K B0 H0 tb δ (nB c)) : EvS K B0 H0 (tOrV ta tb) δ (nB (b || c)) := fun B H σ S Q q => h1 B H σ S _ fun v B1 H1 s1 i1 => by
  cases i1
  refine ⟨b, rfl, ?_⟩
  cases b with
  | false => exact h2 rfl B1 H1 σ (S.go s1) Q fun v B2 H2 s2 i2 => q v B2 H2 (s1.trans s2) i2
  | true => exact q _ B1 H1 s1 (Dt.bl _)
theorem d_notV (h : EvS K B0 H0 ta δ (nB b)) : EvS K B0 H0 (tNotV ta) δ (nB (!b)) := fun B H σ S Q q => h B H σ S _ fun v B1 H1 s1 i1 => by
  cases i1
  exact ⟨b, rfl, q _ B1 H1 s1 (Dt.bl _)⟩
theorem d_if (h : EvB K B0 H0 tt δ b) (h1 : b = true → EvS K B0 H0 ta δ s) (h2 : b = false → EvS K B0 H0 tb δ s) : EvS K B0 H0 (tIf tt ta tb) δ s := fun B H σ S Q q => h B H σ S _ fun B1 H1 s1 => by
  cases b with
  | true => exact h1 rfl B1 H1 σ (S.go s1) Q fun v B2 H2 s2 i2 => q v B2 H2 (s1.trans s2) i2
  | false => exact h2 rfl B1 H1 σ (S.go s1) Q fun v B2 H2 s2 i2 => q v B2 H2 (s1.trans s2) i2
/-- a < b < c of ints -/
theorem d_chain (ha : EvS K B0 H0 ta δ (nI i)) (hb : EvS K B0 H0 tb δ (nI j)) (hc : EvS K B0 H0 tc δ (nI k)) (h1 : ∀ H, RV r (.int i) (.int j) H (.bl b)) (h2 : ∀ H, RV r' (.int j) (.int k) H (.bl c)) : EvS K B0 H0 (tChain r r' ta tb tc) δ (nB (b && c)) := fun B H σ S Q q => by
  refine ha B H σ S _ fun v B1 H1 s1 i1 => hb B1 H1 σ (S.go s1) _ fun w B2 H2 s2 i2 => ?_
  cases i1
  cases i2
  refine h1 H2 H2 (.refl _) _ fun H3 e3 => ⟨b, rfl, ?_⟩
  have s3 := (s1.trans s2).trans (.same s2.bh e3)
  cases b with
  | true =>
    refine hc B2 H3 σ (S.go s3) _ fun u B4 H4 s4 i4 => ?_
    cases i4
    exact h2 H4 H4 (.refl _) Q fun H5 e5 => q _ B4 H5 ((s3.trans s4).trans (.same s4.bh e5)) (Dt.bl _)
  | false => exact q _ B2 H3 s3 (Dt.bl _)
/-! ### arguments, displays -/
theorem a_nil : EvA K B0 H0 tNil δ [] := fun B H σ S Q q => q [] B H (.refl S.st.bh) .nil
theorem a_cons {tr : TA} {ss : List Sl} (h : EvS K B0 H0 ta δ s) (hr : EvA K B0 H0 tr δ ss) : EvA K B0 H0 (tCons ta tr) δ (s :: ss) := fun B H σ S Q q =>
  h B H σ S _ fun v B1 H1 s1 i1 => hr B1 H1 σ (S.go s1) _ fun vs B2 H2 s2 i2 => q _ B2 H2 (s1.trans s2) (.cons (i1.mono s2.b) i2)
theorem ds_nil : EvD K B0 H0 tNil δ [] := fun B H σ S Q q => q [] B H (.refl S.st.bh) .nil
theorem ds_cons {tr : TA} (h : EvS K B0 H0 ta δ (.dat d)) (hr : EvD K B0 H0 tr δ ds) : EvD K B0 H0 (tCons ta tr) δ (d :: ds) := fun B H σ S Q q =>
  h B H σ S _ fun v B1 H1 s1 i1 => hr B1 H1 σ (S.go s1) _ fun vs B2 H2 s2 i2 => q _ B2 H2 (s1.trans s2) (.cons (dt_mono s2.b _ _ i1) i2)
theorem d_tup {ta : TA} (h : EvD K B0 H0 ta δ ds) (hl : ds.length ≤ 100000 := by exact of_decide_eq_true rfl) : EvS K B0 H0 (tTup ta) δ (.dat (.tuple ds)) := fun B H σ S Q q =>
  h B H σ S _ fun vs B1 H1 s1 i1 => ⟨by rw [i1.len]; exact sz_of hl, fun p hp => q _ _ _ (s1.trans (.new (o := .tup vs) s1.bh hp)) (.tup (st_of upd_same) (dts_mono (Ex.new (none_of s1.bh hp)) _ _ i1))⟩
theorem n_lst {ta : TA} (h : EvD K B0 H0 ta δ ds) (hl : ds.length ≤ 100000 := by exact of_decide_eq_true rfl) : EvN K B0 H0 (tLst ta) δ ds := fun B H σ S Q q =>
  h B H σ S _ fun vs B1 H1 s1 i1 => ⟨by rw [i1.len]; exact sz_of hl, fun p hp => q p vs B1 _ (s1.trans (.same s1.bh (.new hp))) (none_of s1.h hp) (none_of s1.bh hp) upd_same i1⟩
/-- a new list, as data -/
theorem d_new (h : EvN K B0 H0 te δ ds) : EvS K B0 H0 te δ (.dat (.list ds)) := fun B H σ S Q q => h B H σ S Q fun l vs B1 H1 s1 f1 f2 f3 f4 => by
  have eb : Ex B1 (upd B1 l (.lst vs)) := Ex.new f2
  refine q _ (upd B1 l (.lst vs)) H1 ⟨s1.b.trans eb, fun a o ha => ?_, s1.h, fun a ha => ?_⟩ (.lst upd_same (dts_mono eb _ _ f4))
  · by_cases z : a = l
    · subst z
      rw [upd_same] at ha
      rw [f3]
      exact ha
    · rw [upd_ne z] at ha
      exact s1.bh a o ha
  · by_cases z : a = l
    · subst z
      exact .inr (.of f1)
    · rw [upd_ne z] at ha
      exact s1.n a ha
/-! ### data compared -/
theorem d_eqD (ha : EvS K B0 H0 ta δ (.dat d)) (hb : EvS K B0 H0 tb δ (.dat e)) (h1 : SeqAt.shaped d = true) (h2 : SeqAt.shaped e = true) : EvS K B0 H0 (tOp (rEqD K) ta tb) δ (nB (PyData.eqv d e)) := fun B H σ S Q q =>
  ha B H σ S _ fun v B1 H1 s1 i1 => hb B1 H1 σ (S.go s1) _ fun w B2 H2 s2 i2 => ⟨d, e, dp_mono s2.bh _ _ (dp_mono s2.b _ _ (dt_dp _ _ i1)), dp_mono s2.bh _ _ (dt_dp _ _ i2), h1, h2, q _ B2 H2 (s1.trans s2) (Dt.bl _)⟩
theorem d_neD (ha : EvS K B0 H0 ta δ (.dat d)) (hb : EvS K B0 H0 tb δ (.dat e)) (h1 : SeqAt.shaped d = true) (h2 : SeqAt.shaped e = true) : EvS K B0 H0 (tOp (rNeD K) ta tb) δ (nB (!PyData.eqv d e)) := fun B H σ S Q q =>
  ha B H σ S _ fun v B1 H1 s1 i1 => hb B1 H1 σ (S.go s1) _ fun w B2 H2 s2 i2 => ⟨d, e, dp_mono s2.bh _ _ (dp_mono s2.b _ _ (dt_dp _ _ i1)), dp_mono s2.bh _ _ (dt_dp _ _ i2), h1, h2, q _ B2 H2 (s1.trans s2) (Dt.bl _)⟩
theorem d_inD (ha : EvS K B0 H0 ta δ (.dat d)) (hb : EvS K B0 H0 tb δ (.dat (.list ds))) (h1 : SeqAt.shaped d = true) (h2 : SeqAt.shaped (.list ds) = true) : EvS K B0 H0 (tOp (rInD K) ta tb) δ (nB (ds.any fun z => PyData.eqv z d)) := fun B H σ S Q q =>
  ha B H σ S _ fun v B1 H1 s1 i1 => hb B1 H1 σ (S.go s1) _ fun w B2 H2 s2 i2 => ⟨d, ds, dp_mono s2.bh _ _ (dp_mono s2.b _ _ (dt_dp _ _ i1)), dp_mono s2.bh _ _ (dt_dp _ _ i2), h1, h2, q _ B2 H2 (s1.trans s2) (Dt.bl _)⟩
theorem d_niD (ha : EvS K B0 H0 ta δ (.dat d)) (hb : EvS K B0 H0 tb δ (.dat (.list ds))) (h1 : SeqAt.shaped d = true) (h2 : SeqAt.shaped (.list ds) = true) : EvS K B0 H0 (tOp (rNotInD K) ta tb) δ (nB (!ds.any fun z => PyData.eqv z d)) := fun B H σ S Q q =>
  ha B H σ S _ fun v B1 H1 s1 i1 => hb B1 H1 σ (S.go s1) _ fun w B2 H2 s2 i2 => ⟨d, ds, dp_mono s2.bh _ _ (dp_mono s2.b _ _ (dt_dp _ _ i1)), dp_mono s2.bh _ _ (dt_dp _ _ i2), h1, h2, q _ B2 H2 (s1.trans s2) (Dt.bl _)⟩
/-! ### items -/
theorem at_get {vs : List V} (h : DtAll K B vs ds) (e : atI ds i = some d) : ∃ v, atI vs i = some v ∧ Dt K B v d := by
  unfold atI at e ⊢
  rw [h.len]
  cases hx : ixN ds.length i with
  | none =>
    rw [hx] at e
    cases e
  | some n =>
    rw [hx] at e
    exact h.get e
theorem d_ixT (ha : EvS K B0 H0 ta δ (.dat (.tuple ds))) (hb : EvS K B0 H0 tb δ (nI i)) (h : atI ds i = some d) : EvS K B0 H0 (tOp (rIxT K) ta tb) δ (.dat d) := fun B H σ S Q q =>
  ha B H σ S _ fun v B1 H1 s1 i1 => hb B1 H1 σ (S.go s1) _ fun w B2 H2 s2 i2 => by
    cases i2
    cases i1 with
    | tup h1 h2 =>
      obtain ⟨x, hx, dx⟩ := at_get (dts_mono s2.b _ _ h2) h
      exact ⟨_, _, i, x, rfl, rfl, ex_t (s2.b.trans s2.bh) h1, hx, q x B2 H2 (s1.trans s2) dx⟩
theorem d_ixL (ha : EvS K B0 H0 ta δ (.dat (.list ds))) (hb : EvS K B0 H0 tb δ (nI i)) (h : atI ds i = some d) : EvS K B0 H0 (tOp (rIxL K) ta tb) δ (.dat d) := fun B H σ S Q q =>
  ha B H σ S _ fun v B1 H1 s1 i1 => hb B1 H1 σ (S.go s1) _ fun w B2 H2 s2 i2 => by
    cases i2
    cases i1 with
    | lst h1 h2 =>
      obtain ⟨x, hx, dx⟩ := at_get (dts_mono s2.b _ _ h2) h
      exact ⟨_, _, i, x, rfl, rfl, sq_of ((s2.b.trans s2.bh) _ _ h1), hx, q x B2 H2 (s1.trans s2) dx⟩
/-- of a list of its own -/
theorem d_ixO {n : Nat} (ho : δ[n]? = some (Sl.own ds)) (hb : EvS K B0 H0 tb δ (nI i)) (h : atI ds i = some d) : EvS K B0 H0 (tOp (rIxL K) (tVar n) tb) δ (.dat d) := fun B H σ S Q q => by
  obtain ⟨l, vs, h1, _⟩ := S.own n ds ho
  refine ⟨.ref l, h1, hb B H σ S _ fun w B2 H2 s2 i2 => ?_⟩
  cases i2
  obtain ⟨l', ws, g1, g2, g3, g4, g5⟩ := (S.go s2).own n ds ho
  rw [h1] at g1
  cases Option.some.inj (Option.some.inj g1)
  obtain ⟨x, hx, dx⟩ := at_get g5 h
  exact ⟨_, _, i, x, rfl, rfl, sq_of g2, hx, q x B2 H2 s2 dx⟩
/-- of the script -/
theorem d_ixS {ns : List Int} (ha : EvS K B0 H0 ta δ (.sem (scrP K ns))) (hb : EvS K B0 H0 tb δ (nI i)) (h : atI ns i = some j) : EvS K B0 H0 (tOp (rIxL K) ta tb) δ (nI j) := fun B H σ S Q q =>
  ha B H σ S _ fun v B1 H1 s1 i1 => hb B1 H1 σ (S.go s1) _ fun w B2 H2 s2 i2 => by
    cases i2
    obtain ⟨a, rfl, ha⟩ := i1
    have hx : atI (ns.map V.int) i = some (.int j) := by
      unfold atI at h ⊢
      rw [List.length_map]
      cases hx : ixN ns.length i with
      | none =>
        rw [hx] at h
        cases h
      | some n =>
        rw [hx] at h
        show (ns.map V.int)[n]? = _
        rw [List.getElem?_map, show ns[n]? = some j from h]
        rfl
    exact ⟨_, _, i, _, rfl, rfl, ex_l (s2.b.trans s2.bh) ha, hx, q _ B2 H2 (s1.trans s2) (Dt.int j)⟩
/-! ### len -/
theorem d_lenL {ta : TE} (h : EvS K B0 H0 ta δ (.dat (.list ds))) : EvS K B0 H0 (tCB (fun xs H Q => ∃ x n, xs = [x] ∧ LenV K x H n ∧ Q (.int n) H) (tCons ta tNil)) δ (nI ds.length) := fun B H σ S Q q =>
  h B H σ S _ fun v B1 H1 s1 i1 => by
    cases i1 with
    | lst h1 h2 => exact ⟨_, ds.length, rfl, .inl ⟨_, sq_of (s1.bh _ _ h1), h2.len.symm⟩, q _ B1 H1 s1 (Dt.int _)⟩
theorem d_lenT {ta : TE} (h : EvS K B0 H0 ta δ (.dat (.tuple ds))) : EvS K B0 H0 (tCB (fun xs H Q => ∃ x n, xs = [x] ∧ LenV K x H n ∧ Q (.int n) H) (tCons ta tNil)) δ (nI ds.length) := fun B H σ S Q q =>
  h B H σ S _ fun v B1 H1 s1 i1 => by
    cases i1 with
    | tup h1 h2 => exact ⟨_, ds.length, rfl, .inr ⟨_, ex_t s1.bh h1, h2.len.symm⟩, q _ B1 H1 s1 (Dt.int _)⟩
theorem d_lenS {ta : TE} {x : Str} (h : EvS K B0 H0 ta δ (nS x)) (hl : x.length ≤ 100000) : EvS K B0 H0 (tCB (fun xs H Q => ∃ x n, xs = [x] ∧ LenV K x H n ∧ Q (.int n) H) (tCons ta tNil)) δ (nI x.length) := fun B H σ S Q q =>
  h B H σ S _ fun v B1 H1 s1 i1 => by
    cases i1
    exact ⟨_, x.length, rfl, ⟨sz_of hl, rfl⟩, q _ B1 H1 s1 (Dt.int _)⟩
theorem d_lenO {n : Nat} (ho : δ[n]? = some (Sl.own ds)) : EvS K B0 H0 (tCB (fun xs H Q => ∃ x n, xs = [x] ∧ LenV K x H n ∧ Q (.int n) H) (tCons (tVar n) tNil)) δ (nI ds.length) := fun B H σ S Q q => by
  obtain ⟨l, vs, h1, h2, h3, h4, h5⟩ := S.own n ds ho
  exact ⟨.ref l, h1, _, ds.length, rfl, .inl ⟨_, sq_of h2, h5.len.symm⟩, q _ B H (.refl S.st.bh) (Dt.int _)⟩
theorem d_lenSc {ns : List Int} (h : EvS K B0 H0 ta δ (.sem (scrP K ns))) : EvS K B0 H0 (tCB (fun xs H Q => ∃ x n, xs = [x] ∧ LenV K x H n ∧ Q (.int n) H) (tCons ta tNil)) δ (nI ns.length) := fun B H σ S Q q =>
  h B H σ S _ fun v B1 H1 s1 ⟨a, e, h1⟩ => by
    subst e
    exact ⟨_, ns.length, rfl, .inl ⟨_, ex_l s1.bh h1, by rw [List.length_map]⟩, q _ B1 H1 s1 (Dt.int _)⟩
/-! ### built-ins on values that are the same in every heap -/
theorem d_cb1 {rr : List V → Hp → VK → Prop} (h : EvS K B0 H0 ta δ (.dat d)) (sx : Sv x d) (hr : ∀ H, RC rr [x] H z) {f : PyData} (sz : Sv z f) : EvS K B0 H0 (tCB rr (tCons ta tNil)) δ (.dat f) := fun B H σ S Q q =>
  h B H σ S _ fun v B1 H1 s1 i1 => by
    rw [sx.eq i1]
    exact hr H1 H1 (.refl _) Q fun H2 e2 => q z B1 H2 (s1.trans (.same s1.bh e2)) sz.dt
theorem d_cb2 {rr : List V → Hp → VK → Prop} (h : EvS K B0 H0 ta δ (.dat d)) (h2 : EvS K B0 H0 tb δ (.dat e)) (sx : Sv x d) (sy : Sv y e) (hr : ∀ H, RC rr [x, y] H z) {f : PyData} (sz : Sv z f) : EvS K B0 H0 (tCB rr (tCons ta (tCons tb tNil))) δ (.dat f) := fun B H σ S Q q =>
  h B H σ S _ fun v B1 H1 s1 i1 => h2 B1 H1 σ (S.go s1) _ fun w B2 H2 s2 i2 => by
    rw [sx.eq i1, sy.eq i2]
    exact hr H2 H2 (.refl _) Q fun H3 e3 => q z B2 H3 ((s1.trans s2).trans (.same s2.bh e3)) sz.dt
theorem d_abs (h : EvS K B0 H0 ta δ (nI i)) : EvS K B0 H0 (tCB (fun xs H Q => ∃ i, xs = [.int i] ∧ Q (.int (if i < 0 then -i else i)) H) (tCons ta tNil)) δ (nI i.natAbs) := d_cb1 h (.int i) (fun _ => rc_abs) (.int _)
theorem d_int (h : EvS K B0 H0 ta δ (nI i)) : EvS K B0 H0 (tCB (fun xs H Q => (∃ i, xs = [.int i] ∧ Q (.int i) H) ∨ ∃ k, xs = [.bl k] ∧ Q (.int (if k then 1 else 0)) H) (tCons ta tNil)) δ (nI i) := d_cb1 h (.int i) (fun _ => rc_intI) (.int _)
theorem d_min (h : EvS K B0 H0 ta δ (nI i)) (h2 : EvS K B0 H0 tb δ (nI j)) : EvS K B0 H0 (tCB (fun xs H Q => ∃ i j, xs = [.int i, .int j] ∧ Q (.int (if j < i then j else i)) H) (tCons ta (tCons tb tNil))) δ (nI (min i j)) := d_cb2 h h2 (.int i) (.int j) (fun _ => rc_min2) (.int _)
theorem d_max (h : EvS K B0 H0 ta δ (nI i)) (h2 : EvS K B0 H0 tb δ (nI j)) : EvS K B0 H0 (tCB (fun xs H Q => ∃ i j, xs = [.int i, .int j] ∧ Q (.int (if j > i then j else i)) H) (tCons ta (tCons tb tNil))) δ (nI (max i j)) := d_cb2 h h2 (.int i) (.int j) (fun _ => rc_max2) (.int _)
/-! ### slices, sums of lists -/
def cutD (xs : List PyData) (lo hi : Option Int) : List PyData := (xs.drop (HT.sIx xs.length 0 lo)).take (HT.sIx xs.length xs.length hi - HT.sIx xs.length 0 lo)
theorem cut_dt {vs : List V} (h : DtAll K B vs ds) (lo hi : Option Int) : DtAll K B (cutV vs lo hi) (cutD ds lo hi) := by
  unfold cutV cutD
  rw [h.len]
  exact (h.drop _).take _
theorem o_none : EvO K B0 H0 tNoPart δ none := fun B H σ S Q q => q B H (.refl S.st.bh)
theorem o_some (h : EvS K B0 H0 te δ (nI i)) : EvO K B0 H0 (tPart te) δ (some i) := fun B H σ S Q q => h B H σ S _ fun v B1 H1 s1 i1 => by
  cases i1
  exact ⟨i, rfl, q B1 H1 s1⟩
theorem n_sl {tl th : TO} {lo hi : Option Int} (h : EvS K B0 H0 te δ (.dat (.list ds))) (h1 : EvO K B0 H0 tl δ lo) (h2 : EvO K B0 H0 th δ hi) : EvN K B0 H0 (tSl (rSlL K) te tl th) δ (cutD ds lo hi) := fun B H σ S Q q =>
  h B H σ S _ fun v B1 H1 s1 i1 => h1 B1 H1 σ (S.go s1) _ fun B2 H2 s2 => h2 B2 H2 σ (S.go (s1.trans s2)) _ fun B3 H3 s3 => by
    have s := (s1.trans s2).trans s3
    cases i1 with
    | lst g1 g2 =>
      refine ⟨_, _, rfl, sq_of (s3.bh _ _ (s3.b _ _ (s2.b _ _ g1))), fun p hp => ?_⟩
      exact q p _ B3 _ (s.trans (.same s.bh (.new hp))) (none_of s.h hp) (none_of s.bh hp) upd_same (cut_dt (dts_mono (s2.b.trans s3.b) _ _ g2) lo hi)
theorem n_cat (ha : EvS K B0 H0 ta δ (.dat (.list ds))) (hb : EvS K B0 H0 tb δ (.dat (.list es))) (hz : ds.length + es.length ≤ 100000) : EvN K B0 H0 (tOp rCat ta tb) δ (ds ++ es) := fun B H σ S Q q =>
  ha B H σ S _ fun v B1 H1 s1 i1 => hb B1 H1 σ (S.go s1) _ fun w B2 H2 s2 i2 => by
    have s := s1.trans s2
    cases i1 with
    | lst g1 g2 =>
      cases i2 with
      | lst k1 k2 =>
        refine ⟨_, _, _, _, rfl, rfl, s2.bh _ _ (s2.b _ _ g1), s2.bh _ _ k1, by rw [g2.len, k2.len]; exact sz_of hz, fun p hp => ?_⟩
        exact q p _ B2 _ (s.trans (.same s.bh (.new hp))) (none_of s.h hp) (none_of s.bh hp) upd_same ((dts_mono s2.b _ _ g2).app k2)
theorem n_list {ta : TE} (h : EvS K B0 H0 ta δ (.dat (.list ds))) : EvN K B0 H0 (tCB (rListS K) (tCons ta tNil)) δ ds := fun B H σ S Q q =>
  h B H σ S _ fun v B1 H1 s1 i1 => by
    cases i1 with
    | lst g1 g2 => exact ⟨_, _, rfl, .inl (sq_of (s1.bh _ _ g1)), fun p hp => q p _ B1 _ (s1.trans (.same s1.bh (.new hp))) (none_of s1.h hp) (none_of s1.bh hp) upd_same g2⟩
theorem d_sum {ta : TE} {ns : List Int} (h : EvS K B0 H0 ta δ (.dat (.list (ns.map PyData.int)))) : EvS K B0 H0 (tCB (rSum K) (tCons ta tNil)) δ (nI ns.sum) := fun B H σ S Q q =>
  h B H σ S _ fun v B1 H1 s1 i1 => by
    cases i1 with
    | lst g1 g2 => exact ⟨_, ns, rfl, sq_of (by rw [← dt_ints_inv ns g2]; exact s1.bh _ _ g1), q _ B1 H1 s1 (Dt.int _)⟩
/-! ### calls of defs -/
/-- a def by data: for an argument a, told by the slots enc a, it gives some data of which post is true -/
def SpA (K : PySem.W.Frag) {A : Type} (enc : A → List Sl) (pre : A → Prop) (post : A → PyData → Prop) : Sp := fun vs H Q _ => ∃ B a, Ex B H ∧ IsAll K B vs (enc a) ∧ pre a ∧ ∀ v d B' H', post a d → Stp B H B' H' → Dt K B' v d → Q v H'
/-- .. or raises the class that bad tells -/
def SpX (K : PySem.W.Frag) {A : Type} (enc : A → List Sl) (pre : A → Prop) (bad : A → Option Addr) (post : A → PyData → Prop) : Sp := fun vs H Q E => ∃ B a, Ex B H ∧ IsAll K B vs (enc a) ∧ pre a ∧ (∀ C, bad a = some C → ∀ H', Ex H H' → E (.ref C) none H') ∧ (bad a = none → ∀ v d B' H', post a d → Stp B H B' H' → Dt K B' v d → Q v H')
theorem r_call {A : Type} {enc : A → List Sl} {pre : A → Prop} {post : A → PyData → Prop} {E : XK} {tr : TA} (a : A) (h : EvA K B0 H0 tr δ (enc a)) (hp : pre a) : EvR K B0 H0 (tCall (SpA K enc pre post) [] E tr) δ (post a) := fun B H σ S Q q =>
  h B H σ S _ fun vs B1 H1 s1 i1 => ⟨B1, a, s1.bh, by rw [List.append_nil]; exact i1, hp, fun v d B2 H2 p st dv => q v d B2 H2 p (s1.trans st) dv⟩
theorem d_call {A : Type} {enc : A → List Sl} {pre : A → Prop} {post : A → PyData → Prop} {E : XK} {tr : TA} (a : A) (h : EvA K B0 H0 tr δ (enc a)) (hp : pre a) (hf : ∀ e, post a e → e = d) : EvS K B0 H0 (tCall (SpA K enc pre post) [] E tr) δ (.dat d) := fun B H σ S Q q =>
  r_call a h hp B H σ S Q fun v e B' H' p st iv => by
    cases hf e p
    exact q v B' H' st iv
/-- the usual form: a function of data -/
abbrev SpF (K : PySem.W.Frag) {A : Type} (enc : A → List Sl) (pre : A → Prop) (f : A → PyData) : Sp := SpA K enc pre fun a d => d = f a
theorem d_callF {A : Type} {enc : A → List Sl} {pre : A → Prop} {f : A → PyData} {E : XK} {tr : TA} (a : A) (h : EvA K B0 H0 tr δ (enc a)) (hp : pre a) : EvS K B0 H0 (tCall (SpF K enc pre f) [] E tr) δ (.dat (f a)) := d_call a h hp fun _ h => h
/-- where nothing is raised -/
theorem r_callX {A : Type} {enc : A → List Sl} {pre : A → Prop} {bad : A → Option Addr} {post : A → PyData → Prop} {E : XK} {tr : TA} (a : A) (h : EvA K B0 H0 tr δ (enc a)) (hp : pre a) (hb : bad a = none) : EvR K B0 H0 (tCall (SpX K enc pre bad post) [] E tr) δ (post a) := fun B H σ S Q q =>
  h B H σ S _ fun vs B1 H1 s1 i1 => ⟨B1, a, s1.bh, by rw [List.append_nil]; exact i1, hp, (fun C e => by rw [hb] at e; cases e), fun _ v d B2 H2 p st dv => q v d B2 H2 p (s1.trans st) dv⟩
theorem d_callX {A : Type} {enc : A → List Sl} {pre : A → Prop} {bad : A → Option Addr} {post : A → PyData → Prop} {E : XK} {tr : TA} (a : A) (h : EvA K B0 H0 tr δ (enc a)) (hp : pre a) (hb : bad a = none) (hf : ∀ e, post a e → e = d) : EvS K B0 H0 (tCall (SpX K enc pre bad post) [] E tr) δ (.dat d) := fun B H σ S Q q =>
  r_callX a h hp hb B H σ S Q fun v e B' H' p st iv => by
    cases hf e p
    exact q v B' H' st iv
end
end Ja

/-! Own data layer: targets, what is walked, comprehensions, statements, defs. -/
namespace Ja
open PySem PySem.Spec PyProof.Rows L2 Evl Cm
def wipeD (δ : List Sl) : List Nat → List Sl
  | [] => δ
  | v :: vs => (wipeD δ vs).set v Sl.no
/-- a target takes data; ix: the slots that it stores to -/
def TGd (K : PySem.W.Frag) (B0 H0 : Hp) (g : TG) (ix : List Nat) (δ : List Sl) (d : PyData) (δ' : List Sl) : Prop := ∀ B H σ v, Sc K B0 H0 B H σ δ → Dt K B v d → ∀ Q : L2.St → Hp → Prop, (∀ σ', Sc K B0 H0 B H σ' δ' → (∀ vs : List Nat, (∀ i ∈ ix, i ∈ vs) → wipe σ' vs = wipe σ vs) → Q σ' H) → g v σ H Q
def TGs (K : PySem.W.Frag) (B0 H0 : Hp) (g : L2.TGs) (ix : List Nat) (δ : List Sl) (ds : List PyData) (δ' : List Sl) : Prop := ∀ B H σ vs, Sc K B0 H0 B H σ δ → DtAll K B vs ds → ∀ Q : L2.St → Hp → Prop, (∀ σ', Sc K B0 H0 B H σ' δ' → (∀ vs : List Nat, (∀ i ∈ ix, i ∈ vs) → wipe σ' vs = wipe σ vs) → Q σ' H) → g vs σ H Q
theorem wipe_set {σ : L2.St} {i : Nat} {o : Option V} : ∀ {vs : List Nat}, i ∈ vs → wipe (σ.set i o) vs = wipe σ vs
  | v :: vs, h => by
    show (wipe (σ.set i o) vs).set v none = (wipe σ vs).set v none
    by_cases e : i ∈ vs
    · rw [wipe_set e]
    · have e1 : v = i := by
        rcases List.mem_cons.mp h with h | h
        · exact h.symm
        · exact absurd h e
      subst e1
      have key : ∀ {vs : List Nat}, v ∉ vs → wipe (σ.set v o) vs = (wipe σ vs).set v o := by
        intro vs
        induction vs with
        | nil => intro _; rfl
        | cons w ws ih =>
          intro hn
          show (wipe (σ.set v o) ws).set w none = ((wipe σ ws).set w none).set v o
          rw [ih fun z => hn (List.mem_cons_of_mem _ z)]
          exact List.set_comm _ _ fun z => hn (by rw [z]; exact List.mem_cons_self ..)
      rw [key e, List.set_set]
theorem wipe_id {σ : L2.St} : ∀ {vs ws : List Nat}, (∀ i ∈ vs, i ∈ ws) → wipe (wipe σ vs) ws = wipe σ ws
  | [], ws, _ => rfl
  | v :: vs, ws, h => by
    show wipe ((wipe σ vs).set v none) ws = _
    rw [wipe_set (h v (List.mem_cons_self ..)), wipe_id fun i hi => h i (List.mem_cons_of_mem _ hi)]
section
variable {K : PySem.W.Frag} {B0 H0 B H B' H' : Hp} {σ : L2.St} {δ δ1 δ2 : List Sl} {ta tb tc td te : TE} {tt : TT} {s s' : Sl} {d e : PyData} {ds es : List PyData} {i j k : Int} {b c : Bool} {x y z : V}
theorem Sc.wipe (h : Sc K B0 H0 B H σ δ) : ∀ vs : List Nat, Sc K B0 H0 B H (wipe σ vs) (wipeD δ vs)
  | [] => h
  | v :: vs => (Sc.wipe h vs).put v none
theorem g_name {n : Nat} : TGd K B0 H0 (gName n) [n] δ d (δ.set n (.dat d)) := fun B H σ v S iv Q q => q _ (S.set (s := .dat d) n iv) fun vs hv => wipe_set (hv n (List.mem_singleton.mpr rfl))
theorem g_nil : TGs K B0 H0 gNil [] δ [] δ := fun B H σ vs S iv Q q => by
  cases iv
  exact ⟨rfl, q σ S fun _ _ => rfl⟩
theorem g_cons {g : TG} {u : L2.TGs} {ix iy : List Nat} (h : TGd K B0 H0 g ix δ d δ1) (hr : TGs K B0 H0 u iy δ1 ds δ2) : TGs K B0 H0 (gCons g u) (ix ++ iy) δ (d :: ds) δ2 := fun B H σ vs S iv Q q => by
  cases iv with
  | cons h1 h2 => exact ⟨_, _, rfl, h B H σ _ S h1 _ fun σ1 S1 w1 => hr B H σ1 _ S1 h2 Q fun σ2 S2 w2 => q σ2 S2 fun ws hw => by
      rw [w2 ws fun i hi => hw i (List.mem_append.mpr (.inr hi)), w1 ws fun i hi => hw i (List.mem_append.mpr (.inl hi))]⟩
theorem g_tup {n : Nat} {u : L2.TGs} {ix : List Nat} (h : TGs K B0 H0 u ix δ ds δ1) (hn : ds.length = n := by rfl) : TGd K B0 H0 (gTup K n u) ix δ (.tuple ds) δ1 := fun B H σ v S iv Q q => by
  cases iv with
  | tup h1 h2 => exact ⟨_, _, rfl, ex_t S.st.bh h1, by rw [h2.len, hn], h B H σ _ S h2 Q q⟩
/-! ### what is walked -/
def EvW (K : PySem.W.Frag) (B0 H0 : Hp) (wi : TI) (δ : List Sl) (ds : List PyData) : Prop := ∀ B H σ, Sc K B0 H0 B H σ δ → ∀ R : It → Hp → Prop,
  (∀ J G Y B1 H1, Stp B H B1 H1 → Walk J ds.length G Y → (∀ B2 H2, Ex B1 B2 → Ex B2 H2 → G H2) → (∀ (i : Nat) H2 x H3 B2 (d : PyData), ds[i]? = some d → Ex B1 B2 → Ex B2 H2 → Y i H2 x H3 → ∃ B3, Stp B2 H2 B3 H3 ∧ Dt K B3 x d) → R J H1) → wi σ H R
theorem w_list {tl : TE} (h : EvS K B0 H0 tl δ (.dat (.list ds))) : EvW K B0 H0 (iList K tl) δ ds := fun B H σ S R q => h B H σ S _ fun v B1 H1 s1 i1 => by
  cases i1 with
  | @lst a xs _ h1 h2 =>
    refine ⟨a, rfl, ⟨xs, sq_of (s1.bh _ _ h1)⟩, q _ (fun H => SqL K H a xs) (YAt xs) B1 H1 s1 (by rw [← h2.len]; exact walk_list) (fun B2 H2 e1 e2 => sq_of (e2 _ _ (e1 _ _ h1))) fun i H2 x H3 B2 d hd e1 e2 y => ?_⟩
    obtain ⟨rfl, hx⟩ := y
    obtain ⟨v, hv, dv⟩ := h2.get hd
    rw [hx] at hv
    cases Option.some.inj hv
    exact ⟨B2, .refl e2, dt_mono e1 _ _ dv⟩
theorem w_tup {tl : TE} (h : EvS K B0 H0 tl δ (.dat (.tuple ds))) : EvW K B0 H0 (iTup K tl) δ ds := fun B H σ S R q => h B H σ S _ fun v B1 H1 s1 i1 => by
  cases i1 with
  | @tup a xs _ h1 h2 =>
    refine ⟨a, rfl, ⟨xs, ex_t s1.bh h1⟩, q _ (fun H => SqT K H a xs) (YAt xs) B1 H1 s1 (by rw [← h2.len]; exact walk_tup) (fun B2 H2 e1 e2 => ex_t (e1.trans e2) h1) fun i H2 x H3 B2 d hd e1 e2 y => ?_⟩
    obtain ⟨rfl, hx⟩ := y
    obtain ⟨v, hv, dv⟩ := h2.get hd
    rw [hx] at hv
    cases Option.some.inj hv
    exact ⟨B2, .refl e2, dt_mono e1 _ _ dv⟩
/-- lo, lo + 1, .. -/
def upto (lo : Int) (n : Nat) : List PyData := (List.range n).map fun i : Nat => PyData.int (lo + (i : Int))
theorem upto_len (lo : Int) (n : Nat) : (upto lo n).length = n := by
  unfold upto
  rw [List.length_map, List.length_range]
theorem upto_get {lo : Int} {n i : Nat} {d : PyData} (h : (upto lo n)[i]? = some d) : i < n ∧ d = .int (lo + (i : Int)) := by
  have hi : i < n := by
    have := (List.getElem?_eq_some_iff.mp h).1
    rwa [upto_len] at this
  unfold upto at h
  rw [List.getElem?_map, List.getElem?_range hi] at h
  exact ⟨hi, (Option.some.inj h).symm⟩
theorem w_rng1 {ta : TA} {n : Int} (h : EvD K B0 H0 ta δ [.int n]) (h1 : n ≤ 100000) (h2 : -100000 ≤ n) : EvW K B0 H0 (iRng1 ta) δ (upto 0 n.toNat) := fun B H σ S R q => h B H σ S _ fun vs B1 H1 s1 i1 => by
  cases i1 with
  | cons g1 g2 =>
    cases g1
    cases g2
    refine ⟨n, rfl, by omega, by omega, q _ _ _ B1 H1 s1 (by rw [upto_len]; exact walk_range) (fun _ _ _ _ => trivial) fun i H2 x H3 B2 d hd e1 e2 y => ?_⟩
    obtain ⟨rfl, rfl⟩ := y
    obtain ⟨_, rfl⟩ := upto_get hd
    exact ⟨B2, .refl e2, .int _⟩
theorem w_rng2 {ta : TA} {lo n : Int} (h : EvD K B0 H0 ta δ [.int lo, .int n]) (h1 : n ≤ 10000000000 ∧ -10000000000 ≤ n ∧ lo ≤ 10000000000 ∧ -10000000000 ≤ lo) : EvW K B0 H0 (iRng2 ta) δ (upto lo (n - lo).toNat) := fun B H σ S R q => h B H σ S _ fun vs B1 H1 s1 i1 => by
  cases i1 with
  | cons g1 g2 =>
    cases g1
    cases g2 with
    | cons g3 g4 =>
      cases g3
      cases g4
      refine ⟨lo, n, rfl, by omega, q _ _ _ B1 H1 s1 (by rw [upto_len]; exact walk_range) (fun _ _ _ _ => trivial) fun i H2 x H3 B2 d hd e1 e2 y => ?_⟩
      obtain ⟨rfl, rfl⟩ := y
      obtain ⟨_, rfl⟩ := upto_get hd
      exact ⟨B2, .refl e2, .int _⟩
/-- 0, 1, .. -/
def nats (n : Nat) : List PyData := (List.range n).map fun i : Nat => PyData.int (i : Int)
theorem upto_nats (n : Nat) : upto 0 n = nats n := by
  unfold upto nats
  exact List.map_congr_left fun i _ => by rw [Int.zero_add]
theorem nats_len (n : Nat) : (nats n).length = n := by
  unfold nats
  rw [List.length_map, List.length_range]
theorem nats_get {n i : Nat} {d : PyData} (h : (nats n)[i]? = some d) : i < n ∧ d = .int (i : Int) := by
  rw [← upto_nats] at h
  have := upto_get h
  rwa [Int.zero_add] at this
theorem w_nat {ta : TA} {n : Nat} (h : EvD K B0 H0 ta δ [.int (n : Int)]) (h1 : n ≤ 100000) : EvW K B0 H0 (iRng1 ta) δ (nats n) := by
  have := w_rng1 h (by omega) (by omega)
  rwa [upto_nats, Int.toNat_natCast] at this
/-- a text, sign by sign -/
def signs (x : Str) : List PyData := x.cps.toList.map fun c => PyData.str ⟨#[c]⟩
theorem w_str {x : Str} (h : EvS K B0 H0 te δ (nS x)) : EvW K B0 H0 (iStr te) δ (signs x) := fun B H σ S R q => h B H σ S _ fun v B1 H1 s1 i1 => by
  cases i1
  refine ⟨x, rfl, q _ _ _ B1 H1 s1 (by unfold signs; rw [List.length_map, Array.length_toList]; exact walk_str) (fun _ _ _ _ => trivial) fun i H2 v H3 B2 d hd e1 e2 y => ?_⟩
  obtain ⟨rfl, c, hc, rfl⟩ := y
  have e : d = .str ⟨#[c]⟩ := by
    unfold signs at hd
    rw [List.getElem?_map, Array.getElem?_toList, hc] at hd
    exact (Option.some.inj hd).symm
  rw [e]
  exact ⟨B2, .refl e2, .str _⟩
/-- pairs of an index and an item -/
def enumD (ds : List PyData) : List PyData := ds.zipIdx.map fun p => .tuple [.int (p.2 : Int), p.1]
theorem w_enum {ta : TA} (h : EvD K B0 H0 ta δ [.list ds]) : EvW K B0 H0 (iEnum K ta) δ (enumD ds) := fun B H σ S R q => h B H σ S _ fun vs B1 H1 s1 i1 => by
  cases i1 with
  | cons g1 g2 =>
    cases g2
    cases g1 with
    | @lst a xs _ h1 h2 =>
      refine ⟨a, xs, rfl, sq_of (s1.bh _ _ h1), q _ _ _ B1 H1 s1 (by unfold enumD; rw [List.length_map, List.length_zipIdx, ← h2.len]; exact walk_enum) (fun B2 H2 e1 e2 => sq_of (e2 _ _ (e1 _ _ h1))) fun i H2 v H3 B2 d hd e1 e2 y => ?_⟩
      obtain ⟨T, u, w, rfl, hT, rfl, hu, hw⟩ := y
      cases Option.some.inj hu
      obtain ⟨f, hf, df⟩ := h2.getV hw
      have e : d = .tuple [.int (i : Int), f] := by
        unfold enumD at hd
        rw [List.getElem?_map, List.getElem?_zipIdx, hf] at hd
        have := Option.some.inj hd
        simpa using this.symm
      rw [e]
      exact ⟨_, .new e2 hT, .tup (st_of upd_same) (.cons (.int _) (.cons (dt_mono (e1.trans (Ex.new (none_of e2 hT))) _ _ df) .nil))⟩
def zipD (ds es : List PyData) : List PyData := (ds.zip es).map fun p => .tuple [p.1, p.2]
theorem w_zip {ta : TA} (h : EvD K B0 H0 ta δ [.list ds, .list es]) : EvW K B0 H0 (RZ.iZipA K ta) δ (zipD ds es) := fun B H σ S R q => h B H σ S _ fun vs B1 H1 s1 i1 => by
  cases i1 with
  | cons g1 g2 =>
    cases g2 with
    | cons g3 g4 =>
      cases g4
      cases g1 with
      | @lst a xs _ h1 h2 =>
        cases g3 with
        | @lst b ys _ k1 k2 =>
          refine ⟨a, b, xs, ys, rfl, .inl ⟨sq_of (s1.bh _ _ h1), sq_of (s1.bh _ _ k1), q _ _ _ B1 H1 s1 (walk_zip (by unfold zipD; rw [List.length_map, List.length_zip, ← h2.len, ← k2.len])) (fun B2 H2 e1 e2 => ⟨sq_of (e2 _ _ (e1 _ _ h1)), sq_of (e2 _ _ (e1 _ _ k1))⟩) fun i H2 v H3 B2 d hd e1 e2 y => ?_⟩⟩
          obtain ⟨T, u, w, rfl, hT, rfl, hu, hw⟩ := y
          obtain ⟨f, hf, df⟩ := h2.getV hu
          obtain ⟨g, hg, dg⟩ := k2.getV hw
          have e : d = .tuple [f, g] := by
            unfold zipD at hd
            rw [List.getElem?_map, show (ds.zip es)[i]? = some (f, g) from List.getElem?_zip_eq_some.mpr ⟨hf, hg⟩] at hd
            exact (Option.some.inj hd).symm
          rw [e]
          have eT : Ex B1 (upd B2 T (.tup [u, w])) := e1.trans (Ex.new (none_of e2 hT))
          exact ⟨_, .new e2 hT, .tup (st_of upd_same) (.cons (dt_mono eT _ _ df) (.cons (dt_mono eT _ _ dg) .nil))⟩
/-- reversed(range(n)) -/
theorem w_rev1 {n : Int} (h : EvS K B0 H0 ta δ (nI n)) (h1 : n ≤ 100000 ∧ -100000 ≤ n) : EvW K B0 H0 (iRevR (tRg1 ta)) δ (upto 0 n.toNat).reverse := fun B H σ S R q => h B H σ S _ fun v B1 H1 s1 i1 => by
  cases i1
  refine ⟨n, rfl, by omega, by omega, by omega, by omega, q _ _ _ B1 H1 s1 (by rw [List.length_reverse, upto_len, Int.sub_zero]; exact walk_rangeC) (fun _ _ _ _ => trivial) fun i H2 x H3 B2 d hd e1 e2 y => ?_⟩
  obtain ⟨rfl, rfl⟩ := y
  have hi : i < n.toNat := by
    have := (List.getElem?_eq_some_iff.mp hd).1
    rwa [List.length_reverse, upto_len] at this
  rw [List.getElem?_reverse (by rw [upto_len]; exact hi), upto_len] at hd
  obtain ⟨_, rfl⟩ := upto_get hd
  show ∃ B3, Stp B2 _ B3 _ ∧ Dt K B3 (V.int (0 + (n.toNat : Int) - 1 + (i : Int) * -1)) _
  rw [show (0 : Int) + (n.toNat : Int) - 1 + (i : Int) * -1 = 0 + ((n.toNat - 1 - i : Nat) : Int) by omega]
  exact ⟨B2, .refl e2, .int _⟩
theorem w_revN {n : Nat} (h : EvS K B0 H0 ta δ (nI (n : Int))) (h1 : n ≤ 100000) : EvW K B0 H0 (iRevR (tRg1 ta)) δ ((List.range n).reverse.map fun i : Nat => PyData.int (i : Int)) := by
  have := w_rev1 h ⟨by omega, by omega⟩
  rw [upto_nats, Int.toNat_natCast] at this
  rwa [List.map_reverse]
/-! ### comprehensions -/
theorem n_lc {A : Type} {wi : TI} {g : TG} {vs ix : List Nat} (xs : List A) (enc : A → PyData) (δt : A → List Sl) (f : A → Bool) (v : A → PyData) (hw : EvW K B0 H0 wi δ (xs.map enc)) (hix : ∀ i ∈ ix, i ∈ vs) (hz : xs.length ≤ 40000)
    (hg : ∀ x ∈ xs, TGd K B0 H0 g ix (wipeD δ vs) (enc x) (δt x)) (ht : ∀ x ∈ xs, EvB K B0 H0 tt (δt x) (f x)) (he : ∀ x ∈ xs, f x = true → EvS K B0 H0 te (δt x) (.dat (v x))) : EvN K B0 H0 (tLc wi g tt te vs) δ ((xs.filter f).map v) := fun B H σ S Q q => by
  refine hw B H σ S _ fun J G Y B1 H1 s1 W hG hY => ?_
  intro D hD
  have hBD : B1 D = none := none_of s1.bh hD
  refine lc_it W (fun i H' => ∃ B' ws, Ex B1 B' ∧ Ex B' H' ∧ Ex H1 H' ∧ (∀ a, B' a ≠ none → B1 a ≠ none ∨ NoL H1 a) ∧ B' D = none ∧ H' D = some (.lst ws) ∧ DtAll K B' ws (((xs.take i).filter f).map v)) ?_ (fun i H' hi ⟨B', ws, e1, e2, e3, hn, e4, e5, e6⟩ => hG B' H' e1 e2) ?_ fun H' ⟨B', ws, e1, e2, e3, hn, e4, e5, e6⟩ => ?_
  · exact ⟨B1, [], .refl _, Ex.mut s1.bh hBD, Ex.new hD, fun a h => .inl h, hBD, upd_same, by rw [List.take_zero]; exact .nil⟩
  · intro i x H2 H3 hi ⟨B2, ws, e1, e2, e3, hn, e4, e5, e6⟩ y
    rw [List.length_map] at hi
    have hx : (xs.map enc)[i]? = some (enc xs[i]) := by rw [List.getElem?_map, List.getElem?_eq_getElem hi]; rfl
    obtain ⟨B3, s3, dx⟩ := hY i H2 x H3 B2 _ hx e1 e2 y
    have hmem : xs[i] ∈ xs := List.getElem_mem hi
    have hDn : H2 D ≠ none := by rw [e5]; exact fun z => by cases z
    have b3 : B3 D = none := by
      cases e : B3 D with
      | none => rfl
      | some o =>
        rcases s3.n D (by rw [e]; exact fun z => by cases z) with z | z
        · exact absurd e4 z
        · exact absurd e5 (z _)
    have st12 : Stp B1 H1 B2 H2 := ⟨e1, e2, e3, hn⟩
    have S3 : Sc K B0 H0 B3 H3 σ δ := (S.go s1).go (st12.trans s3)
    have tk : ∀ {n : Nat}, xs.take (n + 1) = xs.take n ++ (xs[n]?).toList := fun {n} => List.take_succ
    refine hg _ hmem B3 H3 (wipe σ vs) x (S3.wipe vs) dx _ fun σ2 S2 w2 => ⟨?_, ?_⟩
    · rw [w2 vs hix]
      exact wipe_id fun _ h => h
    · refine ht _ hmem B3 H3 σ2 S2 _ fun B4 H4 s4 => ?_
      have b4 : ∀ {B5 H5 : Hp}, Stp B3 H3 B5 H5 → B5 D = none := fun {B5 H5} s5 => by
        cases e : B5 D with
        | none => rfl
        | some o =>
          rcases s5.n D (by rw [e]; exact fun z => by cases z) with z | z
          · exact absurd b3 z
          · exact absurd (s3.h _ _ e5) (z _)
      cases hf : f xs[i] with
      | true =>
        rw [if_pos rfl]
        refine he _ hmem hf B4 H4 σ2 (S2.go s4) _ fun u B5 H5 s5 i5 => ?_
        have s35 := s4.trans s5
        have sAll := (st12.trans s3).trans s35
        have h5 : H5 D = some (.lst ws) := s35.h _ _ (s3.h _ _ e5)
        refine ⟨ws, h5, ?_, B5, ws ++ [u], sAll.b, ?_, Ex.mut sAll.h hD, sAll.n, b4 s35, upd_same, ?_⟩
        · rw [e6.len, List.length_map]
          have h1 := List.length_filter_le f (xs.take i)
          rw [List.length_take] at h1
          exact sz_lt (by omega)
        · exact Ex.mut sAll.bh (b4 s35)
        · rw [tk, List.getElem?_eq_getElem hi, List.filter_append, List.map_append]
          refine (dts_mono (s3.b.trans s35.b) _ _ e6).app ?_
          show DtAll K B5 [u] (([xs[i]].filter f).map v)
          rw [List.filter_cons, hf, if_pos rfl]
          exact .cons i5 .nil
      | false =>
        rw [if_neg (by decide)]
        have sAll := (st12.trans s3).trans s4
        refine ⟨B4, ws, sAll.b, sAll.bh, sAll.h, sAll.n, b4 s4, s4.h _ _ (s3.h _ _ e5), ?_⟩
        rw [tk, List.getElem?_eq_getElem hi, List.filter_append]
        have : [xs[i]].filter f = [] := by rw [List.filter_cons, hf]; rfl
        show DtAll K B4 ws ((List.filter f (List.take i xs) ++ [xs[i]].filter f).map v)
        rw [this, List.append_nil]
        exact dts_mono (s3.b.trans s4.b) _ _ e6
  · have sAll := s1.trans (⟨e1, e2, e3, hn⟩ : Stp B1 H1 B' H')
    refine q D ws B' H' sAll (none_of s1.h hD) e4 e5 ?_
    rw [List.length_map, List.take_length] at e6
    exact e6
/-- every item, without a test -/
theorem n_lc1 {A : Type} {wi : TI} {g : TG} {vs ix : List Nat} (xs : List A) (enc : A → PyData) (δt : A → List Sl) (v : A → PyData) (hw : EvW K B0 H0 wi δ (xs.map enc)) (hix : ∀ i ∈ ix, i ∈ vs) (hz : xs.length ≤ 40000)
    (hg : ∀ x ∈ xs, TGd K B0 H0 g ix (wipeD δ vs) (enc x) (δt x)) (he : ∀ x ∈ xs, EvS K B0 H0 te (δt x) (.dat (v x))) : EvN K B0 H0 (tLc wi g tYes te vs) δ (xs.map v) := by
  have h := n_lc (tt := tYes) xs enc δt (fun _ => true) v hw hix hz hg (fun x _ => b_yes) (fun x hx _ => he x hx)
  have e : xs.filter (fun _ => true) = xs := by simp
  rw [e] at h
  exact h
end
/-! ### statements -/
structure DE where
  nx : List Sl → Prop
  rt : PyData → Prop
  bk : List Sl → Prop := fun _ => False
  ct : List Sl → Prop := fun _ => False
  ex : Addr → List Sl → Prop := fun _ _ => False
  ro : List PyData → Prop := fun _ => False
structure Lift (K : PySem.W.Frag) (B0 H0 B : Hp) (W : WX) (E : DE) (D : Ends) : Prop where
  nx : ∀ B' H' σ' δ', Ex B B' → Sc K B0 H0 B' H' σ' δ' → E.nx δ' → D.nx σ' H'
  rt : ∀ v d B' H', Ex B B' → Stp B0 H0 B' H' → Dt K B' v d → E.rt d → D.rt v H'
  bk : ∀ B' H' σ' δ', Ex B B' → Sc K B0 H0 B' H' σ' δ' → E.bk δ' → D.bk σ' H'
  ct : ∀ B' H' σ' δ', Ex B B' → Sc K B0 H0 B' H' σ' δ' → E.ct δ' → D.ct σ' H'
  ex : ∀ C B' H' σ' δ', Ex B B' → Sc K B0 H0 B' H' σ' δ' → E.ex C δ' → W (.ref C) none σ' H'
  ro : ∀ l vs ds B' H', Ex B B' → Stp B0 H0 B' H' → H0 l = none → B' l = none → H' l = some (.lst vs) → DtAll K B' vs ds → E.ro ds → D.rt (.ref l) H'
theorem Lift.mono {K : PySem.W.Frag} {B0 H0 B B' : Hp} {W : WX} {E : DE} {D : Ends} (e : Ex B B') (h : Lift K B0 H0 B W E D) : Lift K B0 H0 B' W E D :=
  ⟨fun B2 H2 σ δ e2 => h.nx B2 H2 σ δ (e.trans e2), fun v d B2 H2 e2 => h.rt v d B2 H2 (e.trans e2), fun B2 H2 σ δ e2 => h.bk B2 H2 σ δ (e.trans e2), fun B2 H2 σ δ e2 => h.ct B2 H2 σ δ (e.trans e2), fun C B2 H2 σ δ e2 => h.ex C B2 H2 σ δ (e.trans e2), fun l vs ds B2 H2 e2 => h.ro l vs ds B2 H2 (e.trans e2)⟩
def SD (K : PySem.W.Frag) (B0 H0 : Hp) (W : WX) (ts : TS) (δ : List Sl) (E : DE) : Prop := ∀ D B H σ, Sc K B0 H0 B H σ δ → Lift K B0 H0 B W E D → ts D σ H
/-- an expression that gives data of which P is true, or raises one of ex -/
def EvX (K : PySem.W.Frag) (B0 H0 : Hp) (W : WX) (te : TE) (δ : List Sl) (P : PyData → Prop) (ex : Addr → Prop) : Prop := ∀ B H σ, Sc K B0 H0 B H σ δ → (∀ C B' H', Stp B H B' H' → ex C → W (.ref C) none σ H') → ∀ Q : VK, (∀ v d B' H', P d → Stp B H B' H' → Dt K B' v d → Q v H') → te σ H Q
section
variable {K : PySem.W.Frag} {B0 H0 B H B' H' : Hp} {W : WX} {σ : L2.St} {δ δ1 δ2 : List Sl} {ta tb tc td te : TE} {tt : TT} {t u : TS} {E : DE} {s s' : Sl} {d e : PyData} {ds es : List PyData} {i j k : Int} {b c : Bool}
theorem sd_next (h : E.nx δ) : SD K B0 H0 W tNext δ E := fun D B H σ S L => L.nx B H σ δ (.refl _) S h
theorem sd_break (h : E.bk δ) : SD K B0 H0 W tBreak δ E := fun D B H σ S L => L.bk B H σ δ (.refl _) S h
theorem sd_cont (h : E.ct δ) : SD K B0 H0 W tCont δ E := fun D B H σ S L => L.ct B H σ δ (.refl _) S h
theorem sd_seq (h : SD K B0 H0 W t δ { E with nx := fun δ' => SD K B0 H0 W u δ' E }) : SD K B0 H0 W (tSeq t u) δ E := fun D B H σ S L =>
  h { D with nx := u D } B H σ S ⟨fun B' H' σ' δ' e S' h' => h' D B' H' σ' S' (L.mono e), L.rt, L.bk, L.ct, L.ex, L.ro⟩
theorem sd_cut {M : List Sl → Prop} (h : SD K B0 H0 W t δ { E with nx := M }) (k : ∀ δ', M δ' → SD K B0 H0 W u δ' E) : SD K B0 H0 W (tCut t u) δ E := fun D B H σ S L =>
  ⟨fun σ' H' => ∃ B' δ', Ex B B' ∧ Sc K B0 H0 B' H' σ' δ' ∧ M δ', h _ B H σ S ⟨fun B' H' σ' δ' e S' m => ⟨B', δ', e, S', m⟩, L.rt, L.bk, L.ct, L.ex, L.ro⟩, fun σ' H' ⟨B', δ', e, S', m⟩ => k δ' m D B' H' σ' S' (L.mono e)⟩
theorem sd_asg {n : Nat} (h : EvS K B0 H0 te δ s) (k : E.nx (δ.set n s)) : SD K B0 H0 W (tAsg te (gName n)) δ E := fun D B H σ S L => h B H σ S _ fun v B1 H1 s1 i1 => L.nx B1 H1 _ _ s1.b ((S.go s1).set n i1) k
theorem sd_asgR {n : Nat} {P : PyData → Prop} (h : EvR K B0 H0 te δ P) (k : ∀ d, P d → E.nx (δ.set n (.dat d))) : SD K B0 H0 W (tAsg te (gName n)) δ E := fun D B H σ S L => h B H σ S _ fun v d B1 H1 p s1 i1 => L.nx B1 H1 _ _ s1.b ((S.go s1).set (s := .dat d) n i1) (k d p)
theorem sd_asgO {n : Nat} (h : EvN K B0 H0 te δ ds) (k : E.nx (δ.set n (.own ds))) : SD K B0 H0 W (tAsg te (gName n)) δ E := fun D B H σ S L => h B H σ S _ fun l vs B1 H1 s1 f1 f2 f3 f4 => by
  refine L.nx B1 H1 _ _ s1.b ((S.go s1).setO n f3 f2 (none_of S.st.h f1) f4 fun j es _ hj hl => ?_) k
  obtain ⟨m, ws, g1, g2, _⟩ := S.own j es hj
  rw [hl] at g1
  cases Option.some.inj (Option.some.inj g1)
  rw [f1] at g2
  cases g2
theorem sd_unp {g : TG} {ix : List Nat} (h : EvS K B0 H0 te δ (.dat d)) (hg : TGd K B0 H0 g ix δ d δ1) (k : E.nx δ1) : SD K B0 H0 W (tAsg te g) δ E := fun D B H σ S L => h B H σ S _ fun v B1 H1 s1 i1 => hg B1 H1 σ v (S.go s1) i1 _ fun σ' S' _ => L.nx B1 H1 σ' _ s1.b S' k
theorem sd_ret (h : EvS K B0 H0 te δ (.dat d)) (k : E.rt d) : SD K B0 H0 W (tRet te) δ E := fun D B H σ S L => h B H σ S _ fun v B1 H1 s1 i1 => L.rt v d B1 H1 s1.b (S.st.trans s1) i1 k
theorem sd_retR {P : PyData → Prop} (h : EvR K B0 H0 te δ P) (k : ∀ d, P d → E.rt d) : SD K B0 H0 W (tRet te) δ E := fun D B H σ S L => h B H σ S _ fun v d B1 H1 p s1 i1 => L.rt v d B1 H1 s1.b (S.st.trans s1) i1 (k d p)
theorem sd_retN (k : E.rt .none) : SD K B0 H0 W tRetN δ E := fun D B H σ S L => L.rt .non .none B H (.refl _) S.st .non k
/-- a list of its own is given back -/
theorem sd_retO {n : Nat} (hn : δ[n]? = some (Sl.own ds)) (k : E.ro ds) : SD K B0 H0 W (tRet (tVar n)) δ E := fun D B H σ S L => by
  obtain ⟨l, vs, h1, h2, h3, h4, h5⟩ := S.own n ds hn
  exact ⟨.ref l, h1, L.ro l vs ds B H (.refl _) S.st h4 h3 h2 h5 k⟩
theorem sd_retE (h : EvN K B0 H0 te δ ds) (k : E.ro ds) : SD K B0 H0 W (tRet te) δ E := fun D B H σ S L => h B H σ S _ fun l vs B1 H1 s1 f1 f2 f3 f4 => L.ro l vs ds B1 H1 s1.b (S.st.trans s1) (none_of S.st.h f1) f2 f3 f4 k
/-- a new list of which P is true -/
def EvNR (K : PySem.W.Frag) (B0 H0 : Hp) (te : TE) (δ : List Sl) (P : List PyData → Prop) : Prop := ∀ B H σ, Sc K B0 H0 B H σ δ → ∀ Q : VK, (∀ l vs ds B' H', P ds → Stp B H B' H' → H l = none → B' l = none → H' l = some (.lst vs) → DtAll K B' vs ds → Q (.ref l) H') → te σ H Q
theorem n_of (h : EvNR K B0 H0 te δ fun es => es = ds) : EvN K B0 H0 te δ ds := fun B H σ S Q q => h B H σ S Q fun l vs es B' H' p => by
  subst p
  exact q l vs B' H'
theorem nr_of {P : List PyData → Prop} (h : EvN K B0 H0 te δ ds) (p : P ds) : EvNR K B0 H0 te δ P := fun B H σ S Q q => h B H σ S Q fun l vs B' H' => q l vs ds B' H' p
theorem sd_asgN {n : Nat} {P : List PyData → Prop} (h : EvNR K B0 H0 te δ P) (k : ∀ ds, P ds → E.nx (δ.set n (.own ds))) : SD K B0 H0 W (tAsg te (gName n)) δ E := fun D B H σ S L => h B H σ S _ fun l vs ds B1 H1 p s1 f1 f2 f3 f4 => by
  refine L.nx B1 H1 _ _ s1.b ((S.go s1).setO n f3 f2 (none_of S.st.h f1) f4 fun j es _ hj hl => ?_) (k ds p)
  obtain ⟨m, ws, g1, g2, _⟩ := S.own j es hj
  rw [hl] at g1
  cases Option.some.inj (Option.some.inj g1)
  rw [f1] at g2
  cases g2
theorem q_asgN {n : Nat} {P : List PyData → Prop} (h : EvNR K B0 H0 te δ P) (k : ∀ ds, P ds → SD K B0 H0 W u (δ.set n (.own ds)) E) : SD K B0 H0 W (tSeq (tAsg te (gName n)) u) δ E := sd_seq (sd_asgN h k)
theorem sd_drop (h : EvS K B0 H0 te δ s) (k : E.nx δ) : SD K B0 H0 W (tDrop te) δ E := fun D B H σ S L => h B H σ S _ fun v B1 H1 s1 i1 => L.nx B1 H1 σ δ s1.b (S.go s1) k
theorem sd_if (h : EvB K B0 H0 tt δ b) (h1 : b = true → SD K B0 H0 W t δ E) (h2 : b = false → SD K B0 H0 W u δ E) : SD K B0 H0 W (tIfS tt t u) δ E := fun D B H σ S L => h B H σ S _ fun B1 H1 s1 => by
  cases b with
  | true => exact h1 rfl D B1 H1 σ (S.go s1) (L.mono s1.b)
  | false => exact h2 rfl D B1 H1 σ (S.go s1) (L.mono s1.b)
theorem sd_freeze {n : Nat} (hn : δ[n]? = some (Sl.own ds)) (h : SD K B0 H0 W t (δ.set n (.dat (.list ds))) E) : SD K B0 H0 W t δ E := fun D B H σ S L => by
  obtain ⟨B', e, S'⟩ := S.freeze hn
  exact h D B' H σ S' (L.mono e)
theorem sd_env (e : δ = δ1) (h : SD K B0 H0 W t δ1 E) : SD K B0 H0 W t δ E := e ▸ h
theorem sd_forget (n : Nat) (h : SD K B0 H0 W t (δ.set n Sl.no) E) : SD K B0 H0 W t δ E := fun D B H σ S L => h D B H σ (by
  by_cases hn : n < σ.length
  · have := S.put n (σ[n])
    rw [List.set_getElem_self hn] at this
    exact this
  · have e : δ.set n Sl.no = δ := List.set_eq_of_length_le (by rw [← S.len]; omega)
    rw [e]
    exact S) L
/-- xs.append(e), xs of its own -/
theorem sd_app {n : Nat} (hn : δ[n]? = some (Sl.own ds)) (h : EvS K B0 H0 te δ (.dat d)) (hz : ds.length < 100000) (k : E.nx (δ.set n (.own (ds ++ [d])))) : SD K B0 H0 W (tDrop (tBM K "list" rAppend (tVar n) (tCons te tNil))) δ E := fun D B H σ S L => by
  obtain ⟨l, vs, h1, h2, h3, h4, h5⟩ := S.own n ds hn
  refine ⟨.ref l, h1, .inl ⟨rfl, _, sq_of h2⟩, h B H σ S _ fun v B1 H1 s1 i1 => ?_⟩
  obtain ⟨l', ws, g1, g2, g3, g4, g5⟩ := (S.go s1).own n ds hn
  rw [h1] at g1
  cases Option.some.inj (Option.some.inj g1)
  exact ⟨l, ws, v, rfl, rfl, g2, by rw [g5.len]; exact sz_lt hz, L.nx B1 _ σ _ s1.b ((S.go s1).mut hn h1 (g5.app (.cons i1 .nil))) k⟩
/-- xs[j] = e, xs of its own -/
theorem sd_put {n j : Nat} (hn : δ[n]? = some (Sl.own ds)) (h : EvS K B0 H0 te δ (.dat d)) (hj : EvS K B0 H0 tb δ (nI (j : Int))) (hl : j < ds.length) (k : E.nx (δ.set n (.own (ds.set j d)))) : SD K B0 H0 W (tAsg te (gSub (tVar n) tb rSetL)) δ E := fun D B H σ S L =>
  h B H σ S _ fun v B1 H1 s1 i1 => by
    have S1 := S.go s1
    obtain ⟨l, vs, h1, h2, h3, h4, h5⟩ := S1.own n ds hn
    refine ⟨.ref l, h1, hj B1 H1 σ S1 _ fun w B2 H2 s2 i2 => ?_⟩
    cases i2
    obtain ⟨l', ws, g1, g2, g3, g4, g5⟩ := (S1.go s2).own n ds hn
    rw [h1] at g1
    cases Option.some.inj (Option.some.inj g1)
    exact ⟨l, ws, (j : Int), j, rfl, rfl, g2, ixN_nat (by rw [g5.len]; exact hl), L.nx B2 _ σ _ (s1.b.trans s2.b) ((S1.go s2).mut hn h1 (g5.set j (dt_mono s2.b _ _ i1))) k⟩
/-! loops -/
theorem sd_for {wi : TI} {g : TG} {tb : TS} (hw : EvW K B0 H0 wi δ ds) (P : Nat → List Sl → Prop) (h0 : P 0 δ)
    (hs : ∀ (i : Nat) (d : PyData) (δ' : List Sl), ds[i]? = some d → P i δ' → ∃ ix δ2, TGd K B0 H0 g ix δ' d δ2 ∧ SD K B0 H0 W tb δ2 { E with nx := P (i + 1), ct := P (i + 1), bk := E.nx }) (hd : ∀ δ', P ds.length δ' → E.nx δ') : SD K B0 H0 W (tFor wi g tb) δ E := fun D B H σ S L =>
  hw B H σ S _ fun J G Y B1 H1 s1 Wk hG hY => for_it Wk (fun i σ' H' => ∃ B' δ', Ex B1 B' ∧ Sc K B0 H0 B' H' σ' δ' ∧ P i δ') ⟨B1, δ, .refl _, S.go s1, h0⟩ (fun i σ' H' hi ⟨B', δ', e, S', _⟩ => hG B' H' e S'.st.bh) (fun i x σ' H2 H3 hi ⟨B', δ', e, S', p⟩ y => by
    obtain ⟨B3, s3, dx⟩ := hY i H2 x H3 B' _ (List.getElem?_eq_getElem hi) e S'.st.bh y
    obtain ⟨ix, δ2, hg, hb⟩ := hs i _ δ' (List.getElem?_eq_getElem hi) p
    refine hg B3 H3 σ' x (S'.go s3) dx _ fun σ2 S2 _ => ?_
    have L3 := L.mono ((s1.b.trans e).trans s3.b)
    exact hb _ B3 H3 σ2 S2 ⟨fun B4 H4 σ4 δ4 e4 S4 p4 => ⟨B4, δ4, (e.trans s3.b).trans e4, S4, p4⟩, L3.rt, L3.nx, fun B4 H4 σ4 δ4 e4 S4 p4 => ⟨B4, δ4, (e.trans s3.b).trans e4, S4, p4⟩, L3.ex, L3.ro⟩) fun σ' H' ⟨B', δ', e, S', p⟩ => L.nx B' H' σ' δ' (s1.b.trans e) S' (hd δ' p)
theorem sd_while {tb : TS} (P : Nat → List Sl → Prop) (m0 : Nat) (h0 : P m0 δ)
    (hs : ∀ (m : Nat) (δ' : List Sl), P m δ' → ∃ b, EvB K B0 H0 tt δ' b ∧ (b = true → SD K B0 H0 W tb δ' { E with nx := fun δ2 => ∃ m', m' < m ∧ P m' δ2, ct := fun δ2 => ∃ m', m' < m ∧ P m' δ2, bk := E.nx }) ∧ (b = false → E.nx δ')) : SD K B0 H0 W (tWhile tt tb) δ E := fun D B H σ S L =>
  ⟨fun m σ' H' => ∃ B' δ', Ex B B' ∧ Sc K B0 H0 B' H' σ' δ' ∧ P m δ', ⟨m0, B, δ, .refl _, S, h0⟩, fun m σ' H' ⟨B', δ', e, S', p⟩ => by
    obtain ⟨b, hb, h1, h2⟩ := hs m δ' p
    refine hb B' H' σ' S' _ fun B2 H2 s2 => ?_
    have L2 := L.mono (e.trans s2.b)
    cases b with
    | true =>
      rw [if_pos rfl]
      refine ⟨fun σ3 H3 => ∃ m', m' < m ∧ ∃ B3 δ3, Ex B B3 ∧ Sc K B0 H0 B3 H3 σ3 δ3 ∧ P m' δ3, fun σ3 H3 ⟨m', hm, q⟩ => ⟨m', hm, q⟩, h1 rfl _ B2 H2 σ' (S'.go s2) ⟨fun B4 H4 σ4 δ4 e4 S4 ⟨m', hm, p4⟩ => ⟨m', hm, B4, δ4, (e.trans s2.b).trans e4, S4, p4⟩, L2.rt, L2.nx, fun B4 H4 σ4 δ4 e4 S4 ⟨m', hm, p4⟩ => ⟨m', hm, B4, δ4, (e.trans s2.b).trans e4, S4, p4⟩, L2.ex, L2.ro⟩⟩
    | false =>
      rw [if_neg (by decide)]
      exact L2.nx B2 H2 σ' δ' (.refl _) (S'.go s2) (h2 rfl)⟩
/-! raising -/
theorem sd_raise {C : Addr} (h : E.ex C δ) : SD K B0 H0 W (fun _ σ H => W (.ref C) none σ H) δ E := fun D B H σ S L => L.ex C B H σ δ (.refl _) S h
theorem x_of {P : PyData → Prop} {ex : Addr → Prop} (h : EvR K B0 H0 te δ P) : EvX K B0 H0 W te δ P ex := fun B H σ S _ Q q => h B H σ S Q q
theorem x_call {A : Type} {enc : A → List Sl} {pre : A → Prop} {bad : A → Option Addr} {post : A → PyData → Prop} {R : XK} {tr : TA} (a : A) (h : EvA K B0 H0 tr δ (enc a)) (hp : pre a) : EvX K B0 H0 (fun cls d _ H => R cls d H) (tCall (SpX K enc pre bad post) [] R tr) δ (fun d => bad a = none ∧ post a d) (fun C => bad a = some C) := fun B H σ S hx Q q =>
  h B H σ S _ fun vs B1 H1 s1 i1 => ⟨B1, a, s1.bh, by rw [List.append_nil]; exact i1, hp, fun C hC H' e => hx C B1 H' (s1.trans (.same s1.bh e)) hC, fun hb v d B2 H2 p st dv => q v d B2 H2 ⟨hb, p⟩ (s1.trans st) dv⟩
theorem x_callS {A : Type} {enc : A → List Sl} {pre : A → Prop} {bad : A → Option Addr} {post : A → PyData → Prop} {tr : TA} (a : A) (h : EvA K B0 H0 tr δ (enc a)) (hp : pre a) : EvX K B0 H0 W (tCallS (SpX K enc pre bad post) (WE W) tr) δ (fun d => bad a = none ∧ post a d) (fun C => bad a = some C) := fun B H σ S hx Q q =>
  h B H σ S _ fun vs B1 H1 s1 i1 => ⟨B1, a, s1.bh, i1, hp, fun C hC H' e => hx C B1 H' (s1.trans (.same s1.bh e)) hC, fun hb v d B2 H2 p st dv => q v d B2 H2 ⟨hb, p⟩ (s1.trans st) dv⟩
theorem sd_asgX {n : Nat} {P : PyData → Prop} {ex : Addr → Prop} (h : EvX K B0 H0 W te δ P ex) (hx : ∀ C, ex C → E.ex C δ) (k : ∀ d, P d → E.nx (δ.set n (.dat d))) : SD K B0 H0 W (tAsg te (gName n)) δ E := fun D B H σ S L =>
  h B H σ S (fun C B' H' st hC => L.ex C B' H' σ δ st.b (S.go st) (hx C hC)) _ fun v d B1 H1 p s1 i1 => L.nx B1 H1 _ _ s1.b ((S.go s1).set (s := .dat d) n i1) (k d p)
theorem sd_retX {P : PyData → Prop} {ex : Addr → Prop} (h : EvX K B0 H0 W te δ P ex) (hx : ∀ C, ex C → E.ex C δ) (k : ∀ d, P d → E.rt d) : SD K B0 H0 W (tRet te) δ E := fun D B H σ S L =>
  h B H σ S (fun C B' H' st hC => L.ex C B' H' σ δ st.b (S.go st) (hx C hC)) _ fun v d B1 H1 p s1 i1 => L.rt v d B1 H1 s1.b (S.st.trans s1) i1 (k d p)
/-- try: .. except X as e: a suite -/
def tTry (K : PySem.W.Frag) (c : Value) (n : Nat) (tb : WX → TS) (ts : Addr → Value → Option Addr → TS) (W : WX) : TS := fun D σ H => tb (wAs K c n ts W D) D σ H
theorem ps_tryD {X : Cx} {x nm : Str} {c : Value} {i : Nat} {body suite : List Stmt} {b₀ : Stmt} {np pos pos' : Pos} {tb : WX → TS} {ts : Addr → Value → Option Addr → TS} {Wout : WX} (hs : X.stack = X.env :: X.outer) (hf : X.env.frame = some X.env.locals) (hN : X.N.Nodup) (hi : X.N[i]? = some nm) (hln : X.env.kindOf nm = some .local) (hc : Names X x c) (tk : Takes X Wout)
    (hb : ∀ (W : WX) (pn : List (Addr × Obj)) (xe : Value → Shared → Prop), Takes (X.tr pn xe) W → PassesOwn (model X.prog X.w) X.A X.env xe → PSs (X.tr pn xe) body (tb W))
    (hsu : ∀ (a : Addr) (oe : Obj) (cls : Value) (d : Option Addr) (pn : List (Addr × Obj)), Zc cls d oe → (∃ vs, oe.data = .fields vs) → PSs (X.suite a ((a, oe) :: pn)) (b₀ :: suite) (ts a cls d)) :
    PS X (.Try body [.ExceptHandler (some (.Name x np)) (some nm) (b₀ :: suite) pos'] [] [] pos) (tTry X.K c i tb ts Wout) := ps_try_as hs hf hN hi hln hc tk hb hsu
theorem sd_try {n : Nat} {c : Value} {tb : WX → TS} {ts : Addr → Value → Option Addr → TS} (xs : Addr → List Sl → Prop) (h : ∀ W', SD K B0 H0 W' (tb W') δ { E with ex := xs })
    (hx : ∀ C δ', xs C δ' → PySem.W.exmOne K (.ref C) c = some true ∧ ∀ a, SD K B0 H0 W (ts a (.ref C) none) (δ'.set n (.raw (.ref a))) { E with nx := fun δ2 => E.nx (δ2.set n Sl.no), bk := fun δ2 => E.bk (δ2.set n Sl.no), ct := fun δ2 => E.ct (δ2.set n Sl.no) }) :
    SD K B0 H0 W (tTry K c n tb ts W) δ E := fun D B H σ S L =>
  h _ D B H σ S ⟨L.nx, L.rt, L.bk, L.ct, fun C B' H' σ' δ' e S' hC => by
    obtain ⟨h1, h2⟩ := hx C δ' hC
    refine ⟨true, h1, fun _ a ha => ?_, fun z => by cases z⟩
    have L' := L.mono e
    exact h2 a _ B' H' _ (S'.set (s := .raw (.ref a)) n rfl) ⟨fun B2 H2 σ2 δ2 e2 S2 p => L'.nx B2 H2 _ _ e2 (S2.put n none) p, L'.rt, fun B2 H2 σ2 δ2 e2 S2 p => L'.bk B2 H2 _ _ e2 (S2.put n none) p, fun B2 H2 σ2 δ2 e2 S2 p => L'.ct B2 H2 _ _ e2 (S2.put n none) p, L'.ex, L'.ro⟩, L.ro⟩
/-! ### a statement, then the rest -/
theorem q_asg {n : Nat} (δ1 : List Sl) (h : EvS K B0 H0 te δ s) (k : SD K B0 H0 W u δ1 E) (he : δ.set n s = δ1 := by rfl) : SD K B0 H0 W (tSeq (tAsg te (gName n)) u) δ E := sd_seq (sd_asg h (by subst he; exact k))
theorem q_asgO {n : Nat} (δ1 : List Sl) (h : EvN K B0 H0 te δ ds) (k : SD K B0 H0 W u δ1 E) (he : δ.set n (.own ds) = δ1 := by rfl) : SD K B0 H0 W (tSeq (tAsg te (gName n)) u) δ E := sd_seq (sd_asgO h (by subst he; exact k))
theorem q_asgR {n : Nat} {P : PyData → Prop} (h : EvR K B0 H0 te δ P) (k : ∀ d, P d → SD K B0 H0 W u (δ.set n (.dat d)) E) : SD K B0 H0 W (tSeq (tAsg te (gName n)) u) δ E := sd_seq (sd_asgR h k)
theorem q_asgX {n : Nat} {P : PyData → Prop} {ex : Addr → Prop} (h : EvX K B0 H0 W te δ P ex) (hx : ∀ C, ex C → E.ex C δ) (k : ∀ d, P d → SD K B0 H0 W u (δ.set n (.dat d)) E) : SD K B0 H0 W (tSeq (tAsg te (gName n)) u) δ E := sd_seq (sd_asgX h hx k)
theorem q_unp {g : TG} {ix : List Nat} (δ1 : List Sl) (h : EvS K B0 H0 te δ (.dat d)) (hg : TGd K B0 H0 g ix δ d δ1) (k : SD K B0 H0 W u δ1 E) : SD K B0 H0 W (tSeq (tAsg te g) u) δ E := sd_seq (sd_unp h hg k)
/-- an if that leaves, or goes on -/
theorem q_when (h : EvB K B0 H0 tt δ b) (h1 : b = true → SD K B0 H0 W t δ { E with nx := fun δ' => SD K B0 H0 W u δ' E }) (h2 : b = false → SD K B0 H0 W u δ E) : SD K B0 H0 W (tSeq (tIfS tt t tNext) u) δ E := sd_seq (sd_if h h1 fun hb => sd_next (h2 hb))
theorem q_if {t' : TS} (h : EvB K B0 H0 tt δ b) (h1 : b = true → SD K B0 H0 W t δ { E with nx := fun δ' => SD K B0 H0 W u δ' E }) (h2 : b = false → SD K B0 H0 W t' δ { E with nx := fun δ' => SD K B0 H0 W u δ' E }) : SD K B0 H0 W (tSeq (tIfS tt t t') u) δ E := sd_seq (sd_if h h1 h2)
theorem sd_when (h : EvB K B0 H0 tt δ b) (h1 : b = true → SD K B0 H0 W t δ E) (h2 : b = false → E.nx δ) : SD K B0 H0 W (tIfS tt t tNext) δ E := sd_if h h1 fun hb => sd_next (h2 hb)
theorem q_drop (h : EvS K B0 H0 te δ s) (k : SD K B0 H0 W u δ E) : SD K B0 H0 W (tSeq (tDrop te) u) δ E := sd_seq (sd_drop h k)
theorem q_app {n : Nat} (δ1 : List Sl) (hn : δ[n]? = some (Sl.own ds)) (h : EvS K B0 H0 te δ (.dat d)) (hz : ds.length < 100000) (k : SD K B0 H0 W u δ1 E) (he : δ.set n (.own (ds ++ [d])) = δ1 := by rfl) : SD K B0 H0 W (tSeq (tDrop (tBM K "list" rAppend (tVar n) (tCons te tNil))) u) δ E := sd_seq (sd_app hn h hz (by subst he; exact k))
theorem q_put {n j : Nat} (δ1 : List Sl) (hn : δ[n]? = some (Sl.own ds)) (h : EvS K B0 H0 te δ (.dat d)) (hj : EvS K B0 H0 tb δ (nI (j : Int))) (hl : j < ds.length) (k : SD K B0 H0 W u δ1 E) (he : δ.set n (.own (ds.set j d)) = δ1 := by rfl) : SD K B0 H0 W (tSeq (tAsg te (gSub (tVar n) tb rSetL)) u) δ E := sd_seq (sd_put hn h hj hl (by subst he; exact k))
theorem q_for {wi : TI} {g : TG} {tb : TS} (hw : EvW K B0 H0 wi δ ds) (P : Nat → List Sl → Prop) (h0 : P 0 δ)
    (hs : ∀ (i : Nat) (d : PyData) (δ' : List Sl), ds[i]? = some d → P i δ' → ∃ ix δ2, TGd K B0 H0 g ix δ' d δ2 ∧ SD K B0 H0 W tb δ2 { E with nx := P (i + 1), ct := P (i + 1), bk := fun δ' => SD K B0 H0 W u δ' E }) (hd : ∀ δ', P ds.length δ' → SD K B0 H0 W u δ' E) : SD K B0 H0 W (tSeq (tFor wi g tb) u) δ E := sd_seq (sd_for hw P h0 hs hd)
theorem q_while {tb : TS} (P : Nat → List Sl → Prop) (m0 : Nat) (h0 : P m0 δ)
    (hs : ∀ (m : Nat) (δ' : List Sl), P m δ' → ∃ b, EvB K B0 H0 tt δ' b ∧ (b = true → SD K B0 H0 W tb δ' { E with nx := fun δ2 => ∃ m', m' < m ∧ P m' δ2, ct := fun δ2 => ∃ m', m' < m ∧ P m' δ2, bk := fun δ' => SD K B0 H0 W u δ' E }) ∧ (b = false → SD K B0 H0 W u δ' E)) : SD K B0 H0 W (tSeq (tWhile tt tb) u) δ E := sd_seq (sd_while P m0 h0 hs)
/-! ### a def's body -/
/-- from the promise to the body by data -/
theorem run_body {A : Type} {enc : A → List Sl} {pre : A → Prop} {post : A → PyData → Prop} {N : List Str} {vs : List V} {Q : VK} {R : XK} {ts : TS} (h : SpA K enc pre post vs H Q R)
    (hb : ∀ a B, pre a → SD K B H (fun _ _ _ _ => False) ts (enc a ++ List.replicate (N.length - (enc a).length) Sl.no) { nx := fun _ => post a .none, rt := post a }) : ts { nx := fun _ H' => Q .non H', rt := Q } (L2.start N vs) H := by
  obtain ⟨B, a, e, iv, hp, q⟩ := h
  have S := sc_start (N.length - vs.length) e iv
  have hl := iv.len
  have hb' := hb a B hp
  rw [← hl] at hb'
  exact hb' _ B H _ S ⟨fun B' H' σ' δ' _ S' hp => q .non .none B' H' hp S'.st .non, fun v d B' H' _ st dv hp => q v d B' H' hp st dv, fun _ _ _ _ _ _ z => z.elim, fun _ _ _ _ _ _ z => z.elim, fun _ _ _ _ _ _ _ z => z.elim, fun _ _ _ _ _ _ _ _ _ _ _ z => z.elim⟩
/-- a def that gives a new list -/
def SpN (K : PySem.W.Frag) {A : Type} (enc : A → List Sl) (pre : A → Prop) (post : A → List PyData → Prop) : Sp := fun vs H Q _ => ∃ B a, Ex B H ∧ IsAll K B vs (enc a) ∧ pre a ∧ ∀ l ws ds B' H', post a ds → Stp B H B' H' → H l = none → B' l = none → H' l = some (.lst ws) → DtAll K B' ws ds → Q (.ref l) H'
theorem nr_call {A : Type} {enc : A → List Sl} {pre : A → Prop} {post : A → List PyData → Prop} {R : XK} {tr : TA} (a : A) (h : EvA K B0 H0 tr δ (enc a)) (hp : pre a) : EvNR K B0 H0 (tCall (SpN K enc pre post) [] R tr) δ (post a) := fun B H σ S Q q =>
  h B H σ S _ fun vs B1 H1 s1 i1 => ⟨B1, a, s1.bh, by rw [List.append_nil]; exact i1, hp, fun l ws ds B2 H2 p st f1 f2 f3 f4 => q l ws ds B2 H2 p (s1.trans st) (none_of s1.h f1) f2 f3 f4⟩
theorem n_call {A : Type} {enc : A → List Sl} {pre : A → Prop} {f : A → List PyData} {R : XK} {tr : TA} (a : A) (h : EvA K B0 H0 tr δ (enc a)) (hp : pre a) : EvN K B0 H0 (tCall (SpN K enc pre fun a ds => ds = f a) [] R tr) δ (f a) := n_of (nr_call a h hp)
theorem run_bodyN {A : Type} {enc : A → List Sl} {pre : A → Prop} {post : A → List PyData → Prop} {N : List Str} {vs : List V} {Q : VK} {R : XK} {ts : TS} (h : SpN K enc pre post vs H Q R)
    (hb : ∀ a B, pre a → SD K B H (fun _ _ _ _ => False) ts (enc a ++ List.replicate (N.length - (enc a).length) Sl.no) { nx := fun _ => False, rt := fun _ => False, ro := post a }) : ts { nx := fun _ H' => Q .non H', rt := Q } (L2.start N vs) H := by
  obtain ⟨B, a, e, iv, hp, q⟩ := h
  have S := sc_start (N.length - vs.length) e iv
  have hl := iv.len
  have hb' := hb a B hp
  rw [← hl] at hb'
  exact hb' _ B H _ S ⟨fun B' H' σ' δ' _ S' hp => hp.elim, fun v d B' H' _ st dv hp => hp.elim, fun _ _ _ _ _ _ z => z.elim, fun _ _ _ _ _ _ z => z.elim, fun _ _ _ _ _ _ _ z => z.elim, fun l vs ds B' H' _ st f1 f2 f3 f4 p => q l vs ds B' H' p st f1 f2 f3 f4⟩
/-- .. of a def that may raise -/
theorem run_bodyX {A : Type} {enc : A → List Sl} {pre : A → Prop} {bad : A → Option Addr} {post : A → PyData → Prop} {N : List Str} {vs : List V} {Q : VK} {R : XK} {ts : TS} (h : SpX K enc pre bad post vs H Q R)
    (hb : ∀ a B, pre a → SD K B H (fun cls d _ H => R cls d H) ts (enc a ++ List.replicate (N.length - (enc a).length) Sl.no) { nx := fun _ => bad a = none ∧ post a .none, rt := fun d => bad a = none ∧ post a d, ex := fun C _ => bad a = some C }) : ts { nx := fun _ H' => Q .non H', rt := Q } (L2.start N vs) H := by
  obtain ⟨B, a, e, iv, hp, qx, q⟩ := h
  have S := sc_start (N.length - vs.length) e iv
  have hl := iv.len
  have hb' := hb a B hp
  rw [← hl] at hb'
  exact hb' _ B H _ S ⟨fun B' H' σ' δ' _ S' hp => q hp.1 .non .none B' H' hp.2 S'.st .non, fun v d B' H' _ st dv hp => q hp.1 v d B' H' hp.2 st dv, fun _ _ _ _ _ _ z => z.elim, fun _ _ _ _ _ _ z => z.elim, fun C B' H' σ' δ' _ S' hC => qx C hC H' S'.st.h, fun _ _ _ _ _ _ _ _ _ _ _ z => z.elim⟩
/-- the law's body: the script at an address -/
theorem run_law {N : List Str} {ns : List Int} {sa : Addr} {Q : VK} {ts : TS} (hS : SqL K H sa (ns.map V.int)) (q : ∀ H', Q (.bl true) H') (hn : N.length = n + 1)
    (hb : ∀ B, SD K B H (fun _ _ _ _ => False) ts (.sem (scrP K ns) :: List.replicate n Sl.no) { nx := fun _ => False, rt := fun d => d = .bool true }) : ts { nx := fun _ H' => Q .non H', rt := Q } (L2.start N [.ref sa]) H := by
  have iv : IsAll K H [V.ref sa] [Sl.sem (scrP K ns)] := .cons ⟨sa, rfl, hS⟩ .nil
  have S := sc_start n (.refl H) iv
  have e : L2.start N [.ref sa] = [V.ref sa].map some ++ List.replicate n none := by
    unfold L2.start
    rw [hn]
    rfl
  rw [e]
  exact hb H _ H H _ S ⟨fun B' H' σ' δ' _ S' hp => hp.elim, fun v d B' H' _ st dv hp => by
    subst hp
    cases dv
    exact q H', fun _ _ _ _ _ _ z => z.elim, fun _ _ _ _ _ _ z => z.elim, fun _ _ _ _ _ _ _ z => z.elim, fun _ _ _ _ _ _ _ _ _ _ _ z => z.elim⟩
end
end Ja

/-! Own data layer: texts, bits, comparisons of ints' tuples. -/
namespace Ja
open PySem PySem.Spec PyProof.Rows L2 Evl Cm Dg Tx
open SX (S S_cat S_len num_S)
open TL (numL numL_lt)
def Sm (n : Nat) : Prop := n < 10 ^ 300
theorem sm_le {n m : Nat} (h : Sm n) (hm : m ≤ n) : Sm m := Nat.lt_of_le_of_lt hm h
theorem sm_of {n k : Nat} (h : n ≤ k) (hk : k < 10 ^ 300) : Sm n := Nat.lt_of_le_of_lt h hk
theorem lg {n k : Nat} (h : n < 2 ^ k) (hk : 0 < k) : n.log2 < k := by
  by_cases h0 : n = 0
  · subst h0
    exact hk
  · exact (Nat.log2_lt h0).mpr h
theorem sm_lg {n : Nat} (h : Sm n) : n.log2 < 1920 := lg (Nat.lt_of_lt_of_le h (by decide +kernel)) (by decide)
theorem sm_len {n : Nat} (h : Sm n) : (numL n).length ≤ 300 := num_len 299 n h
section
variable {K : PySem.W.Frag} {B0 H0 : Hp} {σ : L2.St} {δ : List Sl} {ta tb te to : TE} {a b : List Nat} {i j : Int} {H : Hp}
/-! ### bits -/
theorem rv_and1 : RV (fun x y H Q => ∃ (i : Int) (k : Nat), x = .int i ∧ y = .int (2 ^ k - 1) ∧ Q (.int (i % 2 ^ k)) H) (.int i) (.int 1) H (.int (i % 2)) := fun H1 _ _ q => ⟨i, 1, rfl, rfl, q H1 (Ex.refl H1)⟩
theorem d_and1 (ha : EvS K B0 H0 ta δ (nI i)) (hb : EvS K B0 H0 tb δ (nI 1)) : EvS K B0 H0 (tOp (fun x y H Q => ∃ (i : Int) (k : Nat), x = .int i ∧ y = .int (2 ^ k - 1) ∧ Q (.int (i % 2 ^ k)) H) ta tb) δ (nI (i % 2)) := d_ii ha hb fun _ => rv_and1
theorem d_shr {k : Nat} (ha : EvS K B0 H0 ta δ (nI i)) (hb : EvS K B0 H0 tb δ (nI (k : Int))) : EvS K B0 H0 (tOp (fun x y H Q => ∃ (i : Int) (k : Nat), x = .int i ∧ y = .int (k : Int) ∧ Q (.int (i / 2 ^ k)) H) ta tb) δ (nI (i / 2 ^ k)) := d_ii ha hb fun _ => rv_shr
theorem d_shl {k : Nat} (ha : EvS K B0 H0 ta δ (nI i)) (hb : EvS K B0 H0 tb δ (nI (k : Int))) (h : CShl i (k : Int)) : EvS K B0 H0 (tOp (fun x y H Q => ∃ (i : Int) (k : Nat), x = .int i ∧ y = .int (k : Int) ∧ CShl i (k : Int) ∧ Q (.int (i * 2 ^ k)) H) ta tb) δ (nI (i * 2 ^ k)) := d_ii ha hb fun _ => rv_shl h
theorem d_one {k : Nat} (ha : EvS K B0 H0 ta δ (nI 1)) (hb : EvS K B0 H0 tb δ (nI (k : Int))) (h : k ≤ 100000) : EvS K B0 H0 (tOp (fun x y H Q => ∃ k : Nat, x = .int 1 ∧ y = .int (k : Int) ∧ k ≤ 134217727 ∧ Q (.int (2 ^ k)) H) ta tb) δ (nI (2 ^ k)) := d_ii ha hb fun _ H1 _ Q q => ⟨k, rfl, rfl, by omega, q H1 (Ex.refl H1)⟩
theorem d_fdivA (ha : EvS K B0 H0 ta δ (nI i)) (hb : EvS K B0 H0 tb δ (nI j)) (h : 0 < j) (h2 : j.natAbs.log2 < 9000) : EvS K B0 H0 (tOp (rI Mi.CDivA fun i j => .int (i.fdiv j)) ta tb) δ (nI (i / j)) := d_isI (d_iC ha hb ⟨by omega, h2⟩) (Int.fdiv_eq_ediv_of_nonneg i (Int.le_of_lt h))
/-! ### texts -/
theorem d_cat (ha : EvS K B0 H0 ta δ (nS (S a))) (hb : EvS K B0 H0 tb δ (nS (S b))) (h : a.length + b.length ≤ 100000) : EvS K B0 H0 (tOp (fun x y H Q => ∃ i j, x = .str i ∧ y = .str j ∧ i.length + j.length ≤ sizeLine ∧ Q (.str (i ++ j)) H) ta tb) δ (nS (S (a ++ b))) := d_sss ha hb fun _ H1 _ Q q => ⟨S a, S b, rfl, rfl, by
  rw [S_len, S_len]
  exact sz_of h, by
  rw [S_cat]
  exact q H1 (Ex.refl H1)⟩
theorem d_strN {n : Nat} (h : EvS K B0 H0 te δ (nI (n : Int))) (hs : Sm n) : EvS K B0 H0 (tCB (fun xs H Q => ∃ i, xs = [.int i] ∧ i.natAbs.log2 < 1920 ∧ Q (.str (toString i)) H) (tCons te tNil)) δ (nS (S (numL n))) := d_cb1 h (.int _) (fun _ H1 _ Q q => ⟨(n : Int), rfl, sm_lg hs, by
  have e := num_S n
  show Q (.str (Str.ofString (toString (n : Int)))) H1
  rw [e]
  exact q H1 (Ex.refl H1)⟩) (.str _)
theorem d_join {ys : List (List Nat)} (ho : EvS K B0 H0 to δ (nS (S a))) (h : EvS K B0 H0 te δ (.dat (.list (ys.map fun y => PyData.str (S y))))) (hz : (ys.map (·.length)).sum + ys.length * a.length ≤ 100000) : EvS K B0 H0 (tM1 (fun x xs H Q => ∃ a p, ∃ ys : List Str, x = .str a ∧ xs = [.ref p] ∧ (SqL K H p (ys.map V.str) ∨ SqT K H p (ys.map V.str)) ∧
    (ys.map (·.length)).sum + ys.length * a.length ≤ 16777216 ∧ Q (.str (Txt.join a ys)) H) to te) δ (nS (S (TL.joinL a ys))) := fun B H σ Z Q q => ho B H σ Z _ fun v B1 H1 s1 i1 => by
  cases i1
  refine ⟨⟨_, rfl⟩, h B1 H1 σ (Z.go s1) _ fun w B2 H2 s2 i2 => ?_⟩
  cases i2 with
  | lst g1 g2 =>
    have e : ys.map (fun y => PyData.str (S y)) = (ys.map S).map PyData.str := by rw [List.map_map]; rfl
    rw [e] at g2
    rw [dt_strs_inv _ g2] at g1
    refine ⟨S a, _, ys.map S, rfl, rfl, .inl (sq_of (s2.bh _ _ g1)), ?_, ?_⟩
    · rw [SX.lens, List.length_map, S_len]
      omega
    · rw [SX.join_S]
      exact q _ B2 H2 (s1.trans s2) (Dt.str _)
theorem d_ixStr {c : Nat} (ha : EvS K B0 H0 ta δ (nS (S a))) (hb : EvS K B0 H0 tb δ (nI i)) (hz : a.length ≤ 100000) (h : atI a i = some c) : EvS K B0 H0 (tOp rIxS ta tb) δ (nS (S [c])) := d_sis ha hb fun _ H1 _ Q q => ⟨S a, i, c, rfl, rfl, by rw [S_len]; exact sz_of hz, by simpa using h, q H1 (Ex.refl H1)⟩
theorem signs_S (a : List Nat) : signs (S a) = a.map fun c => PyData.str (S [c]) := by
  unfold signs
  simp
theorem d_notInS {c : Nat} (ha : EvS K B0 H0 ta δ (nS (S [c]))) (hb : EvS K B0 H0 tb δ (nS (S a))) : EvS K B0 H0 (tOp (fun x y H Q => ∃ (c : Nat) (z : Str), x = .str ⟨#[c]⟩ ∧ y = .str z ∧ Q (.bl (!decide (c ∈ z.cps.toList))) H) ta tb) δ (nB (!decide (c ∈ a))) := d_ssb ha hb fun _ H1 _ Q q => ⟨c, S a, rfl, rfl, by simpa using q H1 (Ex.refl H1)⟩
theorem d_intS {n : Int} (h : EvS K B0 H0 te δ (nS (S a))) (hn : PySem.intText? (S a) = some n) (hz : a.length ≤ 640) : EvS K B0 H0 (tCB (fun xs H Q => ∃ a n, xs = [.str a] ∧ PySem.intText? a = some n ∧ a.length ≤ 640 ∧ Q (.int n) H) (tCons te tNil)) δ (nI n) := d_cb1 h (.str _) (fun _ H1 _ Q q => ⟨S a, n, rfl, hn, by rw [S_len]; exact hz, q H1 (Ex.refl H1)⟩) (.int _)
theorem d_lenSS {ta : TE} (h : EvS K B0 H0 ta δ (nS (S a))) (hl : a.length ≤ 100000) : EvS K B0 H0 (tCB (fun xs H Q => ∃ x n, xs = [x] ∧ LenV K x H n ∧ Q (.int n) H) (tCons ta tNil)) δ (nI a.length) := by
  have := d_lenS (K := K) (B0 := B0) (H0 := H0) h (by rw [S_len]; exact hl)
  rwa [S_len] at this
theorem d_eqSS (ha : EvS K B0 H0 ta δ (nS (S a))) (hb : EvS K B0 H0 tb δ (nS (S b))) : EvS K B0 H0 (tOp rEq ta tb) δ (nB (decide (a = b))) := d_isB (d_eqS ha hb) (decide_eq_decide.mpr ⟨SX.S_inj, fun z => by rw [z]⟩)
theorem d_neSS (ha : EvS K B0 H0 ta δ (nS (S a))) (hb : EvS K B0 H0 tb δ (nS (S b))) : EvS K B0 H0 (tOp rNe ta tb) δ (nB (!decide (a = b))) := d_isB (d_neS ha hb) (congrArg _ (decide_eq_decide.mpr ⟨SX.S_inj, fun z => by rw [z]⟩))
end
/-! ### data without dicts, not deep: shaped -/
theorem lay_ints : ∀ (is : List Int), PyData.canLayAll0 (is.map PyData.int) = true
  | [] => rfl
  | i :: r => by
    show (PyData.canLay0 (.int i) && PyData.canLayAll0 (r.map PyData.int)) = true
    rw [lay_ints r]
    rfl
theorem dep_ints : ∀ (is : List Int), PyData.depthAll (is.map PyData.int) = 0
  | [] => rfl
  | i :: r => by
    show max 0 (PyData.depthAll (r.map PyData.int)) = 0
    rw [dep_ints r]
    rfl
/-- laid, and at most n deep -/
def Shp (n : Nat) (d : PyData) : Prop := PyData.canLay0 d = true ∧ PyData.depth d ≤ n
def ShpAll (n : Nat) (ds : List PyData) : Prop := PyData.canLayAll0 ds = true ∧ PyData.depthAll ds ≤ n
theorem Shp.ok {n : Nat} {d : PyData} (h : Shp n d) (hn : n ≤ 64 := by decide) : SeqAt.shaped d = true := by
  unfold SeqAt.shaped
  rw [h.1, Bool.true_and]
  exact decide_eq_true (Nat.le_trans h.2 hn)
theorem shp_int {n : Nat} (i : Int) : Shp n (.int i) := ⟨rfl, Nat.zero_le _⟩
theorem shp_str {n : Nat} (i : Str) (h : PyData.canLay0 (.str i) = true := by decide) : Shp n (.str i) := ⟨h, Nat.zero_le _⟩
theorem shp_bool {n : Nat} (b : Bool) : Shp n (.bool b) := ⟨rfl, Nat.zero_le _⟩
theorem shp_none {n : Nat} : Shp n .none := ⟨rfl, Nat.zero_le _⟩
theorem shp_nil {n : Nat} : ShpAll n [] := ⟨rfl, Nat.zero_le _⟩
theorem shp_cons {n : Nat} {d : PyData} {ds : List PyData} (h : Shp n d) (g : ShpAll n ds) : ShpAll n (d :: ds) := ⟨by
  show (PyData.canLay0 d && PyData.canLayAll0 ds) = true
  rw [h.1, g.1]
  rfl, by
  show max (PyData.depth d) (PyData.depthAll ds) ≤ n
  have := h.2
  have := g.2
  omega⟩
theorem shp_tup {n : Nat} {ds : List PyData} (h : ShpAll n ds) : Shp (n + 1) (.tuple ds) := ⟨h.1, Nat.succ_le_succ h.2⟩
theorem shp_lst {n : Nat} {ds : List PyData} (h : ShpAll n ds) : Shp (n + 1) (.list ds) := ⟨h.1, Nat.succ_le_succ h.2⟩
theorem shp_map {A : Type} {n : Nat} {f : A → PyData} (h : ∀ x, Shp n (f x)) : ∀ xs : List A, ShpAll n (xs.map f)
  | [] => shp_nil
  | x :: r => shp_cons (h x) (shp_map h r)
theorem eqv_self {d : PyData} (h : SeqAt.shaped d = true) : PyData.eqv d d = true := eqvS h
/-- a function to data by which equal data come from equal things -/
structure Enc {A : Type} [DecidableEq A] (f : A → PyData) : Prop where
  eq : ∀ x y, PyData.eqv (f x) (f y) = decide (x = y)
  sh : ∃ n, n ≤ 30 ∧ ∀ x, Shp n (f x)
theorem eqv_map {A : Type} [DecidableEq A] {f : A → PyData} (h : ∀ x y, PyData.eqv (f x) (f y) = decide (x = y)) : ∀ l m : List A, PyData.eqvAll (l.map f) (m.map f) = decide (l = m)
  | [], [] => rfl
  | [], _ :: _ => rfl
  | _ :: _, [] => rfl
  | a :: l, b :: m => by
    have e : PyData.eqvAll ((a :: l).map f) ((b :: m).map f) = (PyData.eqv (f a) (f b) && PyData.eqvAll (l.map f) (m.map f)) := by simp only [List.map_cons, PyData.eqvAll]
    rw [e, h, eqv_map h l m]
    by_cases h1 : a = b
    · by_cases h2 : l = m
      · simp [h1, h2]
      · simp [h1, h2]
    · simp [h1]
theorem any_map {A : Type} [DecidableEq A] {f : A → PyData} (h : ∀ x y, PyData.eqv (f x) (f y) = decide (x = y)) (x : A) : ∀ l : List A, ((l.map f).any fun z => PyData.eqv z (f x)) = decide (x ∈ l)
  | [] => rfl
  | a :: l => by
    rw [List.map_cons, List.any_cons, any_map h x l, h]
    by_cases h1 : a = x
    · simp [h1]
    · have h2 : ¬ x = a := fun z => h1 z.symm
      simp [h1, h2]
section
variable {K : PySem.W.Frag} {B0 H0 : Hp} {δ : List Sl} {ta tb : TE} {A : Type} [DecidableEq A] {f : A → PyData} {x y : A} {l m : List A}
theorem Enc.shx (h : Enc f) (x : A) : SeqAt.shaped (f x) = true := by
  obtain ⟨n, h1, h2⟩ := h.sh
  exact (h2 x).ok (by omega)
theorem Enc.shl (h : Enc f) (l : List A) : SeqAt.shaped (.list (l.map f)) = true := by
  obtain ⟨n, h1, h2⟩ := h.sh
  exact (shp_lst (shp_map h2 l)).ok (by omega)
theorem d_eqE (h : Enc f) (ha : EvS K B0 H0 ta δ (.dat (f x))) (hb : EvS K B0 H0 tb δ (.dat (f y))) : EvS K B0 H0 (tOp (rEqD K) ta tb) δ (nB (decide (x = y))) := d_isB (d_eqD ha hb (h.shx x) (h.shx y)) (h.eq x y)
theorem d_neE (h : Enc f) (ha : EvS K B0 H0 ta δ (.dat (f x))) (hb : EvS K B0 H0 tb δ (.dat (f y))) : EvS K B0 H0 (tOp (rNeD K) ta tb) δ (nB (!decide (x = y))) := d_isB (d_neD ha hb (h.shx x) (h.shx y)) (by rw [h.eq x y])
theorem d_eqEL (h : Enc f) (ha : EvS K B0 H0 ta δ (.dat (.list (l.map f)))) (hb : EvS K B0 H0 tb δ (.dat (.list (m.map f)))) : EvS K B0 H0 (tOp (rEqD K) ta tb) δ (nB (decide (l = m))) := d_isB (d_eqD ha hb (h.shl l) (h.shl m)) (by
  have e : PyData.eqv (.list (l.map f)) (.list (m.map f)) = PyData.eqvAll (l.map f) (m.map f) := by simp only [PyData.eqv]
  rw [e, eqv_map h.eq])
theorem d_neEL (h : Enc f) (ha : EvS K B0 H0 ta δ (.dat (.list (l.map f)))) (hb : EvS K B0 H0 tb δ (.dat (.list (m.map f)))) : EvS K B0 H0 (tOp (rNeD K) ta tb) δ (nB (!decide (l = m))) := d_isB (d_neD ha hb (h.shl l) (h.shl m)) (by
  have e : PyData.eqv (.list (l.map f)) (.list (m.map f)) = PyData.eqvAll (l.map f) (m.map f) := by simp only [PyData.eqv]
  rw [e, eqv_map h.eq])
theorem d_inE (h : Enc f) (ha : EvS K B0 H0 ta δ (.dat (f x))) (hb : EvS K B0 H0 tb δ (.dat (.list (l.map f)))) : EvS K B0 H0 (tOp (rInD K) ta tb) δ (nB (decide (x ∈ l))) := d_isB (d_inD ha hb (h.shx x) (h.shl l)) (any_map h.eq x l)
theorem d_niE (h : Enc f) (ha : EvS K B0 H0 ta δ (.dat (f x))) (hb : EvS K B0 H0 tb δ (.dat (.list (l.map f)))) : EvS K B0 H0 (tOp (rNotInD K) ta tb) δ (nB (!decide (x ∈ l))) := d_isB (d_niD ha hb (h.shx x) (h.shl l)) (by rw [any_map h.eq x l])
/-- the same data on both sides -/
theorem d_neSame {d : PyData} (ha : EvS K B0 H0 ta δ (.dat d)) (hb : EvS K B0 H0 tb δ (.dat d)) (h : SeqAt.shaped d = true) : EvS K B0 H0 (tOp (rNeD K) ta tb) δ (nB false) := d_isB (d_neD ha hb h h) (by rw [eqv_self h]; rfl)
theorem d_eqSame {d : PyData} (ha : EvS K B0 H0 ta δ (.dat d)) (hb : EvS K B0 H0 tb δ (.dat d)) (h : SeqAt.shaped d = true) : EvS K B0 H0 (tOp (rEqD K) ta tb) δ (nB true) := d_isB (d_eqD ha hb h h) (eqv_self h)
end
theorem enc_ints : Enc (fun l : List Int => PyData.tuple (l.map PyData.int)) := by
  refine ⟨fun x y => ?_, ⟨1, by decide, fun x => ⟨lay_ints x, by
    show PyData.depthAll (x.map PyData.int) + 1 ≤ 1
    rw [dep_ints]
    omega⟩⟩⟩
  have e : PyData.eqv (.tuple (x.map PyData.int)) (.tuple (y.map PyData.int)) = PyData.eqvAll (x.map PyData.int) (y.map PyData.int) := by simp only [PyData.eqv]
  rw [e, eqv_map fun a b => ?_]
  show (a == b) = _
  rfl
end Ja

/-! Own data layer: comprehensions of two clauses. -/
namespace Ja
open PySem PySem.Spec PyProof.Rows L2 Evl Cm
def noOwn : List Sl → Bool
  | [] => true
  | .own _ :: _ => false
  | _ :: r => noOwn r
theorem noOwn_at : ∀ {δ : List Sl}, noOwn δ = true → ∀ {n : Nat} {ds : List PyData}, δ[n]? ≠ some (Sl.own ds)
  | [], _, n, ds, e => by simp at e
  | .no :: r, h, 0, ds, e => by cases e
  | .raw _ :: r, h, 0, ds, e => by cases e
  | .dat _ :: r, h, 0, ds, e => by cases e
  | .sem _ :: r, h, 0, ds, e => by cases e
  | .own _ :: r, h, _, ds, e => by cases h
  | .no :: r, h, n + 1, ds, e => noOwn_at (δ := r) h (n := n) e
  | .raw _ :: r, h, n + 1, ds, e => noOwn_at (δ := r) h (n := n) e
  | .dat _ :: r, h, n + 1, ds, e => noOwn_at (δ := r) h (n := n) e
  | .sem _ :: r, h, n + 1, ds, e => noOwn_at (δ := r) h (n := n) e
/-- a list at D that grows, over the base B1 and the heap H1 -/
def Grow (K : PySem.W.Frag) (B1 H1 : Hp) (D : Addr) (H : Hp) (ds : List PyData) : Prop := ∃ B' ws, Ex B1 B' ∧ Ex B' H ∧ Ex H1 H ∧ (∀ a, B' a ≠ none → B1 a ≠ none ∨ NoL H1 a) ∧ B' D = none ∧ H D = some (.lst ws) ∧ DtAll K B' ws ds
section
variable {K : PySem.W.Frag} {B0 H0 B H B' H' B1 H1 : Hp} {σ : L2.St} {δ δ1 δ2 : List Sl} {ta tb tc td te : TE} {tt : TT} {d e : PyData} {ds es : List PyData} {D : Addr}
theorem Grow.start (hb : Ex B1 H1) (hD : H1 D = none) : Grow K B1 H1 D (upd H1 D (.lst [])) [] :=
  ⟨B1, [], .refl _, Ex.mut hb (none_of hb hD), Ex.new hD, fun a h => .inl h, none_of hb hD, upd_same, .nil⟩
theorem n_lc2 {A A1 : Type} {wi wi1 : TI} {g g1 : TG} {vs vs1 ix ix1 : List Nat} (xs : List A) (enc : A → PyData) (δt : A → List Sl) (ys : A → List A1) (enc1 : A → A1 → PyData) (δu : A → A1 → List Sl) (v : A → A1 → PyData) (hw : EvW K B0 H0 wi δ (xs.map enc)) (hix : ∀ i ∈ ix, i ∈ vs) (hix1 : ∀ i ∈ ix1, i ∈ vs1) (hz : (xs.flatMap fun x => (ys x).map (v x)).length ≤ 40000) (hno : ∀ x ∈ xs, noOwn (δt x) = true)
    (hg : ∀ x ∈ xs, TGd K B0 H0 g ix (wipeD δ vs) (enc x) (δt x)) (hw1 : ∀ x ∈ xs, EvW K B0 H0 wi1 (δt x) ((ys x).map (enc1 x))) (hg1 : ∀ x ∈ xs, ∀ y ∈ ys x, TGd K B0 H0 g1 ix1 (wipeD (δt x) vs1) (enc1 x y) (δu x y)) (he : ∀ x ∈ xs, ∀ y ∈ ys x, EvS K B0 H0 te (δu x y) (.dat (v x y))) :
    EvN K B0 H0 (tLc2 wi g tYes wi1 g1 tYes te vs vs1) δ (xs.flatMap fun x => (ys x).map (v x)) := fun B H σ S Q q => by
  refine hw B H σ S _ fun J G Y B1 H1 s1 W hG hY => ?_
  intro D hD
  have hBD : B1 D = none := none_of s1.bh hD
  have S1 : Sc K B0 H0 B1 H1 σ δ := S.go s1
  let P : Nat → Hp → Prop := fun i H' => Grow K B1 H1 D H' ((xs.take i).flatMap fun x => (ys x).map (v x))
  have hlen : (xs.map enc).length = xs.length := List.length_map ..
  have p0 : P 0 (upd H1 D (.lst [])) := by
    show Grow K B1 H1 D (upd H1 D (.lst [])) ((xs.take 0).flatMap fun x => (ys x).map (v x))
    rw [List.take_zero]
    exact Grow.start s1.bh hD
  refine ⟨fun i m H' => m = xs.length - i ∧ i ≤ xs.length ∧ P i H', ⟨xs.length, by simp, Nat.zero_le _, p0⟩, ?_⟩
  rintro i m H2 ⟨rfl, hi, B2, ws, e1, e2, e3, hn, e4, e5, e6⟩
  have gH := hG B2 H2 e1 e2
  by_cases hlt : i < xs.length
  · refine .inr ⟨W.goes i H2 (by rw [hlen]; exact hlt) gH, P (i + 1), fun H' p' => ⟨xs.length - (i + 1), by omega, rfl, hlt, p'⟩, fun x H3 yl => ?_⟩
    have y := W.yields i H2 x H3 (by rw [hlen]; exact hlt) gH yl
    have hx : (xs.map enc)[i]? = some (enc xs[i]) := by rw [List.getElem?_map, List.getElem?_eq_getElem hlt]; rfl
    obtain ⟨B3, s3, dx⟩ := hY i H2 x H3 B2 _ hx e1 e2 y
    have hmem : xs[i] ∈ xs := List.getElem_mem hlt
    have hDn : H2 D ≠ none := by rw [e5]; exact fun z => by cases z
    have keepD : ∀ {B5 H5 : Hp}, Stp B2 H2 B5 H5 → B5 D = none := fun {B5 H5} s5 => by
      cases e : B5 D with
      | none => rfl
      | some o =>
        rcases s5.n D (by rw [e]; exact fun z => by cases z) with z | z
        · exact absurd e4 z
        · exact absurd e5 (z _)
    have st12 : Stp B1 H1 B2 H2 := ⟨e1, e2, e3, hn⟩
    have S3 : Sc K B0 H0 B3 H3 σ δ := (S1.go st12).go s3
    refine hg _ hmem B3 H3 (wipe σ vs) x (S3.wipe vs) dx _ fun σ2 S2 w2 => ⟨?_, ?_⟩
    · rw [w2 vs hix]
      exact wipe_id fun _ h => h
    · simp only [tYes, if_true]
      refine hw1 _ hmem B3 H3 σ2 S2 _ fun J1 G1 Y1 B4 H4 s4 W1 hG1 hY1 => ?_
      have s24 := s3.trans s4
      have hlen1 : ((ys xs[i]).map (enc1 xs[i])).length = (ys xs[i]).length := List.length_map ..
      let pre := (xs.take i).flatMap fun x => (ys x).map (v x)
      -- the inner loop: over the base B4 all the while
      let P1 : Nat → Hp → Prop := fun j H' => ∃ B' ws, Ex B4 B' ∧ Ex B' H' ∧ Ex H1 H' ∧ (∀ a, B' a ≠ none → B1 a ≠ none ∨ NoL H1 a) ∧ B' D = none ∧ H' D = some (.lst ws) ∧ DtAll K B' ws (pre ++ ((ys xs[i]).take j).map (v xs[i]))
      have tk : xs.take (i + 1) = xs.take i ++ [xs[i]] := by rw [List.take_succ, List.getElem?_eq_getElem hlt]; rfl
      refine ⟨fun j k H' => k = (ys xs[i]).length - j ∧ j ≤ (ys xs[i]).length ∧ P1 j H', ⟨_, rfl, Nat.zero_le _, ?_⟩, ?_⟩
      · refine ⟨B4, ws, .refl _, s24.bh, e3.trans s24.h, (st12.trans s24).n, keepD s24, s24.h _ _ e5, ?_⟩
        rw [List.take_zero, List.map_nil, List.append_nil]
        exact dts_mono s24.b _ _ e6
      · rintro j k H5 ⟨rfl, hj, B5, us, f1, f2, f3, fn, f4, f5, f6⟩
        have gH1 := hG1 B5 H5 f1 f2
        by_cases hjl : j < (ys xs[i]).length
        · refine .inr ⟨W1.goes j H5 (by rw [hlen1]; exact hjl) gH1, P1 (j + 1), fun H' p' => ⟨(ys xs[i]).length - (j + 1), by omega, rfl, hjl, p'⟩, fun z H6 zl => ?_⟩
          have yz := W1.yields j H5 z H6 (by rw [hlen1]; exact hjl) gH1 zl
          have hz1 : ((ys xs[i]).map (enc1 xs[i]))[j]? = some (enc1 xs[i] (ys xs[i])[j]) := by rw [List.getElem?_map, List.getElem?_eq_getElem hjl]; rfl
          obtain ⟨B6, s6, dz⟩ := hY1 j H5 z H6 B5 _ hz1 f1 f2 yz
          have hm1 : (ys xs[i])[j] ∈ ys xs[i] := List.getElem_mem hjl
          have hDn5 : H5 D ≠ none := by rw [f5]; exact fun z => by cases z
          have keep5 : ∀ {B7 H7 : Hp}, Stp B5 H5 B7 H7 → B7 D = none := fun {B7 H7} s7 => by
            cases e : B7 D with
            | none => rfl
            | some o =>
              rcases s7.n D (by rw [e]; exact fun z => by cases z) with z | z
              · exact absurd f4 z
              · exact absurd f5 (z _)
          have st15 : Stp B1 H1 B5 H5 := ⟨(st12.trans s24).b.trans f1, f2, f3, fn⟩
          -- the slots within: σ2 over δt
          have S5 : Sc K B0 H0 B5 H5 σ2 (δt xs[i]) := by
            have S4 := S2.go s4
            refine ⟨S1.st.trans st15, S4.len, fun n t ht hv => ?_, fun n ds hd => ?_, S4.dis⟩
            · obtain ⟨w, q1, q2⟩ := S4.val n t ht hv
              exact ⟨w, q1, q2.mono f1⟩
            · exact absurd hd (noOwn_at (hno _ hmem))
          have S6 := S5.go s6
          refine hg1 _ hmem _ hm1 B6 H6 (wipe σ2 vs1) z (S6.wipe vs1) dz _ fun σ3 T3 w3 => ⟨?_, ?_⟩
          · rw [w3 vs1 hix1]
            exact wipe_id fun _ h => h
          · refine he _ hmem _ hm1 B6 H6 σ3 T3 _ fun u B7 H7 s7 i7 => ?_
            have s57 := s6.trans s7
            have sAll := st15.trans s57
            refine ⟨us, s57.h _ _ f5, ?_, B7, us ++ [u], f1.trans s57.b, Ex.mut s57.bh (keep5 s57), Ex.mut sAll.h hD, sAll.n, keep5 s57, upd_same, ?_⟩
            · rw [f6.len]
              have h1 : (pre ++ ((ys xs[i]).take j).map (v xs[i])).length ≤ (xs.flatMap fun x => (ys x).map (v x)).length := by
                have e : xs = xs.take i ++ xs[i] :: xs.drop (i + 1) := by rw [← List.drop_eq_getElem_cons hlt, List.take_append_drop]
                have hp : pre.length = ((xs.take i).flatMap fun x => (ys x).map (v x)).length := rfl
                conv => rhs; rw [e]
                rw [List.flatMap_append, List.flatMap_cons, List.length_append, List.length_append, List.length_append, List.length_map, List.length_map, List.length_take]
                omega
              exact sz_lt (by omega)
            · have tk1 : (ys xs[i]).take (j + 1) = (ys xs[i]).take j ++ [(ys xs[i])[j]] := by rw [List.take_succ, List.getElem?_eq_getElem hjl]; rfl
              rw [tk1, List.map_append, ← List.append_assoc]
              exact (dts_mono s57.b _ _ f6).app (.cons i7 .nil)
        · have e : j = (ys xs[i]).length := by omega
          subst e
          refine .inl ⟨by have := W1.stops H5 gH1; rwa [hlen1] at this, ?_⟩
          refine ⟨B5, us, (st12.trans s24).b.trans f1, f2, f3, fn, f4, f5, ?_⟩
          rw [List.take_length] at f6
          rw [tk, List.flatMap_append]
          show DtAll K B5 us (pre ++ ((ys xs[i]).map (v xs[i]) ++ []))
          rw [List.append_nil]
          exact f6
  · have e : i = xs.length := by omega
    subst e
    refine .inl ⟨by have := W.stops H2 gH; rwa [hlen] at this, ?_⟩
    rw [List.take_length] at e6
    exact q D ws B2 H2 (s1.trans ⟨e1, e2, e3, hn⟩) (none_of s1.h hD) e4 e5 e6
end
end Ja

/-! Own data layer: list(zip(xs, ys)) of two lists. -/
namespace Ja
open PySem PySem.Spec PyProof.Rows L2 Evl Cm
theorem zl_nolen : typeLookup (.type "zip") "__len__" = pure none := by rw [typeLookup_type, builtinLookup_eq_fast]; kernel_rfl
theorem zl_nohint : typeLookup (.type "zip") "__length_hint__" = pure none := by rw [typeLookup_type, builtinLookup_eq_fast]; kernel_rfl
/-- the zip at its turn i, whether its tuple was given out or not -/
def ZSt (z TI TO i1 i2 l1 l2 : Addr) (us ws : Array Value) (S : Addr) (i : Nat) (h : Heap) : Prop :=
  IsPair h TI (.ref i1) (.ref i2) ∧ h.IsListIter i1 l1 i ∧ h.IsListIter i2 l2 i ∧ h.IsList l1 us ∧ h.IsList l2 ws ∧
    ((IsZip h z TI TO .none ∧ ∃ a b, IsPair h TO a b) ∨ ∃ T f oT, IsZipHeld h z TI TO T f ∧ h.get? T = some oT ∧ T ≠ z ∧ T ≠ i1 ∧ T ≠ i2 ∧ T ≠ S)
section
variable {z TI TO i1 i2 l1 l2 S : Addr} {us ws : Array Value} {i : Nat} {h h' : Heap}
theorem ZSt.at (st : ZSt z TI TO i1 i2 l1 l2 us ws S i h) (hS : S ∉ [z, TI, TO, i1, i2, l1, l2]) (k : ∀ b o, b ≠ S → h.get? b = some o → h'.get? b = some o) : ZSt z TI TO i1 i2 l1 l2 us ws S i h' := by
  simp only [List.mem_cons, List.not_mem_nil, or_false, not_or] at hS
  obtain ⟨dz, dTI, dTO, di1, di2, dl1, dl2⟩ := hS
  obtain ⟨hTI, h1, h2, hl1, hl2, hz⟩ := st
  refine ⟨k _ _ (Ne.symm dTI) hTI, h1.at fun o e => k _ o (Ne.symm di1) e, h2.at fun o e => k _ o (Ne.symm di2) e, hl1.at fun o e => k _ o (Ne.symm dl1) e, hl2.at fun o e => k _ o (Ne.symm dl2) e, ?_⟩
  rcases hz with ⟨hz, a, b, hTO⟩ | ⟨T, f, oT, hz, hT, r1, r2, r3, r4⟩
  · exact .inl ⟨k _ _ (Ne.symm dz) hz, a, b, k _ _ (Ne.symm dTO) hTO⟩
  · exact .inr ⟨T, f, oT, k _ _ (Ne.symm dz) hz, k _ _ r4 hT, r1, r2, r3, r4⟩
theorem ZSt.ty {s : Shared} (st : ZSt z TI TO i1 i2 l1 l2 us ws S i s.heap) : s.TypeIs (.ref z) "zip" := by
  obtain ⟨_, _, _, _, _, hz⟩ := st
  rcases hz with ⟨hz, _⟩ | ⟨T, f, oT, hz, _⟩
  · exact ⟨_, hz, rfl⟩
  · exact ⟨_, hz, rfl⟩
theorem ZSt.self {prog : Program} {w : World} {A : Around} {s : Shared} {Q : Value → Shared → Prop} {E : Value → Shared → Prop} (st : ZSt z TI TO i1 i2 l1 l2 us ws S i s.heap) (h : Q (.ref z) s) : wpAny (model prog w) A (pyIter (.ref z)) Q E s := by
  have hT := st.ty
  obtain ⟨_, _, _, _, _, hz⟩ := st
  refine wpAny_pyIter_slot hT F.slot_zip_iter (wpAny_call_entry F.slot_zip_iter hT F.entry_zip_iter ?_ (F.args_zip_iter_1 _))
  show wpAny _ _ (ret (.ref z)) _ _ s
  exact wpAny_pure ⟨_, rfl, "zip", _, hT, F.slot_zip_next.lookup, h⟩
/-- the next pair -/
theorem ZSt.item {prog : Program} {w : World} {A : Around} {s : Shared} {x y : Value} {Q : Option Value → Shared → Prop} {E : Value → Shared → Prop} (D : ZipApart z TI TO i1 i2 l1 l2) (st : ZSt z TI TO i1 i2 l1 l2 us ws S i s.heap) (hS : S < s.heap.objs.size) (hx : us[i]? = some x) (hy : ws[i]? = some y)
    (q : ∀ h', ZSt z TI TO i1 i2 l1 l2 us ws S (i + 1) h' → IsPair h' s.heap.objs.size x y → h'.objs.size = s.heap.objs.size + 1 → (∀ b o, b ∉ [z, TI, TO, i1, i2] → s.heap.get? b = some o → h'.get? b = some o) → Q (some (.ref s.heap.objs.size)) { s with heap := h' }) :
    wpAny (model prog w) A (pyNext (.ref z)) Q E s := by
  obtain ⟨hTI, h1, h2, hl1, hl2, hz⟩ := st
  have lt : ∀ {c o}, s.heap.get? c = some o → s.heap.objs.size ≠ c := fun e => Nat.ne_of_gt (Heap.lt_size e)
  have n1 : s.heap.objs.size ≠ i1 := let ⟨_, e, _⟩ := h1; lt e
  have n2 : s.heap.objs.size ≠ i2 := let ⟨_, e, _⟩ := h2; lt e
  rcases hz with ⟨hz, a, b, hTO⟩ | ⟨T, f, oT, hz, hT, r1, r2, r3, r4⟩
  · refine wpAny_pyNext_zip_item D hz hTI hTO h1 h2 hl1 hl2 hx hy fun h' a1 a2 a3 a4 a5 a6 hk => ?_
    exact q h' ⟨hk _ _ D.TIz D.TITO D.TIi1 D.TIi2 hTI, a3, a4, hl1.at fun o e => hk _ o D.l1z D.l1TO D.l1i1 D.l1i2 e, hl2.at fun o e => hk _ o D.l2z D.l2TO D.l2i1 D.l2i2 e,
      .inr ⟨s.heap.objs.size, false, _, a1, a5, lt hz, n1, n2, Nat.ne_of_gt hS⟩⟩ a5 a6 fun c o hc e => hk c o (fun x => hc (by simp [x])) (fun x => hc (by simp [x])) (fun x => hc (by simp [x])) (fun x => hc (by simp [x])) e
  · refine wpAny_pyNext_zip_item_held D hz hT hTI h1 h2 hl1 hl2 hx hy fun h' a1 a3 a4 a5 a6 hk => ?_
    exact q h' ⟨hk _ _ D.TIz D.TIi1 D.TIi2 hTI, a3, a4, hl1.at fun o e => hk _ o D.l1z D.l1i1 D.l1i2 e, hl2.at fun o e => hk _ o D.l2z D.l2i1 D.l2i2 e,
      .inr ⟨T, true, oT, a1, hk _ _ r1 r2 r3 hT, r1, r2, r3, r4⟩⟩ a5 a6 fun c o hc e => hk c o (fun x => hc (by simp [x])) (fun x => hc (by simp [x])) (fun x => hc (by simp [x])) e
theorem ZSt.done {prog : Program} {w : World} {A : Around} {s : Shared} {Q : Option Value → Shared → Prop} {E : Value → Shared → Prop} (hh : A.handled = none) (D : ZipApart z TI TO i1 i2 l1 l2) (st : ZSt z TI TO i1 i2 l1 l2 us ws S i s.heap) (hend : us[i]? = none ∨ ws[i]? = none)
    (q : ∀ h', (∀ b o, b ∉ [z, TI, TO, i1, i2] → s.heap.get? b = some o → h'.get? b = some o) → Q none { s with heap := h' }) : wpAny (model prog w) A (pyNext (.ref z)) Q E s := by
  obtain ⟨hTI, h1, h2, hl1, hl2, hz⟩ := st
  rcases hz with ⟨hz, a, b, hTO⟩ | ⟨T, f, oT, hz, hT, r1, r2, r3, r4⟩
  · exact wpAny_pyNext_zip_end hh D hz hTI hTO h1 h2 hl1 hl2 hend fun h' hk => q h' fun c o hc e => hk c o (fun x => hc (by simp [x])) (fun x => hc (by simp [x])) (fun x => hc (by simp [x])) (fun x => hc (by simp [x])) e
  · exact wpAny_pyNext_zip_end_held hh D hz hT hTI h1 h2 hl1 hl2 hend fun h' hk => q h' fun c o hc e => hk c o (fun x => hc (by simp [x])) (fun x => hc (by simp [x])) (fun x => hc (by simp [x])) e
end
/-- vs: references to new pairs of xs and ys -/
def Prs (H1 H : Hp) (xs ys vs : List V) : Prop := ∀ j, j < vs.length → ∃ T x y, vs[j]? = some (.ref T) ∧ xs[j]? = some x ∧ ys[j]? = some y ∧ H T = some (.tup [x, y]) ∧ H1 T = none
section
variable {X : Cx} {pins : List (Addr × Obj)} {σ : L2.St} {z TI TO i1 i2 l1 l2 S : Addr} {xs ys : List V} {us ws : List Value} {H1 : Hp}
theorem loop_zip {A : Around} {R : Result → Shared → Prop} (hh : A.in1.handled = none) (D : ZipApart z TI TO i1 i2 l1 l2) (hS : S ∉ [z, TI, TO, i1, i2, l1, l2]) (rv : Vals xs us) (rv2 : Vals ys ws) (hl : xs.length = ys.length) (hz : xs.length ≤ 40000) (res : Value) (hS1 : H1 S = none)
    (hR : ∀ s' H' vs', Inv X pins σ H' s' → Ex H1 H' → H' S = some (.lst vs') → vs'.length = xs.length → Prs H1 H' xs ys vs' → R (.ok (.ret res)) s') :
    ∀ (k i : Nat) (s : Shared) (H : Hp) (vs : List V), xs.length - i = k → i ≤ xs.length → ZSt z TI TO i1 i2 l1 l2 us.toArray ws.toArray S i s.heap → Inv X pins σ H s → (∀ b ∈ [z, TI, TO, i1, i2], FpOk X pins H b) → (∀ b ∈ [z, TI, TO, i1, i2], b < s.heap.objs.size) → Ex H1 H → H S = some (.lst vs) → vs.length = i → Prs H1 H xs ys vs →
      codeAny (model X.prog X.w) A (.builtin "list.extend.loop" ⟨[.ref S, .ref z, res], []⟩) R s := by
  intro k
  induction k with
  | zero =>
    intro i s H vs hk hi st I hf hb0 e1 e2 e3 e4
    refine codeAny_builtin F.entry_extend_loop ?_
    rw [Around.under_plainId F.plain_extend_loop _]
    show wpAny _ A.in1 (pyNext (.ref z) >>= _) _ _ s
    have hend : us.toArray[i]? = none ∨ ws.toArray[i]? = none := .inl (by
      have := rv.length
      simp
      omega)
    refine wpAny_bind (st.done hh D hend fun h' hkp => wpAny_pure ?_)
    exact hR _ H vs (I.turnedL (t' := s.toks) hkp hf) e1 e2 (by omega) e4
  | succ k ih =>
    intro i s H vs hk hi st I hf hb0 e1 e2 e3 e4
    have hlt : i < xs.length := by omega
    have hlt2 : i < ys.length := by omega
    obtain ⟨u, hu, ru⟩ := rv.get (List.getElem?_eq_getElem hlt)
    obtain ⟨u2, hu2, ru2⟩ := rv2.get (List.getElem?_eq_getElem hlt2)
    refine codeAny_builtin F.entry_extend_loop ?_
    rw [Around.under_plainId F.plain_extend_loop _]
    show wpAny _ A.in1 (pyNext (.ref z) >>= _) _ _ s
    obtain ⟨hz1, its, n, r, hlen, hSo⟩ := I.lstM e2
    refine wpAny_bind (st.item D (Heap.lt_size hSo) (x := u) (y := u2) (by simpa using hu) (by simpa using hu2) fun h' st' hT hsz hkp => ?_)
    have new : ObjOk X.prog X.w (upd H s.heap.objs.size (.tup [xs[i], ys[i]])) h' s.heap.objs.size (.tup [xs[i], ys[i]]) :=
      ⟨by show 2 ≤ sizeLine; decide, [u, u2], .cons ru (.cons ru2 .nil), ⟨_, hT, rfl, _, rfl⟩⟩
    have hfr : H s.heap.objs.size = none := I.hok.fresh (Nat.le_refl _)
    have I1 : Inv X pins σ (upd H s.heap.objs.size (.tup [xs[i], ys[i]])) { s with heap := h' } := I.turnedNew (t' := s.toks) hkp hf (Nat.le_refl _) new
    have hST : S ≠ s.heap.objs.size := Nat.ne_of_lt (Heap.lt_size hSo)
    have e2' : upd H s.heap.objs.size (.tup [xs[i], ys[i]]) S = some (.lst vs) := by rw [upd_ne hST]; exact e2
    obtain ⟨_, its', n', r', hlen', hSo'⟩ := I1.lstM e2'
    show wpAny _ A.in1 (updateSeq S (·.push (.ref s.heap.objs.size)) >>= _) _ _ _
    refine wpAny_bind ?_
    refine wpAny_updateSeq (s := { s with heap := h' }) hSo' rfl (wpAny_pure ⟨plainId_quiet F.plain_extend_loop _, ?_⟩) (by
      rw [List.size_toArray]
      exact sz_of (by omega)) (by
      show (its'.toArray.push (.ref s.heap.objs.size)).size ≤ sizeLine + 1
      rw [Array.size_push, List.size_toArray]
      have : its'.length ≤ sizeLine := sz_of (by omega)
      omega)
    have I2 := I1.lset (its' := its' ++ [.ref s.heap.objs.size]) (f := (·.push (.ref s.heap.objs.size))) (ys := vs ++ [V.ref s.heap.objs.size]) (t' := s.toks) e2' hSo' (by simp) (r'.append (.cons (show L2.RelV (V.ref s.heap.objs.size) (.ref s.heap.objs.size) from rfl) .nil)) (by
      rw [List.length_append, List.length_singleton]
      exact sz_of (by omega))
    have ex1 : Ex H (upd H s.heap.objs.size (.tup [xs[i], ys[i]])) := Ex.new hfr
    have h1T : H1 s.heap.objs.size = none := none_of e1 hfr
    refine ih (i + 1) _ _ (vs ++ [V.ref s.heap.objs.size]) (by omega) hlt ?_ I2 (fun b hb => ?_) (fun b hb => ?_) (Ex.mut (e1.trans ex1) hS1) upd_same (by rw [List.length_append, e3]; rfl) fun j hj => ?_
    · exact st'.at hS fun b o hb e => (Heap.get?_update_other _ _ (Ne.symm hb)).trans e
    · obtain ⟨g0, g⟩ := hf b hb
      refine ⟨?_, g⟩
      have b1 : b ≠ S := fun q => hS (by
        rw [← q]
        simp only [List.mem_cons, List.not_mem_nil, or_false] at hb ⊢
        rcases hb with hb | hb | hb | hb | hb <;> simp [hb])
      have b2 : b ≠ s.heap.objs.size := Nat.ne_of_lt (hb0 b hb)
      rw [upd_ne b1, upd_ne b2]
      exact g0
    · have h1 := hb0 b hb
      show b < (h'.update S _).objs.size
      rw [Heap.size_update, hsz]
      exact Nat.lt_succ_of_lt h1
    · rw [List.length_append, e3] at hj
      by_cases hj2 : j < vs.length
      · obtain ⟨T, x, y, f1, f2, f3, f4, f5⟩ := e4 j hj2
        refine ⟨T, x, y, by rw [List.getElem?_append_left hj2]; exact f1, f2, f3, ?_, f5⟩
        have hTS : T ≠ S := fun q => by
          rw [q, e2] at f4
          cases f4
        rw [upd_ne hTS]
        exact ex1 _ _ f4
      · have ej : j = i := by
          simp at hj
          omega
        subst ej
        refine ⟨s.heap.objs.size, xs[j], ys[j], by rw [List.getElem?_append_right (by omega), e3]; simp, List.getElem?_eq_getElem hlt, List.getElem?_eq_getElem hlt2, ?_, h1T⟩
        rw [upd_ne (Ne.symm hST)]
        exact upd_same

/-- list(z), z a new zip -/
theorem call_list_zip {s : Shared} {Q : Value → Shared → Prop} {E : Value → Shared → Prop} (hh : X.A.in1.in1.handled = none) (D : ZipApart z TI TO i1 i2 l1 l2) (rv : Vals xs us) (rv2 : Vals ys ws) (hl : xs.length = ys.length) (hz : xs.length ≤ 40000) (I : Inv X pins σ H1 s) (hf : ∀ b ∈ [z, TI, TO, i1, i2], FpOk X pins H1 b) (hb0 : ∀ b ∈ [z, TI, TO, i1, i2, l1, l2], b < s.heap.objs.size)
    (st : ∀ S, S ∉ [z, TI, TO, i1, i2, l1, l2] → ZSt z TI TO i1 i2 l1 l2 us.toArray ws.toArray S 0 s.heap)
    (hQ : ∀ s' H' vs', Inv X pins σ H' s' → Ex H1 H' → H1 s.heap.objs.size = none → H' s.heap.objs.size = some (.lst vs') → vs'.length = xs.length → Prs H1 H' xs ys vs' → Q (.ref s.heap.objs.size) s') :
    wpAny (model X.prog X.w) X.A (call (.type "list") [.ref z]) Q E s := by
  have hfr : H1 s.heap.objs.size = none := I.hok.fresh (Nat.le_refl _)
  have hS : s.heap.objs.size ∉ [z, TI, TO, i1, i2, l1, l2] := fun hm => Nat.lt_irrefl _ (hb0 _ hm)
  have hSz : s.heap.objs.size ≠ z := fun e => hS (by rw [e]; simp)
  refine callType_codes (Q₁ := fun obj s₁ => obj = .ref s.heap.objs.size ∧ s₁ = { s with heap := s.heap.push { cls := .type "list", data := .seq #[] } }) F.called_list (F.typeCall_list_1 _) F.entry_list_init
    (code_list_new _ ⟨rfl, rfl⟩) fun obj s₁ h₁ => ?_
  obtain ⟨rfl, rfl⟩ := h₁
  have I1 : Inv X pins σ (upd H1 s.heap.objs.size (.lst [])) { s with heap := s.heap.push { cls := .type "list", data := .seq #[] } } := I.lnew (its := []) (t' := s.toks) .nil (Nat.zero_le _)
  have hS1 : (s.heap.push { cls := .type "list", data := .seq #[] }).get? s.heap.objs.size = some { cls := .type "list", data := .seq #[] } := Heap.get?_push_size _ rfl
  refine ⟨⟨_, hS1, rfl⟩, F.args_list_init_2 _ _, ?_⟩
  show wpAny _ X.A.in1.in1 (do let old ← Builtin.List.listItems (.ref s.heap.objs.size); Builtin.List.listUpdate (.ref s.heap.objs.size) (fun _ => #[]); letGo old.toList.reverse; Builtin.List.listExtendWith (.ref s.heap.objs.size) (.ref z) .none) _ _ _
  refine wpAny_bind ?_
  unfold Builtin.List.listItems
  refine wpAny_bind (wpAny_seqItems hS1 rfl (wpAny_pure ?_))
  show wpAny _ X.A.in1.in1 (updateSeq s.heap.objs.size (fun _ => #[]) >>= fun _ => letGo (#[] : Array Value).toList.reverse >>= fun _ => Builtin.List.listExtendWith (.ref s.heap.objs.size) (.ref z) .none) _ _ _
  refine wpAny_bind (wpAny_updateSeq (s := { s with heap := s.heap.push { cls := .type "list", data := .seq #[] } }) hS1 rfl ?_)
  have I2 := I1.lset (its := []) (its' := []) (f := fun _ => #[]) (ys := []) (t' := s.toks) upd_same hS1 rfl .nil (Nat.zero_le _)
  refine wpAny_bind (wpAny_letGo ?_)
  have hS2 := Heap.get?_update_self (Obj.mapSeq (fun _ => (#[] : Array Value))) hS1 rfl
  have k1 : ∀ b o, b ≠ s.heap.objs.size → s.heap.get? b = some o → ((s.heap.push { cls := .type "list", data := .seq #[] }).update s.heap.objs.size (Obj.mapSeq (fun _ => (#[] : Array Value)))).get? b = some o := fun b o hb e => (Heap.get?_update_other _ _ (Ne.symm hb)).trans (Heap.get?_push_of_some _ e)
  have st2 := (st _ hS).at hS k1
  unfold Builtin.List.listExtendWith
  refine wpAny_bind (wpAny_typeOf (T := "zip") (ZSt.ty (s := { s with heap := (s.heap.push { cls := .type "list", data := .seq #[] }).update s.heap.objs.size (Obj.mapSeq (fun _ => (#[] : Array Value))) }) st2) ?_)
  have h1 : Builtin.List.listSameRef (.ref s.heap.objs.size) (.ref z) = false := by simp [Builtin.List.listSameRef, hSz]
  have h2 : (Value.type "zip" == Value.type "list") = false := by decide
  have h3 : (Value.type "zip" == Value.type "tuple") = false := by decide
  simp only [h1, h2, h3, Bool.or_false, Bool.false_eq_true, if_false]
  refine wpAny_bind (ZSt.self (s := { s with heap := (s.heap.push { cls := .type "list", data := .seq #[] }).update s.heap.objs.size (Obj.mapSeq (fun _ => (#[] : Array Value))) }) st2 ?_)
  refine wpAny_bind (wpAny_holding ?_)
  unfold Builtin.List.listLengthHint
  refine wpAny_bind (wpAny_specialOf (ZSt.ty (s := { s with heap := (s.heap.push { cls := .type "list", data := .seq #[] }).update s.heap.objs.size (Obj.mapSeq (fun _ => (#[] : Array Value))) }) st2) zl_nolen ?_)
  show wpAny _ X.A.in1.in1 (specialOf (Value.ref z) (Str.ofString "__length_hint__") >>= _) _ _ _
  refine wpAny_bind (wpAny_specialOf (ZSt.ty (s := { s with heap := (s.heap.push { cls := .type "list", data := .seq #[] }).update s.heap.objs.size (Obj.mapSeq (fun _ => (#[] : Array Value))) }) st2) zl_nohint ?_)
  refine wpAny_pure ?_
  show wpAny _ X.A.in1.in1 (rule "list.extend.makes-room" >>= fun _ => Builtin.List.listTouch (.ref s.heap.objs.size) >>= fun _ =>
    again (.builtin "list.extend.loop" ⟨[.ref s.heap.objs.size, .ref z, .none], []⟩)) _ _ _
  refine wpAny_bind (wpAny_rule ?_)
  refine wpAny_bind ?_
  show wpAny _ X.A.in1.in1 (updateSeq s.heap.objs.size (·.push .none) >>= fun _ => updateSeq s.heap.objs.size (·.pop)) _ _ _
  refine wpAny_bind (wpAny_updateSeq (s := { s with heap := (s.heap.push { cls := .type "list", data := .seq #[] }).update s.heap.objs.size (Obj.mapSeq (fun _ => (#[] : Array Value))) }) hS2 rfl ?_)
  have I3 := I2.lset (its := []) (its' := [.none]) (f := (·.push Value.none)) (ys := [V.non]) (t' := s.toks) upd_same hS2 rfl (.cons rfl .nil) (by show 1 ≤ sizeLine; decide)
  have hS3 := Heap.get?_update_self (Obj.mapSeq (·.push Value.none)) hS2 rfl
  refine wpAny_updateSeq (s := { s with heap := ((s.heap.push { cls := .type "list", data := .seq #[] }).update s.heap.objs.size (Obj.mapSeq (fun _ => (#[] : Array Value)))).update s.heap.objs.size (Obj.mapSeq (·.push Value.none)) }) hS3 rfl ?_
  have I4 := I3.lset (its := [.none]) (its' := []) (f := (·.pop)) (ys := []) (t' := s.toks) upd_same hS3 rfl .nil (Nat.zero_le _)
  have st4 := (st2.at hS fun b o hb e => (Heap.get?_update_other _ (Obj.mapSeq (·.push Value.none)) (Ne.symm hb)).trans e).at hS fun b o hb e => (Heap.get?_update_other _ (Obj.mapSeq (·.pop)) (Ne.symm hb)).trans e
  refine wpAny_pure ⟨plainId_quiet F.plain_extend_loop _, loop_zip (A := X.A.in1) (H1 := H1) hh D hS rv rv2 hl hz _ hfr (fun s' H' vs' g1 g2 g3 g4 g5 => ?_) _ 0 _ _ [] rfl (Nat.zero_le _) st4 I4 (fun b hb => ?_) (fun b hb => ?_) (Ex.mut (Ex.mut (Ex.mut (Ex.new hfr) hfr) hfr) hfr) upd_same rfl fun j hj => absurd hj (Nat.not_lt_zero j)⟩
  · exact ⟨rfl, hQ s' H' vs' g1 g2 hfr g3 g4 g5⟩
  · obtain ⟨g0, g⟩ := hf b hb
    have b1 : b ≠ s.heap.objs.size := fun q => hS (by
      rw [← q]
      simp only [List.mem_cons, List.not_mem_nil, or_false] at hb ⊢
      rcases hb with hb | hb | hb | hb | hb <;> simp [hb])
    refine ⟨?_, g⟩
    rw [upd_ne b1, upd_ne b1, upd_ne b1, upd_ne b1]
    exact g0
  · have h1 : b < s.heap.objs.size := hb0 b (by
      simp only [List.mem_cons, List.not_mem_nil, or_false] at hb ⊢
      rcases hb with hb | hb | hb | hb | hb <;> simp [hb])
    show b < (((((s.heap.push _).update _ _).update _ _).update _ _)).objs.size
    rw [Heap.size_update, Heap.size_update, Heap.size_update, Heap.size_push]
    exact Nat.lt_succ_of_lt h1
end
/-- list(zip(xs, ys)) -/
def tLZ (K : PySem.W.Frag) (ta : TA) : TE := fun σ H Q => ta σ H fun vs H1 => ∃ a b xs ys, vs = [.ref a, .ref b] ∧ SqL K H1 a xs ∧ SqL K H1 b ys ∧ xs.length = ys.length ∧ xs.length ≤ 40000 ∧ ∀ l vs' H', Ex H1 H' → H1 l = none → H' l = some (.lst vs') → vs'.length = xs.length → Prs H1 H' xs ys vs' → Q (.ref l) H'
theorem pe_listZip {X : Cx} {e e2 : Expr} {ta : TA} {p0 p pos pos2 : Pos} (hc : X.calm = true) (hg0 : Gl X "list") (hm0 : X.mg "list" = none) (hg : Gl X "zip") (hm : X.mg "zip" = none) (ha : PA X [e, e2] ta)
    (hs1 : starEach [.Call (.Name "zip" p) [e, e2] [] pos2] X.env = [(false, eval (.Call (.Name "zip" p) [e, e2] [] pos2) X.env)] := by rfl)
    (hs : starEach [e, e2] X.env = (false, eval e X.env) :: starEach [e2] X.env := by rfl) (hpl : (backTo pos2 (starEach [e2] X.env)).any (·.1) = false := by rfl) :
    PE X (.Call (.Name "list" p0) [.Call (.Name "zip" p) [e, e2] [] pos2] [] pos) (tLZ X.K ta) := by
  refine ⟨fun pins s σ H Q I h => ?_⟩
  refine wpAny_Call_Name_kw (ld_blt I hg0 hm0 rfl ?_)
  refine PyProof.Rows.callWith_type1 ?_ hs1 rfl
  rw [hs1]
  refine Calls.spliced_cons (Call_ (ld_blt I hg hm PyProof.Rows.boot_zip (PyProof.Rows.callWith_type1 (thn (ha.run pos2 pins s σ H _ I h) fun us s1 ⟨vs, H1, I1, r1, q1⟩ => ?_) hs hpl)))
  obtain ⟨a, b, xs, ys, ex, hqx, hqy, hl, hz, q1⟩ := q1
  subst ex
  cases r1 with
  | cons r rr =>
    cases rr with
    | cons r' rr =>
      cases rr
      cases r
      cases r'
      have fresh5 : ∀ c, c ∈ [s1.heap.objs.size + 4, s1.heap.objs.size + 2, s1.heap.objs.size + 3, s1.heap.objs.size, s1.heap.objs.size + 1] → FpOk X pins H1 c := fun c hcm => by
        have hle : s1.heap.objs.size ≤ c := by
          simp only [List.mem_cons, List.not_mem_nil, or_false] at hcm
          omega
        exact I1.fpOk hle (I1.hok.fresh hle)
      obtain ⟨its, rv, p1, _⟩ := I1.list hqx
      obtain ⟨its2, rv2, p2, _⟩ := I1.list hqy
      refine call_zip_2 p1.isList p2.isList fun h' hzz hTI hTO h1 h2 hsz hk => Calls.spliced_nil ?_
      have I2 : Inv X pins σ H1 { s1 with heap := h' } := I1.kept (t' := s1.toks) hk
      obtain ⟨its', rv', p1', _⟩ := I2.list hqx
      obtain ⟨its2', rv2', p2', _⟩ := I2.list hqy
      refine call_list_zip (s := { s1 with heap := h' }) (I1.ok.hd hc) (PySem.W.ktu_apart s1.heap.objs.size a b p1.lt p2.lt) rv' rv2' hl hz I2 fresh5 (fun c hcm => ?_) (fun S hS => ⟨hTI, h1, h2, p1'.isList, p2'.isList, .inl ⟨hzz, _, _, hTO⟩⟩) fun s' H' vs' g1 g2 g3 g4 g5 g6 => ?_
      · show c < h'.objs.size
        rw [hsz]
        simp only [List.mem_cons, List.not_mem_nil, or_false] at hcm
        rcases hcm with q | q | q | q | q | q | q
        · rw [q]; exact Nat.add_lt_add_left (by decide) _
        · rw [q]; exact Nat.add_lt_add_left (by decide) _
        · rw [q]; exact Nat.add_lt_add_left (by decide) _
        · rw [q]; exact Nat.lt_add_of_pos_right (by decide)
        · rw [q]; exact Nat.add_lt_add_left (by decide) _
        · rw [q]; exact Nat.lt_of_lt_of_le p1.lt (Nat.le_add_right _ _)
        · rw [q]; exact Nat.lt_of_lt_of_le p2.lt (Nat.le_add_right _ _)
      · exact ⟨.ref _, H', g1, rfl, q1 _ vs' H' g2 g3 g4 g5 g6⟩
section
variable {K : PySem.W.Frag} {B0 H0 : Hp} {δ : List Sl} {ds es : List PyData} {ta : TA}
theorem n_listZip (h : EvD K B0 H0 ta δ [.list ds, .list es]) (hl : ds.length = es.length) (hz : ds.length ≤ 40000) : EvN K B0 H0 (tLZ K ta) δ (zipD ds es) := fun B H σ S Q q => h B H σ S _ fun vs B1 H1 s1 i1 => by
  cases i1 with
  | cons g1 g2 =>
    cases g2 with
    | cons g3 g4 =>
      cases g4
      cases g1 with
      | @lst a xs _ h1 h2 =>
        cases g3 with
        | @lst b ys _ k1 k2 =>
          refine ⟨a, b, xs, ys, rfl, sq_of (s1.bh _ _ h1), sq_of (s1.bh _ _ k1), by rw [h2.len, k2.len, hl], by rw [h2.len]; exact hz, fun l vs' H' e1 f1 f2 f3 f4 => ?_⟩
          -- the base: B1 with the new pairs in it
          let B2 : Hp := fun c => if H1 c = none ∧ c ≠ l then H' c else B1 c
          have b2l : B2 l = none := by
            show (if H1 l = none ∧ l ≠ l then H' l else B1 l) = none
            rw [if_neg (fun z => z.2 rfl)]
            exact none_of s1.bh f1
          have eb : Ex B1 B2 := fun c u hc => by
            show (if H1 c = none ∧ c ≠ l then H' c else B1 c) = some u
            rw [if_neg (fun z => by
              have := s1.bh _ _ hc
              rw [z.1] at this
              cases this)]
            exact hc
          have bh : Ex B2 H' := fun c u hc => by
            have hc' : (if H1 c = none ∧ c ≠ l then H' c else B1 c) = some u := hc
            split at hc'
            · exact hc'
            · exact e1 _ _ (s1.bh _ _ hc')
          have n2 : ∀ c, B2 c ≠ none → B1 c ≠ none ∨ NoL H1 c := fun c hc => by
            by_cases z : H1 c = none
            · exact .inr (.of z)
            · left
              intro z2
              apply hc
              show (if H1 c = none ∧ c ≠ l then H' c else B1 c) = none
              rw [if_neg (fun y => z y.1)]
              exact z2
          refine q l vs' B2 H' (s1.trans ⟨eb, bh, e1, n2⟩) (none_of s1.h f1) b2l f2 ?_
          have hlen : (zipD ds es).length = ds.length := by
            unfold zipD
            rw [List.length_map, List.length_zip, ← hl, Nat.min_self]
          refine DtAll.of (by rw [f3, h2.len, hlen]) fun i v d hv hd => ?_
          obtain ⟨T, x, y, y1, y2, y3, y4, y5⟩ := f4 i (List.getElem?_eq_some_iff.mp hv).1
          rw [y1] at hv
          cases Option.some.inj hv
          obtain ⟨f, hf, df⟩ := h2.getV y2
          obtain ⟨g, hg, dg⟩ := k2.getV y3
          have e : d = .tuple [f, g] := by
            unfold zipD at hd
            rw [List.getElem?_map, show (ds.zip es)[i]? = some (f, g) from List.getElem?_zip_eq_some.mpr ⟨hf, hg⟩] at hd
            exact (Option.some.inj hd).symm
          rw [e]
          have hTl : T ≠ l := fun z => by
            rw [z, f2] at y4
            cases y4
          have bT : B2 T = some (.tup [x, y]) := by
            show (if H1 T = none ∧ T ≠ l then H' T else B1 T) = _
            rw [if_pos ⟨y5, hTl⟩]
            exact y4
          exact .tup (st_of bT) (.cons (dt_mono eb _ _ df) (.cons (dt_mono eb _ _ dg) .nil))
end
end Ja

/-! Own data layer: isinstance, x in (a, b, c) of ints, ranges with a step. -/
namespace Ja
open PySem PySem.Spec PyProof.Rows L2 Evl Cm
def tyD : PyData → Option String
  | .bool _ => some "bool"
  | .int _ => some "int"
  | .str _ => some "str"
  | .list _ => some "list"
  | .tuple _ => some "tuple"
  | _ => none
section
variable {K : PySem.W.Frag} {B0 H0 : Hp} {δ : List Sl} {te ta tb : TE} {d : PyData} {i : Int}
theorem ty_rd_l {H : Hp} {a : Addr} {xs : List V} (h : SqL K H a xs) : TyX K H (.ref a) (.type "list") := by
  rcases h with (h | ⟨o, h⟩) | ⟨o, its, n, h, hc, _⟩
  · exact .base (.lst h)
  · exact .base (.frz h)
  · exact .kList h hc
theorem ty_rd_t {H : Hp} {a : Addr} {xs : List V} (h : SqT K H a xs) : TyX K H (.ref a) (.type "tuple") := by
  rcases h with (h | ⟨o, h⟩) | ⟨o, its, n, h, hc, _⟩
  · exact .base (.tup h)
  · exact .fTuple h
  · exact .kTuple h hc
theorem ty_of {B : Hp} {v : V} {t : String} (h : Dt K B v d) (ht : tyD d = some t) : TyX K B v (.type t) := by
  cases h with
  | non => cases ht
  | bl b => cases ht; exact .base (.bl _)
  | int i => cases ht; exact .base (.int _)
  | str x => cases ht; exact .base (.str _)
  | lst h1 h2 => cases ht; exact ty_rd_l (sq_of h1)
  | tup h1 h2 => cases ht; exact ty_rd_t h1
theorem d_isi {T t : String} {b : Bool} (h : EvS K B0 H0 te δ (.dat d)) (ht : tyD d = some t) (hk : kitB t T = some b) : EvS K B0 H0 (tCB (rIsi K) (tCons te (tCons (tC (.ty T)) tNil))) δ (nB b) := fun B H σ S Q q => h B H σ S _ fun v B1 H1 s1 i1 => by
  have hty := ty_of (dt_mono s1.bh _ _ i1) ht
  exact ⟨v, .ty T, .type t, .type T, b, rfl, .ty T, hty, kit_ty hk, q _ B1 H1 s1 (Dt.bl _)⟩
theorem inV_ints (i : Int) : ∀ ns : List Int, inV (.int i) (ns.map V.int) = decide (i ∈ ns)
  | [] => rfl
  | n :: r => by
    have h := inV_ints i r
    unfold inV at h ⊢
    rw [List.map_cons, List.any_cons, h]
    show ((n == i) || decide (i ∈ r)) = _
    by_cases e : n = i
    · subst e
      simp
    · have e2 : ¬ i = n := fun z => e z.symm
      simp [e, e2]
theorem flat_ints : ∀ ns : List Int, (ns.map V.int).all flatV = true
  | [] => rfl
  | n :: r => flat_ints r
theorem d_inT {ns : List Int} (ha : EvS K B0 H0 ta δ (nI i)) (hb : EvS K B0 H0 tb δ (.dat (.tuple (ns.map PyData.int)))) : EvS K B0 H0 (tOp (rIn K false) ta tb) δ (nB (decide (i ∈ ns))) := fun B H σ S Q q => ha B H σ S _ fun v B1 H1 s1 i1 => hb B1 H1 σ (S.go s1) _ fun w B2 H2 s2 i2 => by
  cases i1
  cases i2 with
  | tup g1 g2 =>
    rw [dt_ints_inv ns g2] at g1
    refine ⟨_, ns.map V.int, rfl, .inr (ex_t s2.bh g1), rfl, flat_ints ns, ?_⟩
    rw [if_neg (by decide), inV_ints]
    exact q _ B2 H2 (s1.trans s2) (Dt.bl _)
/-- lo, lo + c, .. -/
def stepD (lo c : Int) (n : Nat) : List PyData := (List.range n).map fun i : Nat => PyData.int (lo + (i : Int) * c)
theorem stepD_len (lo c : Int) (n : Nat) : (stepD lo c n).length = n := by
  unfold stepD
  rw [List.length_map, List.length_range]
theorem stepD_get {lo c : Int} {n i : Nat} {d : PyData} (h : (stepD lo c n)[i]? = some d) : i < n ∧ d = .int (lo + (i : Int) * c) := by
  have hi : i < n := by
    have := (List.getElem?_eq_some_iff.mp h).1
    rwa [stepD_len] at this
  unfold stepD at h
  rw [List.getElem?_map, List.getElem?_range hi] at h
  exact ⟨hi, (Option.some.inj h).symm⟩
theorem w_rng3 {ta : TA} {lo hi c : Int} {n : Nat} (h : EvD K B0 H0 ta δ [.int lo, .int hi, .int c]) (h1 : RgC lo hi c n) : EvW K B0 H0 (iRng3 ta) δ (stepD lo c n) := fun B H σ S R q => h B H σ S _ fun vs B1 H1 s1 i1 => by
  cases i1 with
  | cons g1 g2 =>
    cases g1
    cases g2 with
    | cons g3 g4 =>
      cases g3
      cases g4 with
      | cons g5 g6 =>
        cases g5
        cases g6
        refine ⟨lo, hi, c, n, rfl, h1, q _ _ _ B1 H1 s1 (by rw [stepD_len]; exact walk_rangeC) (fun _ _ _ _ => trivial) fun i H2 x H3 B2 d hd e1 e2 y => ?_⟩
        obtain ⟨rfl, rfl⟩ := y
        obtain ⟨_, rfl⟩ := stepD_get hd
        exact ⟨B2, .refl e2, .int _⟩
end
/-- range(1, m - 1, 2) -/
theorem rg_odd : ∀ m : Nat, m ≤ 40 → RgC 1 ((m : Int) - 1) 2 ((m - 1) / 2) := by
  have h : ∀ m : Fin 41, RgC 1 ((m.val : Int) - 1) 2 ((m.val - 1) / 2) := by
    unfold RgC
    decide +kernel
  exact fun m hm => h ⟨m, by omega⟩
end Ja

/-! Own data layer: calls that read own lists; None, truth of ints, bits, min and max, words in tuples. -/
namespace Ja
open PySem PySem.Spec PyProof.Rows L2 Evl Cm
/-- the base with all tuples of the heap in it -/
def wT (B H : Hp) : Hp := fun c => match H c with
  | some (.tup xs) => some (.tup xs)
  | some (.frz o u) => some (.frz o u)
  | _ => B c
theorem wT_tup {B H : Hp} {a : Addr} {xs : List V} (h : H a = some (.tup xs)) : wT B H a = some (.tup xs) := by
  unfold wT
  rw [h]
theorem wT_frz {B H : Hp} {a : Addr} {o : Obj} {u : HO} (h : H a = some (.frz o u)) : wT B H a = some (.frz o u) := by
  unfold wT
  rw [h]
theorem wT_b {B H : Hp} (e : Ex B H) : Ex B (wT B H) := fun a u h => by
  have g := e a u h
  unfold wT
  rw [g]
  split
  · next h2 => exact h2.symm
  · next h2 => exact h2.symm
  · exact h
theorem wT_h {B H : Hp} (e : Ex B H) : Ex (wT B H) H := fun a u h => by
  unfold wT at h
  split at h
  · next h2 => rw [h2]; exact h
  · next h2 => rw [h2]; exact h
  · exact e a u h
theorem wT_n {B H H1 : Hp} (e : Ex H1 H) : ∀ a, wT B H a ≠ none → B a ≠ none ∨ NoL H1 a := fun a h => by
  unfold wT at h
  split at h
  · next h2 => exact .inr fun xs z => by rw [e _ _ z] at h2; cases h2
  · next h2 => exact .inr fun xs z => by rw [e _ _ z] at h2; cases h2
  · exact .inl h
mutual
/-- no lists in it -/
def noL : PyData → Bool
  | .none => true
  | .bool _ => true
  | .int _ => true
  | .str _ => true
  | .tuple ds => noLs ds
  | _ => false
def noLs : List PyData → Bool
  | [] => true
  | d :: r => noL d && noLs r
end
section
variable {K : PySem.W.Frag} {B H : Hp}
theorem wT_sq {a : Addr} {xs : List V} (h : SqT K H a xs) : SqT K (wT B H) a xs := by
  rcases h with h | h
  · rcases h with h | ⟨o, h⟩
    · exact .inl (.inl (wT_tup h))
    · exact .inl (.inr ⟨o, wT_frz h⟩)
  · exact .inr h
mutual
theorem wT_dt : ∀ (d : PyData) (v : V), noL d = true → Dt K H v d → Dt K (wT B H) v d
  | _, _, _, .non => .non
  | _, _, _, .bl b => .bl b
  | _, _, _, .int i => .int i
  | _, _, _, .str x => .str x
  | .tuple ds, _, h, .tup g a => .tup (wT_sq g) (wT_dts ds _ (by simpa only [noL] using h) a)
  | .list ds, _, h, .lst g a => by simp only [noL] at h; exact absurd h (by decide)
theorem wT_dts : ∀ (ds : List PyData) (vs : List V), noLs ds = true → DtAll K H vs ds → DtAll K (wT B H) vs ds
  | _, _, _, .nil => .nil
  | d :: ds, _, h, .cons g t => by
    simp only [noLs, Bool.and_eq_true] at h
    exact .cons (wT_dt d _ h.1 g) (wT_dts ds _ h.2 t)
end
end
/-- arguments, told over the whole heap: own lists too -/
def EvAH (K : PySem.W.Frag) (B0 H0 : Hp) (ta : TA) (δ : List Sl) (ss : List Sl) : Prop := ∀ B H σ, Sc K B0 H0 B H σ δ → ∀ Q : List V → Hp → Prop, (∀ vs B' H', Stp B H B' H' → IsAll K H' vs ss → Q vs H') → ta σ H Q
section
variable {K : PySem.W.Frag} {B0 H0 : Hp} {δ : List Sl} {ta tb te tc td : TE} {tt : TT} {tr : TA} {s : Sl} {ss : List Sl} {ds : List PyData} {d e : PyData} {i j k l : Int} {b : Bool} {W : WX} {E : DE} {t u : TS}
theorem ah_nil : EvAH K B0 H0 tNil δ [] := fun B H σ S Q q => q [] B H (.refl S.st.bh) .nil
theorem ah_cons (h : EvS K B0 H0 ta δ s) (hr : EvAH K B0 H0 tr δ ss) : EvAH K B0 H0 (tCons ta tr) δ (s :: ss) := fun B H σ S Q q =>
  h B H σ S _ fun v B1 H1 s1 i1 => hr B1 H1 σ (S.go s1) _ fun vs B2 H2 s2 i2 => q _ B2 H2 (s1.trans s2) (.cons (i1.mono (s2.b.trans s2.bh)) i2)
theorem ah_own {n : Nat} (ho : δ[n]? = some (Sl.own ds)) (hr : EvAH K B0 H0 tr δ ss) : EvAH K B0 H0 (tCons (tVar n) tr) δ (.dat (.list ds) :: ss) := fun B H σ S Q q => by
  obtain ⟨l, vs, h1, h2, h3, h4, h5⟩ := S.own n ds ho
  refine ⟨.ref l, h1, hr B H σ S _ fun ws B2 H2 s2 i2 => q _ B2 H2 s2 (.cons (.lst (s2.h _ _ h2) (dts_mono (s2.b.trans s2.bh) _ _ h5)) i2)⟩
/-- a call that reads own lists and gives data without lists -/
theorem r_callO {A : Type} {enc : A → List Sl} {pre : A → Prop} {post : A → PyData → Prop} {X : XK} (a : A) (h : EvAH K B0 H0 tr δ (enc a)) (hp : pre a) (hn : ∀ d, post a d → noL d = true) : EvR K B0 H0 (tCall (SpA K enc pre post) [] X tr) δ (post a) := fun B H σ S Q q =>
  h B H σ S _ fun vs B1 H1 s1 i1 => ⟨H1, a, .refl H1, by rw [List.append_nil]; exact i1, hp, fun v d B2 H2 p st dv => by
    have e2 : Ex B1 H2 := s1.bh.trans st.h
    exact q v d (wT B1 H2) H2 p (s1.trans ⟨wT_b e2, wT_h e2, st.h, wT_n st.h⟩) (wT_dt d v (hn d p) (dt_mono st.bh d v dv))⟩
theorem d_callO {A : Type} {enc : A → List Sl} {pre : A → Prop} {f : A → PyData} {X : XK} (a : A) (h : EvAH K B0 H0 tr δ (enc a)) (hp : pre a) (hn : noL (f a) = true) : EvS K B0 H0 (tCall (SpF K enc pre f) [] X tr) δ (.dat (f a)) := fun B H σ S Q q =>
  r_callO a h hp (fun d e => by subst e; exact hn) B H σ S Q fun v e B' H' p st iv => by
    subst p
    exact q v B' H' st iv
/-! None -/
def isNo : PyData → Bool
  | .none => true
  | _ => false
theorem dt_non {B : Hp} {v : V} (h : Dt K B v d) : decide (v = .non) = isNo d := by
  cases h <;> rfl
theorem d_isND (ha : EvS K B0 H0 ta δ (.dat d)) : EvS K B0 H0 (tOp (fun x y H Q => y = .non ∧ Q (.bl (decide (x = .non))) H) ta (tC .non)) δ (nB (isNo d)) := fun B H σ S Q q =>
  ha B H σ S _ fun v B1 H1 s1 i1 => ⟨rfl, by
    rw [dt_non i1]
    exact q _ B1 H1 s1 (Dt.bl _)⟩
theorem d_notND (ha : EvS K B0 H0 ta δ (.dat d)) : EvS K B0 H0 (tOp (fun x y H Q => y = .non ∧ Q (.bl (!decide (x = .non))) H) ta (tC .non)) δ (nB (!isNo d)) := fun B H σ S Q q =>
  ha B H σ S _ fun v B1 H1 s1 i1 => ⟨rfl, by
    rw [dt_non i1]
    exact q _ B1 H1 s1 (Dt.bl _)⟩
/-! truth of an int -/
theorem b_truth (h : EvS K B0 H0 te δ (nI i)) : EvB K B0 H0 (fun σ H Q => te σ H fun x H' => ∃ k, TruV K x H' k ∧ Q k H') δ (i != 0) := fun B H σ S Q q => h B H σ S _ fun v B1 H1 s1 i1 => by
  cases i1
  exact ⟨_, rfl, q B1 H1 s1⟩
/-! bits, min and max -/
theorem d_bits (h : EvS K B0 H0 te δ (nI i)) : EvS K B0 H0 (tBits te) δ (nI ((Builtin.Int.intBits i : Nat) : Int)) := fun B H σ S Q q => h B H σ S _ fun v B1 H1 s1 i1 => by
  cases i1
  exact ⟨i, rfl, q _ B1 H1 s1 (Dt.int _)⟩
theorem d_min4 (h1 : EvS K B0 H0 ta δ (nI i)) (h2 : EvS K B0 H0 tb δ (nI j)) (h3 : EvS K B0 H0 tc δ (nI k)) (h4 : EvS K B0 H0 td δ (nI l)) : EvS K B0 H0 (tCB Mi.rMin4 (tCons ta (tCons tb (tCons tc (tCons td tNil))))) δ (nI (min (min i j) (min k l))) := fun B H σ S Q q =>
  h1 B H σ S _ fun v1 B1 H1 s1 i1 => h2 B1 H1 σ (S.go s1) _ fun v2 B2 H2 s2 i2 => h3 B2 H2 σ (S.go (s1.trans s2)) _ fun v3 B3 H3 s3 i3 => h4 B3 H3 σ (S.go ((s1.trans s2).trans s3)) _ fun v4 B4 H4 s4 i4 => by
    cases i1
    cases i2
    cases i3
    cases i4
    exact ⟨i, j, k, l, rfl, q _ B4 H4 (((s1.trans s2).trans s3).trans s4) (Dt.int _)⟩
theorem d_max4 (h1 : EvS K B0 H0 ta δ (nI i)) (h2 : EvS K B0 H0 tb δ (nI j)) (h3 : EvS K B0 H0 tc δ (nI k)) (h4 : EvS K B0 H0 td δ (nI l)) : EvS K B0 H0 (tCB Mi.rMax4 (tCons ta (tCons tb (tCons tc (tCons td tNil))))) δ (nI (max (max i j) (max k l))) := fun B H σ S Q q =>
  h1 B H σ S _ fun v1 B1 H1 s1 i1 => h2 B1 H1 σ (S.go s1) _ fun v2 B2 H2 s2 i2 => h3 B2 H2 σ (S.go (s1.trans s2)) _ fun v3 B3 H3 s3 i3 => h4 B3 H3 σ (S.go ((s1.trans s2).trans s3)) _ fun v4 B4 H4 s4 i4 => by
    cases i1
    cases i2
    cases i3
    cases i4
    exact ⟨i, j, k, l, rfl, q _ B4 H4 (((s1.trans s2).trans s3).trans s4) (Dt.int _)⟩
/-- min and max of a list of its own -/
theorem d_minO {n : Nat} {ns : List Int} {m : Int} (ho : δ[n]? = some (Sl.own (ns.map PyData.int))) (hm : m ∈ ns) (hl : ∀ y ∈ ns, m ≤ y) : EvS K B0 H0 (tCB (L2.rMin K) (tCons (tVar n) tNil)) δ (nI m) := fun B H σ S Q q => by
  obtain ⟨p, vs, h1, h2, h3, h4, h5⟩ := S.own n _ ho
  rw [dt_ints_inv ns h5] at h2
  refine ⟨.ref p, h1, p, ns, rfl, sq_of h2, List.length_pos_of_mem hm, fun m' hm' hl' => ?_⟩
  have e : m' = m := Int.le_antisymm (hl' m hm) (hl m' hm')
  subst e
  exact q _ B H (.refl S.st.bh) (Dt.int _)
theorem d_maxO {n : Nat} {ns : List Int} {m : Int} (ho : δ[n]? = some (Sl.own (ns.map PyData.int))) (hm : m ∈ ns) (hl : ∀ y ∈ ns, y ≤ m) : EvS K B0 H0 (tCB (L2.rMax K) (tCons (tVar n) tNil)) δ (nI m) := fun B H σ S Q q => by
  obtain ⟨p, vs, h1, h2, h3, h4, h5⟩ := S.own n _ ho
  rw [dt_ints_inv ns h5] at h2
  refine ⟨.ref p, h1, p, ns, rfl, sq_of h2, List.length_pos_of_mem hm, fun m' hm' hl' => ?_⟩
  have e : m' = m := Int.le_antisymm (hl m' hm') (hl' m hm)
  subst e
  exact q _ B H (.refl S.st.bh) (Dt.int _)
/-! words in tuples of words -/
theorem inV_strs (x : Str) : ∀ xs : List Str, inV (.str x) (xs.map V.str) = decide (x ∈ xs)
  | [] => rfl
  | y :: r => by
    have ih := inV_strs x r
    unfold inV at ih ⊢
    rw [List.map_cons, List.any_cons, ih]
    by_cases h : x = y
    · subst h
      simp [eqV]
    · have h2 : ¬ y = x := fun z => h z.symm
      simp [eqV, h, h2]
theorem flat_strs : ∀ xs : List Str, (xs.map V.str).all flatV = true
  | [] => rfl
  | y :: r => by
    rw [List.map_cons, List.all_cons, flat_strs r]
    rfl
theorem d_inTS {x : Str} {xs : List Str} (ha : EvS K B0 H0 ta δ (nS x)) (hb : EvS K B0 H0 tb δ (.dat (.tuple (xs.map PyData.str)))) : EvS K B0 H0 (tOp (rIn K false) ta tb) δ (nB (decide (x ∈ xs))) := fun B H σ S Q q => ha B H σ S _ fun v B1 H1 s1 i1 => hb B1 H1 σ (S.go s1) _ fun w B2 H2 s2 i2 => by
  cases i1
  cases i2 with
  | tup g1 g2 =>
    rw [dt_strs_inv xs g2] at g1
    refine ⟨_, xs.map V.str, rfl, .inr (ex_t s2.bh g1), rfl, flat_strs xs, ?_⟩
    rw [if_neg (by decide), inV_strs]
    exact q _ B2 H2 (s1.trans s2) (Dt.bl _)
theorem d_niTS {x : Str} {xs : List Str} (ha : EvS K B0 H0 ta δ (nS x)) (hb : EvS K B0 H0 tb δ (.dat (.tuple (xs.map PyData.str)))) : EvS K B0 H0 (tOp (rIn K true) ta tb) δ (nB (!decide (x ∈ xs))) := fun B H σ S Q q => ha B H σ S _ fun v B1 H1 s1 i1 => hb B1 H1 σ (S.go s1) _ fun w B2 H2 s2 i2 => by
  cases i1
  cases i2 with
  | tup g1 g2 =>
    rw [dt_strs_inv xs g2] at g1
    refine ⟨_, xs.map V.str, rfl, .inr (ex_t s2.bh g1), rfl, flat_strs xs, ?_⟩
    rw [if_pos rfl, inV_strs]
    exact q _ B2 H2 (s1.trans s2) (Dt.bl _)
/-- a tuple that the top has made -/
theorem d_ktD {a : Addr} {ds : List PyData} (h : ∀ H, Dt K H (.ref a) (.tuple ds)) : EvS K B0 H0 (tC (.ref a)) δ (.dat (.tuple ds)) := fun B H σ S Q q => q _ B H (.refl S.st.bh) (h B)
end
end Ja

/-! Own data layer: slices of mapped lists, points. -/
namespace Ja
open PySem PySem.Spec PyProof.Rows L2 Evl Cm
section
variable {A : Type}
def cutL (xs : List A) (lo hi : Option Int) : List A := (xs.drop (HT.sIx xs.length 0 lo)).take (HT.sIx xs.length xs.length hi - HT.sIx xs.length 0 lo)
theorem cutD_map (f : A → PyData) (xs : List A) (lo hi : Option Int) : cutD (xs.map f) lo hi = (cutL xs lo hi).map f := by
  unfold cutD cutL
  rw [List.length_map, ← List.map_drop, ← List.map_take]
theorem drop_min (xs : List A) (n : Nat) : xs.drop (min n xs.length) = xs.drop n := by
  by_cases h : n ≤ xs.length
  · rw [Nat.min_eq_left h]
  · rw [Nat.min_eq_right (by omega), List.drop_length, List.drop_eq_nil_of_le (by omega)]
theorem cut_from (xs : List A) (n : Nat) : cutL xs (some (n : Int)) none = xs.drop n := by
  unfold cutL
  rw [HT.sIx_none, HT.sIx_nat, drop_min, List.take_of_length_le]
  rw [List.length_drop]
  omega
theorem cut_to (xs : List A) (n : Nat) : cutL xs none (some (n : Int)) = xs.take n := by
  unfold cutL
  rw [HT.sIx_none, HT.sIx_nat, List.drop_zero, Nat.sub_zero]
  refine List.take_eq_take_iff.mpr ?_
  omega
theorem cut_mid (xs : List A) (a b : Nat) : cutL xs (some (a : Int)) (some (b : Int)) = (xs.drop a).take (b - a) := by
  unfold cutL
  rw [HT.sIx_nat, HT.sIx_nat, drop_min]
  refine List.take_eq_take_iff.mpr ?_
  rw [List.length_drop]
  omega
end
section
variable {K : PySem.W.Frag} {B0 H0 : Hp} {δ : List Sl} {te tb : TE} {A : Type} {f : A → PyData} {xs ys : List A}
theorem n_slF {tl th : TO} {lo hi : Option Int} (h : EvS K B0 H0 te δ (.dat (.list (xs.map f)))) (h1 : EvO K B0 H0 tl δ lo) (h2 : EvO K B0 H0 th δ hi) (e : cutL xs lo hi = ys) : EvN K B0 H0 (tSl (rSlL K) te tl th) δ (ys.map f) := by
  have := n_sl h h1 h2
  rwa [cutD_map, e] at this
theorem n_catF (ha : EvS K B0 H0 te δ (.dat (.list (xs.map f)))) (hb : EvS K B0 H0 tb δ (.dat (.list (ys.map f)))) (hz : xs.length + ys.length ≤ 100000) : EvN K B0 H0 (tOp rCat te tb) δ ((xs ++ ys).map f) := by
  have := n_cat ha hb (by rw [List.length_map, List.length_map]; exact hz)
  rwa [← List.map_append] at this
theorem n_zipF {B : Type} {g : B → PyData} {zs : List B} (h1 : EvS K B0 H0 te δ (.dat (.list (xs.map f)))) (h2 : EvS K B0 H0 tb δ (.dat (.list (zs.map g)))) (hl : xs.length = zs.length) (hz : xs.length ≤ 40000) : EvN K B0 H0 (tLZ K (tCons te (tCons tb tNil))) δ ((xs.zip zs).map fun p => .tuple [f p.1, g p.2]) := by
  have := n_listZip (ds_cons h1 (ds_cons h2 ds_nil)) (by rw [List.length_map, List.length_map]; exact hl) (by rw [List.length_map]; exact hz)
  unfold zipD at this
  rw [List.zip_map, List.map_map] at this
  exact this
theorem d_sumF {xs : List A} {g : A → Int} (h : EvN K B0 H0 te δ (xs.map fun x => .int (g x))) : EvS K B0 H0 (tCB (rSum K) (tCons te tNil)) δ (nI (xs.map g).sum) := by
  have e : (xs.map fun x => PyData.int (g x)) = (xs.map g).map PyData.int := by
    rw [List.map_map]
    rfl
  rw [e] at h
  exact d_sum (d_new h)
end
theorem enc_int : Enc PyData.int := ⟨fun x y => rfl, ⟨1, by decide, fun x => shp_int x⟩⟩
/-! ### points -/
open Pg
abbrev encP (p : Pt) : PyData := .tuple [.int p.1, .int p.2]
theorem shp_P (p : Pt) : Shp 1 (encP p) := shp_tup (shp_cons (n := 0) (shp_int _) (shp_cons (shp_int _) shp_nil))
theorem enc_P : Enc encP := by
  refine ⟨fun x y => ?_, ⟨1, by decide, shp_P⟩⟩
  have e : PyData.eqv (encP x) (encP y) = ((x.1 == y.1) && ((x.2 == y.2) && true)) := by simp only [encP, PyData.eqv, PyData.eqvAll]
  rw [e]
  obtain ⟨a, b⟩ := x
  obtain ⟨d, f⟩ := y
  by_cases h : (a, b) = (d, f)
  · rw [decide_eq_true h]
    cases h
    simp
  · rw [decide_eq_false h]
    have h2 : ¬ (a = d ∧ b = f) := fun ⟨h1, h2⟩ => h (by rw [h1, h2])
    simp only [Bool.and_true, Bool.and_eq_false_iff, beq_eq_false_iff_ne]
    omega
/-- the sides, as pairs -/
def sidesL (ps : List Pt) : List (Pt × Pt) := ps.zip (ps.drop 1 ++ ps.take 1)
abbrev encS (s : Pt × Pt) : PyData := .tuple [encP s.1, encP s.2]
theorem sides_len (ps : List Pt) : (sidesL ps).length = ps.length := by
  unfold sidesL
  cases ps <;> simp
theorem path_zip (q : Pt) : ∀ (p : Pt) (r : List Pt), (((p :: r).zip (r ++ [q])).map fun s => cr s.1 s.2).sum = path (p :: r ++ [q])
  | p, [] => by simp [path]
  | p, b :: r => by
    have h := path_zip q b r
    show cr p b + (((b :: r).zip (r ++ [q])).map fun s => cr s.1 s.2).sum = cr p b + path (b :: (r ++ [q]))
    rw [h]
    rfl
theorem sum_sides : ∀ ps : List Pt, ((sidesL ps).map fun s => cr s.1 s.2).sum = area2 ps
  | [] => rfl
  | p :: r => path_zip p p r
/-- both numbers are small -/
def Pb (k : Nat) (p : Pt) : Prop := p.1.natAbs < 2 ^ k ∧ p.2.natAbs < 2 ^ k
theorem sides_mem {ps : List Pt} {s : Pt × Pt} (h : s ∈ sidesL ps) : s.1 ∈ ps ∧ s.2 ∈ ps := by
  unfold sidesL at h
  have := List.of_mem_zip h
  refine ⟨this.1, ?_⟩
  rcases List.mem_append.mp this.2 with z | z
  · exact List.mem_of_mem_drop z
  · exact List.mem_of_mem_take z
end Ja

/-! Own data layer: max of three, insert, pop, items of mapped lists. -/
namespace Ja
open PySem PySem.Spec PyProof.Rows L2 Evl Cm
theorem hu65 {A : Around} {k : Nat} (hr : Room k A) : A.units + 65 < cLine := by
  have := hr.un
  omega
section
variable {K : PySem.W.Frag} {B0 H0 : Hp} {W : WX} {δ δ1 : List Sl} {E : DE} {ta tb tc te : TE} {u : TS} {d : PyData} {ds : List PyData} {i j k : Int} {A : Type} {f : A → PyData} {xs : List A} {x : A}
theorem at_map (h : atI xs i = some x) : atI (xs.map f) i = some (f x) := by
  unfold atI at h ⊢
  rw [List.length_map]
  cases hx : ixN xs.length i with
  | none =>
    rw [hx] at h
    cases h
  | some n =>
    rw [hx] at h
    show (xs.map f)[n]? = _
    rw [List.getElem?_map, show xs[n]? = some x from h]
    rfl
theorem d_ixM (ha : EvS K B0 H0 ta δ (.dat (.list (xs.map f)))) (hb : EvS K B0 H0 tb δ (nI i)) (h : atI xs i = some x) : EvS K B0 H0 (tOp (rIxL K) ta tb) δ (.dat (f x)) := d_ixL ha hb (at_map h)
theorem d_ixOM {n : Nat} (ho : δ[n]? = some (Sl.own (xs.map f))) (hb : EvS K B0 H0 tb δ (nI i)) (h : atI xs i = some x) : EvS K B0 H0 (tOp (rIxL K) (tVar n) tb) δ (.dat (f x)) := d_ixO ho hb (at_map h)
theorem d_max3 (h : EvS K B0 H0 ta δ (nI i)) (h2 : EvS K B0 H0 tb δ (nI j)) (h3 : EvS K B0 H0 tc δ (nI k)) : EvS K B0 H0 (tCB (rNuC3 nuMax3) (tCons ta (tCons tb (tCons tc tNil)))) δ (nI (max (max i j) k)) := fun B H σ S Q q =>
  h B H σ S _ fun v B1 H1 s1 i1 => h2 B1 H1 σ (S.go s1) _ fun w B2 H2 s2 i2 => h3 B2 H2 σ (S.go (s1.trans s2)) _ fun z B3 H3 s3 i3 => by
    cases i1
    cases i2
    cases i3
    refine ⟨.int i, .int j, .int k, .int (max (max i j) k), rfl, ?_, q _ B3 H3 ((s1.trans s2).trans s3) (Dt.int _)⟩
    by_cases a : i < j
    · have e1 : max i j = j := by omega
      rw [e1]
      have e2 : (nuMax2 (.int i) (.int j)) = some (.int j) := by
        show some (if decide (i < j) = true then V.int j else V.int i) = _
        rw [decide_eq_true a]
        rfl
      show (nuMax2 (.int i) (.int j)).bind _ = _
      rw [e2]
      show some (if decide (j < k) = true then V.int k else V.int j) = _
      by_cases b : j < k
      · rw [decide_eq_true b, show max j k = k by omega]
        rfl
      · rw [decide_eq_false b, show max j k = j by omega]
        rfl
    · have e1 : max i j = i := by omega
      rw [e1]
      have e2 : (nuMax2 (.int i) (.int j)) = some (.int i) := by
        show some (if decide (i < j) = true then V.int j else V.int i) = _
        rw [decide_eq_false a]
        rfl
      show (nuMax2 (.int i) (.int j)).bind _ = _
      rw [e2]
      show some (if decide (i < k) = true then V.int k else V.int i) = _
      by_cases b : i < k
      · rw [decide_eq_true b, show max i k = k by omega]
        rfl
      · rw [decide_eq_false b, show max i k = i by omega]
        rfl
/-- x not in xs, xs of its own -/
theorem d_niO {n : Nat} (ha : EvS K B0 H0 ta δ (.dat d)) (ho : δ[n]? = some (Sl.own ds)) (h1 : SeqAt.shaped d = true) (h2 : SeqAt.shaped (.list ds) = true) : EvS K B0 H0 (tOp (rNotInD K) ta (tVar n)) δ (nB (!ds.any fun z => PyData.eqv z d)) := fun B H σ S Q q =>
  ha B H σ S _ fun v B1 H1 s1 i1 => by
    obtain ⟨l, vs, g1, g2, g3, g4, g5⟩ := (S.go s1).own n ds ho
    have eb : Ex B1 (upd B1 l (.lst vs)) := Ex.new g3
    have bh : Ex (upd B1 l (.lst vs)) H1 := fun a o ha => by
      by_cases z : a = l
      · subst z
        rw [upd_same] at ha
        rw [g2]
        exact ha
      · rw [upd_ne z] at ha
        exact s1.bh a o ha
    exact ⟨.ref l, g1, d, ds, dp_mono s1.bh _ _ (dt_dp _ _ i1), dp_mono bh _ _ (dt_dp _ _ (Dt.lst upd_same (dts_mono eb _ _ g5))), h1, h2, q _ B1 H1 s1 (Dt.bl _)⟩
theorem d_niEO {A : Type} [DecidableEq A] {f : A → PyData} {x : A} {l : List A} {n : Nat} (h : Enc f) (ha : EvS K B0 H0 ta δ (.dat (f x))) (ho : δ[n]? = some (Sl.own (l.map f))) : EvS K B0 H0 (tOp (rNotInD K) ta (tVar n)) δ (nB (!decide (x ∈ l))) := d_isB (d_niO ha ho (h.shx x) (h.shl l)) (by rw [any_map h.eq x l])
theorem atI_prev {A : Type} {xs : List A} {z : A} (hz : xs.getLast? = some z) {k : Nat} (hk : k < xs.length) : atI xs ((k : Int) - 1) = (z :: xs)[k]? := by
  cases k with
  | zero =>
    show atI xs (-1) = some z
    rw [← hz, List.getLast?_eq_getElem?]
    have h1 : ixN xs.length (-1) = some (xs.length - 1) := by
      unfold ixN
      rw [if_neg (by omega)]
      first | rw [if_pos (by omega)] | skip
      congr 1
      omega
    unfold atI
    rw [h1]
    rfl
  | succ k =>
    show atI xs (((k + 1 : Nat) : Int) - 1) = xs[k]?
    rw [show ((k + 1 : Nat) : Int) - 1 = (k : Int) by omega]
    rw [List.getElem?_eq_getElem (show k < xs.length by omega)]
    exact atI_nat (List.getElem?_eq_getElem (show k < xs.length by omega))
/-- the item behind, going around -/
theorem atI_next {A : Type} {xs : List A} {k : Nat} (hk : k < xs.length) : ∃ x, x ∈ xs ∧ atI xs ((k : Int) + 1 - (xs.length : Int) * (((k : Int) + 1) / (xs.length : Int))) = some x := by
  have h0 : 0 < xs.length := by omega
  have h1 : (k + 1) % xs.length < xs.length := Nat.mod_lt _ h0
  have e : (k : Int) + 1 - (xs.length : Int) * (((k : Int) + 1) / (xs.length : Int)) = (((k + 1) % xs.length : Nat) : Int) := by
    rw [Int.natCast_emod, Int.emod_def, Int.natCast_add]
    rfl
  rw [e]
  exact ⟨xs[(k + 1) % xs.length], List.getElem_mem h1, atI_nat (List.getElem?_eq_getElem h1)⟩
theorem mul_div_ok {k n : Nat} (hn : n ≤ 1000) (hk : k ≤ 1000) : CMulX (n : Int) (((k : Int) + 1) / (n : Int)) := by
  have h1 : (((k : Int) + 1) / (n : Int)) = (((k + 1) / n : Nat) : Int) := by
    rw [Int.natCast_ediv, Int.natCast_add]
    rfl
  rw [h1]
  have h2 : (k + 1) / n ≤ k + 1 := Nat.div_le_self _ _
  generalize (k + 1) / n = m at h2 ⊢
  exact mulx_ok (a := 20) (b := 20) (by omega) (by omega) (by decide)
theorem r_newR {P : List PyData → Prop} (h : EvNR K B0 H0 te δ P) : EvR K B0 H0 te δ fun d => ∃ ds, P ds ∧ d = .list ds := fun B H σ S Q q => h B H σ S Q fun l vs ds B1 H1 p s1 f1 f2 f3 f4 => by
  have eb : Ex B1 (upd B1 l (.lst vs)) := Ex.new f2
  refine q _ _ (upd B1 l (.lst vs)) H1 ⟨ds, p, rfl⟩ ⟨s1.b.trans eb, fun a o ha => ?_, s1.h, fun a ha => ?_⟩ (.lst upd_same (dts_mono eb _ _ f4))
  · by_cases z : a = l
    · subst z
      rw [upd_same] at ha
      rw [f3]
      exact ha
    · rw [upd_ne z] at ha
      exact s1.bh a o ha
  · by_cases z : a = l
    · subst z
      exact .inr (.of f1)
    · rw [upd_ne z] at ha
      exact s1.n a ha
/-- a def called with one thing of which something is told -/
theorem r_call1 {A : Type} {enc : A → List Sl} {pre : A → Prop} {post : A → PyData → Prop} {R : XK} {P : PyData → Prop} (h : EvR K B0 H0 te δ P) (hh : ∀ d, P d → ∃ a, enc a = [.dat d] ∧ pre a) : EvR K B0 H0 (tCall (SpA K enc pre post) [] R (tCons te tNil)) δ fun d => ∃ a, pre a ∧ post a d := fun B H σ S Q q => h B H σ S _ fun v d B1 H1 p s1 i1 => by
  obtain ⟨a, e, hp⟩ := hh d p
  exact ⟨B1, a, s1.bh, by rw [List.append_nil, e]; exact .cons i1 .nil, hp, fun v2 d2 B2 H2 p2 st dv => q v2 d2 B2 H2 ⟨a, hp, p2⟩ (s1.trans st) dv⟩
/-- some answer -/
def EvBR (K : PySem.W.Frag) (B0 H0 : Hp) (tt : TT) (δ : List Sl) : Prop := ∀ B H σ, Sc K B0 H0 B H σ δ → ∀ Q : Bool → Hp → Prop, (∀ b B' H', Stp B H B' H' → Q b H') → tt σ H Q
theorem br_val (h : EvR K B0 H0 te δ fun d => ∃ b, d = .bool b) : EvBR K B0 H0 (tB te) δ := fun B H σ S Q q => h B H σ S _ fun v d B1 H1 ⟨b, e⟩ s1 i1 => by
  subst e
  cases i1
  exact ⟨b, rfl, q b B1 H1 s1⟩
theorem br_not {tt : TT} (h : EvBR K B0 H0 tt δ) : EvBR K B0 H0 (tNot tt) δ := fun B H σ S Q q => h B H σ S _ fun b B1 H1 s1 => q _ B1 H1 s1
theorem sd_ifBR {tt : TT} {t u : TS} (h : EvBR K B0 H0 tt δ) (h1 : SD K B0 H0 W t δ E) (h2 : SD K B0 H0 W u δ E) : SD K B0 H0 W (tIfS tt t u) δ E := fun D B H σ S L => h B H σ S _ fun b B1 H1 s1 => by
  cases b with
  | true => exact h1 D B1 H1 σ (S.go s1) (L.mono s1.b)
  | false => exact h2 D B1 H1 σ (S.go s1) (L.mono s1.b)
def rInsD : V → List V → Hp → VK → Prop := fun x vs H Q => ∃ (l : Addr) (xs : List V) (i : Int) (y : V), x = .ref l ∧ vs = [.int i, y] ∧ H l = some (.lst xs) ∧ xs.length < sizeLine ∧ 0 ≤ i ∧ i < 2 ^ 63 ∧ Q .non (upd H l (.lst (xs.take i.toNat ++ [y] ++ xs.drop i.toNat)))
theorem mt_insD {X : Cx} : MtR X "list.insert" rInsD := mt_insert
/-- xs.insert(m, e), xs of its own -/
theorem sd_ins {n m : Nat} (hn : δ[n]? = some (Sl.own ds)) (hi : EvS K B0 H0 tb δ (nI (m : Int))) (h : EvS K B0 H0 te δ (.dat d)) (hz : ds.length < 100000) (hm : m ≤ 100000) (k : E.nx (δ.set n (.own (ds.take m ++ [d] ++ ds.drop m)))) : SD K B0 H0 W (tDrop (tBM K "list" rInsD (tVar n) (tCons tb (tCons te tNil)))) δ E := fun D B H σ S L => by
  obtain ⟨l, vs, h1, h2, h3, h4, h5⟩ := S.own n ds hn
  refine ⟨.ref l, h1, .inl ⟨rfl, _, sq_of h2⟩, hi B H σ S _ fun w B1 H1 s1 i1 => h B1 H1 σ (S.go s1) _ fun v B2 H2 s2 i2 => ?_⟩
  cases i1
  have s := s1.trans s2
  obtain ⟨l', ws, g1, g2, g3, g4, g5⟩ := (S.go s).own n ds hn
  rw [h1] at g1
  cases Option.some.inj (Option.some.inj g1)
  refine ⟨l, ws, (m : Int), v, rfl, rfl, g2, by rw [g5.len]; exact sz_lt hz, by omega, by have : (100000 : Int) < 2 ^ 63 := by decide
                                                                                          omega, ?_⟩
  refine L.nx B2 _ σ _ s.b ((S.go s).mut hn h1 ?_) k
  rw [Int.toNat_natCast]
  exact ((g5.take m).app (.cons i2 .nil)).app (g5.drop m)
/-- xs.pop(), xs of its own -/
theorem sd_pop {n : Nat} {e : PyData} (hn : δ[n]? = some (Sl.own (ds ++ [e]))) (k : E.nx (δ.set n (.own ds))) : SD K B0 H0 W (tDrop (tBM0 K "list" rPop (tVar n))) δ E := fun D B H σ S L => by
  obtain ⟨l, vs, h1, h2, h3, h4, h5⟩ := S.own n _ hn
  have hl := h5.len
  rw [List.length_append] at hl
  have hlt : vs.length - 1 < vs.length := by
    have : [e].length = 1 := rfl
    omega
  refine ⟨.ref l, h1, .inl ⟨rfl, _, sq_of h2⟩, l, vs, vs[vs.length - 1], rfl, rfl, h2, List.getElem?_eq_getElem hlt, ?_⟩
  refine L.nx B _ σ _ (.refl _) (S.mut hn h1 ?_) k
  have h6 := h5.take (vs.length - 1)
  rw [List.dropLast_eq_take]
  have e1 : (ds ++ [e]).take (vs.length - 1) = ds := by
    have : [e].length = 1 := rfl
    rw [show vs.length - 1 = ds.length by omega, List.take_left]
  rwa [e1] at h6
end
end Ja

/-! Own rule: a list comprehension whose element may raise. -/
namespace Lx
open PySem PySem.Spec PyProof.Rows L2
/-- what is wanted of an exception that leaves a comprehension's block, its own variables let go -/
def errX (M : Model) (A : Around) (E : Value → Shared → Prop) (ce : Env) (x : Value) (t : Shared) : Prop :=
  ∃ m, t.heap.Ns ce.locals m ∧ ∀ g, Heap.SameBut ce.locals t.heap g → wpAny M A (PySem.passOn "comprehension.variables-let-go" x ce : Sem Value) (fun _ _ => False) E { t with heap := g }
def postX (M : Model) (A : Around) (E : Value → Shared → Prop) (use : Option (Value → Sem Unit)) (Q : Value → Shared → Prop) (acc : Value) (ce : Env) (r : Result) (t : Shared) : Prop :=
  match r with
  | .ok _ => compPost M A E use Q acc ce.locals (.ok .next) t
  | .error x => errX M A E ce x t
section
variable {M : Model} {A : Around} {E : Value → Shared → Prop} {s : Shared} {env : Env}
theorem comp_freeX {e : Expr} {scope : Scope} {pos : Pos} {newAcc first : Sem Value} {g : Comprehension} {gs : List Comprehension} {cl : List (Str × Addr)} {use : Option (Value → Sem Unit)} {Q : Value → Shared → Prop} (hcl : clausesOf e = g :: gs) (hs : ∀ x, foldedSetIterable g.iter env x = pure x) (hclos : closureFor scope env = pure cl) (hkind : scope.kind = .function) (hnames : ∀ x ∈ scope.names, x.2 = .local → scope.names.lookup x.1 = some .local)
    (h : wpAny M A first (fun x t1 => wpAny M A (pyIter x) (fun it t2 => wpAny M A newAcc (fun acc t3 => wpAny M A (newFunctionEnv scope env.globals cl [] env.qual none .none (some env)) (fun ce t4 => codeAny M A (.compStart e 0 it acc { ce with scope := relabel scope env }) (postX M A E use Q acc { ce with scope := relabel scope env }) t4) E t3) E t2) E t1) E s) : wpAny M A (comprehension e scope env pos newAcc false first use) Q E s := by
  unfold comprehension
  rw [hclos, hcl]
  refine wpAny_bind (wpAny_mono h (fun x t1 k1 => wpAny_bind (wpAny_standAt (wpAny_bind (wpAny_of_eq (hs x) (wpAny_bind (wpAny_holding (wpAny_mono k1 (fun it t2 k2 => wpAny_standIf (wpAny_bind (wpAny_mono k2 (fun acc t3 k3 => wpAny_bind (wpAny_pure (wpAny_bind (wpAny_mono k3 (fun ce t4 k4 => ?_) fun _ _ z => z)))) fun _ _ z => z))) fun _ _ z => z))))))) fun _ _ z => z)
  dsimp only
  have hv : ∀ x ∈ (scope.names.filter fun x => (x.2 == .local || x.2 == .cell) && x.1 != (".0" : Str)).reverse, x.2 = .local → Env.kindOf { ce with scope := relabel scope env } x.1 = some .local := fun x hx hl => lookup_relabel_local (hnames x (List.mem_filter.mp (List.mem_reverse.mp hx)).1 hl)
  have hv2 : ∀ x ∈ (scope.names.filter fun x => (x.2 == .local || x.2 == .cell) && x.1 != (".0" : Str)).reverse.drop 1 ++ (scope.names.filter fun x => (x.2 == .local || x.2 == .cell) && x.1 != (".0" : Str)).reverse.take 1, x.2 = .local → Env.kindOf { ce with scope := relabel scope env } x.1 = some .local := fun x hx hl => (List.mem_append.mp hx).elim (fun z => hv x (List.mem_of_mem_drop z) hl) fun z => hv x (List.mem_of_mem_take z) hl
  refine wpAny_holding (wpAny_bind (wpAny_attempt (wpAny_holding (wpAny_run (codeAny_mono k4 fun r t hr => ?_)))))
  cases r with
  | ok f =>
    cases use with
    | none =>
      obtain ⟨m, hn, hr⟩ := hr
      exact wpAny_bind (wpAny_holding (wpAny_comp_letGo (cenv := { ce with scope := relabel scope env }) hkind _ t m hv hn fun g m' _ z => wpAny_pure (hr g z)))
    | some u =>
      refine wpAny_bind (wpAny_rule (wpAny_bind (wpAny_holding (wpAny_mono hr (fun _ t5 k5 => ?_) fun _ _ z => z))))
      obtain ⟨m, hn, k6⟩ := k5
      exact wpAny_bind (wpAny_comp_letGo (cenv := { ce with scope := relabel scope env }) hkind _ t5 m hv2 hn fun g m' _ z => wpAny_pure (k6 g z))
  | error x =>
    obtain ⟨m, hn, hr⟩ := hr
    exact wpAny_bind (wpAny_holding (wpAny_comp_letGo (cenv := { ce with scope := relabel scope env }) hkind _ t m hv hn fun g m' _ z => wpAny_mono (hr g z) (fun _ _ f => f.elim) fun _ _ y => y))
theorem note_env {x : Value} {e1 e2 : Env} (h : e1.frame = e2.frame) : noteFrame x e1 = noteFrame x e2 := by
  unfold noteFrame PySem.frameOf
  rw [h]
theorem pass_env {α : Type} {w : String} {x : Value} {e1 e2 : Env} (h : e1.frame = e2.frame) : (PySem.passOn w x e1 : Sem α) = passOn w x e2 := by
  unfold PySem.passOn
  rw [h]
theorem frames_but {C : Addr} {h g B B' : Heap} (k : ∀ b, b ≠ C → g.get? b = h.get? b) (kb : ∀ b, B.get? b = none → B'.get? b = none) : ∀ {l : List Env}, C ∉ frs l → h.FunFrames B l → g.FunFrames B' l
  | [], _, _ => trivial
  | e :: l, hC, hl => by
    obtain ⟨hk, ⟨L, o, hf, hn, ho, hd⟩, hr⟩ := hl
    have hm : L ∈ frs (e :: l) := List.mem_filterMap.mpr ⟨e, List.mem_cons_self, hf⟩
    refine ⟨hk, ⟨L, o, hf, kb L hn, (k L fun z => hC (z ▸ hm)).trans ho, hd⟩, frames_but k kb (fun z => hC ?_) hr⟩
    obtain ⟨e2, he, q⟩ := List.mem_filterMap.mp z
    exact List.mem_filterMap.mpr ⟨e2, List.mem_cons_of_mem _ he, q⟩
end
section
variable {X : Cx} {pins pins' : List (Addr × Obj)} {σ σ' : L2.St} {H H' : Hp} {s s' : Shared} {W : WX} {E : XK}
/-- a call's exception is in our air, and flies -/
theorem air_of_call (I : Inv X pins σ H s) {u : Value} (c : L2.CX X.prog X.w X.stack H s E u s') : ∃ (a : Addr) (B : Heap) (sI : Shared) (pins : List (Addr × Obj)) (σ2 : L2.St) (H2 : Hp) (cls : Value) (d : Option Addr),
    u = .ref a ∧ Inv X pins σ2 H2 sI ∧ (∀ b o, sI.heap.get? b = some o → b ∉ frs X.stack → B.get? b = some o) ∧ sI.heap.UpToSlots s'.heap ∧ HandSPX.FlyingZ B X.stack a (Zc cls d) s'.heap ∧ H2 a = none ∧ s'.os = sI.os ∧ AllBare s'.gens ∧ E cls d H2 := by
  obtain ⟨a0, B0, H0, cls0, d0, e0, fl0, _⟩ := id c
  obtain ⟨a, B, sI, p2, σ2, H2, cls, d, e1, I2, nb, up, sky, na, os, ag, w⟩ := XE.of_call (W := fun cls d _ H => E cls d H) I (fun _ _ _ h => h) c
  rw [e0] at e1
  cases e1
  obtain ⟨_, _, _, oe, vs, T, oT, ts, he, _, hd, h1, _, _, hT, hdT, h3⟩ := fl0
  refine ⟨a0, B, sI, p2, σ2, H2, cls, d, e0, I2, nb, up, ?_, na, os, ag, w⟩
  rcases sky with ⟨_, _, _, oe2, vs2, he2, _, hd2, h12⟩ | fl | ⟨_, _, _, oe2, vs2, T2, oT2, ts2, he2, _, hd2, h12, _, _, hT2, hdT2, h32⟩
  · rw [he] at he2
    cases he2
    rw [hd] at hd2
    cases hd2
    rw [h1] at h12
    cases h12
  · exact fl
  · rw [he] at he2
    cases he2
    rw [hd] at hd2
    cases hd2
    rw [h1] at h12
    cases h12
    rw [hT] at hT2
    cases hT2
    rw [hdT] at hdT2
    cases hdT2
    rw [h3] at h32
    cases h32
abbrev blkX (X : Cx) (s : Shared) (H : Hp) (scope : Scope) (ce : Env) (fp : List Addr) (xe : Value → Shared → Prop) : Cx := (X.blk s H scope ce fp).wish xe
theorem passes_comp {ce : Env} {fp : List Addr} {s3 : Shared} {H3 : Hp} {scope : Scope} {σ2 : L2.St} (hs : X.stack = X.env :: X.outer) (hf : X.env.frame = some X.env.locals) (hcf : ce.frame = X.env.frame) (hC : ce.locals = s3.heap.objs.size) (I3 : Inv X pins σ H3 s3)
    (hfp : ∀ b ∈ fp, (b ∈ X.ex ∨ X.s_0.heap.objs.size ≤ b) ∧ b ≠ X.env.locals ∧ (∀ x c, X.env.cells.lookup x = some c → c ≠ b) ∧ ∀ p ∈ X.pn ++ pins, p.1 ≠ b) (tk : Takes X W) : PassesAt (L2.CX X.prog X.w) (blkX X s3 H3 scope ce fp (notedBy (model X.prog X.w) X.A ce (errX (model X.prog X.w) X.A X.xe ce))) σ2 (fun cls d H => W cls d σ H) := by
  intro p1 H1 s1 u s2 I1 c
  obtain ⟨a, B, sI, p2, σ3, H2, cls, d, rfl, I2, nb, up, fl, na, os, ag, w⟩ := air_of_call I1 c
  have hfr : X.A.frames = some (X.env :: X.outer) := by rw [I3.ok.frames, hs]
  have fl : HandSPX.FlyingZ B X.stack a (Zc cls d) s2.heap := fl
  have hCs : ce.locals ∉ frs X.stack := by
    have f := I3.fpOk (H' := fun _ => none) (b := s3.heap.objs.size) (Nat.le_refl _) rfl
    rw [hC, hs]
    intro hm
    obtain ⟨e2, he, q⟩ := List.mem_filterMap.mp hm
    rcases List.mem_cons.mp he with z | z
    · rw [z, hf] at q
      exact f.2.1 (Option.some.inj q).symm
    · exact f.2.2.1 (List.mem_filterMap.mpr ⟨e2, z, q⟩)
  show notedBy _ _ ce _ (.ref a) s2
  unfold notedBy
  rw [note_env hcf]
  rw [hs] at fl
  refine HandSPX.looks_onZ Zc.steady hfr hf fl fun h1 hh1 up1 => ?_
  rw [← hs] at hh1
  obtain ⟨m, hm, _⟩ := I2.loc
  have hm : sI.heap.Ns ce.locals m := hm
  refine ⟨m, hm.at' fun o eo => hh1.1 _ o (nb _ o eo hCs), fun g sb => ?_⟩
  rw [pass_env hcf]
  have hold : HandSPX.HeldZ (PySem.W.hideAll B [ce.locals]) X.stack a (Zc cls d) X.env.locals g := by
    obtain ⟨k1, k2, k3, oe, vs, T, oT, ts, he, hz, hd, q1, hnT, hTe, hT, hdT, q3⟩ := hh1
    have off : ∀ b, B.get? b = none → (PySem.W.hideAll B [ce.locals]).get? b = none := fun b e => by
      cases q : (PySem.W.hideAll B [ce.locals]).get? b with
      | none => rfl
      | some o =>
        have z := PySem.W.of_hideAll _ q
        rw [e] at z
        cases z
    have hB : ∃ o, B.get? ce.locals = some o := by
      obtain ⟨o, es, ep, ho, _⟩ := hm
      exact ⟨o, nb _ o ho hCs⟩
    obtain ⟨oC, hBC⟩ := hB
    refine ⟨fun b o e => ?_, off a k2, frames_but sb.2 off hCs k3, oe, vs, T, oT, ts, (sb.2 a fun z => ?_).trans he, hz, hd, q1, off T hnT, hTe, (sb.2 T fun z => ?_).trans hT, hdT, q3⟩
    · have hb : b ≠ ce.locals := fun z => by
        rw [z, PySem.W.hideAll_none _ (List.mem_singleton.mpr rfl)] at e
        cases e
      exact (sb.2 b hb).trans (k1 b o (PySem.W.of_hideAll _ e))
    · rw [z, hBC] at k2
      cases k2
    · rw [z, hBC] at hnT
      cases hnT
  obtain ⟨k1, k2, k3, oe, vs, T, oT, ts, he, hz, hd, q1, hnT, hTe, hT, hdT, q3⟩ := id hold
  unfold PySem.passOn
  refine wpAny_bind (wpAny_field he hd q1 ?_)
  rw [if_neg (show ¬ ((Value.ref T == Value.none) = true) from by simp)]
  have fin : wpAny (model X.prog X.w) X.A (setFlight (.ref a) X.env.frame) (fun _ s4 => wpAny (model X.prog X.w) X.A (throw (.ref a) : Sem Value) (fun _ _ => False) X.xe s4) X.xe { s2 with heap := g } := by
    rw [hf]
    refine HandSPX.setFlight_onZ hold fun h4 hh4 up4 => wpAny_throw (tk _ _ ?_)
    have hid : ∀ b o, (PySem.W.hideAll sI.heap [ce.locals]).get? b = some o → sI.heap.get? b = some o ∧ b ≠ ce.locals := fun b o e => ⟨PySem.W.of_hideAll _ e, fun z => by
      rw [z, PySem.W.hideAll_none _ (List.mem_singleton.mpr rfl)] at e
      cases e⟩
    have keep : ∀ b o, sI.heap.get? b = some o → b ≠ ce.locals → (PySem.W.hideAll sI.heap [ce.locals]).get? b = some o := fun b o e n => PySem.W.hideAll_get _ e fun z => n (List.mem_singleton.mp z)
    have old : ∀ b o, s3.heap.get? b = some o → b ≠ ce.locals := fun b o e z => by
      have := Heap.lt_size e
      rw [z, hC] at this
      exact Nat.lt_irrefl _ this
    have fC : H2 ce.locals = none := I2.free
    have u2 : Un (frs X.stack) fp H3 H2 s3.heap (PySem.W.hideAll sI.heap [ce.locals]) := ⟨fun b o e n nf nx => keep b o (I2.base.keep b o e n nf nx) (old b o e), fun b o e n hb nx => by
        obtain ⟨sl, q⟩ := I2.base.slot b o e n hb nx
        exact ⟨sl, keep b _ q (old b o e)⟩, fun b o e n nx => I2.base.free b o e n nx, fun b o e nx => by
        obtain ⟨o', q⟩ := I2.base.there b o e nx
        exact ⟨o', keep b o' q (old b o e)⟩, I2.base.tups, I2.base.frzs, I2.base.tbls⟩
    have hok2 : HOk X.prog X.w H2 (PySem.W.hideAll sI.heap [ce.locals]) := fun b o q => (I2.hok b o q).stay (fun c v hc r => keep c v r fun z => by
      rcases hc with y | y
      · rw [z] at y
        rw [y, q] at fC
        cases fC
      · rw [z, fC] at y
        cases y) (fun _ r => r) fun _ _ r => r
    have J : Inv X pins σ H2 { sI with heap := PySem.W.hideAll sI.heap [ce.locals] } := I3.call' (ch := fp) I2.os u2 hok2 I2.bare hfp
    refine ⟨a, PySem.W.hideAll B [ce.locals], { sI with heap := PySem.W.hideAll sI.heap [ce.locals] }, pins, σ, H2, cls, d, rfl, J, fun b o e nf => ?_, fun b o e nfl => ?_, .inr (.inr hh4), na, os, ag, w⟩
    · obtain ⟨e1, n1⟩ := hid b o e
      exact PySem.W.hideAll_get _ (nb b o e1 nf) fun z => n1 (List.mem_singleton.mp z)
    · obtain ⟨e1, n1⟩ := hid b o e
      obtain ⟨sl1, r1⟩ := up b o e1 nfl
      obtain ⟨sl2, r2⟩ := up1 b _ r1 nfl
      obtain ⟨sl3, r3⟩ := up4 b _ ((sb.2 b n1).trans r2) nfl
      exact ⟨sl3, r3⟩
  first
    | exact wpAny_bind (wpAny_pure (wpAny_bind fin))
    | exact wpAny_bind fin
end
/-- [elt for target in iter if ..], the element may raise what W takes -/
def tLcX (W : WX) (wi : TI) (g : TG) (tt : TT) (te : XK → TE) (vs : List Nat) : TE := fun σ H Q => tLc wi g tt (te fun cls d H' => W cls d σ H') vs σ H Q
theorem lc_coreX {X : Cx} {W : WX} {pins : List (Addr × Obj)} {s : Shared} {σ : L2.St} {H : Hp} {Q : VK} {elt tg iter : Expr} {ifs : List Expr} {scope : Scope} {own : List (Str × Nat)} {pos pos' : Pos} {wi : TI} {g : TG} {tt : TT} {te : XK → TE} {use : Option (Value → Sem Unit)} {Qf : Value → Shared → Prop}
    (hs1 : X.stack = X.env :: X.outer) (hf : X.env.frame = some X.env.locals) (tk : Takes X W) (hc : X.calm = true) (hN : X.N.Nodup) (I : Inv X pins σ H s) (hi : PI X tg iter wi) (ok : BlkOk X.N X.env.scope scope own)
    (hg : ∀ (s : Shared) (H : Hp) (C : Addr) (cl : List (Str × Addr)) (fp : List Addr) (xe : Value → Shared → Prop), PG (blkX X s H scope (compEnvC scope cl C X.env) fp xe) tg g) (ht : ∀ (s : Shared) (H : Hp) (C : Addr) (cl : List (Str × Addr)) (fp : List Addr) (xe : Value → Shared → Prop), PTs (blkX X s H scope (compEnvC scope cl C X.env) fp xe) ifs tt)
    (he : ∀ (s : Shared) (H : Hp) (C : Addr) (cl : List (Str × Addr)) (fp : List Addr) (xe : Value → Shared → Prop) (E0 : XK), (∀ σ', PassesAt (L2.CX X.prog X.w) (blkX X s H scope (compEnvC scope cl C X.env) fp xe) σ' E0) → PE (blkX X s H scope (compEnvC scope cl C X.env) fp xe) elt (te E0)) (hs : ∀ x, foldedSetIterable iter X.env x = pure x)
    (h : tLcX W wi g tt te (own.map (·.2)) σ H Q)
    (hRR : ∀ D C s' m H', Inv X pins σ H' s' → Q (.ref D) H' → s'.heap.Ns C m → FpOk X pins H' C → compPost (model X.prog X.w) X.A X.xe use Qf (.ref D) C (.ok .next) s') :
    wpAny (model X.prog X.w) X.A (comprehension (.ListComp elt [⟨tg, iter, ifs, 0⟩] scope pos) scope X.env pos' (newList []) false (eval iter X.env) use) Qf X.xe s := by
  have hfree : ∀ y ∈ scope.names, y.2 = .free → ∃ c, X.env.cells.lookup y.1 = some c := fun y hy e => by
    rcases ok.free y hy e with k | k
    · exact I.ok.has _ (.inl k)
    · exact I.ok.has _ (.inr k)
  refine comp_freeX (use := use) rfl hs (closure_ok hfree) ok.kind (fun y hy e => by rw [ok.uniq y hy, e])
    (thn (hi.run pins s σ H _ I h) fun xv z1 hx => thn hx fun itv z2 h2 => ?_)
  obtain ⟨it, fp, tn, J, G2, e, v2, T, kt2, ff2, q⟩ := h2
  subst e
  refine wpAny_newObj_type (newEnv_comp ?_) (by show 0 ≤ sizeLine; decide)
  generalize hD : z2.heap.objs.size = D
  have hDn : G2 D = none := v2.hok.fresh (Nat.le_of_eq hD)
  obtain ⟨Ms, ⟨m0, ms0⟩, turn⟩ := q D hDn
  generalize hs3 : ({ z2 with heap := z2.heap.push { cls := .type "list", data := .seq ([] : List Value).toArray } } : Shared) = z3
  have v3 : Inv X pins σ (upd G2 D (.lst [])) z3 := by
    rw [← hs3]
    refine v2.laid (t' := z2.toks) (fun b o e => Heap.get?_push_of_some _ e) (Nat.le_of_eq hD) ⟨Nat.zero_le _, [], 0, .nil, ?_⟩
    rw [← hD]
    exact Heap.get?_push_size _ rfl
  have h3 : z3.heap = z2.heap.push { cls := .type "list", data := .seq ([] : List Value).toArray } := by rw [← hs3]
  have sz : ∀ b ∈ fp, b < z2.heap.objs.size := fun b hb => by
    obtain ⟨o, e, _⟩ := T.obj _ _ kt2 b hb
    exact Heap.lt_size e
  have ff3 : ∀ b ∈ fp, FpOk X pins (upd G2 D (.lst [])) b ∧ b < z3.heap.objs.size := fun b hb => by
    have hlt := sz b hb
    refine ⟨⟨?_, (ff2 b hb).2⟩, by rw [h3, Heap.size_push]; exact Nat.lt_succ_of_lt hlt⟩
    rw [upd_ne (by rw [← hD]; exact Nat.ne_of_lt hlt)]
    exact (ff2 b hb).1
  have kt3 : tn 0 z3.heap := T.keep _ _ _ kt2 fun b _ o e => by rw [h3]; exact Heap.get?_push_of_some _ e
  have v4 := block_start v3 ok hN ff3
  have pg := hg z3 (upd G2 D (.lst [])) z3.heap.objs.size (cellsFrom (z3.heap.objs.size + 1) scope.names (cloFrom X.env.cells scope.names [])) fp
  have pt := ht z3 (upd G2 D (.lst [])) z3.heap.objs.size (cellsFrom (z3.heap.objs.size + 1) scope.names (cloFrom X.env.cells scope.names [])) fp
  have pe := he z3 (upd G2 D (.lst [])) z3.heap.objs.size (cellsFrom (z3.heap.objs.size + 1) scope.names (cloFrom X.env.cells scope.names [])) fp
  show codeAny _ _ (.compStart (.ListComp elt [⟨tg, iter, ifs, 0⟩] scope pos) 0 (.ref it) (.ref D) (compEnvC scope (cellsFrom (z3.heap.objs.size + 1) scope.names (cloFrom X.env.cells scope.names [])) z3.heap.objs.size X.env)) (postX (model X.prog X.w) X.A X.xe use Qf (.ref D) (compEnvC scope (cellsFrom (z3.heap.objs.size + 1) scope.names (cloFrom X.env.cells scope.names [])) z3.heap.objs.size X.env)) { z3 with heap := pushCells (z3.heap.push { cls := .type "dict", data := .dict #[] }) scope.names }
  have nfp : ∀ b ∈ fp, (upd G2 D (.lst [])) b = none := fun b hb => (ff3 b hb).1.1
  generalize hce : compEnvC scope (cellsFrom (z3.heap.objs.size + 1) scope.names (cloFrom X.env.cells scope.names [])) z3.heap.objs.size X.env = ce at v4 pg pt pe ⊢
  have cL : ce.locals = z3.heap.objs.size := by subst hce; rfl
  have cF : ce.frame = X.env.frame := by subst hce; rfl
  generalize hH3 : upd G2 D (.lst []) = G3 at v3 v4 pg pt pe ms0 nfp ff3
  have hps : ∀ σ2, PassesAt (L2.CX X.prog X.w) (blkX X z3 G3 scope ce fp (notedBy (model X.prog X.w) X.A ce (errX (model X.prog X.w) X.A X.xe ce))) σ2 (fun cls d H => W cls d σ H) := fun σ2 => passes_comp hs1 hf cF cL v3 (fun b hb => ⟨(ff3 b hb).1.2.2.2.1, (ff3 b hb).1.2.1, (ff3 b hb).1.2.2.2.2.1, (ff3 b hb).1.2.2.2.2.2⟩) tk
  generalize hs4 : ({ z3 with heap := pushCells (z3.heap.push { cls := .type "dict", data := .dict #[] }) scope.names } : Shared) = z4 at v4 ⊢
  have kt4 : tn 0 z4.heap := T.keep _ _ _ kt3 fun b _ o e => by rw [← hs4]; exact pushCells_keeps _ _ _ _ (Heap.get?_push_of_some _ e)
  replace pg := pg (notedBy (model X.prog X.w) X.A ce (errX (model X.prog X.w) X.A X.xe ce))
  replace pt := pt (notedBy (model X.prog X.w) X.A ce (errX (model X.prog X.w) X.A X.xe ce))
  replace pe := pe _ _ hps
  replace v4 := v4.wish (notedBy (model X.prog X.w) X.A ce (errX (model X.prog X.w) X.A X.xe ce))
  generalize hxe : notedBy (model X.prog X.w) X.A ce (errX (model X.prog X.w) X.A X.xe ce) = xe at pg pt pe v4
  have stat : ∀ {σ' : L2.St} {H' : Hp} {s' : Shared}, Inv (blkX X z3 G3 scope ce fp xe) [] σ' H' s' → (∀ b ∈ fp, H' b = none) → ∀ b ∈ fp, FpOk (blkX X z3 G3 scope ce fp xe) [] H' b := fun {σ' H' s'} I' hn b hb =>
    ⟨hn b hb, (I'.ok.exf b hb).1, I'.ok.exfs b hb, .inl hb, fun x c e => (I'.ok.exf b hb).2 x c e, fun p hp => absurd (show p ∈ ([] : List (Addr × Obj)) ++ [] from hp) (by simp)⟩
  have loop : codeAny (model X.prog X.w) X.A (.compLoop (.ListComp elt [⟨tg, iter, ifs, 0⟩] scope pos) 0 (.ref it) (.ref D) ce) (postX (model X.prog X.w) X.A X.xe use Qf (.ref D) ce) z4 := by
    have hxe2 : notedBy (model X.prog X.w) X.A ce (fun e s' => postX (model X.prog X.w) X.A X.xe use Qf (.ref D) ce (.error e) s') = xe := hxe
    refine compLoop_any (fun n s' => ∃ i H', Inv (blkX X z3 G3 scope ce fp xe) [] (wipe σ (own.map (·.2))) H' s' ∧ tn i s'.heap ∧ (∀ b ∈ fp, H' b = none) ∧ Ms i n H') ?_ m0 ⟨0, G3, v4, kt4, nfp, ms0⟩
    rintro n z5 ⟨i, G5, v5, kt5, nn5, ms5⟩
    rw [hxe2]
    rcases turn i n G5 ms5 with ⟨stop, qq⟩ | ⟨go, Nx, hNx, step⟩
    · have td := T.done (blkX X z3 G3 scope ce fp xe) rfl rfl rfl hc i [] z5 _ G5 xe v5 (stat v5 nn5) kt5 stop
      refine thn td fun r z6 ⟨hr, v6⟩ => ?_
      subst hr
      have v7 : Inv X pins σ G5 z6 := v3.call' (ch := fp) v6.os v6.base v6.hok v6.bare fun b hb => ⟨(ff3 b hb).1.2.2.2.1, (ff3 b hb).1.2.1, (ff3 b hb).1.2.2.2.2.1, (ff3 b hb).1.2.2.2.2.2⟩
      have nC : G5 z3.heap.objs.size = none := by
        have z : G5 ce.locals = none := v6.free
        rw [cL] at z
        exact z
      obtain ⟨m, hn, _⟩ := v6.loc
      have hn : z6.heap.Ns ce.locals m := hn
      rw [cL] at hn
      have fin1 := hRR D z3.heap.objs.size z6 m G5 v7 qq hn (v3.fpOk (Nat.le_refl _) nC)
      rw [← cL] at fin1
      exact fin1
    · have ti := T.item (blkX X z3 G3 scope ce fp xe) rfl rfl rfl hc i [] z5 _ G5 xe v5 (stat v5 nn5) kt5 go
      refine thn ti fun r z6 ⟨u, hr, h6⟩ => ?_
      subst hr
      refine thn h6 fun _ z7 ⟨x, G7, v7, rv7, y7, kt7, nn7⟩ => ?_
      have v7' := v7.pinned (stat v7 nn7) (T.obj _ _ kt7)
      refine thn (pg.run _ z7 _ G7 x u _ v7' rv7 (step x G7 y7)) fun _ z8 ⟨σ8, G8, v8, hw8, qu8⟩ => ?_
      refine thn (pt.run _ z8 σ8 G8 _ v8 qu8) fun b z9 ⟨G9, v9, qu9⟩ => ?_
      have fin : ∀ {s' : Shared} {H' : Hp}, Inv (blkX X z3 G3 scope ce fp xe) ([] ++ pinsAt fp z7.heap) σ8 H' s' → Nx H' → ∃ m, m < n ∧ ∃ i H', Inv (blkX X z3 G3 scope ce fp xe) [] (wipe σ (own.map (·.2))) H' s' ∧ tn i s'.heap ∧ (∀ b ∈ fp, H' b = none) ∧ Ms i m H' := fun {s' H'} I' nx => by
        obtain ⟨m', hm, w'⟩ := hNx H' nx
        have pin' : ∀ b ∈ fp, ∀ o, z7.heap.get? b = some o → s'.heap.get? b = some o ∧ H' b = none := fun b hb o e =>
          let z := I'.pin (b, o) (List.mem_append_right _ (List.mem_append_right _ (mem_pinsAt hb e)))
          ⟨z.1, z.2.1⟩
        have hl : (wipe σ (own.map (·.2))).length = σ8.length := by rw [← hw8, wipe_length]
        refine ⟨m', hm, i + 1, H', (I'.unpinned (pins := [])).weak hl (fun j v e => ?_), T.keep _ _ _ kt7 fun b hb o e => (pin' b hb o e).1, fun b hb => ?_, w'⟩
        · rw [← hw8] at e
          exact (wipe_some e).1
        · obtain ⟨o, e, _⟩ := T.obj _ _ kt7 b hb
          exact (pin' b hb o e).2
      cases b with
      | false =>
        simp only [Bool.false_eq_true, if_false] at qu9 ⊢
        exact fin v9 qu9
      | true =>
        simp only [if_true] at qu9 ⊢
        refine thn (pe.run _ z9 σ8 G9 _ v9 qu9) fun z z10 ⟨yv, G10, v10, rv10, acc, hD10, hz10, nx⟩ => ?_
        exact app_ok (X := blkX X z3 G3 scope ce fp xe) v10 hD10 hz10 rv10 fun z11 v11 => fin v11 nx
  exact codeAny_compStart_list loop (T.self X.A 0 _ _ _ kt4 loop)
/-- as a value -/
theorem pe_lcX {X : Cx} {W : WX} {elt tg iter : Expr} {ifs : List Expr} {scope : Scope} {own : List (Str × Nat)} {pos : Pos} {wi : TI} {g : TG} {tt : TT} {te : XK → TE} (hs1 : X.stack = X.env :: X.outer) (hf : X.env.frame = some X.env.locals) (tk : Takes X W) (hc : X.calm = true) (hN : X.N.Nodup) (hi : PI X tg iter wi) (ok : BlkOk X.N X.env.scope scope own)
    (hg : ∀ (s : Shared) (H : Hp) (C : Addr) (cl : List (Str × Addr)) (fp : List Addr) (xe : Value → Shared → Prop), PG (blkX X s H scope (compEnvC scope cl C X.env) fp xe) tg g) (ht : ∀ (s : Shared) (H : Hp) (C : Addr) (cl : List (Str × Addr)) (fp : List Addr) (xe : Value → Shared → Prop), PTs (blkX X s H scope (compEnvC scope cl C X.env) fp xe) ifs tt)
    (he : ∀ (s : Shared) (H : Hp) (C : Addr) (cl : List (Str × Addr)) (fp : List Addr) (xe : Value → Shared → Prop) (E0 : XK), (∀ σ', PassesAt (L2.CX X.prog X.w) (blkX X s H scope (compEnvC scope cl C X.env) fp xe) σ' E0) → PE (blkX X s H scope (compEnvC scope cl C X.env) fp xe) elt (te E0)) (hs : ∀ x, foldedSetIterable iter X.env x = pure x := by intro _; rfl) :
    PE X (.ListComp elt [⟨tg, iter, ifs, 0⟩] scope pos) (tLcX W wi g tt te (own.map (·.2))) := by
  refine ⟨fun pins s σ H Q I h => ?_⟩
  rw [eval_ListComp]
  refine lc_coreX hs1 hf tk hc hN I hi ok hg ht he hs h fun D C t m G I2 q hn f => ⟨m, hn, fun g2 sb => ?_⟩
  exact ⟨.ref D, G, I2.turned (t' := t.toks) (fun b o hb e => (sb.2 b hb).trans e) f.1 f.2.1 f.2.2.2.1 f.2.2.2.2.1 f.2.2.2.2.2, rfl, q⟩
/-- name = [..] on one line, the name a local -/
theorem ps_setLcX {X : Cx} {W : WX} {i : Nat} {y : Str} {py : Pos} {elt tg iter : Expr} {ifs : List Expr} {scope : Scope} {own : List (Str × Nat)} {pos spos : Pos} {wi : TI} {g : TG} {tt : TT} {te : XK → TE} (hs1 : X.stack = X.env :: X.outer) (hf : X.env.frame = some X.env.locals) (tk : Takes X W) (hc : X.calm = true) (hN : X.N.Nodup) (hy : X.N[i]? = some y) (hyl : X.env.scope.names.lookup y = some .local)
    (hsw : swapsWith (.ListComp elt [⟨tg, iter, ifs, 0⟩] scope pos) (some (.Name y py)) spos.line X.env = pure true) (hi : PI X tg iter wi) (ok : BlkOk X.N X.env.scope scope own)
    (hg : ∀ (s : Shared) (H : Hp) (C : Addr) (cl : List (Str × Addr)) (fp : List Addr) (xe : Value → Shared → Prop), PG (blkX X s H scope (compEnvC scope cl C X.env) fp xe) tg g) (ht : ∀ (s : Shared) (H : Hp) (C : Addr) (cl : List (Str × Addr)) (fp : List Addr) (xe : Value → Shared → Prop), PTs (blkX X s H scope (compEnvC scope cl C X.env) fp xe) ifs tt)
    (he : ∀ (s : Shared) (H : Hp) (C : Addr) (cl : List (Str × Addr)) (fp : List Addr) (xe : Value → Shared → Prop) (E0 : XK), (∀ σ', PassesAt (L2.CX X.prog X.w) (blkX X s H scope (compEnvC scope cl C X.env) fp xe) σ' E0) → PE (blkX X s H scope (compEnvC scope cl C X.env) fp xe) elt (te E0)) (hs : ∀ x, foldedSetIterable iter X.env x = pure x := by intro _; rfl) :
    PS X (.Assign [.Name y py] (.ListComp elt [⟨tg, iter, ifs, 0⟩] scope pos) spos) (tAsg (tLcX W wi g tt te (own.map (·.2))) (gName i)) := by
  refine ⟨fun pins s σ H D I h => ?_⟩
  rw [exec_Assign_Name_used _ _ _ _ hsw]
  refine wpAny_bind (wpAny_standAt (wpAny_bind ?_))
  have k : tLcX W wi g tt te (own.map (·.2)) σ H (fun x H1 => gName i x σ H1 D.nx) := h
  refine (show wpAny _ X.A (do let _ ← comprehension (.ListComp elt [⟨tg, iter, ifs, 0⟩] scope pos) scope X.env (firstIterPos [⟨tg, iter, ifs, 0⟩] pos) (newList []) false (eval iter X.env) (some (assign (.Name y py) X.env))) _ _ s from wpAny_bind (thn (lc_coreX (Qf := fun _ t => SP X pins D .next t) hs1 hf tk hc hN I hi ok hg ht he hs k fun L C t m G I2 q hn f => ?_) fun _ t hq => wpAny_pure (wpAny_pure hq)))
  refine (show wpAny _ _ (assign (.Name y py) X.env (.ref L)) _ _ _ from wpAny_assign_Name (store_ok2 (v := V.ref L) I2 hN hy (.inl hyl) rfl (fun t2 J2 ⟨a, sb, ha⟩ => ?_) (.inr hyl)))
  have haC : C ≠ a := fun z => by
    rcases ha with y2 | y2
    · exact f.2.1 (z.trans y2)
    · exact f.2.2.2.2.1 _ _ y2 z.symm
  exact ⟨m, hn.sameBut sb haC, fun g3 sb3 => ⟨_, G, J2.turned (t' := t2.toks) (fun b o hb e => (sb3.2 b hb).trans e) f.1 f.2.1 f.2.2.2.1 f.2.2.2.2.1 f.2.2.2.2.2, q⟩⟩
end Lx

/-! Own data layer: a list comprehension whose element may raise. -/
namespace Ja
open PySem PySem.Spec PyProof.Rows L2 Evl Cm
/-- every item, if there is one for each -/
def mapO {A B : Type} (v : A → Option B) : List A → Option (List B)
  | [] => some []
  | x :: r => (v x).bind fun y => (mapO v r).map fun ys => y :: ys
theorem mapO_snoc {A B : Type} (v : A → Option B) (x : A) : ∀ l : List A, mapO v (l ++ [x]) = (mapO v l).bind fun ys => (v x).map fun y => ys ++ [y]
  | [] => by
    show (v x).bind _ = (v x).map _
    cases v x <;> rfl
  | z :: l => by
    show (v z).bind (fun y => (mapO v (l ++ [x])).map fun ys => y :: ys) = ((v z).bind fun y => (mapO v l).map fun ys => y :: ys).bind _
    rw [mapO_snoc v x l]
    cases v z with
    | none => rfl
    | some y =>
      cases mapO v l with
      | none => rfl
      | some ys =>
        cases v x <;> rfl
theorem mapO_none {A B : Type} {v : A → Option B} {x : A} (h : v x = none) : ∀ {l : List A}, x ∈ l → mapO v l = none
  | z :: l, hm => by
    show (v z).bind (fun y => (mapO v l).map fun ys => y :: ys) = none
    rcases List.mem_cons.mp hm with e | e
    · rw [← e, h]
      rfl
    · rw [mapO_none h e]
      cases v z <;> rfl
theorem mapO_some {A B : Type} {v : A → Option B} {f : A → B} : ∀ {l : List A}, (∀ x ∈ l, v x = some (f x)) → mapO v l = some (l.map f)
  | [], _ => rfl
  | z :: l, h => by
    show (v z).bind (fun y => (mapO v l).map fun ys => y :: ys) = _
    rw [h z (List.mem_cons_self ..), mapO_some fun x hx => h x (List.mem_cons_of_mem _ hx)]
    rfl
theorem mapO_len {A B : Type} {v : A → Option B} : ∀ {l : List A} {ys : List B}, mapO v l = some ys → ys.length = l.length
  | [], ys, h => by
    cases h
    rfl
  | z :: l, ys, h => by
    have h : (v z).bind (fun y => (mapO v l).map fun ys => y :: ys) = some ys := h
    cases hz : v z with
    | none =>
      rw [hz] at h
      cases h
    | some y =>
      rw [hz] at h
      cases hl : mapO v l with
      | none =>
        rw [hl] at h
        cases h
      | some zs =>
        rw [hl] at h
        cases h
        rw [List.length_cons, mapO_len hl]
        rfl
/-- a new list of which P is true, or one of ex is raised -/
def EvNX (K : PySem.W.Frag) (B0 H0 : Hp) (W : WX) (te : TE) (δ : List Sl) (P : List PyData → Prop) (ex : Addr → Prop) : Prop := ∀ B H σ, Sc K B0 H0 B H σ δ → (∀ C B' H', Stp B H B' H' → ex C → W (.ref C) none σ H') → ∀ Q : VK, (∀ l vs ds B' H', P ds → Stp B H B' H' → H l = none → B' l = none → H' l = some (.lst vs) → DtAll K B' vs ds → Q (.ref l) H') → te σ H Q
section
variable {K : PySem.W.Frag} {B0 H0 B H B' H' : Hp} {W : WX} {σ : L2.St} {δ δ1 δ2 : List Sl} {te : TE} {t u : TS} {E : DE}
theorem nx_lc {A : Type} {wi : TI} {g : TG} {vs ix : List Nat} {te : XK → TE} (xs : List A) (enc : A → PyData) (δt : A → List Sl) (v : A → Option PyData) (bad : Addr) (hw : EvW K B0 H0 wi δ (xs.map enc)) (hix : ∀ i ∈ ix, i ∈ vs) (hz : xs.length ≤ 40000)
    (hg : ∀ x ∈ xs, TGd K B0 H0 g ix (wipeD δ vs) (enc x) (δt x)) (he : ∀ x ∈ xs, ∀ E0 : XK, EvX K B0 H0 (fun cls d _ H => E0 cls d H) (te E0) (δt x) (fun d => v x = some d) (fun C => C = bad ∧ v x = none)) : EvNX K B0 H0 W (Lx.tLcX W wi g tYes te vs) δ (fun ds => mapO v xs = some ds) (fun C => C = bad ∧ mapO v xs = none) := fun B H σ S qx Q q => by
  refine hw B H σ S _ fun J G Y B1 H1 s1 Wk hG hY => ?_
  intro D hD
  have hBD : B1 D = none := none_of s1.bh hD
  refine lc_it Wk (fun i H' => ∃ B' ws ds, mapO v (xs.take i) = some ds ∧ Ex B1 B' ∧ Ex B' H' ∧ Ex H1 H' ∧ (∀ a, B' a ≠ none → B1 a ≠ none ∨ NoL H1 a) ∧ B' D = none ∧ H' D = some (.lst ws) ∧ DtAll K B' ws ds) ?_ (fun i H' hi ⟨B', ws, ds, e0, e1, e2, e3, hn, e4, e5, e6⟩ => hG B' H' e1 e2) ?_ fun H' ⟨B', ws, ds, e0, e1, e2, e3, hn, e4, e5, e6⟩ => ?_
  · exact ⟨B1, [], [], rfl, .refl _, Ex.mut s1.bh hBD, Ex.new hD, fun a h => .inl h, hBD, upd_same, .nil⟩
  · intro i x H2 H3 hi ⟨B2, ws, ds, e0, e1, e2, e3, hn, e4, e5, e6⟩ y
    rw [List.length_map] at hi
    have hx : (xs.map enc)[i]? = some (enc xs[i]) := by rw [List.getElem?_map, List.getElem?_eq_getElem hi]; rfl
    obtain ⟨B3, s3, dx⟩ := hY i H2 x H3 B2 _ hx e1 e2 y
    have hmem : xs[i] ∈ xs := List.getElem_mem hi
    have tk : xs.take (i + 1) = xs.take i ++ [xs[i]] := by rw [List.take_succ, List.getElem?_eq_getElem hi]; rfl
    have hDn : H2 D ≠ none := by rw [e5]; exact fun z => by cases z
    have b3 : B3 D = none := by
      cases e : B3 D with
      | none => rfl
      | some o =>
        rcases s3.n D (by rw [e]; exact fun z => by cases z) with z | z
        · exact absurd e4 z
        · exact absurd e5 (z _)
    have st12 : Stp B1 H1 B2 H2 := ⟨e1, e2, e3, hn⟩
    have S3 : Sc K B0 H0 B3 H3 σ δ := (S.go s1).go (st12.trans s3)
    refine hg _ hmem B3 H3 (wipe σ vs) x (S3.wipe vs) dx _ fun σ2 S2 w2 => ⟨?_, ?_⟩
    · rw [w2 vs hix]
      exact wipe_id fun _ h => h
    · show tYes σ2 H3 _
      unfold tYes
      show if true = true then _ else _
      rw [if_pos rfl]
      have b4 : ∀ {B5 H5 : Hp}, Stp B3 H3 B5 H5 → B5 D = none := fun {B5 H5} s5 => by
        cases e : B5 D with
        | none => rfl
        | some o =>
          rcases s5.n D (by rw [e]; exact fun z => by cases z) with z | z
          · exact absurd b3 z
          · exact absurd (s3.h _ _ e5) (z _)
      refine he _ hmem _ B3 H3 σ2 S2 (fun C B5 H5 s5 ⟨hC, hv⟩ => qx C B5 H5 (s1.trans ((st12.trans s3).trans s5)) ⟨hC, mapO_none hv hmem⟩) _ fun u d B5 H5 hd s5 i5 => ?_
      have sAll := (st12.trans s3).trans s5
      have h5 : H5 D = some (.lst ws) := s5.h _ _ (s3.h _ _ e5)
      refine ⟨ws, h5, ?_, B5, ws ++ [u], ds ++ [d], ?_, sAll.b, Ex.mut sAll.bh (b4 s5), Ex.mut sAll.h hD, sAll.n, b4 s5, upd_same, (dts_mono (s3.b.trans s5.b) _ _ e6).app (.cons i5 .nil)⟩
      · rw [e6.len, mapO_len e0, List.length_take]
        exact sz_lt (by omega)
      · rw [tk, mapO_snoc, e0, hd]
        rfl
  · rw [List.length_map, List.take_length] at e0
    exact q D ws ds B' H' e0 (s1.trans (⟨e1, e2, e3, hn⟩ : Stp B1 H1 B' H')) (none_of s1.h hD) e4 e5 e6
theorem sd_asgNX {n : Nat} {P : List PyData → Prop} {ex : Addr → Prop} (h : EvNX K B0 H0 W te δ P ex) (hx : ∀ C, ex C → E.ex C δ) (k : ∀ ds, P ds → E.nx (δ.set n (.own ds))) : SD K B0 H0 W (tAsg te (gName n)) δ E := fun D B H σ S L => h B H σ S (fun C B' H' st hC => L.ex C B' H' σ δ st.b (S.go st) (hx C hC)) _ fun l vs ds B1 H1 p s1 f1 f2 f3 f4 => by
  refine L.nx B1 H1 _ _ s1.b ((S.go s1).setO n f3 f2 (none_of S.st.h f1) f4 fun j es _ hj hl => ?_) (k ds p)
  obtain ⟨m, ws, g1, g2, _⟩ := S.own j es hj
  rw [hl] at g1
  cases Option.some.inj (Option.some.inj g1)
  rw [f1] at g2
  cases g2
theorem q_asgNX {n : Nat} {P : List PyData → Prop} {ex : Addr → Prop} (h : EvNX K B0 H0 W te δ P ex) (hx : ∀ C, ex C → E.ex C δ) (k : ∀ ds, P ds → SD K B0 H0 W u (δ.set n (.own ds)) E) : SD K B0 H0 W (tSeq (tAsg te (gName n)) u) δ E := sd_seq (sd_asgNX h hx k)
end
end Ja

/-! Own data layer: texts cut and split, tuples. -/
namespace Ja
open PySem PySem.Spec PyProof.Rows L2 Evl Cm
open SX (S S_cat S_len num_S)
open TL (numL numL_lt)
section
variable {K : PySem.W.Frag} {P : Program} {w : World} {B0 H0 : Hp} {W : WX} {E : DE} {δ : List Sl} {ta tb te to : TE} {a b : List Nat} {ds es : List PyData} {d : PyData} {i : Int}
theorem d_m1 {g : Str → Str → Bool} (h : EvS K B0 H0 to δ (nS (S a))) (h2 : EvS K B0 H0 te δ (nS (S b))) : EvS K B0 H0 (tM1 (fun x xs H Q => ∃ a b, x = .str a ∧ xs = [.str b] ∧ Q (.bl (g a b)) H) to te) δ (nB (g (S a) (S b))) := fun B H σ Z Q q => h B H σ Z _ fun v B1 H1 s1 i1 => by
  cases i1
  refine ⟨⟨_, rfl⟩, h2 B1 H1 σ (Z.go s1) _ fun u B2 H2 s2 i2 => ?_⟩
  cases i2
  exact ⟨S a, S b, rfl, rfl, q _ B2 H2 (s1.trans s2) (Dt.bl _)⟩
theorem d_m0 {g : Str → Bool} (h : EvS K B0 H0 to δ (nS (S a))) : EvS K B0 H0 (tM0 (fun x xs H Q => ∃ a, x = .str a ∧ xs = [] ∧ True ∧ Q (.bl (g a)) H) to) δ (nB (g (S a))) := fun B H σ Z Q q => h B H σ Z _ fun v B1 H1 s1 i1 => by
  cases i1
  exact ⟨⟨_, rfl⟩, S a, rfl, rfl, trivial, q _ B1 H1 s1 (Dt.bl _)⟩
/-- a part of a text -/
theorem d_slX {tl th : TO} {lo hi : Option Int} {w1 : List Nat} (h : EvS K B0 H0 te δ (nS (S a))) (h1 : EvO K B0 H0 tl δ lo) (h2 : EvO K B0 H0 th δ hi) (hz : a.length ≤ 100000) (e : Txt.slice (S a) lo hi = S w1) : EvS K B0 H0 (tSl C8.rSlX te tl th) δ (nS (S w1)) := fun B H σ Z Q q =>
  h B H σ Z _ fun v B1 H1 s1 i1 => h1 B1 H1 σ (Z.go s1) _ fun B2 H2 s2 => h2 B2 H2 σ (Z.go (s1.trans s2)) _ fun B3 H3 s3 => by
    cases i1
    exact ⟨S a, rfl, by rw [S_len]; exact sz_of hz, by rw [e]; exact q _ B3 H3 ((s1.trans s2).trans s3) (Dt.str _)⟩
abbrev encT (x : List Nat) : PyData := .str (S x)
theorem dt_strs {B : Hp} : ∀ ys : List (List Nat), DtAll K B ((ys.map S).map V.str) (ys.map encT)
  | [] => .nil
  | y :: r => .cons (Dt.str _) (dt_strs r)
/-- x.split(c), by the parts -/
theorem n_split {c : Nat} {parts : List (List Nat)} (h : EvS K B0 H0 to δ (nS (S (TL.joinL [c] parts)))) (h2 : EvS K B0 H0 te δ (nS (S [c]))) (hc : c < 256) (hne : parts ≠ []) (hp : ∀ p ∈ parts, c ∉ p) (hz : (TL.joinL [c] parts).length ≤ 50000) :
    EvN K B0 H0 (tM1 (fun x xs H Q => ∃ a b, x = .str a ∧ xs = [.str b] ∧ (b.length == 0) = false ∧ a.length + 2 ≤ sizeLine ∧ rNewStrs (Txt.split a b) H Q) to te) δ (parts.map encT) := fun B H σ Z Q q => h B H σ Z _ fun v B1 H1 s1 i1 => by
  cases i1
  refine ⟨⟨_, rfl⟩, h2 B1 H1 σ (Z.go s1) _ fun u B2 H2 s2 i2 => ?_⟩
  cases i2
  have s := s1.trans s2
  refine ⟨_, _, rfl, rfl, by rw [S_len]; rfl, by rw [S_len]; have := sz_of (n := (TL.joinL [c] parts).length + 2) (by omega); exact this, fun p hp2 => ?_⟩
  have e : Txt.split (S (TL.joinL [c] parts)) (S [c]) = parts.map S := by
    rw [SX.split_S (by simp) (by simp [hc]), SX.spl_join hne hp]
  rw [e]
  exact q p _ B2 _ (s.trans (.same s.bh (.new hp2))) (none_of s.h hp2) (none_of s.bh hp2) upd_same (dt_strs parts)
/-- tuple(a list) -/
theorem d_tupL (h : EvS K B0 H0 te δ (.dat (.list ds))) : EvS K B0 H0 (tCB (fun xs H Q => ∃ p ys, xs = [.ref p] ∧ ((SqL K H p ys ∧ ∀ l, H l = none → Q (.ref l) (upd H l (.tup ys))) ∨ (SqT K H p ys ∧ Q (.ref p) H))) (tCons te tNil)) δ (.dat (.tuple ds)) := fun B H σ Z Q q => h B H σ Z _ fun v B1 H1 s1 i1 => by
  cases i1 with
  | lst g1 g2 => exact ⟨_, _, rfl, .inl ⟨sq_of (s1.bh _ _ g1), fun p hp => q _ _ _ (s1.trans (.new s1.bh hp)) (.tup (st_of upd_same) (dts_mono (Ex.new (none_of s1.bh hp)) _ _ g2))⟩⟩
/-- *xs among the items -/
theorem ds_star {tr : TA} (h : EvS K B0 H0 te δ (.dat (.list ds))) (hr : EvD K B0 H0 tr δ es) : EvD K B0 H0 (StX.tStar K te tr) δ (ds ++ es) := fun B H σ Z Q q => h B H σ Z _ fun v B1 H1 s1 i1 => by
  cases i1 with
  | lst g1 g2 => exact ⟨_, _, rfl, .inr (sq_of (s1.bh _ _ g1)), hr B1 H1 σ (Z.go s1) _ fun vs B2 H2 s2 i2 => q _ B2 H2 (s1.trans s2) ((dts_mono s2.b _ _ g2).app i2)⟩
theorem d_is_ds {tr : TA} (h : EvD K B0 H0 tr δ ds) (e : ds = es) : EvD K B0 H0 tr δ es := e ▸ h
/-- enumerate(a tuple) -/
theorem w_enumT {tr : TA} (h : EvD K B0 H0 tr δ [.tuple ds]) : EvW K B0 H0 (Et.iEnumT K tr) δ (enumD ds) := fun B H σ S R q => h B H σ S _ fun vs B1 H1 s1 i1 => by
  cases i1 with
  | cons g1 g2 =>
    cases g2
    cases g1 with
    | @tup a xs _ h1 h2 =>
      have hw : Walk (Et.Iet K a) xs.length (fun H => SqT K H a xs) (fun i H v H' => ∃ T x, v = .ref T ∧ H T = none ∧ H' = upd H T (.tup [.int (i : Nat), x]) ∧ xs[i]? = some x) := ⟨fun i _ hi q => ⟨xs, xs[i], q, by simp [hi]⟩, fun _ q => ⟨xs, q, Nat.le_refl _⟩, fun i H v H' _ q ⟨T, x, k1, k2, k3, k4⟩ => ⟨T, x, k1, k2, k3, k4 xs q⟩⟩
      refine ⟨a, xs, rfl, ex_t s1.bh h1, q _ _ _ B1 H1 s1 (by unfold enumD; rw [List.length_map, List.length_zipIdx, ← h2.len]; exact hw) (fun B2 H2 e1 e2 => ex_t (e1.trans e2) h1) fun i H2 v H3 B2 d hd e1 e2 y => ?_⟩
      obtain ⟨T, u, rfl, hT, rfl, hu⟩ := y
      obtain ⟨f, hf, df⟩ := h2.getV hu
      have e : d = .tuple [.int (i : Int), f] := by
        unfold enumD at hd
        rw [List.getElem?_map, List.getElem?_zipIdx, hf] at hd
        have := Option.some.inj hd
        simpa using this.symm
      rw [e]
      exact ⟨_, .new e2 hT, .tup (st_of upd_same) (.cons (.int _) (.cons (dt_mono (e1.trans (Ex.new (none_of e2 hT))) _ _ df) .nil))⟩
/-- a part of a tuple, not the whole -/
theorem d_slT {tl th : TO} {lo hi : Option Int} (h : EvS K B0 H0 te δ (.dat (.tuple ds))) (h1 : EvO K B0 H0 tl δ lo) (h2 : EvO K B0 H0 th δ hi) (hn : HT.sIx ds.length 0 lo ≠ 0 ∨ ds = []) (hd : ds ≠ []) : EvS K B0 H0 (tSl (rSlT K) te tl th) δ (.dat (.tuple (cutD ds lo hi))) := fun B H σ S Q q =>
  h B H σ S _ fun v B1 H1 s1 i1 => h1 B1 H1 σ (S.go s1) _ fun B2 H2 s2 => h2 B2 H2 σ (S.go (s1.trans s2)) _ fun B3 H3 s3 => by
    have s := (s1.trans s2).trans s3
    cases i1 with
    | tup g1 g2 =>
      refine ⟨_, _, rfl, ex_t ((s2.b.trans s3.b).trans s3.bh) g1, fun z => ?_, fun p hp => q _ _ _ (s.trans (.new s.bh hp)) (.tup (st_of upd_same) (dts_mono (Ex.new (none_of s.bh hp)) _ _ (cut_dt (dts_mono (s2.b.trans s3.b) _ _ g2) lo hi)))⟩
      rw [g2.len] at z
      rcases hn with y | y
      · exact y z.1
      · exact hd y
/-- a word that is no key, its count -/
theorem d_niK {x : Str} {D : Addr} {r : Option Value} (h : EvS K B0 H0 ta δ (nS x)) (h2 : EvS K B0 H0 tb δ (.raw (.ref D))) (hr : PySem.W.nsIn K D x = some r) : EvS K B0 H0 (tOp (fun x y H Q => ∃ (z : Str) (r : Option Value), x = .str z ∧ y = .ref D ∧ PySem.W.nsIn K D z = some r ∧ Q (.bl (!r.isSome)) H) ta tb) δ (nB (!r.isSome)) := fun B H σ Z Q q => h B H σ Z _ fun v B1 H1 s1 i1 => h2 B1 H1 σ (Z.go s1) _ fun u B2 H2 s2 i2 => by
  cases i1
  cases i2
  exact ⟨x, r, rfl, rfl, hr, q _ B2 H2 (s1.trans s2) (Dt.bl _)⟩
theorem d_ixK {x : Str} {D : Addr} (h : EvS K B0 H0 ta δ (.raw (.ref D))) (h2 : EvS K B0 H0 tb δ (nS x)) (hr : KDct K w D x (.int i)) : EvS K B0 H0 (tOp (rIxD K w) ta tb) δ (nI i) := fun B H σ Z Q q => h B H σ Z _ fun v B1 H1 s1 i1 => h2 B1 H1 σ (Z.go s1) _ fun u B2 H2 s2 i2 => by
  cases i1
  cases i2
  exact ⟨D, x, .int i, rfl, rfl, hr, q _ B2 H2 (s1.trans s2) (Dt.int _)⟩
/-- str(i) -/
theorem log_small {i : Int} (h : Sm i.natAbs) : i.natAbs.log2 < 1920 := sm_lg h
theorem d_strI (h : EvS K B0 H0 te δ (nI i)) (hs : Sm i.natAbs) : EvS K B0 H0 (tCB (fun xs H Q => ∃ i, xs = [.int i] ∧ i.natAbs.log2 < 1920 ∧ Q (.str (toString i)) H) (tCons te tNil)) δ (nS (S (Tx.intL i))) := d_cb1 h (.int _) (fun _ H1 _ Q q => ⟨i, rfl, sm_lg hs, by
  have e : (toString i : Str) = S (Tx.intL i) := Tx.int_text i
  rw [e]
  exact q H1 (Ex.refl H1)⟩) (.str _)
/-- xs.pop(i), xs of its own -/
theorem sd_popAt {n m : Nat} {e : PyData} {es : List PyData} (hn : δ[n]? = some (Sl.own (ds ++ [e] ++ es))) (hm : ds.length = m) (hl : ds.length + es.length ≤ 100000) (hi : EvS K B0 H0 tb δ (nI (m : Int))) (k : E.nx (δ.set n (.own (ds ++ es)))) : SD K B0 H0 W (tDrop (tBM K "list" rPopAt (tVar n) (tCons tb tNil))) δ E := fun D B H σ S L => by
  obtain ⟨l, vs, h1, h2, h3, h4, h5⟩ := S.own n _ hn
  refine ⟨.ref l, h1, .inl ⟨rfl, _, sq_of h2⟩, hi B H σ S _ fun w B1 H1 s1 i1 => ?_⟩
  cases i1
  obtain ⟨l', ws, g1, g2, g3, g4, g5⟩ := (S.go s1).own n _ hn
  rw [h1] at g1
  cases Option.some.inj (Option.some.inj g1)
  have hlen := g5.len
  rw [List.length_append, List.length_append] at hlen
  have e1 : [e].length = 1 := rfl
  have hlt : m < ws.length := by omega
  refine ⟨l, ws, (m : Int), m, ws[m], rfl, rfl, g2, ?_, ?_, ?_, List.getElem?_eq_getElem hlt, ?_⟩
  · have : (0 : Int) < 2 ^ 63 := by decide
    omega
  · have : (200000 : Int) < 2 ^ 63 := by decide
    omega
  · unfold seqIndex?
    simp only [show ¬ ((m : Int) < 0) by omega, if_false]
    rw [if_pos (by simp; omega)]
    exact congrArg some (Int.toNat_natCast m)
  · refine L.nx B1 _ σ _ s1.b ((S.go s1).mut hn h1 ?_) k
    have q1 := g5.take m
    have q2 := g5.drop (m + 1)
    rw [List.append_assoc, ← hm, List.take_left] at q1
    have e2 : (ds ++ [e] ++ es).drop (m + 1) = es := by
      rw [show m + 1 = (ds ++ [e]).length by rw [List.length_append, hm]; rfl, List.drop_left]
    rw [e2] at q2
    rw [List.eraseIdx_eq_take_drop_succ, ← hm]
    rw [← hm] at q2
    exact q1.app q2
/-! ### raising within tuples -/
theorem x_imp {P P' : PyData → Prop} {ex ex' : Addr → Prop} (h : EvX K B0 H0 W te δ P ex) (hp : ∀ d, P d → P' d) (hx : ∀ C, ex C → ex' C) : EvX K B0 H0 W te δ P' ex' := fun B H σ Z q Q k => h B H σ Z (fun C B' H' s e => q C B' H' s (hx C e)) Q fun v d B' H' p s i => k v d B' H' (hp d p) s i
def EvDX (K : PySem.W.Frag) (B0 H0 : Hp) (W : WX) (tr : TA) (δ : List Sl) (P : List PyData → Prop) (ex : Addr → Prop) : Prop := ∀ B H σ, Sc K B0 H0 B H σ δ → (∀ C B' H', Stp B H B' H' → ex C → W (.ref C) none σ H') → ∀ Q : List V → Hp → Prop, (∀ vs ds B' H', P ds → Stp B H B' H' → DtAll K B' vs ds → Q vs H') → tr σ H Q
theorem dx_nil {P : List PyData → Prop} {ex : Addr → Prop} (h : P []) : EvDX K B0 H0 W tNil δ P ex := fun B H σ Z q Q k => k [] [] B H h (.refl Z.st.bh) .nil
theorem dx_cons {tr : TA} {P1 : PyData → Prop} {P2 P : List PyData → Prop} {ex : Addr → Prop} (h : EvX K B0 H0 W te δ P1 ex) (hr : EvDX K B0 H0 W tr δ P2 ex) (hp : ∀ d es, P1 d → P2 es → P (d :: es)) : EvDX K B0 H0 W (tCons te tr) δ P ex := fun B H σ Z q Q k =>
  h B H σ Z q _ fun v d B1 H1 p1 s1 i1 => hr B1 H1 σ (Z.go s1) (fun C B' H' s e => q C B' H' (s1.trans s) e) _ fun vs es B2 H2 p2 s2 i2 => k _ _ B2 H2 (hp d es p1 p2) (s1.trans s2) (.cons (dt_mono s2.b _ _ i1) i2)
theorem x_tup {tr : TA} {P : List PyData → Prop} {ex : Addr → Prop} (h : EvDX K B0 H0 W tr δ P ex) (hl : ∀ ds, P ds → ds.length ≤ 100000) : EvX K B0 H0 W (tTup tr) δ (fun d => ∃ ds, d = .tuple ds ∧ P ds) ex := fun B H σ Z q Q k =>
  h B H σ Z q _ fun vs ds B1 H1 p s1 i1 => ⟨by rw [i1.len]; exact sz_of (hl ds p), fun x hx => k _ _ _ _ ⟨ds, rfl, p⟩ (s1.trans (.new (o := .tup vs) s1.bh hx)) (.tup (st_of upd_same) (dts_mono (Ex.new (none_of s1.bh hx)) _ _ i1))⟩
theorem x_ofS {ex : Addr → Prop} (h : EvS K B0 H0 te δ (.dat d)) : EvX K B0 H0 W te δ (fun e => e = d) ex := x_of (r_of h rfl)
end
end Ja

/-! Own: functions of a def handed to another one. -/
namespace Ln
open PySem PySem.Spec PyProof.Rows L2 Evl Cm Ja LamX NdefX
section
variable {X : Cx}
theorem ps_never {st : Stmt} : PS X st (fun _ _ _ => False) := ⟨fun _ _ _ _ _ _ h => h.elim⟩
theorem pss_never {sts : List Stmt} : PSs X sts (fun _ _ _ => False) := ⟨fun _ _ _ _ _ _ h => h.elim⟩
theorem pe_never {e : Expr} : PE X e (fun _ _ _ => False) := ⟨fun _ _ _ _ _ _ h => h.elim⟩
end
/-- a promise that speaks of the callers and the heap too -/
abbrev SpC : Type := List Env → Heap → Sp
structure FnC (P : Program) (w : World) (K : PySem.W.Frag) (mg : Str → Option Value) (base : Heap) (CX : CXT) (k : Nat) (f : Addr) (fd : FuncData) (ps : List Str) (sp : SpC) : Prop where
  len : ∀ o h vs H Q E, sp o h vs H Q E → vs.length = ps.length
  run : ∀ (A : Around) (outer : List Env) (s : Shared) (H : Hp) (args : Args) (us : List Value) (vs : List V) (Q : VK) (E : XK), Room k A → Env0 P w K mg base A outer s H → BindsTo s fd args (ps.zip us) → Vals vs us → sp outer s.heap vs H Q E →
    codeAny (model P w) A (.call (.ref f) args) (CR CX outer P w H s Q E) s
theorem FnC.mono {P : Program} {w : World} {K : PySem.W.Frag} {mg : Str → Option Value} {base : Heap} {CX : CXT} {j k : Nat} {f : Addr} {fd : FuncData} {ps : List Str} {sp : SpC} (F : FnC P w K mg base CX j f fd ps sp) (h : j ≤ k) : FnC P w K mg base CX k f fd ps sp :=
  ⟨F.len, fun A outer s H args us vs Q E hr => F.run A outer s H args us vs Q E (hr.mono h)⟩
section
variable {P : Program} {w : World} {K : PySem.W.Frag} {mg : Str → Option Value} {base : Heap}
/-- a def of K by its body, which may use what is true of the heap at its entry -/
theorem okC {x qual : Str} {st : Stmt} {f : Addr} {fd : FuncData} {N ps : List Str} {k : Nat} {sp : SpC} (F : Fun K x qual st f fd) (S : FnScope N ps (defScope st)) (len : ∀ o h vs H Q E, sp o h vs H Q E → vs.length = ps.length)
    (hbody : ∀ (A : Around) (outer : List Env) (s : Shared) (H : Hp) (vs : List V) (Q : VK) (E : XK), Env0 P w K mg base A outer s H → Room k (A.deeper (envOfC qual (defScope st) s.heap.objs.size f fd.code)) → sp outer s.heap vs H Q E →
      ∃ t, PSs (cxOf CX0 P w K mg base N qual (defScope st) f fd.code A outer s H E).nox (defBody st) t ∧ t { nx := fun _ H' => Q .non H', rt := Q } (start N vs) H) : FnC P w K mg base CX0 (k + 1) f fd ps sp := by
  obtain ⟨oc, od, kV, doc, pm, an, cdv, ct, osl, rfl, lk, hcd⟩ := F.ex
  constructor
  · exact len
  intro A outer s H args us vs Q E hr env hb rel promise
  have inK : K.In s.heap := env.mod.kin.keeps fun b o e => (env.bs b o e).1
  have noLim : s.heap.NoLimit := env.mod.nolimit.keeps fun b o e => (env.bs b o e).1
  apply codeAny_call_function hr.depth (inK _ _ lk) rfl S.co S.gen rfl (PySem.W.codeRec_of inK hcd)
  apply hb
  have params : ∀ y ∈ ps.zip us, (defScope st).names.lookup y.1 = some .local ∨ ((defScope st).names.lookup y.1 = some .cell ∧ ((cellsFrom (s.heap.objs.size + 1) (defScope st).names []).lookup y.1).isSome = true) := by
    intro y hy
    rcases S.par y.1 (List.of_mem_zip (a := y.1) (b := y.2) hy).1 with q | q
    · exact .inl q
    · exact .inr ⟨q, PySem.W.cellsFrom_some _ _ _ (.inl q)⟩
  apply wpAny_newFunctionEnv_cells S.kind params
  intro e he s1 made
  subst he
  refine ⟨noLim.keeps made.toInCall.keep, codeAny_func ?_⟩
  obtain ⟨t, ht, hq⟩ := hbody A outer s H vs Q E env (hr.deeper _) promise
  have I := inv_start (CX := CX0) (E := E) (f := f) (cd := cdv) S hr.hd env (len _ _ _ _ _ _ promise) rel made
  refine wpAny_mono (ht.nox.run [] s1 (start N vs) H _ I hq) ?_ fun e s' hs => hs
  intro fl s' hs
  cases fl with
  | ret u =>
    obtain ⟨v, σ', H', J, rv, q⟩ := hs
    exact ⟨v, H', J.os, J.bare, J.base, J.hok, rv, q⟩
  | next =>
    obtain ⟨σ', H', J, q⟩ := hs
    exact ⟨V.non, H', J.os, J.bare, J.base, J.hok, rfl, q⟩
  | brk => exact hs.elim fun _ z => z.elim fun _ z => z.2.elim
  | cont => exact hs.elim fun _ z => z.elim fun _ z => z.2.elim
end
/-- f(e, ..), f a def of such a promise: c tells what the caller must know -/
def tCallC (sp : List V → List (Option V) → Hp → VK → Prop) (t : TA) : TE := fun σ H Q => t σ H fun vs H1 => sp vs σ H1 Q
section
variable {X : Cx} {k : Nat} {f : Addr} {fd : FuncData} {ps : List Str} {sp : SpC} {c : List V → List (Option V) → Hp → VK → Prop} {E : XK} {x : Str} {p pos : Pos} {e : Expr} {es : List Expr} {t : TA}
theorem pe_callC (F : FnC X.prog X.w X.K X.mg X.base CX0 k f fd ps sp) (hr : Room k X.A) (hg : Gl X x) (hm : X.mg x = some (.ref f)) (hk : PySem.W.keepIn X.K (.ref f) = true) (hb : Binds X.K fd ps []) (hx : Passes CX0 X E)
    (hc : ∀ pins σ H s vs Q, Inv X pins σ H s → c vs σ H Q → sp X.stack s.heap vs H Q E)
    (ha : PA X (e :: es) t) (hdb : (x == ("__debug__" : Str)) = false := by decide) (he : starEach (e :: es) X.env = (false, eval e X.env) :: starEach es X.env := by rfl) (hpl : (backTo pos (starEach es X.env)).any (·.1) = false := by rfl) :
    PE X (.Call (.Name x p) (e :: es) [] pos) (tCallC c t) := by
  refine ⟨fun pins s σ H Q I h => ?_⟩
  refine wpAny_Call_Name_kw (ld_glob I hg hm ?_ hdb)
  refine PySem.W.callWith_K (h₀ := X.base) I.ok.mod.kin hk (thn (ha.run pos pins s σ H _ I h) fun us s1 ⟨vs, H1, I1, r, q⟩ => ⟨I1.kIn, ?_⟩) he hpl
  have promise := hc pins σ H1 s1 vs Q I1 q
  have hl := F.len _ _ _ _ _ _ promise
  have bind := hb s1 us I1.kIn (by rw [List.append_nil, ← r.length]; exact hl)
  rw [List.append_nil] at bind
  refine wpAny_call (codeAny_mono (F.run X.A X.stack s1 H1 ⟨us, []⟩ us vs Q E hr I1.env0 bind r promise) fun r s' hq => ?_)
  cases r with
  | error e => exact hx pins σ H1 s1 e s' I1 hq
  | ok fl =>
    cases fl with
    | ret u => exact I1.after hq
    | next => exact hq.elim
    | brk => exact hq.elim
    | cont => exact hq.elim
end
/-- f(e, ..), f a name of the def that holds a function with cells, which stand since the entry -/
def tCallV (f : Addr) (F : NF) (i : Nat) (ws : List (Option V)) (sp : List (Option V) → Sp) (E : XK) (t : TA) : TE := fun σ H Q => σ[i]? = some (some (.ref f)) ∧ H f = some (FnO f F) ∧
  t σ H fun vs H1 => H1 f = some (FnO f F) ∧ H1 F.c = some (CodeO F.c F.qual) ∧ sp ws vs H1 Q E
section
variable {X : Cx} {k j i : Nat} {f : Addr} {F : NF} {ps fr : List Str} {ws : List (Option V)} {sp : List (Option V) → Sp} {E : XK} {x : Str} {p pos : Pos} {e : Expr} {es : List Expr} {t : TA}
theorem pe_callV (Fn : NOk X.prog X.w X.K X.mg X.base CX0 k f F ps fr sp) (C : CellsAt F.cl fr ws X.s_0.heap X.H_0) (nf : ∀ y c, F.cl.lookup y = some c → c ∉ X.fs) (hex : X.ex = []) (hr : Room j X.A) (hk : k ≤ j) (hx : Passes CX0 X E) (hN : X.N[i]? = some x) (hv : Vis X.env.scope x)
    (ha : PA X (e :: es) t) (hd : (x == ("__debug__" : Str)) = false := by decide) (hcd : (x == ("__classdict__" : Str)) = false := by decide)
    (he : starEach (e :: es) X.env = (false, eval e X.env) :: starEach es X.env := by rfl) (hpl : (backTo pos (starEach es X.env)).any (·.1) = false := by rfl) :
    PE X (.Call (.Name x p) (e :: es) [] pos) (tCallV f F i ws sp E t) := by
  refine ⟨fun pins s σ H Q I h => ?_⟩
  obtain ⟨hs, hf, ht⟩ := h
  refine wpAny_Call_Name_kw (thn ((pe_var (pos := p) hN hv hd hcd).run pins s σ H (fun v H1 => v = .ref f ∧ H1 = H) I ⟨.ref f, hs, rfl, rfl⟩) fun u s1 ⟨v, H1, I1, r1, q1⟩ => ?_)
  obtain ⟨ev, eH⟩ := q1
  subst ev
  rw [eH] at I1
  obtain rfl : u = Value.ref f := r1
  refine PySem.W.callWith_F (first := []) (fnAt_of I1 hf) (thn (ha.run pos pins s1 σ H _ I1 ht) fun us s2 ⟨vs, H2, I2, r, h1, h2, q⟩ => ⟨fnAt_of I2 h1, ?_⟩) he hpl
  have C2 : CellsAt F.cl fr ws s2.heap H2 := C.later nf (fun y c _ z => by rw [hex] at z; cases z) I2
  refine wpAny_call (codeAny_mono (Fn.run X.A X.stack s2 H2 us vs ws Q E (hr.mono hk) I2.env0 h1 h2 C2 r q) fun r s' hq => ?_)
  cases r with
  | error e => exact hx pins σ H2 s2 e s' I2 hq
  | ok fl =>
    cases fl with
    | ret u => exact I2.after hq
    | next => exact hq.elim
    | brk => exact hq.elim
    | cont => exact hq.elim
end
/-- the cells of the def that makes a function: no frame of the stack -/
theorem cells_nofr {X : Cx} {pins : List (Addr × Obj)} {σ : L2.St} {H : Hp} {s : Shared} (I : Inv X pins σ H s) (hfn : ∀ x, X.fn x = true) {y : Str} {c : Addr} (h : X.env.cells.lookup y = some c) : c ∉ frs X.stack := by
  intro hb
  obtain ⟨v, o, ho, hd⟩ := I.cell y c h
  rcases List.mem_cons.mp (I.stkSub c hb) with z | z
  · obtain ⟨m, ⟨o', es, ep, e, d, _⟩, _⟩ := I.loc
    rw [z] at ho
    rw [ho] at e
    cases e
    rw [hd] at d
    cases d
  · have h1 := I.ok.cab y c (hfn y) h
    obtain ⟨_, o2, h2, _⟩ := I.ok.funs.mem z
    exact absurd (Heap.lt_size h2) (Nat.not_lt.mpr h1)
/-- the law's end, when a def of the program makes functions: its table of code objects is empty at the start -/
theorem walk_tab {l : PySem.W.OpenLaw} {n k : Nat} {q : Program} {loose : List Str} {XP : (Str → Option Value) → Heap → Prop} {YP : World → Heap → Prop} {d : DefRec} {K : Params → PySem.W.Frag} {CX : World → CXT} {x : Str} (nm : Str)
    (hn : l.most = some n) (hn2 : n ≤ sizeLine) (hdf : d.params.defaults = []) (hr : Room k callerA) (hrec : ((recsOf q).any fun e => e.name == nm) = true) (hY : ∀ (w : World) (h : Heap), YP w h → (K w.params).In h)
    (F : ∀ (w : World) (mg : Str → Option Value) (fa : Addr) (h : Heap), YP w h → (K w.params).In h → h.Ns mainGlobals mg → mg d.name = some (.ref fa) → (∀ c p, PySem.W.tabIn (K w.params) nm = some (c, p) → PySem.W.CodeHd h c p ∧ h.get? p = some { cls := .none, data := .fields #[] }) → LawAtS l w (K w.params) (CX w) k n x mg fa h)
    (hCX : ∀ (w : World) (H : Hp) (s : Shared) (e : Value) (s' : Shared), CX w [] H s (fun _ _ _ => False) e s' → False) :
    PySem.W.WalkO q loose XP YP l.row.toRowW d [] (fun f vs => PySem.call f vs) := by
  refine Att.attach_callB hn hdf fun w s₀ s₁ mg mb fa o pm cd doc a vs ns G Y ho hd hcd hmg hobj hints hlen hbits hg => ?_
  have KX := hY w _ Y
  obtain ⟨fd, cs, sp, hT, nT, C, hb, hsp, hF⟩ := F w mg fa _ Y KX G.T.g hmg fun c p ht => by
    cases e : (recsOf q).find? fun e => e.name == nm with
    | none =>
      obtain ⟨z, h1, h2⟩ := List.any_eq_true.mp hrec
      exact absurd h2 (List.find?_eq_none.mp e z h1)
    | some dd => exact PySem.W.tab_of G.T KX e ht
  exact law_callTs KX G.T.g G.T.b G.T.builtins G.T.nolimit hg hT nT C G.T.bmain hobj hints (Nat.le_trans hlen hn2) hr hF hb (fun H hH hS => hsp H a ns hlen hbits hH hS) fun H e s' => hCX w H s₁ e s'
/-! ### data behind a table that has grown -/
section
variable {K : PySem.W.Frag} {H H' : Hp}
theorem rd_monoN {a : Addr} {xs : List V} (e : ExtN H H') (h : Rd H a (.tup xs)) : Rd H' a (.tup xs) := by
  rcases h with h | ⟨o, h⟩
  · exact .inl (e _ _ h fun _ z => by cases z)
  · exact .inr ⟨o, e _ _ h fun _ z => by cases z⟩
theorem sqT_monoN {a : Addr} {xs : List V} (e : ExtN H H') (h : SqT K H a xs) : SqT K H' a xs := h.elim (fun z => .inl (rd_monoN e z)) .inr
mutual
theorem dt_monoN (e : ExtN H H') : ∀ (d : PyData) (v : V), Dt K H v d → Dt K H' v d
  | _, _, .non => .non
  | _, _, .bl b => .bl b
  | _, _, .int i => .int i
  | _, _, .str x => .str x
  | _, _, .lst h a => .lst (e _ _ h fun _ z => by cases z) (dts_monoN e _ _ a)
  | _, _, .tup h a => .tup (sqT_monoN e h) (dts_monoN e _ _ a)
theorem dts_monoN (e : ExtN H H') : ∀ (ds : List PyData) (vs : List V), DtAll K H vs ds → DtAll K H' vs ds
  | _, _, .nil => .nil
  | _, _, .cons h t => .cons (dt_monoN e _ _ h) (dts_monoN e _ _ t)
end
theorem extN_of (e : Ex H H') : ExtN H H' := fun b o h _ => e b o h
theorem extN_trans {H1 H2 H3 : Hp} (a : ExtN H1 H2) (b : ExtN H2 H3) : ExtN H1 H3 := fun x o h n => b x o (a x o h n) n
end
/-! ### data again, from a heap on -/
section
variable {K : PySem.W.Frag} {H : Hp}
theorem sc_at {σ : L2.St} {δ : List Sl} (hl : σ.length = δ.length) (h : ∀ (i : Nat) (s : Sl), δ[i]? = some s → s = .no ∨ ∃ v, σ[i]? = some (some v) ∧ Is K H v s) : Sc K H H H H σ δ := by
  refine ⟨.refl (.refl H), hl, fun i s hi hv => ?_, fun i ds hi => ?_, fun i j ds es l hi hj h1 h2 => ?_⟩
  · rcases h i s hi with z | z
    · subst z
      cases hv
    · exact z
  · rcases h i _ hi with z | ⟨v, _, z⟩
    · cases z
    · exact z.elim
  · rcases h i _ hi with z | ⟨v, _, z⟩
    · cases z
    · exact z.elim
/-- the ints among the slots, in any later heap -/
theorem sc_ints {B0 H0 B H1 : Hp} {σ : L2.St} {δ δ' : List Sl} (S : Sc K B0 H0 B H1 σ δ) (hl : δ'.length = δ.length) (h : ∀ (i : Nat) (s : Sl), δ'[i]? = some s → s = .no ∨ ∃ n, s = nI n ∧ δ[i]? = some (nI n)) : Sc K H H H H σ δ' := by
  refine sc_at (by rw [S.len, hl]) fun i s hi => ?_
  rcases h i s hi with z | ⟨n, rfl, z⟩
  · exact .inl z
  · obtain ⟨v, h1, h2⟩ := S.val i _ z rfl
    cases h2
    exact .inr ⟨_, h1, .int n⟩
end
/-! ### statements, what comes behind is told by itself -/
def SDq (K : PySem.W.Frag) (B0 H0 : Hp) (D : Ends) (ts : TS) (δ : List Sl) : Prop := ∀ B H σ, Sc K B0 H0 B H σ δ → ts D σ H
theorem qq {K : PySem.W.Frag} {B0 H0 : Hp} {D : Ends} {t u : TS} {δ : List Sl} {R : PyData → Prop} (hr : ∀ v d (B' H' : Hp), R d → Dt K B' v d → D.rt v H') (h : SD K B0 H0 (fun _ _ _ _ => False) t δ { nx := fun δ' => SDq K B0 H0 D u δ', rt := R }) : SDq K B0 H0 D (tSeq t u) δ := fun B H σ S =>
  h { D with nx := u D } B H σ S ⟨fun B' H' σ' δ' _ S' q => q B' H' σ' S', fun v d B' H' _ _ dv r => hr v d B' H' r dv, fun _ _ _ _ _ _ z => z.elim, fun _ _ _ _ _ _ z => z.elim, fun _ _ _ _ _ _ _ z => z.elim, fun _ _ _ _ _ _ _ _ _ _ _ z => z.elim⟩
/-- the body of a function with one cell, an int -/
theorem run_nbody {K : PySem.W.Frag} {A : Type} {enc : A → List Sl} {pre : A → Prop} {post : A → PyData → Prop} {N : List Str} {vs : List V} {H : Hp} {Q : VK} {R : XK} {b : Int} {ts : TS} (h : SpA K enc pre post vs H Q R)
    (hb : ∀ a B, pre a → SD K B H (fun _ _ _ _ => False) ts ((enc a ++ [nI b]) ++ List.replicate (N.length - (enc a).length - 1) Sl.no) { nx := fun _ => post a .none, rt := post a }) : ts { nx := fun _ H' => Q .non H', rt := Q } (startF N vs [some (.int b)]) H := by
  obtain ⟨B, a, e, iv, hp, q⟩ := h
  have iv2 : IsAll K B (vs ++ [V.int b]) (enc a ++ [nI b]) := by
    have key : ∀ {vs : List V} {ss : List Sl}, IsAll K B vs ss → IsAll K B (vs ++ [V.int b]) (ss ++ [nI b]) := by
      intro vs ss h
      induction h with
      | nil => exact .cons (Dt.int b) .nil
      | cons h _ ih => exact .cons h ih
    exact key iv
  have S := sc_start (N.length - vs.length - 1) e iv2
  have hl := iv.len
  have hb' := hb a B hp
  rw [← hl] at hb'
  have e2 : startF N vs [some (.int b)] = (vs ++ [V.int b]).map some ++ List.replicate (N.length - vs.length - 1) none := by
    unfold startF
    rw [List.map_append, List.append_assoc]
    rfl
  rw [e2]
  exact hb' _ B H _ S ⟨fun B' H' σ' δ' _ S' hp => q .non .none B' H' hp S'.st .non, fun v d B' H' _ st dv hp => q v d B' H' hp st dv, fun _ _ _ _ _ _ z => z.elim, fun _ _ _ _ _ _ z => z.elim, fun _ _ _ _ _ _ _ z => z.elim, fun _ _ _ _ _ _ _ _ _ _ _ z => z.elim⟩
/-- the call of such a function by data -/
def spNest (K : PySem.W.Frag) {A : Type} (enc : A → List Sl) (pre : Int → A → Prop) (post : Int → A → PyData → Prop) : List (Option V) → Sp := fun ws vs H Q E => ∃ b, ws = [some (.int b)] ∧ SpA K enc (pre b) (post b) vs H Q E
theorem d_callV {K : PySem.W.Frag} {B0 H0 : Hp} {δ : List Sl} {A : Type} {enc : A → List Sl} {pre : Int → A → Prop} {post : Int → A → PyData → Prop} {f : Addr} {F : NF} {i : Nat} {b : Int} {E : XK} {t : TA} (a : A) (hi : δ[i]? = some (.raw (.ref f))) (h1 : B0 f = some (FnO f F)) (h2 : B0 F.c = some (CodeO F.c F.qual)) (h : EvA K B0 H0 t δ (enc a)) (hp : pre b a) :
    EvR K B0 H0 (tCallV f F i [some (.int b)] (spNest K enc pre post) E t) δ (post b a) := fun B H σ S Q q => by
  obtain ⟨v, g1, g2⟩ := S.val i _ hi rfl
  have g2 : v = .ref f := g2
  subst g2
  refine ⟨g1, S.st.bh _ _ (S.st.b _ _ h1), h B H σ S _ fun vs B1 H1 s1 i1 => ⟨s1.bh _ _ (s1.b _ _ (S.st.b _ _ h1)), s1.bh _ _ (s1.b _ _ (S.st.b _ _ h2)), b, rfl, B1, a, s1.bh, i1, hp, fun v d B2 H2 p st dv => q v d B2 H2 p (s1.trans st) dv⟩⟩
/-- any value -/
def anyS : Sl := .sem ⟨fun _ _ => True, fun _ _ => True.intro⟩
theorem d_any {K : PySem.W.Frag} {B0 H0 : Hp} {δ : List Sl} {n : Nat} {s : Sl} (h : δ[n]? = some s) (hs : s ≠ .no) : EvS K B0 H0 (tVar n) δ anyS := fun B H σ S Q q => by
  cases s with
  | no => exact absurd rfl hs
  | own ds =>
    obtain ⟨l, vs, h1, _⟩ := S.own n ds h
    exact ⟨_, h1, q _ B H (.refl S.st.bh) True.intro⟩
  | raw v =>
    obtain ⟨v, h1, _⟩ := S.val n _ h rfl
    exact ⟨_, h1, q _ B H (.refl S.st.bh) True.intro⟩
  | dat d =>
    obtain ⟨v, h1, _⟩ := S.val n _ h rfl
    exact ⟨_, h1, q _ B H (.refl S.st.bh) True.intro⟩
  | sem m =>
    obtain ⟨v, h1, _⟩ := S.val n _ h rfl
    exact ⟨_, h1, q _ B H (.refl S.st.bh) True.intro⟩
end Ln


namespace K41
open PySem PySem.Spec PyProof.Rows L2 Evl Cm Et Fm Td Mi Ja Ln
open Ld hiding hu65
open NdefX LamX
def topS (i : Nat) : Stmt := PySem.Challenge.pw_portolan_k41_radians_and_degrees.main.body.getD i (.Pass ⟨0, 0, 0, 0⟩)
abbrev s_is_integer : Stmt := topS 7
theorem sc_is_integer : FnScope ["value"] ["value"] (defScope s_is_integer) := ⟨rfl, rfl, rfl, by decide +kernel, rfl, by decide +kernel, by decide +kernel⟩
abbrev s_are_integers : Stmt := topS 8
theorem sc_are_integers : FnScope ["values", "value"] ["values"] (defScope s_are_integers) := ⟨rfl, rfl, rfl, by decide +kernel, rfl, by decide +kernel, by decide +kernel⟩
abbrev s_is_formula : Stmt := topS 11
theorem sc_is_formula : FnScope ["value", "place", "step"] ["value"] (defScope s_is_formula) := ⟨rfl, rfl, rfl, by decide +kernel, rfl, by decide +kernel, by decide +kernel⟩
abbrev s_number : Stmt := topS 12
theorem sc_number : FnScope ["p", "q"] ["p", "q"] (defScope s_number) := ⟨rfl, rfl, rfl, by decide +kernel, rfl, by decide +kernel, by decide +kernel⟩
abbrev s_pi_formula : Stmt := topS 13
theorem sc_pi_formula : FnScope [] [] (defScope s_pi_formula) := ⟨rfl, rfl, rfl, by decide +kernel, rfl, by decide +kernel, by decide +kernel⟩
abbrev s_times : Stmt := topS 14
theorem sc_times : FnScope ["f", "g"] ["f", "g"] (defScope s_times) := ⟨rfl, rfl, rfl, by decide +kernel, rfl, by decide +kernel, by decide +kernel⟩
abbrev s_over : Stmt := topS 15
theorem sc_over : FnScope ["f", "g"] ["f", "g"] (defScope s_over) := ⟨rfl, rfl, rfl, by decide +kernel, rfl, by decide +kernel, by decide +kernel⟩
abbrev s_is_step : Stmt := topS 16
theorem sc_is_step : FnScope ["step", "place", "word", "index"] ["step", "place"] (defScope s_is_step) := ⟨rfl, rfl, rfl, by decide +kernel, rfl, by decide +kernel, by decide +kernel⟩
abbrev s_moved : Stmt := topS 17
theorem sc_moved : FnScope ["step", "places"] ["step", "places"] (defScope s_moved) := ⟨rfl, rfl, rfl, by decide +kernel, rfl, by decide +kernel, by decide +kernel⟩
abbrev s_combined : Stmt := topS 18
theorem sc_combined : FnScope ["word", "f", "g", "places", "behind", "step"] ["word", "f", "g"] (defScope s_combined) := ⟨rfl, rfl, rfl, by decide +kernel, rfl, by decide +kernel, by decide +kernel⟩
abbrev s_merged : Stmt := topS 19
theorem sc_merged : FnScope ["formula", "kept", "places"] ["formula"] (defScope s_merged) := ⟨rfl, rfl, rfl, by decide +kernel, rfl, by decide +kernel, by decide +kernel⟩
abbrev s_merged_into : Stmt := topS 20
theorem sc_merged_into : FnScope ["kept", "place_of", "formula", "places", "step", "fitted"] ["kept", "place_of", "formula"] (defScope s_merged_into) := ⟨rfl, rfl, rfl, by decide +kernel, rfl, by decide +kernel, by decide +kernel⟩
abbrev s_exact_values : Stmt := topS 24
theorem sc_exact_values : FnScope ["steps", "found", "step"] ["steps"] (defScope s_exact_values) := ⟨rfl, rfl, rfl, by decide +kernel, rfl, by decide +kernel, by decide +kernel⟩
abbrev s_exact_value : Stmt := topS 25
theorem sc_exact_value : FnScope ["step", "found", "first", "second"] ["step", "found"] (defScope s_exact_value) := ⟨rfl, rfl, rfl, by decide +kernel, rfl, by decide +kernel, by decide +kernel⟩
abbrev s_operation : Stmt := topS 26
theorem sc_operation : FnScope ["word", "first", "second", "a", "b", "c", "d"] ["word", "first", "second"] (defScope s_operation) := ⟨rfl, rfl, rfl, by decide +kernel, rfl, by decide +kernel, by decide +kernel⟩
abbrev s_lowest_terms : Stmt := topS 27
theorem sc_lowest_terms : FnScope ["p", "q", "divisor"] ["p", "q"] (defScope s_lowest_terms) := ⟨rfl, rfl, rfl, by decide +kernel, rfl, by decide +kernel, by decide +kernel⟩
abbrev s_fraction : Stmt := topS 30
theorem sc_fraction : FnScope ["p", "q"] ["p", "q"] (defScope s_fraction) := ⟨rfl, rfl, rfl, by decide +kernel, rfl, by decide +kernel, by decide +kernel⟩
abbrev s_product : Stmt := topS 31
theorem sc_product : FnScope ["f", "g"] ["f", "g"] (defScope s_product) := ⟨rfl, rfl, rfl, by decide +kernel, rfl, by decide +kernel, by decide +kernel⟩
abbrev s_joined : Stmt := topS 32
theorem sc_joined : FnScope ["word", "f", "g", "steps", "place_of", "place", "step", "places"] ["word", "f", "g"] (defScope s_joined) := ⟨rfl, rfl, rfl, by decide +kernel, rfl, by decide +kernel, by decide +kernel⟩
abbrev s_is_fraction : Stmt := topS 33
theorem sc_is_fraction : FnScope ["f"] ["f"] (defScope s_is_fraction) := ⟨rfl, rfl, rfl, by decide +kernel, rfl, by decide +kernel, by decide +kernel⟩
abbrev s_is_number : Stmt := topS 34
theorem sc_is_number : FnScope ["f", "n"] ["f", "n"] (defScope s_is_number) := ⟨rfl, rfl, rfl, by decide +kernel, rfl, by decide +kernel, by decide +kernel⟩
abbrev s_radians : Stmt := topS 37
theorem sc_radians : FnScope ["angle"] ["angle"] (defScope s_radians) := ⟨rfl, rfl, rfl, by decide +kernel, rfl, by decide +kernel, by decide +kernel⟩
abbrev s_degrees : Stmt := topS 38
theorem sc_degrees : FnScope ["formula"] ["formula"] (defScope s_degrees) := ⟨rfl, rfl, rfl, by decide +kernel, rfl, by decide +kernel, by decide +kernel⟩
abbrev s_of_fraction : Stmt := topS 40
theorem sc_of_fraction : FnScope ["bits", "p", "q", "scaled"] ["bits", "p", "q"] (defScope s_of_fraction) := ⟨rfl, rfl, rfl, by decide +kernel, rfl, by decide +kernel, by decide +kernel⟩
abbrev s_rescaled : Stmt := topS 41
theorem sc_rescaled : FnScope ["a", "bits", "other"] ["a", "bits", "other"] (defScope s_rescaled) := ⟨rfl, rfl, rfl, by decide +kernel, rfl, by decide +kernel, by decide +kernel⟩
abbrev s_added : Stmt := topS 42
theorem sc_added : FnScope ["a", "b"] ["a", "b"] (defScope s_added) := ⟨rfl, rfl, rfl, by decide +kernel, rfl, by decide +kernel, by decide +kernel⟩
abbrev s_subtracted : Stmt := topS 43
theorem sc_subtracted : FnScope ["a", "b"] ["a", "b"] (defScope s_subtracted) := ⟨rfl, rfl, rfl, by decide +kernel, rfl, by decide +kernel, by decide +kernel⟩
abbrev s_multiplied : Stmt := topS 44
theorem sc_multiplied : FnScope ["a", "b", "bits", "products"] ["a", "b", "bits"] (defScope s_multiplied) := ⟨rfl, rfl, rfl, by decide +kernel, rfl, by decide +kernel, by decide +kernel⟩
abbrev s_divided : Stmt := topS 45
theorem sc_divided : FnScope ["a", "b", "bits", "low", "high", "least", "greatest"] ["a", "b", "bits"] (defScope s_divided) := ⟨rfl, rfl, rfl, by decide +kernel, rfl, by decide +kernel, by decide +kernel⟩
abbrev s_rooted : Stmt := topS 46
theorem sc_rooted : FnScope ["a", "bits"] ["a", "bits"] (defScope s_rooted) := ⟨rfl, rfl, rfl, by decide +kernel, rfl, by decide +kernel, by decide +kernel⟩
abbrev s_fewer_bits : Stmt := topS 47
theorem sc_fewer_bits : FnScope ["low", "high", "bits"] ["low", "high", "bits"] (defScope s_fewer_bits) := ⟨rfl, rfl, rfl, by decide +kernel, rfl, by decide +kernel, by decide +kernel⟩
abbrev s_root_above : Stmt := topS 48
theorem sc_root_above : FnScope ["n", "root"] ["n"] (defScope s_root_above) := ⟨rfl, rfl, rfl, by decide +kernel, rfl, by decide +kernel, by decide +kernel⟩
abbrev s_nearest : Stmt := topS 52
theorem sc_nearest : FnScope ["n", "bits"] ["n", "bits"] (defScope s_nearest) := ⟨rfl, rfl, rfl, by decide +kernel, rfl, by decide +kernel, by decide +kernel⟩
abbrev s_halvings_for : Stmt := topS 53
theorem sc_halvings_for : FnScope ["bits"] ["bits"] (defScope s_halvings_for) := ⟨rfl, rfl, rfl, by decide +kernel, rfl, by decide +kernel, by decide +kernel⟩
abbrev s_reciprocal_series : Stmt := topS 54
theorem sc_reciprocal_series : FnScope ["n", "bits", "sign", "square", "power", "total", "direction", "divisor"] ["n", "bits", "sign"] (defScope s_reciprocal_series) := ⟨rfl, rfl, rfl, by decide +kernel, rfl, by decide +kernel, by decide +kernel⟩
abbrev s_pi_scaled : Stmt := topS 55
theorem sc_pi_scaled : FnScope ["bits", "work", "quarter"] ["bits"] (defScope s_pi_scaled) := ⟨rfl, rfl, rfl, by decide +kernel, rfl, by decide +kernel, by decide +kernel⟩
abbrev s_log_of_two : Stmt := topS 56
theorem sc_log_of_two : FnScope ["bits"] ["bits"] (defScope s_log_of_two) := ⟨rfl, rfl, rfl, by decide +kernel, rfl, by decide +kernel, by decide +kernel⟩
abbrev s_inverse_tangent : Stmt := topS 57
theorem sc_inverse_tangent : FnScope ["t", "bits", "sign", "halvings", "work", "one", "square_of_one", "_", "root"] ["t", "bits", "sign"] (defScope s_inverse_tangent) := ⟨rfl, rfl, rfl, by decide +kernel, rfl, by decide +kernel, by decide +kernel⟩
abbrev s_odd_series : Stmt := topS 58
theorem sc_odd_series : FnScope ["t", "bits", "sign", "square", "power", "total", "direction", "divisor"] ["t", "bits", "sign"] (defScope s_odd_series) := ⟨rfl, rfl, rfl, by decide +kernel, rfl, by decide +kernel, by decide +kernel⟩
abbrev s_angle_scaled : Stmt := topS 59
theorem sc_angle_scaled : FnScope ["y", "x", "bits", "work", "angle"] ["y", "x", "bits"] (defScope s_angle_scaled) := ⟨rfl, rfl, rfl, by decide +kernel, rfl, by decide +kernel, by decide +kernel⟩
abbrev s_arctangent_scaled : Stmt := topS 60
theorem sc_arctangent_scaled : FnScope ["n", "bits", "work", "angle"] ["n", "bits", "work"] (defScope s_arctangent_scaled) := ⟨rfl, rfl, rfl, by decide +kernel, rfl, by decide +kernel, by decide +kernel⟩
abbrev s_arcsine_scaled : Stmt := topS 61
theorem sc_arcsine_scaled : FnScope ["n", "bits", "work", "more", "other", "angle"] ["n", "bits", "work"] (defScope s_arcsine_scaled) := ⟨rfl, rfl, rfl, by decide +kernel, rfl, by decide +kernel, by decide +kernel⟩
abbrev s_arccosine_scaled : Stmt := topS 62
theorem sc_arccosine_scaled : FnScope ["n", "bits", "work", "more"] ["n", "bits", "work"] (defScope s_arccosine_scaled) := ⟨rfl, rfl, rfl, by decide +kernel, rfl, by decide +kernel, by decide +kernel⟩
abbrev s_cosine_scaled : Stmt := topS 63
theorem sc_cosine_scaled : FnScope ["n", "bits", "work", "quarter", "more", "half_pi", "turn", "angle"] ["n", "bits", "work", "quarter"] (defScope s_cosine_scaled) := ⟨rfl, rfl, rfl, by decide +kernel, rfl, by decide +kernel, by decide +kernel⟩
abbrev s_cosine_of : Stmt := topS 64
theorem sc_cosine_of : FnScope ["angle", "bits", "halvings", "work", "square", "term", "total", "direction", "count", "_"] ["angle", "bits"] (defScope s_cosine_of) := ⟨rfl, rfl, rfl, by decide +kernel, rfl, by decide +kernel, by decide +kernel⟩
abbrev s_exponential_scaled : Stmt := topS 65
theorem sc_exponential_scaled : FnScope ["n", "bits", "work", "size", "growth", "squarings", "more", "total", "_"] ["n", "bits", "work"] (defScope s_exponential_scaled) := ⟨rfl, rfl, rfl, by decide +kernel, rfl, by decide +kernel, by decide +kernel⟩
abbrev s_exponential_series : Stmt := topS 66
theorem sc_exponential_series : FnScope ["t", "bits", "term", "total", "count"] ["t", "bits"] (defScope s_exponential_series) := ⟨rfl, rfl, rfl, by decide +kernel, rfl, by decide +kernel, by decide +kernel⟩
abbrev s_logarithm_scaled : Stmt := topS 67
theorem sc_logarithm_scaled : FnScope ["n", "bits", "work", "size", "power", "more", "one", "mantissa", "ratio", "value"] ["n", "bits", "work"] (defScope s_logarithm_scaled) := ⟨rfl, rfl, rfl, by decide +kernel, rfl, by decide +kernel, by decide +kernel⟩
abbrev s_pi_enclosed : Stmt := topS 71
theorem sc_pi_enclosed : FnScope ["bits"] ["bits"] (defScope s_pi_enclosed) := ⟨rfl, rfl, rfl, by decide +kernel, rfl, by decide +kernel, by decide +kernel⟩
abbrev s_sine : Stmt := topS 72
theorem sc_sine : FnScope ["a", "bits"] ["a", "bits"] (defScope s_sine) := ⟨rfl, rfl, rfl, by decide +kernel, rfl, by decide +kernel, by decide +kernel⟩
abbrev s_cosine : Stmt := topS 73
theorem sc_cosine : FnScope ["a", "bits"] ["a", "bits"] (defScope s_cosine) := ⟨rfl, rfl, rfl, by decide +kernel, rfl, by decide +kernel, by decide +kernel⟩
abbrev s_exponential : Stmt := topS 74
theorem sc_exponential : FnScope ["a", "bits"] ["a", "bits"] (defScope s_exponential) := ⟨rfl, rfl, rfl, by decide +kernel, rfl, by decide +kernel, by decide +kernel⟩
abbrev s_logarithm : Stmt := topS 75
theorem sc_logarithm : FnScope ["a", "bits"] ["a", "bits"] (defScope s_logarithm) := ⟨rfl, rfl, rfl, by decide +kernel, rfl, by decide +kernel, by decide +kernel⟩
abbrev s_arctangent : Stmt := topS 76
theorem sc_arctangent : FnScope ["a", "bits"] ["a", "bits"] (defScope s_arctangent) := ⟨rfl, rfl, rfl, by decide +kernel, rfl, by decide +kernel, by decide +kernel⟩
abbrev s_arcsine : Stmt := topS 77
theorem sc_arcsine : FnScope ["a", "bits"] ["a", "bits"] (defScope s_arcsine) := ⟨rfl, rfl, rfl, by decide +kernel, rfl, by decide +kernel, by decide +kernel⟩
abbrev s_arccosine : Stmt := topS 78
theorem sc_arccosine : FnScope ["a", "bits", "low", "high"] ["a", "bits"] (defScope s_arccosine) := ⟨rfl, rfl, rfl, by decide +kernel, rfl, by decide +kernel, by decide +kernel⟩
abbrev s_demand_small : Stmt := topS 79
theorem sc_demand_small : FnScope ["a", "bits", "limit"] ["a", "bits"] (defScope s_demand_small) := ⟨rfl, rfl, rfl, by decide +kernel, rfl, by decide +kernel, by decide +kernel⟩
abbrev s_demand_sines : Stmt := topS 80
theorem sc_demand_sines : FnScope ["a", "bits", "one"] ["a", "bits"] (defScope s_demand_sines) := ⟨rfl, rfl, rfl, by decide +kernel, rfl, by decide +kernel, by decide +kernel⟩
abbrev s_outwards : Stmt := topS 81
theorem sc_outwards : FnScope ["value"] ["value"] (defScope s_outwards) := ⟨rfl, rfl, rfl, by decide +kernel, rfl, by decide +kernel, by decide +kernel⟩
abbrev s_rising : Stmt := topS 82
theorem sc_rising : FnScope ["enclosed_at", "a", "bits", "first"] ["enclosed_at", "a", "bits"] (defScope s_rising) := ⟨rfl, rfl, rfl, by decide +kernel, rfl, by decide +kernel, by decide +kernel⟩
abbrev s_exponential_at : Stmt := topS 83
theorem sc_exponential_at : FnScope ["n", "bits", "low", "high"] ["n", "bits"] (defScope s_exponential_at) := ⟨rfl, rfl, rfl, by decide +kernel, rfl, by decide +kernel, by decide +kernel⟩
abbrev s_logarithm_at : Stmt := topS 84
theorem sc_logarithm_at : FnScope ["n", "bits"] ["n", "bits"] (defScope s_logarithm_at) := ⟨rfl, rfl, rfl, by decide +kernel, rfl, by decide +kernel, by decide +kernel⟩
abbrev s_arctangent_at : Stmt := topS 85
theorem sc_arctangent_at : FnScope ["n", "bits"] ["n", "bits"] (defScope s_arctangent_at) := ⟨rfl, rfl, rfl, by decide +kernel, rfl, by decide +kernel, by decide +kernel⟩
abbrev s_arcsine_at : Stmt := topS 86
theorem sc_arcsine_at : FnScope ["n", "bits"] ["n", "bits"] (defScope s_arcsine_at) := ⟨rfl, rfl, rfl, by decide +kernel, rfl, by decide +kernel, by decide +kernel⟩
abbrev s_arccosine_at : Stmt := topS 87
theorem sc_arccosine_at : FnScope ["n", "bits"] ["n", "bits"] (defScope s_arccosine_at) := ⟨rfl, rfl, rfl, by decide +kernel, rfl, by decide +kernel, by decide +kernel⟩
abbrev s_waved : Stmt := topS 88
theorem sc_waved : FnScope ["a", "bits", "quarter", "one", "first", "last", "low", "high", "least", "greatest"] ["a", "bits", "quarter"] (defScope s_waved) := ⟨rfl, rfl, rfl, by decide +kernel, rfl, by decide +kernel, by decide +kernel⟩
abbrev s_wave_at : Stmt := topS 89
theorem sc_wave_at : FnScope ["n", "bits", "quarter"] ["n", "bits", "quarter"] (defScope s_wave_at) := ⟨rfl, rfl, rfl, by decide +kernel, rfl, by decide +kernel, by decide +kernel⟩
abbrev s_right_angles : Stmt := topS 90
theorem sc_right_angles : FnScope ["a", "bits", "half_pi", "low", "high"] ["a", "bits"] (defScope s_right_angles) := ⟨rfl, rfl, rfl, by decide +kernel, rfl, by decide +kernel, by decide +kernel⟩
abbrev s_has_turn : Stmt := topS 91
theorem sc_has_turn : FnScope ["least", "greatest", "rest"] ["least", "greatest", "rest"] (defScope s_has_turn) := ⟨rfl, rfl, rfl, by decide +kernel, rfl, by decide +kernel, by decide +kernel⟩
abbrev s_results : Stmt := topS 93
theorem sc_results : FnScope ["step", "enclosures", "bits", "word", "first"] ["step", "enclosures", "bits"] (defScope s_results) := ⟨rfl, rfl, rfl, by decide +kernel, rfl, by decide +kernel, by decide +kernel⟩
abbrev s_function_results : Stmt := topS 94
theorem sc_function_results : FnScope ["word", "a", "bits"] ["word", "a", "bits"] (defScope s_function_results) := ⟨rfl, rfl, rfl, by decide +kernel, rfl, by decide +kernel, by decide +kernel⟩
abbrev s_wave_results : Stmt := topS 95
theorem sc_wave_results : FnScope ["word", "a", "bits", "middle", "value", "reach", "low", "high", "one"] ["word", "a", "bits"] (defScope s_wave_results) := ⟨rfl, rfl, rfl, by decide +kernel, rfl, by decide +kernel, by decide +kernel⟩
abbrev s_lacks_value : Stmt := topS 96
theorem sc_lacks_value : FnScope ["word", "low", "high", "one"] ["word", "low", "high", "one"] (defScope s_lacks_value) := ⟨rfl, rfl, rfl, by decide +kernel, rfl, by decide +kernel, by decide +kernel⟩
abbrev s_decided : Stmt := topS 102
theorem sc_decided : FnScope ["formula", "bits", "verdict", "steps", "places", "exacts", "work", "found", "enclosures", "place", "answer"] ["formula", "bits", "verdict"] (defScope s_decided) := ⟨rfl, rfl, rfl, by decide +kernel, rfl, by decide +kernel, by decide +kernel⟩
abbrev s_narrow_steps : Stmt := topS 103
theorem sc_narrow_steps : FnScope ["formula", "bits", "low", "high"] ["formula", "bits"] (defScope s_narrow_steps) := ⟨rfl, rfl, rfl, by decide +kernel, rfl, by decide +kernel, by decide +kernel⟩
abbrev s_bits_to_try : Stmt := topS 104
theorem sc_bits_to_try : FnScope ["bits", "tried"] ["bits"] (defScope s_bits_to_try) := ⟨rfl, rfl, rfl, by decide +kernel, rfl, by decide +kernel, by decide +kernel⟩
abbrev s_enclosed_steps : Stmt := topS 105
theorem sc_enclosed_steps : FnScope ["steps", "exacts", "bits", "found", "step", "exact", "p", "q"] ["steps", "exacts", "bits"] (defScope s_enclosed_steps) := ⟨rfl, rfl, rfl, by decide +kernel, rfl, by decide +kernel, by decide +kernel⟩
abbrev s_refuse_undefined : Stmt := topS 106
theorem sc_refuse_undefined : FnScope ["step", "exacts", "found", "bits", "exact", "p", "q", "certain", "enclosure"] ["step", "exacts", "found", "bits"] (defScope s_refuse_undefined) := ⟨rfl, rfl, rfl, by decide +kernel, rfl, by decide +kernel, by decide +kernel⟩
abbrev s_results_or_none : Stmt := topS 107
theorem sc_results_or_none : FnScope ["step", "found", "bits", "index", "enclosure"] ["step", "found", "bits"] (defScope s_results_or_none) := ⟨rfl, rfl, rfl, by decide +kernel, rfl, by decide +kernel, by decide +kernel⟩
abbrev s_enclose : Stmt := topS 109
theorem sc_enclose : FnScope ["formula", "bits", "work", "enclosures"] ["formula", "bits"] (defScope s_enclose) := ⟨rfl, rfl, rfl, by decide +kernel, rfl, by decide +kernel, by decide +kernel⟩
abbrev s_law_is_integer : Stmt := topS 111
theorem sc_law_is_integer : FnScope ["actual"] ["actual"] (defScope s_law_is_integer) := ⟨rfl, rfl, rfl, by decide +kernel, rfl, by decide +kernel, by decide +kernel⟩
abbrev s_law_cell : Stmt := topS 112
theorem sc_law_cell : FnScope ["script", "k"] ["script", "k"] (defScope s_law_cell) := ⟨rfl, rfl, rfl, by decide +kernel, rfl, by decide +kernel, by decide +kernel⟩
abbrev s_law_rich : Stmt := topS 113
theorem sc_law_rich : FnScope ["cell", "mixed"] ["cell"] (defScope s_law_rich) := ⟨rfl, rfl, rfl, by decide +kernel, rfl, by decide +kernel, by decide +kernel⟩
abbrev s_law_isqrt : Stmt := topS 114
theorem sc_law_isqrt : FnScope ["figure", "root", "k", "better"] ["figure"] (defScope s_law_isqrt) := ⟨rfl, rfl, rfl, by decide +kernel, rfl, by decide +kernel, by decide +kernel⟩
abbrev s_law_atan_sum : Stmt := topS 115
theorem sc_law_atan_sum : FnScope ["p", "q", "b", "power", "total", "k"] ["p", "q", "b"] (defScope s_law_atan_sum) := ⟨rfl, rfl, rfl, by decide +kernel, rfl, by decide +kernel, by decide +kernel⟩
abbrev s_law_pi : Stmt := topS 116
theorem sc_law_pi : FnScope ["b"] ["b"] (defScope s_law_pi) := ⟨rfl, rfl, rfl, by decide +kernel, rfl, by decide +kernel, by decide +kernel⟩
abbrev s_law_terms : Stmt := topS 117
theorem sc_law_terms : FnScope ["x", "b", "wide", "parts", "term", "k", "part"] ["x", "b"] (defScope s_law_terms) := ⟨rfl, rfl, rfl, by decide +kernel, rfl, by decide +kernel, by decide +kernel⟩
abbrev s_law_sine : Stmt := topS 118
theorem sc_law_sine : FnScope ["x", "b", "parts"] ["x", "b"] (defScope s_law_sine) := ⟨rfl, rfl, rfl, by decide +kernel, rfl, by decide +kernel, by decide +kernel⟩
abbrev s_law_cosine : Stmt := topS 119
theorem sc_law_cosine : FnScope ["x", "b", "parts"] ["x", "b"] (defScope s_law_cosine) := ⟨rfl, rfl, rfl, by decide +kernel, rfl, by decide +kernel, by decide +kernel⟩
abbrev s_law_exp : Stmt := topS 120
theorem sc_law_exp : FnScope ["x", "b"] ["x", "b"] (defScope s_law_exp) := ⟨rfl, rfl, rfl, by decide +kernel, rfl, by decide +kernel, by decide +kernel⟩
abbrev s_law_log : Stmt := topS 121
theorem sc_law_log : FnScope ["x", "b", "turns", "wide", "one", "total"] ["x", "b"] (defScope s_law_log) := ⟨rfl, rfl, rfl, by decide +kernel, rfl, by decide +kernel, by decide +kernel⟩
abbrev s_law_artanh : Stmt := topS 122
theorem sc_law_artanh : FnScope ["p", "q", "b", "sign", "power", "total", "k"] ["p", "q", "b"] (defScope s_law_artanh) := ⟨rfl, rfl, rfl, by decide +kernel, rfl, by decide +kernel, by decide +kernel⟩
abbrev s_law_atan : Stmt := topS 123
theorem sc_law_atan : FnScope ["x", "b", "wide", "one", "y", "turned", "k", "angle"] ["x", "b"] (defScope s_law_atan) := ⟨rfl, rfl, rfl, by decide +kernel, rfl, by decide +kernel, by decide +kernel⟩
abbrev s_law_asin : Stmt := topS 124
theorem sc_law_asin : FnScope ["x", "b", "rest", "root"] ["x", "b"] (defScope s_law_asin) := ⟨rfl, rfl, rfl, by decide +kernel, rfl, by decide +kernel, by decide +kernel⟩
abbrev s_law_fits : Stmt := topS 125
theorem sc_law_fits : FnScope ["found", "bits", "value", "b", "slack", "shift"] ["found", "bits", "value", "b"] (defScope s_law_fits) := ⟨rfl, rfl, rfl, by decide +kernel, rfl, by decide +kernel, by decide +kernel⟩
abbrev s_law : Stmt := topS 126
theorem sc_law : FnScope ["script", "head", "bits", "b", "pi", "angle", "p", "q", "formulas", "due", "k"] ["script"] (defScope s_law) := ⟨rfl, rfl, rfl, by decide +kernel, rfl, by decide +kernel, by decide +kernel⟩
section
variable {P : Program} {w : World} {K : PySem.W.Frag} {mg : Str → Option Value} {base : Heap}
/-! ### steps and formulas: tuples in the heap, or the program's own -/
def StK (K : PySem.W.Frag) (H : Hp) (v : V) (s : FStep) : Prop := ∃ p, v = .ref p ∧ SqT K H p (stV s)
def StsK (K : PySem.W.Frag) (H : Hp) (vs : List V) (ss : List FStep) : Prop := vs.length = ss.length ∧ ∀ (i : Nat) v s, vs[i]? = some v → ss[i]? = some s → StK K H v s
theorem StK.mono {H H' : Hp} {v : V} {s : FStep} (e : Ex H H') (h : StK K H v s) : StK K H' v s := by
  obtain ⟨p, rfl, h⟩ := h
  exact ⟨p, rfl, ex_t e h⟩
theorem StsK.mono {H H' : Hp} {vs : List V} {ss : List FStep} (e : Ex H H') (h : StsK K H vs ss) : StsK K H' vs ss := ⟨h.1, fun i v s a b => (h.2 i v s a b).mono e⟩
theorem StK.of {H : Hp} {v : V} {s : FStep} (h : StepAt H v s) : StK K H v s := by
  obtain ⟨p, rfl, h⟩ := h
  exact ⟨p, rfl, st_of h⟩
theorem StsK.of {H : Hp} {vs : List V} {ss : List FStep} (h : StepsAt H vs ss) : StsK K H vs ss := ⟨h.1, fun i v s a b => .of (h.2 i v s a b)⟩
theorem StsK.nil {H : Hp} : StsK K H [] [] := ⟨rfl, fun i v s h _ => by simp at h⟩
theorem StsK.app {H : Hp} {vs ws : List V} {ss ts : List FStep} (h1 : StsK K H vs ss) (h2 : StsK K H ws ts) : StsK K H (vs ++ ws) (ss ++ ts) := by
  refine ⟨by rw [List.length_append, List.length_append, h1.1, h2.1], fun i v s a b => ?_⟩
  by_cases hi : i < vs.length
  · rw [List.getElem?_append_left hi] at a
    rw [List.getElem?_append_left (by rw [← h1.1]; exact hi)] at b
    exact h1.2 i v s a b
  · rw [List.getElem?_append_right (by omega)] at a
    rw [List.getElem?_append_right (by have := h1.1; omega)] at b
    rw [← h1.1] at b
    exact h2.2 _ v s a b
theorem StsK.one {H : Hp} {v : V} {s : FStep} (h : StK K H v s) : StsK K H [v] [s] := ⟨rfl, fun i x y a b => by
  cases i with
  | zero =>
    cases Option.some.inj a
    cases Option.some.inj b
    exact h
  | succ i => simp at a⟩
theorem StsK.get {H : Hp} {vs : List V} {ss : List FStep} {v : V} (h : StsK K H vs ss) {i : Nat} (hi : vs[i]? = some v) : ∃ s, ss[i]? = some s ∧ StK K H v s := by
  have h1 : i < ss.length := by
    rw [← h.1]
    exact (List.getElem?_eq_some_iff.mp hi).1
  exact ⟨ss[i], List.getElem?_eq_getElem h1, h.2 i v _ hi (List.getElem?_eq_getElem h1)⟩
/-- the heap but for some addresses -/
def Keep (H H' : Hp) (ps : List Addr) : Prop := ∀ p o, p ∉ ps → H p = some o → H' p = some o
theorem sqT_keep {H H' : Hp} {ps : List Addr} {a : Addr} {xs : List V} (e : Keep H H' ps) (hp : ∀ p ∈ ps, (∀ ys, H p ≠ some (.tup ys)) ∧ ∀ o u, H p ≠ some (.frz o u)) (h : SqT K H a xs) : SqT K H' a xs := by
  rcases h with (h | ⟨o, h⟩) | h
  · exact .inl (.inl (e a _ (fun z => (hp a z).1 _ h) h))
  · exact .inl (.inr ⟨o, e a _ (fun z => (hp a z).2 _ _ h) h⟩)
  · exact .inr h
theorem StK.keep {H H' : Hp} {ps : List Addr} {v : V} {s : FStep} (e : Keep H H' ps) (hp : ∀ p ∈ ps, (∀ ys, H p ≠ some (.tup ys)) ∧ ∀ o u, H p ≠ some (.frz o u)) (h : StK K H v s) : StK K H' v s := by
  obtain ⟨p, rfl, h⟩ := h
  exact ⟨p, rfl, sqT_keep e hp h⟩
theorem StsK.keep {H H' : Hp} {ps : List Addr} {vs : List V} {ss : List FStep} (e : Keep H H' ps) (hp : ∀ p ∈ ps, (∀ ys, H p ≠ some (.tup ys)) ∧ ∀ o u, H p ≠ some (.frz o u)) (h : StsK K H vs ss) : StsK K H' vs ss := ⟨h.1, fun i v s a b => (h.2 i v s a b).keep e hp⟩
theorem notT_lst {H : Hp} {p : Addr} {xs : List V} (h : H p = some (.lst xs)) : (∀ ys, H p ≠ some (.tup ys)) ∧ ∀ o u, H p ≠ some (.frz o u) := ⟨fun ys z => (by rw [h] at z; cases z), fun o u z => (by rw [h] at z; cases z)⟩
theorem notT_dx {H : Hp} {p a : Addr} {kvs : Dx.KX} (h : H p = some (Dx.DxO P w a kvs)) : (∀ ys, H p ≠ some (.tup ys)) ∧ ∀ o u, H p ≠ some (.frz o u) := ⟨fun ys z => (by rw [h] at z; cases z), fun o u z => (by rw [h] at z; cases z)⟩
theorem keep_upd {H : Hp} {p : Addr} {o : HO} : Keep H (upd H p o) [p] := fun a u hn h => by rw [upd_ne (fun z => hn (by rw [z]; exact List.mem_singleton.mpr rfl))]; exact h
def nats (ps : List Nat) : List V := ps.map fun p : Nat => V.int ((p : Nat) : Int)
theorem nats_at {ps : List Nat} {i : Int} (h0 : 0 ≤ i) (h1 : i < (ps.length : Int)) : atI (nats ps) i = some (.int (ps.getD i.toNat 0 : Nat)) := by
  obtain ⟨j, rfl⟩ := Int.eq_ofNat_of_zero_le h0
  refine atI_nat ?_
  have hj : j < ps.length := by omega
  unfold nats
  rw [List.getElem?_map, List.getElem?_eq_getElem hj, Int.toNat_natCast, List.getD_eq_getElem?_getD, List.getElem?_eq_getElem hj]
  rfl
theorem rc_lenTK {Hh : Hp} {p : Addr} {xs : List V} (h : SqT K Hh p xs) : RC (fun xs H Q => ∃ x n, xs = [x] ∧ LenV K x H n ∧ Q (.int n) H) [.ref p] Hh (.int (xs.length : Int)) := fun H1 e _ q => ⟨.ref p, (_ : Nat), rfl, .inr ⟨_, ex_t e h, rfl⟩, q H1 (Ex.refl H1)⟩
/-- moved: the indexes are replaced by what a list of ints tells -/
def spMv (K : PySem.W.Frag) : Sp := fun vs H Q _ => ∃ (v : V) (st : FStep) (pl : Addr) (us : List V) (f : Nat → Nat) (n : Nat), vs = [v, .ref pl] ∧ StK K H v st ∧ OkStep n st ∧ SqL K H pl us ∧ (∀ i : Int, 0 ≤ i → i < (n : Int) → atI us i = some (.int ((f i.toNat : Nat) : Int))) ∧ ∀ v' H2, Ex H H2 → StK K H2 v' (ren f st) → Q v' H2
theorem ok_moved {f : Addr} {fd : FuncData} (F : Fun K "moved" "moved" s_moved f fd) (m_len : mg "len" = none) : FnOk P w K mg base CX0 1 f fd ["step", "places"] (spMv K) := by
  refine F.ok sc_moved (fun vs H Q E h => ?_) (fun cdv A outer s H vs Q E hr h => ?_)
  · obtain ⟨v, st, pl, us, g, n, rfl, _⟩ := h
    rfl
  · obtain ⟨v, st, pl, us, g, n, rfl, hst, hok, hpl, hat, q⟩ := h
    obtain ⟨p, rfl, t_step⟩ := hst
    refine ⟨_, (pss_cons (ps_if (PW.pt (pw_or (pt_cmpR op_eq (pe_ix ix_tup (pv 0) pe_int (fun _ _ => rfl)) pe_str (nomark _)) (pw_or1 (pt_cmpR op_eq (pe_callB call_len (by rfl) m_len (by decide +kernel) (pa_cons (pv 0) pa_nil)) pe_int (nomark _))))) (pss_one (ps_ret (pv 0))) pss_nil)
        (pss_cons (ps_if (pt_cmpR op_eq (pe_callB call_len (by rfl) m_len (by decide +kernel) (pa_cons (pv 0) pa_nil)) pe_int (nomark _)) (pss_one (ps_ret (pe_tup (pa_cons (pe_ix ix_tup (pv 0) pe_int (fun _ _ => rfl)) (pa_cons (pe_ix ix_list (pv 1) (pe_ix ix_tup (pv 0) pe_int (fun _ _ => rfl)) (fun _ _ => rfl)) pa_nil))))) pss_nil)
        (pss_one (ps_ret (pe_tup (pa_cons (pe_ix ix_tup (pv 0) pe_int (fun _ _ => rfl)) (pa_cons (pe_ix ix_list (pv 1) (pe_ix ix_tup (pv 0) pe_int (fun _ _ => rfl)) (fun _ _ => rfl)) (pa_cons (pe_ix ix_list (pv 1) (pe_ix ix_tup (pv 0) pe_int (fun _ _ => rfl)) (fun _ _ => rfl)) pa_nil)))))))), ?_⟩
    rcases hok with ⟨p0, q0, rfl, h⟩ | rfl | ⟨x, i, j, hx, rfl, h1, h2⟩ | ⟨x, i, hx, rfl, h1⟩
    · refine q_when (b := true) (et_is (et_or (a := true) (b := true) (et_is (et_test (ev_op (ev_op (ev_var rfl) ev_c (rv_ixT t_step rfl)) ev_c (rv_eq rfl))) (decide_eq_true rfl)) (fun z => nomatch z)) rfl) (fun _ H4 e4 => ?_) (fun hb => nomatch hb)
      exact s_ret (ev_var rfl) fun H5 e5 => q _ _ (e4.trans e5) ⟨p, rfl, ex_t (e4.trans e5) t_step⟩
    · refine q_when (b := true) (et_is (et_or (a := false) (b := true) (et_is (et_test (ev_op (ev_op (ev_var rfl) ev_c (rv_ixT t_step rfl)) ev_c (rv_eq rfl))) (by decide +kernel)) (fun _ => (et_is (et_test (ev_op (ev_cb (ea_cons (ev_var rfl) ea_nil) (rc_lenTK t_step)) ev_c (rv_eq rfl))) rfl))) rfl) (fun _ H4 e4 => ?_) (fun hb => nomatch hb)
      exact s_ret (ev_var rfl) fun H5 e5 => q _ _ (e4.trans e5) ⟨p, rfl, ex_t (e4.trans e5) t_step⟩
    · have hnum : x ≠ "number" := fun z => absurd hx (by rw [z]; decide +kernel)
      refine q_when (b := false) (et_is (et_or (a := false) (b := false) (et_is (et_test (ev_op (ev_op (ev_var rfl) ev_c (rv_ixT t_step rfl)) ev_c (rv_eq rfl))) (decide_eq_false fun z => hnum (V.str.inj z))) (fun _ => (et_is (et_test (ev_op (ev_cb (ea_cons (ev_var rfl) ea_nil) (rc_lenTK t_step)) ev_c (rv_eq rfl))) rfl))) rfl) (fun hb => nomatch hb) (fun _ H4 e4 => ?_)
      replace t_step := ex_t e4 t_step
      refine q_when (b := false) (et_is (et_test (ev_op (ev_cb (ea_cons (ev_var rfl) ea_nil) (rc_lenTK t_step)) ev_c (rv_eq rfl))) rfl) (fun hb => nomatch hb) (fun _ H5 e5 => ?_)
      replace t_step := ex_t e5 t_step
      replace hpl := ex_l (e4.trans e5) hpl
      refine s_retU (eu_tup (ea_cons (ev_op (ev_var rfl) ev_c (rv_ixT t_step rfl)) (ea_cons (ev_op (ev_var rfl) (ev_op (ev_var rfl) ev_c (rv_ixT t_step rfl)) (rv_ixL hpl (hat _ h1.1 h1.2))) (ea_cons (ev_op (ev_var rfl) (ev_op (ev_var rfl) ev_c (rv_ixT t_step rfl)) (rv_ixL hpl (hat _ h2.1 h2.2))) ea_nil))) (show 3 ≤ 100000 by decide)) fun a H6 na e6 ha => q _ _ ((e4.trans e5).trans e6) ⟨a, rfl, st_of ?_⟩
      rw [ha]
      unfold ren stV
      rw [if_neg hnum]
      rfl
    · have hnum : x ≠ "number" := fun z => absurd hx (by rw [z]; decide +kernel)
      refine q_when (b := false) (et_is (et_or (a := false) (b := false) (et_is (et_test (ev_op (ev_op (ev_var rfl) ev_c (rv_ixT t_step rfl)) ev_c (rv_eq rfl))) (decide_eq_false fun z => hnum (V.str.inj z))) (fun _ => (et_is (et_test (ev_op (ev_cb (ea_cons (ev_var rfl) ea_nil) (rc_lenTK t_step)) ev_c (rv_eq rfl))) rfl))) rfl) (fun hb => nomatch hb) (fun _ H4 e4 => ?_)
      replace t_step := ex_t e4 t_step
      refine q_when (b := true) (et_is (et_test (ev_op (ev_cb (ea_cons (ev_var rfl) ea_nil) (rc_lenTK t_step)) ev_c (rv_eq rfl))) rfl) (fun _ H5 e5 => ?_) (fun hb => nomatch hb)
      replace t_step := ex_t e5 t_step
      replace hpl := ex_l (e4.trans e5) hpl
      refine s_retU (eu_tup (ea_cons (ev_op (ev_var rfl) ev_c (rv_ixT t_step rfl)) (ea_cons (ev_op (ev_var rfl) (ev_op (ev_var rfl) ev_c (rv_ixT t_step rfl)) (rv_ixL hpl (hat _ h1.1 h1.2))) ea_nil)) (show 2 ≤ 100000 by decide)) fun a H6 na e6 ha => q _ _ ((e4.trans e5).trans e6) ⟨a, rfl, st_of ?_⟩
      rw [ha]
      unfold ren stV
      rw [if_neg hnum]
      rfl
/-! ### each step once -/
def keyS (s : FStep) : List L2.Key := .inr s.1 :: s.2.map .inl
theorem keyS_v (s : FStep) : (keyS s).map kV = stV s := by
  unfold keyS stV
  rw [List.map_cons, List.map_map]
  rfl
theorem keyS_inj {s t : FStep} (h : keyS s = keyS t) : s = t := by
  unfold keyS at h
  have h1 := Sum.inr.inj (List.cons.inj h).1
  have h2 : s.2 = t.2 := by
    have := (List.cons.inj h).2
    have e : ∀ {l m : List Int}, l.map (Sum.inl : Int → L2.Key) = m.map Sum.inl → l = m := by
      intro l
      induction l with
      | nil =>
        intro m h
        cases m with
        | nil => rfl
        | cons b m => simp at h
      | cons a l ih =>
        intro m h
        cases m with
        | nil => simp at h
        | cons b m =>
          rw [List.map_cons, List.map_cons] at h
          rw [Sum.inl.inj (List.cons.inj h).1, ih (List.cons.inj h).2]
    exact e this
  exact Prod.ext h1 h2
section
variable {σ : L2.St} {H : Hp} {tx td te : TE} {v : V} {a b : Addr} {kvs : Dx.KX} {k : List L2.Key}
theorem et_notX (hx : Ev tx σ H (.ref b)) (hd : Ev td σ H (.ref a)) (D : Dx.DX P w K H a kvs) (hb : SqT K H b (k.map kV)) : EvT (tB (Dx.tNotInX P w K tx td)) σ H (!(Dx.valX kvs k).isSome) := fun H1 e Q q =>
  hx H1 e _ fun H2 e2 => hd H2 (e.trans e2) _ fun H3 e3 => ⟨a, b, kvs, k, rfl, rfl, D.mono ((e.trans e2).trans e3), ex_t ((e.trans e2).trans e3) hb, _, rfl, q H3 (e2.trans e3)⟩
theorem ev_getX (hd : Ev td σ H (.ref a)) (hx : Ev tx σ H (.ref b)) (D : Dx.DX P w K H a kvs) (hb : SqT K H b (k.map kV)) (hv : Dx.valX kvs k = some v) : Ev (Dx.tGetX P w K td tx) σ H v := fun H1 e Q q =>
  hd H1 e _ fun H2 e2 => hx H2 (e.trans e2) _ fun H3 e3 => ⟨a, b, kvs, k, v, rfl, rfl, D.mono ((e.trans e2).trans e3), ex_t ((e.trans e2).trans e3) hb, hv, q H3 (e2.trans e3)⟩
theorem q_setX {D : Ends} {tz : TS} (dx : Dx.DX P w K H a kvs) (hb : SqT K H b (k.map kV)) (hv : Dx.valX kvs k = none) (hl : kvs.length < sizeLine) (h : Ev te σ H v) (h1 : Ev td σ H (.ref a)) (h2 : Ev tx σ H (.ref b))
    (q : ∀ H1, Ex H H1 → tz D σ (upd H1 a (Dx.DxO P w a (kvs ++ [(k, b, v)])))) : tSeq (tAsg te (gSub td tx (Dx.rSetX P w K))) tz D σ H := h H (Ex.refl H) _ fun H1 e1 => h1 H1 e1 _ fun H2 e2 => h2 H2 (e1.trans e2) _ fun H3 e3 =>
  ⟨a, _, rfl, ⟨kvs, k, b, rfl, dx.mono ((e1.trans e2).trans e3), ex_t ((e1.trans e2).trans e3) hb, hv, hl, rfl⟩, q H3 ((e1.trans e2).trans e3)⟩
end
/-- the dict of the steps kept so far -/
def DictK (P : Program) (w : World) (K : PySem.W.Frag) (H : Hp) (dp : Addr) (A : List FStep) : Prop := ∃ kvs, Dx.DX P w K H dp kvs ∧ kvs.length = A.length ∧ ∀ s, Dx.valX kvs (keyS s) = if s ∈ A then some (.int (A.idxOf s : Nat)) else none
theorem DictK.mono {H H1 : Hp} {dp : Addr} {A : List FStep} (e : Ex H H1) (D : DictK P w K H dp A) : DictK P w K H1 dp A := by
  obtain ⟨kvs, d1, d2, d3⟩ := D
  exact ⟨kvs, d1.mono e, d2, d3⟩
theorem DictK.keep {H H1 : Hp} {dp : Addr} {ps : List Addr} {A : List FStep} (e : Keep H H1 ps) (hp : ∀ p ∈ ps, (∀ ys, H p ≠ some (.tup ys)) ∧ ∀ o u, H p ≠ some (.frz o u)) (hn : dp ∉ ps) (D : DictK P w K H dp A) : DictK P w K H1 dp A := by
  obtain ⟨kvs, d1, d2, d3⟩ := D
  exact ⟨kvs, ⟨e _ _ hn d1.self, fun x hx => sqT_keep e hp (d1.keys x hx)⟩, d2, d3⟩
theorem idx_snoc {A : List FStep} {s t : FStep} (h : s ∉ A) : (if t ∈ A ++ [s] then some (V.int ((A ++ [s]).idxOf t : Nat)) else none) = if keyS t = keyS s then some (V.int (A.length : Nat)) else if t ∈ A then some (V.int (A.idxOf t : Nat)) else none := by
  by_cases e : t = s
  · subst e
    rw [if_pos rfl, if_pos (by simp), List.idxOf_append, if_neg h]
    simp
  · rw [if_neg (fun z => e (keyS_inj z))]
    by_cases hm : t ∈ A
    · rw [if_pos hm, if_pos (List.mem_append_left _ hm), List.idxOf_append, if_pos hm]
    · rw [if_neg hm, if_neg (by
        intro z
        rcases List.mem_append.mp z with z | z
        · exact hm z
        · exact e (List.mem_singleton.mp z))]
theorem valX_snoc {kvs : Dx.KX} {k k2 : List L2.Key} {b : Addr} {v : V} (h : Dx.valX kvs k = none) : Dx.valX (kvs ++ [(k, b, v)]) k2 = if k2 = k then some v else Dx.valX kvs k2 := by
  unfold Dx.valX at h ⊢
  rw [List.find?_append]
  by_cases e : k2 = k
  · subst e
    rw [if_pos rfl]
    rw [Option.map_eq_none_iff.mp h]
    simp
  · rw [if_neg e]
    have e2 : ¬ k = k2 := fun z => e z.symm
    cases hf : kvs.find? fun e => decide (e.1 = k2) with
    | none => simp [e2]
    | some x => simp
theorem DictK.put {H H1 : Hp} {dp b : Addr} {A : List FStep} {s : FStep} {kvs : Dx.KX} (d : Dx.DX P w K H dp kvs) (hl : kvs.length = A.length) (hv : ∀ s, Dx.valX kvs (keyS s) = if s ∈ A then some (.int (A.idxOf s : Nat)) else none) (hb : SqT K H b (stV s)) (hs : s ∉ A) (e : Ex H H1) :
    DictK P w K (upd H1 dp (Dx.DxO P w dp (kvs ++ [(keyS s, b, .int (A.length : Nat))]))) dp (A ++ [s]) := by
  have nT : ∀ p ∈ [dp], (∀ ys, H1 p ≠ some (.tup ys)) ∧ ∀ o u, H1 p ≠ some (.frz o u) := fun p hp => by
    rw [List.mem_singleton.mp hp]
    exact notT_dx (e _ _ d.self)
  have vn : Dx.valX kvs (keyS s) = none := by rw [hv s, if_neg hs]
  refine ⟨_, ⟨upd_same, fun x hx => ?_⟩, by rw [List.length_append, List.length_append, hl]; rfl, fun t => ?_⟩
  · rcases List.mem_append.mp hx with hx | hx
    · exact sqT_keep keep_upd nT (ex_t e (d.keys x hx))
    · rw [List.mem_singleton.mp hx]
      refine sqT_keep keep_upd nT (ex_t e ?_)
      show SqT K H b ((keyS s).map kV)
      rw [keyS_v]
      exact hb
  · rw [valX_snoc vn, hv t, idx_snoc hs]
theorem DictK.empty {H : Hp} {dp : Addr} (h : H dp = some (Dx.DxO P w dp [])) : DictK P w K H dp [] := ⟨[], ⟨h, fun x hx => by cases hx⟩, rfl, fun s => by
  rw [if_neg (by simp)]
  rfl⟩
/-- the list, the dict and the places, behind some steps -/
structure MgAt (P : Program) (w : World) (K : PySem.W.Frag) (H H' : Hp) (kp dp pl : Addr) (A : List FStep) (B : List Nat) : Prop where
  ex : Keep H H' [kp, dp, pl]
  kept : ∃ us, H' kp = some (.lst us) ∧ StsK K H' us A
  dict : DictK P w K H' dp A
  places : H' pl = some (.lst (nats B))
theorem MgAt.mono {H H1 H2 : Hp} {kp dp pl : Addr} {A : List FStep} {B : List Nat} (M : MgAt P w K H H1 kp dp pl A B) (e : Ex H1 H2) : MgAt P w K H H2 kp dp pl A B := by
  obtain ⟨us, h1, h2⟩ := M.kept
  exact ⟨fun p o a h => e _ _ (M.ex p o a h), ⟨us, e _ _ h1, h2.mono e⟩, M.dict.mono e, e _ _ M.places⟩
theorem MgAt.place {H H1 H2 : Hp} {kp dp pl : Addr} {A : List FStep} {B : List Nat} {n : Nat} (M : MgAt P w K H H1 kp dp pl A B) (e : Ex H1 H2) (h1 : pl ≠ kp) (h2 : pl ≠ dp) : MgAt P w K H (upd H2 pl (.lst (nats B ++ [.int (n : Nat)]))) kp dp pl A (B ++ [n]) := by
  have M2 := M.mono e
  have nP : ∀ p ∈ [pl], (∀ ys, H2 p ≠ some (.tup ys)) ∧ ∀ o u, H2 p ≠ some (.frz o u) := fun p hp => by
    rw [List.mem_singleton.mp hp]
    exact notT_lst M2.places
  obtain ⟨us, k1, k2⟩ := M2.kept
  refine ⟨fun p o a h => ?_, ⟨us, ?_, k2.keep keep_upd nP⟩, M2.dict.keep keep_upd nP (fun z => h2 (List.mem_singleton.mp z).symm), ?_⟩
  · rw [upd_ne (fun z => a (by rw [z]; simp))]
    exact M2.ex p o a h
  · rw [upd_ne (fun z => h1 z.symm)]
    exact k1
  · rw [upd_same]
    unfold nats
    rw [List.map_append]
    rfl
/-- a new step is put into the dict and the list -/
theorem MgAt.put {H H1 H2 H3 : Hp} {kp dp pl b : Addr} {A : List FStep} {B : List Nat} {s : FStep} {us : List V} {kvs : Dx.KX} (M : MgAt P w K H H1 kp dp pl A B) (hk : H1 kp = some (.lst us)) (hd : Dx.DX P w K H1 dp kvs) (d2 : kvs.length = A.length) (d3 : ∀ s, Dx.valX kvs (keyS s) = if s ∈ A then some (.int (A.idxOf s : Nat)) else none) (hb : SqT K H1 b (stV s)) (hs : s ∉ A)
    (e2 : Ex H1 H2) (e3 : Ex (upd H2 dp (Dx.DxO P w dp (kvs ++ [(keyS s, b, .int (A.length : Nat))]))) H3) (h1 : pl ≠ kp) (h2 : pl ≠ dp) : MgAt P w K H (upd H3 kp (.lst (us ++ [.ref b]))) kp dp pl (A ++ [s]) B := by
  obtain ⟨us', k1, k2⟩ := M.kept
  cases k1.symm.trans hk
  have nkd : kp ≠ dp := fun z => by rw [z, hd.self] at hk; cases hk
  have nD : ∀ p ∈ [dp], (∀ ys, H2 p ≠ some (.tup ys)) ∧ ∀ o u, H2 p ≠ some (.frz o u) := fun p hp => by
    rw [List.mem_singleton.mp hp]
    exact notT_dx (e2 _ _ hd.self)
  have kp3 : H3 kp = some (.lst us) := e3 _ _ (by rw [upd_ne nkd]; exact e2 _ _ hk)
  have nK : ∀ p ∈ [kp], (∀ ys, H3 p ≠ some (.tup ys)) ∧ ∀ o u, H3 p ≠ some (.frz o u) := fun p hp => by
    rw [List.mem_singleton.mp hp]
    exact notT_lst kp3
  have hb2 : SqT K (upd H2 dp (Dx.DxO P w dp (kvs ++ [(keyS s, b, .int (A.length : Nat))]))) b (stV s) := sqT_keep keep_upd nD (ex_t e2 hb)
  refine ⟨fun p o a h => ?_, ⟨_, upd_same, ?_⟩, ?_, ?_⟩
  · rw [upd_ne (fun z => a (by rw [z]; simp))]
    refine e3 _ _ ?_
    rw [upd_ne (fun z => a (by rw [z]; simp))]
    exact e2 _ _ (M.ex p o a h)
  · refine StsK.app ((((k2.mono e2).keep keep_upd nD).mono e3).keep keep_upd nK) (.one ⟨b, rfl, sqT_keep keep_upd nK (ex_t e3 hb2)⟩)
  · exact ((DictK.put hd d2 d3 hb hs e2).mono e3).keep keep_upd nK (fun z => nkd (List.mem_singleton.mp z).symm)
  · rw [upd_ne h1]
    refine e3 _ _ ?_
    rw [upd_ne h2]
    exact e2 _ _ M.places
theorem mstep_of (A : List FStep) (B : List Nat) (s : FStep) : mstep (A, B) s = if ren (fun i => B.getD i 0) s ∈ A then (A, B ++ [A.idxOf (ren (fun i => B.getD i 0) s)]) else (A ++ [ren (fun i => B.getD i 0) s], B ++ [A.length]) := rfl
theorem mfold_len (A0 : List FStep) (ff : List FStep) : ∀ i, i ≤ ff.length → ((ff.take i).foldl mstep (A0, [])).2.length = i ∧ ((ff.take i).foldl mstep (A0, [])).1.length ≤ A0.length + i
  | 0, _ => ⟨rfl, Nat.le_refl _⟩
  | i + 1, h => by
    obtain ⟨h1, h2⟩ := mfold_len A0 ff i (by omega)
    have e : ff.take (i + 1) = ff.take i ++ [ff[i]] := by rw [List.take_succ, List.getElem?_eq_getElem (by omega)]; rfl
    rw [e, List.foldl_append]
    generalize (ff.take i).foldl mstep (A0, []) = acc at h1 h2
    obtain ⟨A, B⟩ := acc
    show (mstep (A, B) ff[i]).2.length = i + 1 ∧ (mstep (A, B) ff[i]).1.length ≤ _
    rw [mstep_of]
    simp only at h1 h2
    split
    · simp only [List.length_append, List.length_cons, List.length_nil]
      omega
    · simp only [List.length_append, List.length_cons, List.length_nil]
      omega
def spMergeInto (P : Program) (w : World) (K : PySem.W.Frag) : Sp := fun vs H Q _ => ∃ (kp dp fa : Addr) (us fs : List V) (A0 ff : List FStep), vs = [.ref kp, .ref dp, .ref fa] ∧ H kp = some (.lst us) ∧ StsK K H us A0 ∧ DictK P w K H dp A0 ∧ SqT K H fa fs ∧ StsK K H fs ff ∧ OkForm ff ∧ A0.length + ff.length ≤ 1000 ∧
  ∀ pl H2, H pl = none → MgAt P w K H H2 kp dp pl (ff.foldl mstep (A0, [])).1 (ff.foldl mstep (A0, [])).2 → Q (.ref pl) H2
theorem ok_mergeinto {f f0 : Addr} {fd fd0 : FuncData} (F : Fun K "merged_into" "merged_into" s_merged_into f fd) (F_moved : Fun K "moved" "moved" s_moved f0 fd0) (b_moved : Binds K fd0 ["step", "places"] []) (g_moved : mg "moved" = some (.ref f0)) (m_len : mg "len" = none) : FnOk P w K mg base CX0 2 f fd ["kept", "place_of", "formula"] (spMergeInto P w K) := by
  have G_moved : FnOk P w K mg base CX0 1 f0 fd0 ["step", "places"] (spMv K) := ok_moved F_moved m_len
  refine F.ok sc_merged_into (fun vs H Q E h => ?_) (fun cdv A outer s H vs Q E hr h => ?_)
  · obtain ⟨kp, dp, fa, us, fs, A0, ff, rfl, _⟩ := h
    rfl
  · obtain ⟨kp, dp, fa, us0, fs, A0, ff, rfl, hk, hsk, hd, hf, hfs, hok, hl, q⟩ := h
    refine ⟨_, (pss_cons (ps_set (i := 3) sc_merged_into.nd rfl (.inl rfl) (pe_lst pa_nil))
        (pss_cons (ps_for PassesOwn.never rfl (pi_tup (pv 2)) (pg_name (i := 4) sc_merged_into.nd rfl (.inl rfl)) (pss_cons (ps_set (i := 5) sc_merged_into.nd rfl (.inl rfl) (pe_call G_moved (hr.mono (by decide)) (by rfl) g_moved F_moved.kp b_moved .nil pass0 (pa_cons (pv 4) (pa_cons (pv 3) pa_nil))))
        (pss_cons (ps_if (pt_cmp (Dx.pc_notinX (hu_of hr) (pv 5) (pv 1))) (pss_cons (ps_asg (pe_callB call_len (by rfl) m_len (by decide +kernel) (pa_cons (pv 0) pa_nil)) (pg_sub (pv 1) (pv 5) (Dx.set_X (hu_of hr))))
        (pss_one (ps_expr (pe_bm PySem.F.plainAttrs_list PySem.F.slot_list_append PySem.F.type_list_append mt_append (pv 0) (pa_cons (pv 5) pa_nil))))) pss_nil)
        (pss_one (ps_expr (pe_bm PySem.F.plainAttrs_list PySem.F.slot_list_append PySem.F.type_list_append mt_append (pv 3) (pa_cons (Dx.pe_getX (hu_of hr) (pv 1) (pv 5) (fun _ _ => rfl)) pa_nil)))))))
        (pss_one (ps_ret (pv 3))))), ?_⟩
    obtain ⟨kv0, dx0, dx1, dx2⟩ := id hd
    refine q_asgL (el_lst ea_nil (show 0 ≤ 100000 by decide)) fun pl H1 npl e1 hpl => ?_
    refine st_is (σ' := [_, _, _, _, _, _]) rfl ?_
    have n1 : pl ≠ kp := fun z => by rw [z, hk] at npl; cases npl
    have n2 : pl ≠ dp := fun z => by rw [z, dx0.self] at npl; cases npl
    have nkd0 : kp ≠ dp := fun z => by rw [z, dx0.self] at hk; cases hk
    have nTs : ∀ p ∈ [kp, dp, pl], (∀ ys, H p ≠ some (.tup ys)) ∧ ∀ o u, H p ≠ some (.frz o u) := fun p hp => by
      simp only [List.mem_cons, List.not_mem_nil, or_false] at hp
      rcases hp with rfl | rfl | rfl
      · exact notT_lst hk
      · exact notT_dx dx0.self
      · exact ⟨fun ys z => (by rw [npl] at z; cases z), fun o u z => (by rw [npl] at z; cases z)⟩
    refine q_forT (ev_var rfl) (ex_t e1 hf) (fun i σ' H' => ∃ x4 x5, σ' = [some (.ref kp), some (.ref dp), some (.ref fa), some (.ref pl), x4, x5] ∧ MgAt P w K H H' kp dp pl ((ff.take i).foldl mstep (A0, [])).1 ((ff.take i).foldl mstep (A0, [])).2)
      (fun H2 e2 => ⟨_, _, rfl, ⟨fun p o a h => (e1.trans e2) _ _ h, ⟨us0, (e1.trans e2) _ _ hk, hsk.mono (e1.trans e2)⟩, hd.mono (e1.trans e2), e2 _ _ hpl⟩⟩) (fun i σ' H' _ pp => ?_) (fun i x σ' H' hx pp => ?_) (fun σ' H' pp => ?_)
    · obtain ⟨x4, x5, _, M⟩ := pp
      exact sqT_keep M.ex nTs hf
    · obtain ⟨x4, x5, rfl, M⟩ := pp
      obtain ⟨st, hst, sat⟩ := hfs.get hx
      obtain ⟨p, rfl, sat⟩ := sat
      have sat2 : StK K H' (.ref p) st := ⟨p, rfl, sqT_keep M.ex nTs sat⟩
      have hi : i < ff.length := (List.getElem?_eq_some_iff.mp hst).1
      have next : (ff.take (i + 1)).foldl mstep (A0, []) = mstep ((ff.take i).foldl mstep (A0, [])) st := by
        rw [List.take_add_one, hst]
        show (ff.take i ++ [st]).foldl mstep (A0, []) = _
        rw [List.foldl_append]
        rfl
      have hos := hok i st hst
      obtain ⟨hBl, hlen⟩ := mfold_len A0 ff i (Nat.le_of_lt hi)
      rw [next]
      generalize (ff.take i).foldl mstep (A0, []) = acc at M hBl hlen
      obtain ⟨A, B⟩ := acc
      rw [mstep_of]
      simp only at M hlen hBl
      show tSeq _ _ _ [some (.ref kp), some (.ref dp), some (.ref fa), some (.ref pl), some (.ref p), x5] H'
      refine q_asgP (fun v H2 => StK K H2 v (ren (fun i => B.getD i 0) st)) (fun Q1 k1 => ⟨_, rfl, _, rfl, .ref p, st, pl, nats B, (fun i => B.getD i 0), i, rfl, sat2, hos, sq_of M.places, fun j h0 h1 => nats_at h0 (by omega), fun v H2 e2 h2 => k1 v H2 e2 h2⟩) fun v H2 e2 hP => ?_
      obtain ⟨b, rfl, hb⟩ := hP
      refine st_is (σ' := [_, _, _, _, _, _]) rfl ?_
      generalize ren (fun i => B.getD i 0) st = fit at hb
      replace M := M.mono e2
      obtain ⟨us, k1, k2⟩ := M.kept
      obtain ⟨kvs, d1, d2, d3⟩ := M.dict
      -- behind the if
      have done : ∀ {A' : List FStep} {H3 : Hp}, MgAt P w K H H3 kp dp pl A' B → fit ∈ A' → SqT K H3 b (stV fit) → ∀ (Nx : L2.St → Hp → Prop), (∀ H4, MgAt P w K H H4 kp dp pl A' (B ++ [A'.idxOf fit]) → Nx [some (.ref kp), some (.ref dp), some (.ref fa), some (.ref pl), some (.ref p), some (.ref b)] H4) → ∀ D : Ends, D.nx = Nx →
          tDrop (tBM K "list" rAppend (tVar 3) (tCons (Dx.tGetX P w K (tVar 1) (tVar 5)) tNil)) D [some (.ref kp), some (.ref dp), some (.ref fa), some (.ref pl), some (.ref p), some (.ref b)] H3 := fun {A' H3} M3 hm hb3 Nx kN D hD => by
        obtain ⟨kv3, g1, g2, g3⟩ := M3.dict
        have gv := g3 fit
        rw [if_pos hm] at gv
        refine s_app M3.places (ev_var rfl) (v := .int (A'.idxOf fit : Nat)) (ev_getX (ev_var rfl) (ev_var rfl) g1 (k := keyS fit) (by rw [keyS_v]; exact hb3) gv) (by unfold nats; rw [List.length_map]; omega) fun H4 e4 => ?_
        rw [hD]
        exact kN _ (M3.place e4 n1 n2)
      by_cases hm : fit ∈ A
      · rw [if_pos hm]
        have dm := d3 fit
        rw [if_pos hm] at dm
        refine q_when (b := false) (et_is (et_notX (ev_var rfl) (ev_var rfl) d1 (k := keyS fit) (by rw [keyS_v]; exact hb)) (by rw [dm]; rfl)) (fun hb => nomatch hb) fun _ H3 e3 => ?_
        exact done (M.mono e3) hm (ex_t e3 hb) _ (fun H4 M4 => ⟨_, _, rfl, M4⟩) _ rfl
      · rw [if_neg hm]
        have dm := d3 fit
        rw [if_neg hm] at dm
        refine q_when (b := true) (et_is (et_notX (ev_var rfl) (ev_var rfl) d1 (k := keyS fit) (by rw [keyS_v]; exact hb)) (by rw [dm]; rfl)) (fun _ H3 e3 => ?_) (fun hb => nomatch hb)
        have hus : us.length = A.length := k2.1
        refine q_setX (k := keyS fit) (v := .int (A.length : Nat)) (d1.mono e3) (by rw [keyS_v]; exact ex_t e3 hb) dm (by rw [d2]; exact sz_lt (by omega)) (ev_is (ev_cb (ea_cons (ev_var rfl) ea_nil) (rc_lenL (sq_of (e3 _ _ k1)))) (congrArg (fun n : Nat => V.int (n : Int)) hus)) (ev_var rfl) (ev_var rfl) fun H4 e4 => ?_
        have nkd : kp ≠ dp := fun z => by rw [z, d1.self] at k1; cases k1
        have nD : ∀ p ∈ [dp], (∀ ys, H4 p ≠ some (.tup ys)) ∧ ∀ o u, H4 p ≠ some (.frz o u) := fun p hp => by
          rw [List.mem_singleton.mp hp]
          exact notT_dx (e4 _ _ (e3 _ _ d1.self))
        refine s_app (by rw [upd_ne nkd]; exact e4 _ _ (e3 _ _ k1)) (ev_var rfl) (v := .ref b) (ev_var rfl) (by omega) fun H5 e5 => ?_
        have M6 := (M.mono e3).put (e3 _ _ k1) (d1.mono e3) d2 d3 (ex_t e3 hb) hm e4 e5 n1 n2
        have ix : (A ++ [fit]).idxOf fit = A.length := by
          rw [List.idxOf_append, if_neg hm]
          simp
        have kp5 : H5 kp = some (.lst us) := e5 _ _ (by rw [upd_ne nkd]; exact e4 _ _ (e3 _ _ k1))
        have nK : ∀ p ∈ [kp], (∀ ys, H5 p ≠ some (.tup ys)) ∧ ∀ o u, H5 p ≠ some (.frz o u) := fun p hp => by
          rw [List.mem_singleton.mp hp]
          exact notT_lst kp5
        have hb6 : SqT K (upd H5 kp (.lst (us ++ [.ref b]))) b (stV fit) := sqT_keep keep_upd nK (ex_t e5 (sqT_keep keep_upd nD (ex_t (e3.trans e4) hb)))
        exact done M6 (by simp) hb6 _ (fun H7 M7 => ⟨_, _, rfl, ix ▸ M7⟩) _ rfl
    · obtain ⟨x4, x5, rfl, M⟩ := pp
      have el : fs.length = ff.length := hfs.1
      rw [el, List.take_length] at M
      exact s_ret (ev_var rfl) fun H3 e3 => q pl H3 npl (M.mono e3)
def spMerged (K : PySem.W.Frag) : Sp := fun vs H Q _ => ∃ (fa : Addr) (fs : List V) (ff : List FStep), vs = [.ref fa] ∧ SqT K H fa fs ∧ StsK K H fs ff ∧ OkForm ff ∧ ff.length ≤ 1000 ∧
  ∀ t kp pl us H2, H t = none → Ex H H2 → H2 t = some (.tup [.ref kp, .ref pl]) → H2 kp = some (.lst us) → StsK K H2 us (merge ff).1 → H2 pl = some (.lst (nats (merge ff).2)) → Q (.ref t) H2
theorem ok_merged {f f0 f1 : Addr} {fd fd0 fd1 : FuncData} (F : Fun K "merged" "merged" s_merged f fd) (F_moved : Fun K "moved" "moved" s_moved f0 fd0) (b_moved : Binds K fd0 ["step", "places"] []) (g_moved : mg "moved" = some (.ref f0))
    (F_merged_into : Fun K "merged_into" "merged_into" s_merged_into f1 fd1) (b_merged_into : Binds K fd1 ["kept", "place_of", "formula"] []) (g_merged_into : mg "merged_into" = some (.ref f1)) (m_len : mg "len" = none) : FnOk P w K mg base CX0 3 f fd ["formula"] (spMerged K) := by
  have G_merged_into : FnOk P w K mg base CX0 2 f1 fd1 ["kept", "place_of", "formula"] (spMergeInto P w K) := ok_mergeinto F_merged_into F_moved b_moved g_moved m_len
  refine F.ok sc_merged (fun vs H Q E h => ?_) (fun cdv A outer s H vs Q E hr h => ?_)
  · obtain ⟨fa, fs, ff, rfl, _⟩ := h
    rfl
  · obtain ⟨fa, fs, ff, rfl, hf, hfs, hok, hl, q⟩ := h
    refine ⟨_, (pss_cons (ps_set (i := 1) sc_merged.nd rfl (.inl rfl) (pe_lst pa_nil))
        (pss_cons (ps_set (i := 2) sc_merged.nd rfl (.inl rfl) (pe_call G_merged_into (hr.mono (by decide)) (by rfl) g_merged_into F_merged_into.kp b_merged_into .nil pass0 (pa_cons (pv 1) (pa_cons Dx.pe_newX (pa_cons (pv 0) pa_nil)))))
        (pss_one (ps_ret (pe_tup (pa_cons (pv 1) (pa_cons (pv 2) pa_nil))))))), ?_⟩
    refine q_asgL (el_lst ea_nil (show 0 ≤ 100000 by decide)) fun kp H1 nkp e1 hk => ?_
    refine st_is (σ' := [_, _, _]) rfl ?_
    refine ⟨_, rfl, fun dp hdp => ⟨_, rfl, kp, dp, fa, [], fs, [], ff, rfl, ?_, .nil, .empty upd_same, ex_t (e1.trans (Ex.new hdp)) hf, hfs.mono (e1.trans (Ex.new hdp)), hok, by simpa using hl, fun pl H2 npl M => ?_⟩⟩
    · exact ex_app (Ex.new hdp) hk
    · refine st_is (σ' := [_, _, _]) rfl ?_
      have e2 : Ex H (upd H1 dp (Dx.DxO P w dp [])) := e1.trans (Ex.new hdp)
      have e3 : Ex H H2 := fun p o h => M.ex p o (fun z => by
        simp only [List.mem_cons, List.not_mem_nil, or_false] at z
        rcases z with z | z | z
        · rw [z, nkp] at h; cases h
        · have := fresh_back e1 hdp
          rw [z, this] at h
          cases h
        · have := fresh_back e2 npl
          rw [z, this] at h
          cases h) (e2 _ _ h)
      obtain ⟨us, k1, k2⟩ := M.kept
      exact s_retU (eu_tup (ea_cons (ev_var rfl) (ea_cons (ev_var rfl) ea_nil)) (show 2 ≤ 100000 by decide)) fun t H3 nt e4 ht => q t kp pl us H3 (fresh_back e3 nt) (e3.trans e4) ht (e4 _ _ k1) (k2.mono e4) (e4 _ _ M.places)
/-! ### pi, by data -/
theorem lg40 {n : Int} {k : Nat} (h : n.natAbs < 2 ^ k) (hk : 0 < k ∧ k ≤ 9000) : n.natAbs.log2 < 9000 := Nat.lt_of_lt_of_le (lg h hk.1) hk.2
theorem tsum_fin {n w k : Nat} (hn : 2 ≤ n) (hk : k ≤ 1000) (h : 2 ^ w / n ^ (2 * k + 1) = 0) : Lp.tsum n w k = Lp.tsum n w 1000 := by
  have hp : 0 < n ^ (2 * k + 1) := Nat.pow_pos (by omega)
  have h2 : 2 ^ w < n ^ (2 * k + 1) := by
    rcases (Nat.div_eq_zero_iff).mp h with z | z
    · omega
    · exact z
  have e := Lp.tsum_stays (n := n) (w := w) (k0 := k) (by omega) h2 (1000 - k)
  rw [show k + (1000 - k) = 1000 by omega] at e
  exact e.symm
theorem pow_room {n w k : Nat} (hn : 2 ≤ n) (h : 2 ^ w / n ^ (2 * k + 1) ≠ 0) : 2 * k + 1 ≤ w := by
  refine Nat.le_of_not_lt fun z => h ?_
  refine Nat.div_eq_of_lt ?_
  have h1 : 2 ^ w < 2 ^ (2 * k + 1) := Nat.pow_lt_pow_right (by decide) z
  have h2 : 2 ^ (2 * k + 1) ≤ n ^ (2 * k + 1) := Nat.pow_le_pow_left hn _
  omega
theorem sg_next (k : Nat) : Lp.sg k * (-1) = Lp.sg (k + 1) := by
  unfold Lp.sg
  by_cases h : k % 2 = 0
  · rw [if_pos h, if_neg (by omega)]
    rfl
  · rw [if_neg h, if_pos (by omega)]
    rfl
theorem sg_abs (k : Nat) : (Lp.sg k).natAbs = 1 := by
  unfold Lp.sg
  split <;> rfl
abbrev spRec (K : PySem.W.Frag) : Sp := SpF K (fun a : Nat × Nat => [nI (a.1 : Int), nI (a.2 : Int), nI (-1)]) (fun a => 2 ≤ a.1 ∧ a.1 < 1000 ∧ a.2 ≤ 1000) fun a => .int (Lp.tsum a.1 a.2 1000)
theorem ok_rec {f : Addr} {fd : FuncData} (F : Fun K "reciprocal_series" "reciprocal_series" s_reciprocal_series f fd) : FnOk P w K mg base CX0 1 f fd ["n", "bits", "sign"] (spRec K) := by
  refine F.ok sc_reciprocal_series (fun vs H Q E ⟨_, _, _, iv, _⟩ => iv.len) (fun cdv A outer s H vs Q E hr h => ⟨_, (pss_cons (ps_set (i := 3) sc_reciprocal_series.nd rfl (.inl rfl) (pe_op op_mulX (pv 0) (pv 0)))
        (pss_cons (ps_set (i := 4) sc_reciprocal_series.nd rfl (.inl rfl) (pe_op op_fdivA (pe_op op_oneShl pe_int (pv 1)) (pv 0)))
        (pss_cons (ps_set (i := 5) sc_reciprocal_series.nd rfl (.inl rfl) pe_int)
        (pss_cons (ps_set (i := 6) sc_reciprocal_series.nd rfl (.inl rfl) pe_int)
        (pss_cons (ps_set (i := 7) sc_reciprocal_series.nd rfl (.inl rfl) pe_int)
        (pss_cons (ps_while PassesOwn.never (pt_truth (pv 4) (fun _ => rfl)) (pss_cons (ps_set (i := 5) sc_reciprocal_series.nd rfl (.inl rfl) (pe_op op_add (pv 5) (pe_op op_mulX (pv 6) (pe_op op_fdivA (pv 4) (pv 7)))))
        (pss_cons (ps_set (i := 4) sc_reciprocal_series.nd rfl (.inl rfl) (pe_op op_fdivA (pv 4) (pv 3)))
        (pss_cons (ps_set (i := 6) sc_reciprocal_series.nd rfl (.inl rfl) (pe_op op_mulX (pv 6) (pv 2)))
        (pss_one (ps_set (i := 7) sc_reciprocal_series.nd rfl (.inl rfl) (pe_op op_add (pv 7) pe_int)))))))
        (pss_one (ps_ret (pv 5))))))))), run_body h fun a B hp => ?_⟩)
  obtain ⟨n, b⟩ := a
  obtain ⟨h1, h2, h3⟩ := hp
  simp only at h1 h2 h3
  have hsq : n * n < 2 ^ 40 := by
    have := Nat.mul_le_mul (show n ≤ 1000 by omega) (show n ≤ 1000 by omega)
    omega
  have lgN : ∀ m : Nat, m < 2 ^ 40 → ((m : Nat) : Int).natAbs.log2 < 9000 := fun m hm => lg40 (k := 40) (by omega) (by decide)
  refine sd_env (δ1 := [nI (n : Int), nI (b : Int), nI (-1), .no, .no, .no, .no, .no]) rfl ?_
  refine q_asg [_, _, _, nI ((n * n : Nat) : Int), _, _, _, _] (d_isI (d_iC (d_var rfl) (d_var rfl) (mulx_ok (a := 40) (b := 40) (by omega) (by omega) (by decide))) (Int.natCast_mul n n).symm) ?_
  refine q_asg [_, _, _, _, nI ((2 ^ b / n ^ (2 * 0 + 1) : Nat) : Int), _, _, _] (d_isI (j := ((2 ^ b / n ^ (2 * 0 + 1) : Nat) : Int)) (d_fdivA (d_one (k := b) d_ci (d_var rfl) (by omega)) (d_var rfl) (by omega) (lgN n (by omega))) (by
    rw [Nat.mul_zero, Nat.zero_add, Nat.pow_one]
    push_cast
    rfl)) ?_
  refine q_asg [_, _, _, _, _, nI (Lp.tsum n b 0), _, _] d_ci ?_
  refine q_asg [_, _, _, _, _, _, nI (Lp.sg 0), _] d_ci ?_
  refine q_asg [_, _, _, _, _, _, _, nI ((2 * 0 + 1 : Nat) : Int)] d_ci ?_
  refine q_while (fun m δ => ∃ k, k ≤ b ∧ m = b - k ∧ δ = [nI (n : Int), nI (b : Int), nI (-1), nI ((n * n : Nat) : Int), nI ((2 ^ b / n ^ (2 * k + 1) : Nat) : Int), nI (Lp.tsum n b k), nI (Lp.sg k), nI ((2 * k + 1 : Nat) : Int)]) b ⟨0, by omega, by omega, rfl⟩ (fun m δ' hq => ?_)
  obtain ⟨k, hk, rfl, rfl⟩ := hq
  refine ⟨_, b_truth (d_var (s := nI ((2 ^ b / n ^ (2 * k + 1) : Nat) : Int)) rfl), fun hb => ?_, fun hb => ?_⟩
  · have hne : 2 ^ b / n ^ (2 * k + 1) ≠ 0 := fun z => by
      rw [z] at hb
      exact absurd hb (by decide)
    have hr := pow_room h1 hne
    have hsm : 2 ^ b / n ^ (2 * k + 1) / (2 * k + 1) < 2 ^ 1001 := by
      have e1 := Nat.div_le_self (2 ^ b / n ^ (2 * k + 1)) (2 * k + 1)
      have e2 := Nat.div_le_self (2 ^ b) (n ^ (2 * k + 1))
      have e3 : (2 : Nat) ^ b < 2 ^ 1001 := Nat.pow_lt_pow_right (by decide) (by omega)
      omega
    refine q_asg [_, _, _, _, _, nI (Lp.tsum n b (k + 1)), _, _] (d_isI (j := Lp.tsum n b (k + 1)) (d_i0 (d_var rfl) (d_iC (d_var (s := nI (Lp.sg k)) rfl) (d_isI (j := ((2 ^ b / n ^ (2 * k + 1) / (2 * k + 1) : Nat) : Int)) (d_fdivA (d_var rfl) (d_var rfl) (by omega) (lgN _ (by omega))) (Int.natCast_ediv _ _).symm) (mulx_ok (a := 2) (b := 1001) (by rw [sg_abs]; decide) (by rw [Int.natAbs_natCast]; exact hsm) (by decide)))) (by
      rw [Lp.tm_of]
      rfl)) ?_
    refine q_asg [_, _, _, _, nI ((2 ^ b / n ^ (2 * (k + 1) + 1) : Nat) : Int), _, _, _] (d_isI (j := ((2 ^ b / n ^ (2 * (k + 1) + 1) : Nat) : Int)) (d_fdivA (d_var rfl) (d_var (s := nI ((n * n : Nat) : Int)) rfl) (by
      have := Nat.mul_le_mul h1 h1
      omega) (lgN _ hsq)) (by
      rw [← Lp.pow_step]
      exact (Int.natCast_ediv _ _).symm)) ?_
    refine q_asg [_, _, _, _, _, _, nI (Lp.sg (k + 1)), _] (d_isI (d_iC (d_var (s := nI (Lp.sg k)) rfl) (d_var (s := nI (-1)) rfl) (mulx_ok (a := 2) (b := 2) (by rw [sg_abs]; decide) (by decide) (by decide))) (sg_next k)) ?_
    refine sd_asg (s := nI ((2 * (k + 1) + 1 : Nat) : Int)) (d_isI (d_i0 (d_var rfl) d_ci) (by omega)) ⟨b - (k + 1), by omega, k + 1, by omega, rfl, rfl⟩
  · have hz : 2 ^ b / n ^ (2 * k + 1) = 0 := Int.ofNat.inj (bne_eq_false_iff_eq.mp hb)
    exact sd_ret (d_var rfl) (by rw [tsum_fin h1 (by omega) hz])
def nearF (n : Int) (b : Nat) : Int := (n / 2 ^ (b - 1) + 1) / 2
abbrev spNear (K : PySem.W.Frag) : Sp := SpF K (fun a : Int × Nat => [nI a.1, nI (a.2 : Int)]) (fun a => 1 ≤ a.2) fun a => .int (nearF a.1 a.2)
theorem ok_near {f : Addr} {fd : FuncData} (F : Fun K "nearest" "nearest" s_nearest f fd) : FnOk P w K mg base CX0 1 f fd ["n", "bits"] (spNear K) := by
  refine F.ok sc_nearest (fun vs H Q E ⟨_, _, _, iv, _⟩ => iv.len) (fun cdv A outer s H vs Q E hr h => ⟨_, (pss_one (ps_ret (pe_op op_shrN (pe_op op_add (pe_op op_shrN (pv 0) (pe_op op_sub (pv 1) pe_int)) pe_int) pe_int))), run_body h fun a B hp => ?_⟩)
  obtain ⟨n, b⟩ := a
  have hp : 1 ≤ b := hp
  refine sd_env (δ1 := [nI n, nI (b : Int)]) rfl ?_
  exact sd_ret (d_isI (d_shr (k := 1) (d_i0 (d_shr (k := b - 1) (d_var rfl) (d_isI (d_i0 (d_var rfl) d_ci) (by omega))) d_ci) d_ci) (by unfold nearF; rw [show (2 : Int) ^ 1 = 2 from rfl])) rfl
/-- 16 arctan(1 / 5) - 4 arctan(1 / 239), the sums with w bits -/
def mach (w : Nat) : Int := 4 * (4 * Lp.tsum 5 w 1000 - Lp.tsum 239 w 1000)
def piS (b : Nat) : Int := nearF (mach (b + 32)) 32
theorem tsum_abs (n w : Nat) : ∀ k, (Lp.tsum n w k).natAbs ≤ k * 2 ^ w
  | 0 => by simp [Lp.tsum]
  | k + 1 => by
    have ih := tsum_abs n w k
    have h1 : Lp.tm n w k ≤ 2 ^ w := Nat.div_le_self _ _
    have h2 : (Lp.sg k * (Lp.tm n w k : Int)).natAbs ≤ 2 ^ w := by
      rw [Int.natAbs_mul, sg_abs, Nat.one_mul, Int.natAbs_natCast]
      exact h1
    have e : Lp.tsum n w (k + 1) = Lp.tsum n w k + Lp.sg k * (Lp.tm n w k : Int) := rfl
    rw [e, Nat.add_mul, Nat.one_mul]
    exact Nat.le_trans (Int.natAbs_add_le _ _) (Nat.add_le_add ih h2)
theorem tsum_small {n w : Nat} (hw : w ≤ 1000) : (Lp.tsum n w 1000).natAbs < 2 ^ 1100 := by
  have h1 := tsum_abs n w 1000
  have h2 : (2 : Nat) ^ w ≤ 2 ^ 1000 := Nat.pow_le_pow_right (by decide) hw
  have h3 : 1000 * 2 ^ w ≤ 1000 * 2 ^ 1000 := Nat.mul_le_mul_left _ h2
  have h4 : (1000 : Nat) * 2 ^ 1000 < 2 ^ 1100 := by decide +kernel
  exact Nat.lt_of_le_of_lt (Nat.le_trans h1 h3) h4
theorem sub_small {a b : Int} {n : Nat} (ha : a.natAbs < 2 ^ n) (hb : b.natAbs < 2 ^ n) : (a - b).natAbs < 2 ^ (n + 1) := by
  rw [Nat.pow_succ]
  generalize (2 : Nat) ^ n = m at ha hb
  omega
theorem mul_small {a b : Int} {n m : Nat} (ha : a.natAbs < 2 ^ n) (hb : b.natAbs < 2 ^ m) : (a * b).natAbs < 2 ^ (n + m) := by
  rw [Int.natAbs_mul, Nat.pow_add]
  exact Nat.mul_lt_mul'' ha hb
abbrev spPiS (K : PySem.W.Frag) : Sp := SpF K (fun b : Nat => [nI (b : Int)]) (fun b => b ≤ 900) fun b => .int (piS b)
theorem ok_piS {f f0 f1 : Addr} {fd fd0 fd1 : FuncData} {t0 : Tok} (F : Fun K "pi_scaled" "pi_scaled" s_pi_scaled f fd) (F_reciprocal_series : Fun K "reciprocal_series" "reciprocal_series" s_reciprocal_series f0 fd0) (b_reciprocal_series : Binds K fd0 ["n", "bits", "sign"] []) (g_reciprocal_series : mg "reciprocal_series" = some (.ref f0))
    (F_nearest : Fun K "nearest" "nearest" s_nearest f1 fd1) (b_nearest : Binds K fd1 ["n", "bits"] []) (g_nearest : mg "nearest" = some (.ref f1)) (g_GUARD : mg "GUARD" = some (.int 32 t0)) : FnOk P w K mg base CX0 2 f fd ["bits"] (spPiS K) := by
  have G_reciprocal_series : FnOk P w K mg base CX0 1 f0 fd0 ["n", "bits", "sign"] (spRec K) := ok_rec F_reciprocal_series
  have G_nearest : FnOk P w K mg base CX0 1 f1 fd1 ["n", "bits"] (spNear K) := ok_near F_nearest
  refine F.ok sc_pi_scaled (fun vs H Q E ⟨_, _, _, iv, _⟩ => iv.len) (fun cdv A outer s H vs Q E hr h => ⟨_, (pss_cons (ps_set (i := 1) sc_pi_scaled.nd rfl (.inl rfl) (pe_op op_add (pv 0) (pe_glob (by rfl) g_GUARD (show RelV (.int 32) _ from ⟨_, rfl⟩))))
        (pss_cons (ps_set (i := 2) sc_pi_scaled.nd rfl (.inl rfl) (pe_op op_sub (pe_op op_mulX pe_int (pe_call G_reciprocal_series (hr.mono (by decide)) (by rfl) g_reciprocal_series F_reciprocal_series.kp b_reciprocal_series .nil pass0 (pa_cons pe_int (pa_cons (pv 1) (pa_cons (pe_un un_neg pe_int) pa_nil))))) (pe_call G_reciprocal_series (hr.mono (by decide)) (by rfl) g_reciprocal_series F_reciprocal_series.kp b_reciprocal_series .nil pass0 (pa_cons pe_int (pa_cons (pv 1) (pa_cons (pe_un un_neg pe_int) pa_nil))))))
        (pss_one (ps_ret (pe_call G_nearest (hr.mono (by decide)) (by rfl) g_nearest F_nearest.kp b_nearest .nil pass0 (pa_cons (pe_op op_mulX pe_int (pv 2)) (pa_cons (pe_glob (by rfl) g_GUARD (show RelV (.int 32) _ from ⟨_, rfl⟩)) pa_nil))))))), run_body h fun b B hp => ?_⟩)
  have hp : b ≤ 900 := hp
  have t5 : (Lp.tsum 5 (b + 32) 1000).natAbs < 2 ^ 1100 := tsum_small (by omega)
  have t239 : (Lp.tsum 239 (b + 32) 1000).natAbs < 2 ^ 1100 := tsum_small (by omega)
  have q1 : (4 * Lp.tsum 5 (b + 32) 1000).natAbs < 2 ^ 1103 := mul_small (n := 3) (by decide) t5
  have q2 : (4 * Lp.tsum 5 (b + 32) 1000 - Lp.tsum 239 (b + 32) 1000).natAbs < 2 ^ 1104 := sub_small q1 (Nat.lt_trans t239 (Nat.pow_lt_pow_right (by decide) (by decide)))
  refine sd_env (δ1 := [nI (b : Int), .no, .no]) rfl ?_
  refine q_asg [_, nI ((b + 32 : Nat) : Int), _] (d_isI (i := (b : Int) + 32) (j := ((b + 32 : Nat) : Int)) (d_i0 (d_var rfl) d_ci) (by omega)) ?_
  refine q_asg [_, _, nI (4 * Lp.tsum 5 (b + 32) 1000 - Lp.tsum 239 (b + 32) 1000)] (d_i0 (d_iC d_ci (d_callF (5, b + 32) (a_cons d_ci (a_cons (d_var rfl) (a_cons (d_neg d_ci) a_nil))) ⟨show 2 ≤ 5 by decide, show 5 < 1000 by decide, show b + 32 ≤ 1000 by omega⟩) (mulx_ok (a := 3) (b := 1100) (by decide) t5 (by decide))) (d_callF (239, b + 32) (a_cons d_ci (a_cons (d_var rfl) (a_cons (d_neg d_ci) a_nil))) ⟨show 2 ≤ 239 by decide, show 239 < 1000 by decide, show b + 32 ≤ 1000 by omega⟩)) ?_
  exact sd_ret (d_callF (mach (b + 32), 32) (a_cons (d_iC d_ci (d_var rfl) (mulx_ok (a := 3) (b := 1104) (by decide) q2 (by decide))) (a_cons d_ci a_nil)) (show 1 ≤ 32 by decide)) rfl
def outE (v : Int) : PyData := .tuple [.int ((v - 1) / 2 ^ 32), .int (-(-(v + 1) / 2 ^ 32))]
abbrev spOutw (K : PySem.W.Frag) : Sp := SpF K (fun v : Int => [nI v]) (fun _ => True) fun v => outE v
theorem ok_outw {f : Addr} {fd : FuncData} {t0 : Tok} (F : Fun K "outwards" "outwards" s_outwards f fd) (g_EXTRA : mg "EXTRA" = some (.int 32 t0)) : FnOk P w K mg base CX0 1 f fd ["value"] (spOutw K) := by
  refine F.ok sc_outwards (fun vs H Q E ⟨_, _, _, iv, _⟩ => iv.len) (fun cdv A outer s H vs Q E hr h => ⟨_, (pss_one (ps_ret (pe_tup (pa_cons (pe_op op_shrN (pe_op op_sub (pv 0) pe_int) (pe_glob (by rfl) g_EXTRA (show RelV (.int 32) _ from ⟨_, rfl⟩))) (pa_cons (pe_un un_neg (pe_op op_shrN (pe_un un_neg (pe_op op_add (pv 0) pe_int)) (pe_glob (by rfl) g_EXTRA (show RelV (.int 32) _ from ⟨_, rfl⟩)))) pa_nil))))), run_body h fun v B hp => ?_⟩)
  refine sd_env (δ1 := [nI v]) rfl ?_
  exact sd_ret (d_tup (ds_cons (d_shr (k := 32) (d_i0 (d_var rfl) d_ci) d_ci) (ds_cons (d_neg (d_shr (k := 32) (d_neg (d_i0 (d_var rfl) d_ci)) d_ci)) ds_nil))) rfl
/-- the enclosure of pi -/
def piLo (b : Nat) : Int := (piS (b + 32) - 1) / 2 ^ 32
def piHi (b : Nat) : Int := -(-(piS (b + 32) + 1) / 2 ^ 32)
def pairD (x : Int × Int) : PyData := .tuple [.int x.1, .int x.2]
abbrev spPiE (K : PySem.W.Frag) : Sp := SpF K (fun b : Nat => [nI (b : Int)]) (fun b => b ≤ 800) fun b => pairD (piLo b, piHi b)
theorem ok_piE {f f0 f1 f2 f3 : Addr} {fd fd0 fd1 fd2 fd3 : FuncData} {t0 t1 : Tok} (F : Fun K "pi_enclosed" "pi_enclosed" s_pi_enclosed f fd) (F_pi_scaled : Fun K "pi_scaled" "pi_scaled" s_pi_scaled f2 fd2) (b_pi_scaled : Binds K fd2 ["bits"] []) (g_pi_scaled : mg "pi_scaled" = some (.ref f2))
    (F_outwards : Fun K "outwards" "outwards" s_outwards f3 fd3) (b_outwards : Binds K fd3 ["value"] []) (g_outwards : mg "outwards" = some (.ref f3))
    (F_reciprocal_series : Fun K "reciprocal_series" "reciprocal_series" s_reciprocal_series f0 fd0) (b_reciprocal_series : Binds K fd0 ["n", "bits", "sign"] []) (g_reciprocal_series : mg "reciprocal_series" = some (.ref f0))
    (F_nearest : Fun K "nearest" "nearest" s_nearest f1 fd1) (b_nearest : Binds K fd1 ["n", "bits"] []) (g_nearest : mg "nearest" = some (.ref f1)) (g_GUARD : mg "GUARD" = some (.int 32 t0)) (g_EXTRA : mg "EXTRA" = some (.int 32 t1)) : FnOk P w K mg base CX0 3 f fd ["bits"] (spPiE K) := by
  have G_pi_scaled : FnOk P w K mg base CX0 2 f2 fd2 ["bits"] (spPiS K) := ok_piS F_pi_scaled F_reciprocal_series b_reciprocal_series g_reciprocal_series F_nearest b_nearest g_nearest g_GUARD
  have G_outwards : FnOk P w K mg base CX0 1 f3 fd3 ["value"] (spOutw K) := ok_outw F_outwards g_EXTRA
  refine F.ok sc_pi_enclosed (fun vs H Q E ⟨_, _, _, iv, _⟩ => iv.len) (fun cdv A outer s H vs Q E hr h => ⟨_, (pss_one (ps_ret (pe_call G_outwards (hr.mono (by decide)) (by rfl) g_outwards F_outwards.kp b_outwards .nil pass0 (pa_cons (pe_call G_pi_scaled (hr.mono (by decide)) (by rfl) g_pi_scaled F_pi_scaled.kp b_pi_scaled .nil pass0 (pa_cons (pe_op op_add (pv 0) (pe_glob (by rfl) g_EXTRA (show RelV (.int 32) _ from ⟨_, rfl⟩))) pa_nil)) pa_nil)))), run_body h fun b B hp => ?_⟩)
  have hp : b ≤ 800 := hp
  refine sd_env (δ1 := [nI (b : Int)]) rfl ?_
  exact sd_ret (d_callF (piS (b + 32)) (a_cons (d_callF (b + 32) (a_cons (d_isI (i := (b : Int) + 32) (j := ((b + 32 : Nat) : Int)) (d_i0 (d_var rfl) d_ci) (by omega)) a_nil) (show b + 32 ≤ 900 by omega)) a_nil) True.intro) rfl
/-! ### fractions and their enclosures -/
theorem d_gcd {B0 H0 : Hp} {δ : List Sl} {ta tb : TE} {i j : Int} (ha : EvS K B0 H0 ta δ (nI i)) (hb : EvS K B0 H0 tb δ (nI j)) : EvS K B0 H0 (tCB rGcd (tCons ta (tCons tb tNil))) δ (nI ((Nat.gcd i.natAbs j.natAbs : Nat) : Int)) := fun B H σ S Q q =>
  ha B H σ S _ fun v B1 H1 s1 i1 => hb B1 H1 σ (S.go s1) _ fun w B2 H2 s2 i2 => by
    cases i1
    cases i2
    exact ⟨i, j, rfl, q _ B2 H2 (s1.trans s2) (Dt.int _)⟩
def gc (p q : Int) : Int := ((Nat.gcd p.natAbs q.natAbs : Nat) : Int)
theorem gc_pos {p q : Int} (h : 1 ≤ q) : 1 ≤ gc p q ∧ gc p q ≤ q := by
  unfold gc
  have h1 : 0 < Nat.gcd p.natAbs q.natAbs := Nat.gcd_pos_of_pos_right _ (by omega)
  have h2 : Nat.gcd p.natAbs q.natAbs ≤ q.natAbs := Nat.gcd_le_right _ (by omega)
  omega
abbrev spLow (K : PySem.W.Frag) : Sp := SpF K (fun a : Int × Int => [nI a.1, nI a.2]) (fun a => 1 ≤ a.2 ∧ a.2 < 2 ^ 100) fun a => .tuple [.int (a.1 / gc a.1 a.2), .int (a.2 / gc a.1 a.2)]
theorem ok_low {f : Addr} {fd : FuncData} (F : Fun K "lowest_terms" "lowest_terms" s_lowest_terms f fd) (g_gcd : mg "gcd" = some (.builtin "math.gcd")) : FnOk P w K mg base CX0 1 f fd ["p", "q"] (spLow K) := by
  refine F.ok sc_lowest_terms (fun vs H Q E ⟨_, _, _, iv, _⟩ => iv.len) (fun cdv A outer s H vs Q E hr h => ⟨_, (pss_cons (ps_set (i := 2) sc_lowest_terms.nd rfl (.inl rfl) (pe_callBfun cr_gcd (by rfl) g_gcd (pa_cons (pv 0) (pa_cons (pv 1) pa_nil))))
        (pss_cons (ps_if (pt_cmpR op_lt (pv 1) pe_int (nomark _)) (pss_one (ps_set (i := 2) sc_lowest_terms.nd rfl (.inl rfl) (pe_un un_neg (pv 2)))) pss_nil)
        (pss_one (ps_ret (pe_tup (pa_cons (pe_op op_fdivA (pv 0) (pv 2)) (pa_cons (pe_op op_fdivA (pv 1) (pv 2)) pa_nil))))))), run_body h fun a B hp => ?_⟩)
  obtain ⟨p, q⟩ := a
  obtain ⟨h1, h2⟩ := hp
  simp only at h1 h2
  have hg : 1 ≤ gc p q ∧ gc p q ≤ q := gc_pos h1
  refine sd_env (δ1 := [nI p, nI q, .no]) rfl ?_
  refine q_asg [nI p, nI q, nI (gc p q)] (d_gcd (d_var rfl) (d_var rfl)) ?_
  refine q_when (b_is (c := false) (b_test (d_b0 (d_var rfl) d_ci)) (decide_eq_false (by omega))) (fun hb => nomatch hb) (fun _ => ?_)
  have hz : (gc p q).natAbs.log2 < 9000 := lg40 (k := 100) (by omega) (by decide)
  exact sd_ret (d_tup (ds_cons (d_fdivA (d_var rfl) (d_var rfl) (by omega) hz) (ds_cons (d_fdivA (d_var rfl) (d_var rfl) (by omega) hz) ds_nil))) rfl
/-- the enclosure of a fraction -/
def enc1 (b : Nat) (p q : Int) : Int := p * 2 ^ b / q
def enc2 (b : Nat) (p q : Int) : Int := -(-(p * 2 ^ b) / q)
def encE (b : Nat) (p q : Int) : PyData := .tuple [.int (enc1 b p q), .int (enc2 b p q)]
abbrev spOf (K : PySem.W.Frag) : Sp := SpF K (fun a : Nat × Int × Int => [nI (a.1 : Int), nI a.2.1, nI a.2.2]) (fun a => a.1 ≤ 4000 ∧ a.2.1.natAbs < 2 ^ 100 ∧ 1 ≤ a.2.2 ∧ a.2.2 < 2 ^ 100) fun a => encE a.1 a.2.1 a.2.2
theorem ok_of {f : Addr} {fd : FuncData} (F : Fun K "of_fraction" "of_fraction" s_of_fraction f fd) : FnOk P w K mg base CX0 1 f fd ["bits", "p", "q"] (spOf K) := by
  refine F.ok sc_of_fraction (fun vs H Q E ⟨_, _, _, iv, _⟩ => iv.len) (fun cdv A outer s H vs Q E hr h => ⟨_, (pss_cons (ps_set (i := 3) sc_of_fraction.nd rfl (.inl rfl) (pe_op op_shlN (pv 1) (pv 0)))
        (pss_one (ps_ret (pe_tup (pa_cons (pe_op op_fdivA (pv 3) (pv 2)) (pa_cons (pe_un un_neg (pe_op op_fdivA (pe_un un_neg (pv 3)) (pv 2))) pa_nil)))))), run_body h fun a B hp => ?_⟩)
  obtain ⟨b, p, q⟩ := a
  obtain ⟨h1, h2, h3, h4⟩ := hp
  simp only at h1 h2 h3 h4
  have hz : q.natAbs.log2 < 9000 := lg40 (k := 100) (by omega) (by decide)
  refine sd_env (δ1 := [nI (b : Int), nI p, nI q, .no]) rfl ?_
  refine q_asg [_, _, _, nI (p * 2 ^ b)] (d_shl (d_var rfl) (d_var rfl) (shl_ok (n := 100) h2 (by omega))) ?_
  exact sd_ret (d_tup (ds_cons (d_fdivA (d_var rfl) (d_var rfl) (by omega) hz) (ds_cons (d_neg (d_fdivA (d_neg (d_var rfl)) (d_var rfl) (by omega) hz)) ds_nil))) rfl
abbrev spFewer (K : PySem.W.Frag) : Sp := SpF K (fun a : Int × Int × Nat => [nI a.1, nI a.2.1, nI (a.2.2 : Int)]) (fun _ => True) fun a => .tuple [.int (a.1 / 2 ^ a.2.2), .int (-(-a.2.1 / 2 ^ a.2.2))]
theorem ok_fewer {f : Addr} {fd : FuncData} (F : Fun K "fewer_bits" "fewer_bits" s_fewer_bits f fd) : FnOk P w K mg base CX0 1 f fd ["low", "high", "bits"] (spFewer K) := by
  refine F.ok sc_fewer_bits (fun vs H Q E ⟨_, _, _, iv, _⟩ => iv.len) (fun cdv A outer s H vs Q E hr h => ⟨_, (pss_one (ps_ret (pe_tup (pa_cons (pe_op op_shrN (pv 0) (pv 2)) (pa_cons (pe_un un_neg (pe_op op_shrN (pe_un un_neg (pv 1)) (pv 2))) pa_nil))))), run_body h fun a B _ => ?_⟩)
  obtain ⟨lo, hi, b⟩ := a
  refine sd_env (δ1 := [nI lo, nI hi, nI (b : Int)]) rfl ?_
  exact sd_ret (d_tup (ds_cons (d_shr (d_var rfl) (d_var rfl)) (ds_cons (d_neg (d_shr (d_neg (d_var rfl)) (d_var rfl))) ds_nil))) rfl
/-- rescaled to fewer bits -/
abbrev spResc (K : PySem.W.Frag) : Sp := SpF K (fun a : (Int × Int) × Nat × Nat => [.dat (.tuple [.int a.1.1, .int a.1.2]), nI (a.2.1 : Int), nI (a.2.2 : Int)]) (fun a => a.2.2 < a.2.1) fun a => .tuple [.int (a.1.1 / 2 ^ (a.2.1 - a.2.2)), .int (-(-a.1.2 / 2 ^ (a.2.1 - a.2.2)))]
theorem ok_resc {f f0 : Addr} {fd fd0 : FuncData} (F : Fun K "rescaled" "rescaled" s_rescaled f fd) (F_fewer_bits : Fun K "fewer_bits" "fewer_bits" s_fewer_bits f0 fd0) (b_fewer_bits : Binds K fd0 ["low", "high", "bits"] []) (g_fewer_bits : mg "fewer_bits" = some (.ref f0)) : FnOk P w K mg base CX0 2 f fd ["a", "bits", "other"] (spResc K) := by
  have G_fewer_bits : FnOk P w K mg base CX0 1 f0 fd0 ["low", "high", "bits"] (spFewer K) := ok_fewer F_fewer_bits
  refine F.ok sc_rescaled (fun vs H Q E ⟨_, _, _, iv, _⟩ => iv.len) (fun cdv A outer s H vs Q E hr h => ⟨_, (pss_cons (ps_if (pt_cmpR op_ge (pv 2) (pv 1) (nomark _)) (pss_one (ps_ret (pe_tup (pa_cons (pe_op op_shlN (pe_ix ix_tup (pv 0) pe_int (fun _ _ => rfl)) (pe_op op_sub (pv 2) (pv 1))) (pa_cons (pe_op op_shlN (pe_ix ix_tup (pv 0) pe_int (fun _ _ => rfl)) (pe_op op_sub (pv 2) (pv 1))) pa_nil))))) pss_nil)
        (pss_one (ps_ret (pe_call G_fewer_bits (hr.mono (by decide)) (by rfl) g_fewer_bits F_fewer_bits.kp b_fewer_bits .nil pass0 (pa_cons (pe_ix ix_tup (pv 0) pe_int (fun _ _ => rfl)) (pa_cons (pe_ix ix_tup (pv 0) pe_int (fun _ _ => rfl)) (pa_cons (pe_op op_sub (pv 1) (pv 2)) pa_nil))))))), run_body h fun a B hp => ?_⟩)
  obtain ⟨⟨lo, hi⟩, b, o⟩ := a
  have hp : o < b := hp
  refine sd_env (δ1 := [.dat (.tuple [.int lo, .int hi]), nI (b : Int), nI (o : Int)]) rfl ?_
  refine q_when (b_is (c := false) (b_test (d_b0 (d_var rfl) (d_var rfl))) (decide_eq_false (by omega))) (fun hb => nomatch hb) (fun _ => ?_)
  exact sd_ret (d_callF (lo, hi, b - o) (a_cons (d_ixT (d_var rfl) d_ci rfl) (a_cons (d_ixT (d_var rfl) d_ci rfl) (a_cons (d_isI (j := ((b - o : Nat) : Int)) (d_i0 (d_var rfl) (d_var rfl)) (by omega)) a_nil))) True.intro) rfl
/-! ### the arithmetic of enclosures -/
abbrev EE : Type := Int × Int
def SmE (x : EE) : Prop := x.1.natAbs < 2 ^ 1000 ∧ x.2.natAbs < 2 ^ 1000
def ofE (b : Nat) (p q : Int) : EE := (enc1 b p q, enc2 b p q)
def mulE (x y : EE) (b : Nat) : EE := (min (min (x.1 * y.1) (x.1 * y.2)) (min (x.2 * y.1) (x.2 * y.2)) / 2 ^ b, -(-(max (max (x.1 * y.1) (x.1 * y.2)) (max (x.2 * y.1) (x.2 * y.2))) / 2 ^ b))
def divE (x y : EE) (b : Nat) : EE := (min (min (x.1 * 2 ^ b / y.1) (x.1 * 2 ^ b / y.2)) (min (x.2 * 2 ^ b / y.1) (x.2 * 2 ^ b / y.2)), max (max (-(-(x.1 * 2 ^ b) / y.1)) (-(-(x.1 * 2 ^ b) / y.2))) (max (-(-(x.2 * 2 ^ b) / y.1)) (-(-(x.2 * 2 ^ b) / y.2))))
abbrev spMul (K : PySem.W.Frag) : Sp := SpF K (fun a : EE × EE × Nat => [.dat (pairD a.1), .dat (pairD a.2.1), nI (a.2.2 : Int)]) (fun a => SmE a.1 ∧ SmE a.2.1) fun a => pairD (mulE a.1 a.2.1 a.2.2)
theorem mem4 {a b c d m : Int} (h : m = a ∨ m = b ∨ m = c ∨ m = d) : m ∈ [a, b, c, d] := by
  simp only [List.mem_cons, List.not_mem_nil, or_false]
  exact h
theorem all4 {a b c d : Int} {Q : Int → Prop} (h1 : Q a) (h2 : Q b) (h3 : Q c) (h4 : Q d) : ∀ y ∈ [a, b, c, d], Q y := fun y hy => by
  simp only [List.mem_cons, List.not_mem_nil, or_false] at hy
  rcases hy with rfl | rfl | rfl | rfl <;> assumption
theorem ok_mul {f f0 : Addr} {fd fd0 : FuncData} (F : Fun K "multiplied" "multiplied" s_multiplied f fd) (F_fewer_bits : Fun K "fewer_bits" "fewer_bits" s_fewer_bits f0 fd0) (b_fewer_bits : Binds K fd0 ["low", "high", "bits"] []) (g_fewer_bits : mg "fewer_bits" = some (.ref f0)) (m_min : mg "min" = none) (m_max : mg "max" = none) : FnOk P w K mg base CX0 2 f fd ["a", "b", "bits"] (spMul K) := by
  have G_fewer_bits : FnOk P w K mg base CX0 1 f0 fd0 ["low", "high", "bits"] (spFewer K) := ok_fewer F_fewer_bits
  refine F.ok sc_multiplied (fun vs H Q E ⟨_, _, _, iv, _⟩ => iv.len) (fun cdv A outer s H vs Q E hr h => ⟨_, (pss_cons (ps_set (i := 3) sc_multiplied.nd rfl (.inl rfl) (pe_lst (pa_cons (pe_op op_mulX (pe_ix ix_tup (pv 0) pe_int (fun _ _ => rfl)) (pe_ix ix_tup (pv 1) pe_int (fun _ _ => rfl))) (pa_cons (pe_op op_mulX (pe_ix ix_tup (pv 0) pe_int (fun _ _ => rfl)) (pe_ix ix_tup (pv 1) pe_int (fun _ _ => rfl))) (pa_cons (pe_op op_mulX (pe_ix ix_tup (pv 0) pe_int (fun _ _ => rfl)) (pe_ix ix_tup (pv 1) pe_int (fun _ _ => rfl))) (pa_cons (pe_op op_mulX (pe_ix ix_tup (pv 0) pe_int (fun _ _ => rfl)) (pe_ix ix_tup (pv 1) pe_int (fun _ _ => rfl))) pa_nil))))))
        (pss_one (ps_ret (pe_call G_fewer_bits (hr.mono (by decide)) (by rfl) g_fewer_bits F_fewer_bits.kp b_fewer_bits .nil pass0 (pa_cons (pe_callB (cr_min rfl) (by rfl) m_min (by decide +kernel) (pa_cons (pv 3) pa_nil)) (pa_cons (pe_callB (cr_max rfl) (by rfl) m_max (by decide +kernel) (pa_cons (pv 3) pa_nil)) (pa_cons (pv 2) pa_nil))))))), run_body h fun a B hp => ?_⟩)
  obtain ⟨⟨x1, x2⟩, ⟨y1, y2⟩, b⟩ := a
  obtain ⟨⟨h1, h2⟩, h3, h4⟩ := hp
  simp only at h1 h2 h3 h4
  refine sd_env (δ1 := [.dat (pairD (x1, x2)), .dat (pairD (y1, y2)), nI (b : Int), .no]) rfl ?_
  have X : EvS K B H (tVar 0) [.dat (pairD (x1, x2)), .dat (pairD (y1, y2)), nI (b : Int), .no] (.dat (.tuple [.int x1, .int x2])) := d_var rfl
  have Y : EvS K B H (tVar 1) [.dat (pairD (x1, x2)), .dat (pairD (y1, y2)), nI (b : Int), .no] (.dat (.tuple [.int y1, .int y2])) := d_var rfl
  have mk : ∀ {i j : Int}, i.natAbs < 2 ^ 1000 → j.natAbs < 2 ^ 1000 → CMulX i j := fun hi hj => mulx_ok (a := 1000) (b := 1000) hi hj (by decide)
  refine q_asgO [_, _, _, .own ([x1 * y1, x1 * y2, x2 * y1, x2 * y2].map PyData.int)] (n_lst (ds_cons (d_iC (d_ixT X d_ci rfl) (d_ixT Y d_ci rfl) (mk h1 h3)) (ds_cons (d_iC (d_ixT X d_ci rfl) (d_ixT Y d_ci rfl) (mk h1 h4)) (ds_cons (d_iC (d_ixT X d_ci rfl) (d_ixT Y d_ci rfl) (mk h2 h3)) (ds_cons (d_iC (d_ixT X d_ci rfl) (d_ixT Y d_ci rfl) (mk h2 h4)) ds_nil))))) ?_
  refine sd_ret (d_callF (min (min (x1 * y1) (x1 * y2)) (min (x2 * y1) (x2 * y2)), max (max (x1 * y1) (x1 * y2)) (max (x2 * y1) (x2 * y2)), b) (a_cons (d_minO (n := 3) (ns := [x1 * y1, x1 * y2, x2 * y1, x2 * y2]) (m := min (min (x1 * y1) (x1 * y2)) (min (x2 * y1) (x2 * y2))) rfl (mem4 (by omega)) (all4 (by omega) (by omega) (by omega) (by omega))) (a_cons (d_maxO (n := 3) (ns := [x1 * y1, x1 * y2, x2 * y1, x2 * y2]) (m := max (max (x1 * y1) (x1 * y2)) (max (x2 * y1) (x2 * y2))) rfl (mem4 (by omega)) (all4 (by omega) (by omega) (by omega) (by omega))) (a_cons (d_var (s := nI (b : Int)) rfl) a_nil))) True.intro) rfl
abbrev spDiv (K : PySem.W.Frag) : Sp := SpF K (fun a : EE × EE × Nat => [.dat (pairD a.1), .dat (pairD a.2.1), nI (a.2.2 : Int)]) (fun a => (SmE a.1 ∧ SmE a.2.1) ∧ (0 < a.2.1.1 ∧ 0 < a.2.1.2) ∧ a.2.2 ≤ 1000) fun a => pairD (divE a.1 a.2.1 a.2.2)
theorem ok_div {f : Addr} {fd : FuncData} (F : Fun K "divided" "divided" s_divided f fd) (m_min : mg "min" = none) (m_max : mg "max" = none) : FnOk P w K mg base CX0 1 f fd ["a", "b", "bits"] (spDiv K) := by
  refine F.ok sc_divided (fun vs H Q E ⟨_, _, _, iv, _⟩ => iv.len) (fun cdv A outer s H vs Q E hr h => ⟨_, (pss_cons (ps_if (pt_chain op_le op_le (pe_ix ix_tup (pv 1) pe_int (fun _ _ => rfl)) pe_int (pe_ix ix_tup (pv 1) pe_int (fun _ _ => rfl))) Ln.pss_never pss_nil)
        (pss_cons (ps_set (i := 3) sc_divided.nd rfl (.inl rfl) (pe_op op_shlN (pe_ix ix_tup (pv 0) pe_int (fun _ _ => rfl)) (pv 2)))
        (pss_cons (ps_set (i := 4) sc_divided.nd rfl (.inl rfl) (pe_op op_shlN (pe_ix ix_tup (pv 0) pe_int (fun _ _ => rfl)) (pv 2)))
        (pss_cons (ps_set (i := 5) sc_divided.nd rfl (.inl rfl) (pe_callB (call_min4 rfl) (by rfl) m_min (by decide +kernel) (pa_cons (pe_op op_fdivA (pv 3) (pe_ix ix_tup (pv 1) pe_int (fun _ _ => rfl))) (pa_cons (pe_op op_fdivA (pv 3) (pe_ix ix_tup (pv 1) pe_int (fun _ _ => rfl))) (pa_cons (pe_op op_fdivA (pv 4) (pe_ix ix_tup (pv 1) pe_int (fun _ _ => rfl))) (pa_cons (pe_op op_fdivA (pv 4) (pe_ix ix_tup (pv 1) pe_int (fun _ _ => rfl))) pa_nil))))))
        (pss_cons (ps_set (i := 6) sc_divided.nd rfl (.inl rfl) (pe_callB (call_max4 rfl) (by rfl) m_max (by decide +kernel) (pa_cons (pe_un un_neg (pe_op op_fdivA (pe_un un_neg (pv 3)) (pe_ix ix_tup (pv 1) pe_int (fun _ _ => rfl)))) (pa_cons (pe_un un_neg (pe_op op_fdivA (pe_un un_neg (pv 3)) (pe_ix ix_tup (pv 1) pe_int (fun _ _ => rfl)))) (pa_cons (pe_un un_neg (pe_op op_fdivA (pe_un un_neg (pv 4)) (pe_ix ix_tup (pv 1) pe_int (fun _ _ => rfl)))) (pa_cons (pe_un un_neg (pe_op op_fdivA (pe_un un_neg (pv 4)) (pe_ix ix_tup (pv 1) pe_int (fun _ _ => rfl)))) pa_nil))))))
        (pss_one (ps_ret (pe_tup (pa_cons (pv 5) (pa_cons (pv 6) pa_nil)))))))))), run_body h fun a B hp => ?_⟩)
  obtain ⟨⟨x1, x2⟩, ⟨y1, y2⟩, b⟩ := a
  obtain ⟨⟨⟨h1, h2⟩, h3, h4⟩, ⟨h5, h6⟩, h7⟩ := hp
  simp only at h1 h2 h3 h4 h5 h6 h7
  refine sd_env (δ1 := [.dat (pairD (x1, x2)), .dat (pairD (y1, y2)), nI (b : Int), .no, .no, .no, .no]) rfl ?_
  have lgY : ∀ {j : Int}, j.natAbs < 2 ^ 1000 → j.natAbs.log2 < 9000 := fun hj => lg40 (k := 1000) hj (by decide)
  have Y0 : EvS K B H (tVar 1) [.dat (pairD (x1, x2)), .dat (pairD (y1, y2)), nI (b : Int), .no, .no, .no, .no] (.dat (.tuple [.int y1, .int y2])) := d_var rfl
  refine q_when (b_is (c := false) (b_val (d_chain (d_ixT Y0 d_ci rfl) d_ci (d_ixT Y0 d_ci rfl) (fun _ => Evl.rv_I0) (fun _ => Evl.rv_I0))) (by rw [decide_eq_false (show ¬ y1 ≤ 0 by omega)] <;> rfl)) (fun hb => nomatch hb) (fun _ => ?_)
  refine q_asg [_, _, _, nI (x1 * 2 ^ b), _, _, _] (d_shl (d_ixT (d_var (s := .dat (.tuple [.int x1, .int x2])) rfl) d_ci rfl) (d_var rfl) (shl_ok (n := 1000) h1 (by omega))) ?_
  refine q_asg [_, _, _, _, nI (x2 * 2 ^ b), _, _] (d_shl (d_ixT (d_var (s := .dat (.tuple [.int x1, .int x2])) rfl) d_ci rfl) (d_var rfl) (shl_ok (n := 1000) h2 (by omega))) ?_
  have Y : EvS K B H (tVar 1) [.dat (pairD (x1, x2)), .dat (pairD (y1, y2)), nI (b : Int), nI (x1 * 2 ^ b), nI (x2 * 2 ^ b), .no, .no] (.dat (.tuple [.int y1, .int y2])) := d_var rfl
  refine q_asg [_, _, _, _, _, nI (divE (x1, x2) (y1, y2) b).1, _] (d_min4 (d_fdivA (d_var (s := nI (x1 * 2 ^ b)) rfl) (d_ixT Y d_ci rfl) h5 (lgY h3)) (d_fdivA (d_var (s := nI (x1 * 2 ^ b)) rfl) (d_ixT Y d_ci rfl) h6 (lgY h4)) (d_fdivA (d_var (s := nI (x2 * 2 ^ b)) rfl) (d_ixT Y d_ci rfl) h5 (lgY h3)) (d_fdivA (d_var (s := nI (x2 * 2 ^ b)) rfl) (d_ixT Y d_ci rfl) h6 (lgY h4))) ?_
  have Y2 : EvS K B H (tVar 1) [.dat (pairD (x1, x2)), .dat (pairD (y1, y2)), nI (b : Int), nI (x1 * 2 ^ b), nI (x2 * 2 ^ b), nI (divE (x1, x2) (y1, y2) b).1, .no] (.dat (.tuple [.int y1, .int y2])) := d_var rfl
  refine q_asg [_, _, _, _, _, _, nI (divE (x1, x2) (y1, y2) b).2] (d_max4 (d_neg (d_fdivA (d_neg (d_var (s := nI (x1 * 2 ^ b)) rfl)) (d_ixT Y2 d_ci rfl) h5 (lgY h3))) (d_neg (d_fdivA (d_neg (d_var (s := nI (x1 * 2 ^ b)) rfl)) (d_ixT Y2 d_ci rfl) h6 (lgY h4))) (d_neg (d_fdivA (d_neg (d_var (s := nI (x2 * 2 ^ b)) rfl)) (d_ixT Y2 d_ci rfl) h5 (lgY h3))) (d_neg (d_fdivA (d_neg (d_var (s := nI (x2 * 2 ^ b)) rfl)) (d_ixT Y2 d_ci rfl) h6 (lgY h4)))) ?_
  exact sd_ret (d_tup (ds_cons (d_var rfl) (ds_cons (d_var rfl) ds_nil))) rfl
/-! ### one step -/
abbrev E0 : EE := (0, 0)
/-- what a step is worth: an enclosure -/
def opE (b : Nat) (ρ : Nat → EE) (x : Str) : List Int → EE
  | [i, j] => if x = "times" then mulE (ρ i.toNat) (ρ j.toNat) b else if x = "divide" then divE (ρ i.toNat) (ρ j.toNat) b else E0
  | _ => E0
theorem opE_two {b : Nat} {ρ : Nat → EE} {x : Str} {i j : Int} : opE b ρ x [i, j] = if x = "times" then mulE (ρ i.toNat) (ρ j.toNat) b else if x = "divide" then divE (ρ i.toNat) (ρ j.toNat) b else E0 := rfl
def encS (b : Nat) (ρ : Nat → EE) (s : FStep) : EE :=
  if s.1 = "number" then ofE b (s.2.getD 0 0) (s.2.getD 1 1) else if s.1 = "pi" then (piLo b, piHi b) else opE b ρ s.1 s.2
theorem encS_num (b : Nat) (ρ : Nat → EE) (p q : Int) : encS b ρ (("number" : Str), [p, q]) = ofE b p q := if_pos rfl
theorem encS_pi (b : Nat) (ρ : Nat → EE) : encS b ρ (("pi" : Str), []) = (piLo b, piHi b) := by
  unfold encS
  rw [if_neg pi_nn, if_pos rfl]
theorem encS_mul (b : Nat) (ρ : Nat → EE) (i j : Int) : encS b ρ (("times" : Str), [i, j]) = mulE (ρ i.toNat) (ρ j.toNat) b := by
  unfold encS
  rw [if_neg (show ¬ ("times" : Str) = "number" by decide +kernel), if_neg (show ¬ ("times" : Str) = "pi" by decide +kernel)]
  show opE b ρ "times" [i, j] = _
  rw [opE_two, if_pos rfl]
theorem encS_div (b : Nat) (ρ : Nat → EE) (i j : Int) : encS b ρ (("divide" : Str), [i, j]) = divE (ρ i.toNat) (ρ j.toNat) b := by
  unfold encS
  rw [if_neg (show ¬ ("divide" : Str) = "number" by decide +kernel), if_neg (show ¬ ("divide" : Str) = "pi" by decide +kernel)]
  show opE b ρ "divide" [i, j] = _
  rw [opE_two, if_neg (show ¬ ("divide" : Str) = "times" by decide +kernel), if_pos rfl]
/-- the steps of these formulas, with what their arguments must be: ρ the enclosures, ν which steps are numbers -/
inductive StOk (ρ : Nat → EE) (ν : Nat → Bool) : FStep → Prop
  | num (p q : Int) : p.natAbs < 2 ^ 100 → 1 ≤ q → q < 2 ^ 100 → StOk ρ ν (("number" : Str), [p, q])
  | pi : StOk ρ ν (("pi" : Str), [])
  | mul (i j : Nat) : SmE (ρ i) → SmE (ρ j) → (ν i = false ∨ ν j = false) → StOk ρ ν (("times" : Str), [(i : Int), (j : Int)])
  | div (i j : Nat) : SmE (ρ i) → SmE (ρ j) → 0 < (ρ j).1 → 0 < (ρ j).2 → ν j = false → StOk ρ ν (("divide" : Str), [(i : Int), (j : Int)])
abbrev rhoL (xs : List EE) : Nat → EE := fun j => Mg.at' xs j
theorem rho_get {xs : List EE} {i : Nat} (h : i < xs.length) : atI (xs.map pairD) (i : Int) = some (pairD (rhoL xs i)) := by
  refine atI_nat ?_
  rw [List.getElem?_map, List.getElem?_eq_getElem h]
  unfold rhoL Mg.at'
  rw [List.getD_eq_getElem?_getD, List.getElem?_eq_getElem h]
  rfl
abbrev spRes (K : PySem.W.Frag) : Sp := SpF K (fun a : FStep × List EE × Nat => [.dat (stD a.1), .dat (.list (a.2.1.map pairD)), nI (a.2.2 : Int)]) (fun a => a.2.2 ≤ 800 ∧ (∃ ν, StOk (rhoL a.2.1) ν a.1) ∧ (∀ m ∈ ix a.1, m < a.2.1.length) ∧ a.1.1 ≠ "number") fun a => pairD (encS a.2.2 (rhoL a.2.1) a.1)
theorem ix_two {w : Str} {i j : Nat} (h : w ≠ "number") : ix (w, [(i : Int), (j : Int)]) = [i, j] := by
  unfold ix
  rw [if_neg h]
  simp
theorem times_nn : ("times" : Str) ≠ "number" := by decide +kernel
theorem divide_nn : ("divide" : Str) ≠ "number" := by decide +kernel
theorem ok_results {f f0 f1 f2 f3 : Addr} {fd fd0 fd1 fd2 fd3 : FuncData} (F : Fun K "results" "results" s_results f fd) (F_pi_enclosed : Fun K "pi_enclosed" "pi_enclosed" s_pi_enclosed f0 fd0) (b_pi_enclosed : Binds K fd0 ["bits"] []) (g_pi_enclosed : mg "pi_enclosed" = some (.ref f0)) (G_pi_enclosed : FnOk P w K mg base CX0 3 f0 fd0 ["bits"] (spPiE K))
    (F_multiplied : Fun K "multiplied" "multiplied" s_multiplied f1 fd1) (b_multiplied : Binds K fd1 ["a", "b", "bits"] []) (g_multiplied : mg "multiplied" = some (.ref f1)) (F_divided : Fun K "divided" "divided" s_divided f2 fd2) (b_divided : Binds K fd2 ["a", "b", "bits"] []) (g_divided : mg "divided" = some (.ref f2))
    (F_fewer_bits : Fun K "fewer_bits" "fewer_bits" s_fewer_bits f3 fd3) (b_fewer_bits : Binds K fd3 ["low", "high", "bits"] []) (g_fewer_bits : mg "fewer_bits" = some (.ref f3)) (m_min : mg "min" = none) (m_max : mg "max" = none) : FnOk P w K mg base CX0 4 f fd ["step", "enclosures", "bits"] (spRes K) := by
  have G_multiplied : FnOk P w K mg base CX0 2 f1 fd1 ["a", "b", "bits"] (spMul K) := ok_mul F_multiplied F_fewer_bits b_fewer_bits g_fewer_bits m_min m_max
  have G_divided : FnOk P w K mg base CX0 1 f2 fd2 ["a", "b", "bits"] (spDiv K) := ok_div F_divided m_min m_max
  refine F.ok sc_results (fun vs H Q E ⟨_, _, _, iv, _⟩ => iv.len) (fun cdv A outer s H vs Q E hr h => ⟨_, (pss_cons (ps_set (i := 3) sc_results.nd rfl (.inl rfl) (pe_ix ix_tup (pv 0) pe_int (fun _ _ => rfl)))
        (pss_cons (ps_if (pt_cmpR op_eq (pv 3) pe_str (nomark _)) (pss_one (ps_ret (pe_call G_pi_enclosed (hr.mono (by decide)) (by rfl) g_pi_enclosed F_pi_enclosed.kp b_pi_enclosed .nil pass0 (pa_cons (pv 2) pa_nil)))) pss_nil)
        (pss_cons (ps_set (i := 4) sc_results.nd rfl (.inl rfl) (pe_ix ix_list (pv 1) (pe_ix ix_tup (pv 0) pe_int (fun _ _ => rfl)) (fun _ _ => rfl)))
        (pss_cons (ps_if (pt_cmpR op_eq (pv 3) pe_str (nomark _)) Ln.pss_never pss_nil)
        (pss_cons (ps_if (pt_cmpR op_eq (pv 3) pe_str (nomark _)) Ln.pss_never pss_nil)
        (pss_cons (ps_if (pt_cmpR op_eq (pv 3) pe_str (nomark _)) (pss_one (ps_ret (pe_call G_multiplied (hr.mono (by decide)) (by rfl) g_multiplied F_multiplied.kp b_multiplied .nil pass0 (pa_cons (pv 4) (pa_cons (pe_ix ix_list (pv 1) (pe_ix ix_tup (pv 0) pe_int (fun _ _ => rfl)) (fun _ _ => rfl)) (pa_cons (pv 2) pa_nil)))))) pss_nil)
        (pss_cons (ps_if (pt_cmpR op_eq (pv 3) pe_str (nomark _)) (pss_one (ps_ret (pe_call G_divided (hr.mono (by decide)) (by rfl) g_divided F_divided.kp b_divided .nil pass0 (pa_cons (pv 4) (pa_cons (pe_ix ix_list (pv 1) (pe_ix ix_tup (pv 0) pe_int (fun _ _ => rfl)) (fun _ _ => rfl)) (pa_cons (pv 2) pa_nil)))))) pss_nil)
        Ln.pss_never))))))), run_body h fun a B hp => ?_⟩)
  obtain ⟨st, xs, b⟩ := a
  obtain ⟨hb, ⟨ν, hs⟩, hix, hn⟩ := hp
  simp only at hb hs hix hn
  have B0 : (b : Int) = ((b : Nat) : Int) := rfl
  cases hs with
  | num p q => exact absurd rfl hn
  | pi =>
    refine sd_env (δ1 := [.dat (.tuple [.str "pi"]), .dat (.list (xs.map pairD)), nI (b : Int), .no, .no]) rfl ?_
    refine q_asg [_, _, _, nS "pi", _] (d_ixT (d_var (s := .dat (.tuple [.str "pi"])) rfl) d_ci rfl) ?_
    refine q_when (b_is (c := true) (b_test (d_eqS (d_var (s := nS "pi") rfl) d_cs)) (decide_eq_true rfl)) (fun _ => ?_) (fun hb => nomatch hb)
    exact sd_ret (d_callF b (a_cons (d_var (s := nI (b : Int)) rfl) a_nil) hb) (by
      show pairD _ = pairD (encS b (rhoL xs) _)
      rw [encS_pi])
  | mul i j h1 h2 hν =>
    rw [ix_two times_nn] at hix
    have hi := hix i (by simp)
    have hj := hix j (by simp)
    refine sd_env (δ1 := [.dat (.tuple [.str "times", .int (i : Int), .int (j : Int)]), .dat (.list (xs.map pairD)), nI (b : Int), .no, .no]) rfl ?_
    refine q_asg [_, _, _, nS "times", _] (d_ixT (d_var (s := .dat (.tuple [.str "times", .int (i : Int), .int (j : Int)])) rfl) d_ci rfl) ?_
    refine q_when (b_is (c := false) (b_test (d_eqS (d_var (s := nS "times") rfl) d_cs)) (by decide +kernel)) (fun hb => nomatch hb) (fun _ => ?_)
    refine q_asg [_, _, _, _, .dat (pairD (rhoL xs i))] (d_ixL (d_var (s := .dat (.list (xs.map pairD))) rfl) (d_ixT (d_var (s := .dat (.tuple [.str "times", .int (i : Int), .int (j : Int)])) rfl) d_ci rfl) (rho_get hi)) ?_
    refine q_when (b_is (c := false) (b_test (d_eqS (d_var (s := nS "times") rfl) d_cs)) (by decide +kernel)) (fun hb => nomatch hb) (fun _ => ?_)
    refine q_when (b_is (c := false) (b_test (d_eqS (d_var (s := nS "times") rfl) d_cs)) (by decide +kernel)) (fun hb => nomatch hb) (fun _ => ?_)
    refine q_when (b_is (c := true) (b_test (d_eqS (d_var (s := nS "times") rfl) d_cs)) (decide_eq_true rfl)) (fun _ => ?_) (fun hb => nomatch hb)
    exact sd_ret (d_callF (rhoL xs i, rhoL xs j, b) (a_cons (d_var (s := .dat (pairD (rhoL xs i))) rfl) (a_cons (d_ixL (d_var (s := .dat (.list (xs.map pairD))) rfl) (d_ixT (d_var (s := .dat (.tuple [.str "times", .int (i : Int), .int (j : Int)])) rfl) d_ci rfl) (rho_get hj)) (a_cons (d_var (s := nI (b : Int)) rfl) a_nil))) ⟨h1, h2⟩) (by
      show pairD _ = pairD (encS b (rhoL xs) _)
      rw [encS_mul] <;> rfl)
  | div i j h1 h2 h3 h4 hν =>
    rw [ix_two divide_nn] at hix
    have hi := hix i (by simp)
    have hj := hix j (by simp)
    refine sd_env (δ1 := [.dat (.tuple [.str "divide", .int (i : Int), .int (j : Int)]), .dat (.list (xs.map pairD)), nI (b : Int), .no, .no]) rfl ?_
    refine q_asg [_, _, _, nS "divide", _] (d_ixT (d_var (s := .dat (.tuple [.str "divide", .int (i : Int), .int (j : Int)])) rfl) d_ci rfl) ?_
    refine q_when (b_is (c := false) (b_test (d_eqS (d_var (s := nS "divide") rfl) d_cs)) (by decide +kernel)) (fun hb => nomatch hb) (fun _ => ?_)
    refine q_asg [_, _, _, _, .dat (pairD (rhoL xs i))] (d_ixL (d_var (s := .dat (.list (xs.map pairD))) rfl) (d_ixT (d_var (s := .dat (.tuple [.str "divide", .int (i : Int), .int (j : Int)])) rfl) d_ci rfl) (rho_get hi)) ?_
    refine q_when (b_is (c := false) (b_test (d_eqS (d_var (s := nS "divide") rfl) d_cs)) (by decide +kernel)) (fun hb => nomatch hb) (fun _ => ?_)
    refine q_when (b_is (c := false) (b_test (d_eqS (d_var (s := nS "divide") rfl) d_cs)) (by decide +kernel)) (fun hb => nomatch hb) (fun _ => ?_)
    refine q_when (b_is (c := false) (b_test (d_eqS (d_var (s := nS "divide") rfl) d_cs)) (by decide +kernel)) (fun hb => nomatch hb) (fun _ => ?_)
    refine q_when (b_is (c := true) (b_test (d_eqS (d_var (s := nS "divide") rfl) d_cs)) (decide_eq_true rfl)) (fun _ => ?_) (fun hb => nomatch hb)
    exact sd_ret (d_callF (rhoL xs i, rhoL xs j, b) (a_cons (d_var (s := .dat (pairD (rhoL xs i))) rfl) (a_cons (d_ixL (d_var (s := .dat (.list (xs.map pairD))) rfl) (d_ixT (d_var (s := .dat (.tuple [.str "divide", .int (i : Int), .int (j : Int)])) rfl) d_ci rfl) (rho_get hj)) (a_cons (d_var (s := nI (b : Int)) rfl) a_nil))) ⟨⟨h1, h2⟩, ⟨h3, h4⟩, show b ≤ 1000 by omega⟩) (by
      show pairD _ = pairD (encS b (rhoL xs) _)
      rw [encS_div] <;> rfl)
/-! ### all steps -/
def fracD (p q : Int) : PyData := .tuple [.int p, .int q]
def exD (s : FStep) : PyData := if s.1 = "number" then .tuple (s.2.map PyData.int) else .none
theorem exD_num (p q : Int) : exD (("number" : Str), [p, q]) = fracD p q := if_pos rfl
theorem exD_not {s : FStep} (h : s.1 ≠ "number") : exD s = .none := if_neg h
def OPS : List Str := ["add", "subtract", "times", "divide"]
theorem atI_get {ds : List PyData} {i : Nat} {d : PyData} (h : ds[i]? = some d) : atI ds (i : Int) = some d := atI_nat h
/-- what exact_value is asked -/
def ExOk (ds : List PyData) (s : FStep) : Prop := (∃ p q, s = (("number" : Str), [p, q])) ∨ s = (("pi" : Str), []) ∨ ∃ (x : Str) (i j : Nat) (d e : PyData), (x = "times" ∨ x = "divide") ∧ s = (x, [(i : Int), (j : Int)]) ∧ ds[i]? = some d ∧ ds[j]? = some e ∧ (isNo d = true ∨ isNo e = true)
abbrev spExact (K : PySem.W.Frag) : Sp := SpF K (fun a : FStep × List PyData => [.dat (stD a.1), .dat (.list a.2)]) (fun a => ExOk a.2 a.1) fun a => exD a.1
theorem ok_exact {f aOp : Addr} {fd : FuncData} (F : Fun K "exact_value" "exact_value" s_exact_value f fd) (g_OPERATIONS : mg "OPERATIONS" = some (.ref aOp)) (hOp : ∀ H, Dt K H (.ref aOp) (.tuple (OPS.map PyData.str))) : FnOk P w K mg base CX0 1 f fd ["step", "found"] (spExact K) := by
  refine F.ok sc_exact_value (fun vs H Q E ⟨_, _, _, iv, _⟩ => iv.len) (fun cdv A outer s H vs Q E hr h => ⟨_, (pss_cons (ps_if (pt_cmpR op_eq (pe_ix ix_tup (pv 0) pe_int (fun _ _ => rfl)) pe_str (nomark _)) (pss_one (ps_ret (pe_tup (pa_cons (pe_ix ix_tup (pv 0) pe_int (fun _ _ => rfl)) (pa_cons (pe_ix ix_tup (pv 0) pe_int (fun _ _ => rfl)) pa_nil))))) pss_nil)
        (pss_cons (ps_if (pt_cmpR op_notIn_seq (pe_ix ix_tup (pv 0) pe_int (fun _ _ => rfl)) (pe_glob (by rfl) g_OPERATIONS (show RelV (.ref _) _ from rfl)) (by rfl)) (pss_one (ps_ret pe_non)) pss_nil)
        (pss_cons (ps_set (i := 2) sc_exact_value.nd rfl (.inl rfl) (pe_ix ix_list (pv 1) (pe_ix ix_tup (pv 0) pe_int (fun _ _ => rfl)) (fun _ _ => rfl)))
        (pss_cons (ps_set (i := 3) sc_exact_value.nd rfl (.inl rfl) (pe_ix ix_list (pv 1) (pe_ix ix_tup (pv 0) pe_int (fun _ _ => rfl)) (fun _ _ => rfl)))
        (pss_cons (ps_if (PW.pt (pw_or (pt_cmpR op_isN (pv 2) pe_non (nomark _)) (pw_or1 (pt_cmpR op_isN (pv 3) pe_non (nomark _))))) (pss_one (ps_ret pe_non)) pss_nil)
        Ln.pss_never))))), run_body h fun a B hp => ?_⟩)
  obtain ⟨st, ds⟩ := a
  have hp : ExOk ds st := hp
  rcases hp with ⟨p, q, rfl⟩ | rfl | ⟨x, i, j, d, e, hx, rfl, hi, hj, hn⟩
  · refine sd_env (δ1 := [.dat (.tuple [.str "number", .int p, .int q]), .dat (.list ds), .no, .no]) rfl ?_
    have S0 : EvS K B H (tVar 0) [.dat (.tuple [.str "number", .int p, .int q]), .dat (.list ds), .no, .no] (.dat (.tuple [.str "number", .int p, .int q])) := d_var rfl
    refine q_when (b_is (c := true) (b_test (d_eqS (d_ixT S0 d_ci rfl) d_cs)) (decide_eq_true rfl)) (fun _ => ?_) (fun hb => nomatch hb)
    exact sd_ret (d_tup (ds_cons (d_ixT S0 d_ci rfl) (ds_cons (d_ixT S0 d_ci rfl) ds_nil))) (exD_num p q).symm
  · refine sd_env (δ1 := [.dat (.tuple [.str "pi"]), .dat (.list ds), .no, .no]) rfl ?_
    have S0 : EvS K B H (tVar 0) [.dat (.tuple [.str "pi"]), .dat (.list ds), .no, .no] (.dat (.tuple [.str "pi"])) := d_var rfl
    refine q_when (b_is (c := false) (b_test (d_eqS (d_ixT S0 d_ci rfl) d_cs)) (by decide +kernel)) (fun hb => nomatch hb) (fun _ => ?_)
    refine q_when (b_is (c := true) (b_test (d_niTS (xs := OPS) (d_ixT S0 d_ci rfl) (d_ktD hOp))) (by decide +kernel)) (fun _ => ?_) (fun hb => nomatch hb)
    exact sd_ret d_cn (exD_not pi_nn).symm
  · have hnn : x ≠ "number" := by
      rcases hx with rfl | rfl
      · exact times_nn
      · exact divide_nn
    have hop : (!decide (x ∈ OPS)) = false := by
      rcases hx with rfl | rfl <;> decide +kernel
    refine sd_env (δ1 := [.dat (.tuple [.str x, .int (i : Int), .int (j : Int)]), .dat (.list ds), .no, .no]) rfl ?_
    have S0 : ∀ a b : Sl, EvS K B H (tVar 0) [.dat (.tuple [.str x, .int (i : Int), .int (j : Int)]), .dat (.list ds), a, b] (.dat (.tuple [.str x, .int (i : Int), .int (j : Int)])) := fun _ _ => d_var rfl
    refine q_when (b_is (c := false) (b_test (d_eqS (d_ixT (S0 _ _) d_ci rfl) d_cs)) (decide_eq_false hnn)) (fun hb => nomatch hb) (fun _ => ?_)
    refine q_when (b_is (c := false) (b_test (d_niTS (xs := OPS) (d_ixT (S0 _ _) d_ci rfl) (d_ktD hOp))) hop) (fun hb => nomatch hb) (fun _ => ?_)
    refine q_asg [_, _, .dat d, _] (d_ixL (d_var (s := .dat (.list ds)) rfl) (d_ixT (S0 _ _) d_ci rfl) (atI_get hi)) ?_
    refine q_asg [_, _, _, .dat e] (d_ixL (d_var (s := .dat (.list ds)) rfl) (d_ixT (S0 _ _) d_ci rfl) (atI_get hj)) ?_
    refine q_when (b_is (c := true) (b_or (b_test (d_isND (d_var (s := .dat d) rfl))) fun _ => b_test (d_isND (d_var (s := .dat e) rfl))) (by
      rcases hn with z | z
      · rw [z]
        rfl
      · rw [z]
        exact Bool.or_true _)) (fun _ => ?_) (fun hb => nomatch hb)
    exact sd_ret d_cn (exD_not hnn).symm
theorem noL_exD (s : FStep) : noL (exD s) = true := by
  unfold exD
  split
  · have : ∀ l : List Int, noLs (l.map PyData.int) = true := by
      intro l
      induction l with
      | nil => simp [noLs]
      | cons a r ih => simp [noLs, noL, ih]
    simp only [noL]
    exact this s.2
  · simp [noL]
theorem stD_get {A : List FStep} {i : Nat} {d : PyData} (h : (A.map stD)[i]? = some d) : ∃ hi : i < A.length, d = stD A[i] := by
  rw [List.getElem?_map] at h
  obtain ⟨s, h1, h2⟩ := Option.map_eq_some_iff.mp h
  obtain ⟨hi, e⟩ := List.getElem?_eq_some_iff.mp h1
  exact ⟨hi, by rw [e, h2]⟩
theorem take_snoc {A : Type} (l : List A) {i : Nat} (hi : i < l.length) : l.take (i + 1) = l.take i ++ [l[i]] := by
  rw [List.take_succ, List.getElem?_eq_getElem hi]
  rfl
abbrev spExacts (K : PySem.W.Frag) : Sp := SpN K (fun A : List FStep => [.dat (.list (A.map stD))]) (fun A => A.length ≤ 1000 ∧ ∀ k, (hk : k < A.length) → ExOk ((A.take k).map exD) A[k]) fun A ds => ds = A.map exD
theorem ok_exacts {f f0 aOp : Addr} {fd fd0 : FuncData} (F : Fun K "exact_values" "exact_values" s_exact_values f fd) (F_exact_value : Fun K "exact_value" "exact_value" s_exact_value f0 fd0) (b_exact_value : Binds K fd0 ["step", "found"] []) (g_exact_value : mg "exact_value" = some (.ref f0)) (g_OPERATIONS : mg "OPERATIONS" = some (.ref aOp)) (hOp : ∀ H, Dt K H (.ref aOp) (.tuple (OPS.map PyData.str))) : FnOk P w K mg base CX0 2 f fd ["steps"] (spExacts K) := by
  have G_exact_value : FnOk P w K mg base CX0 1 f0 fd0 ["step", "found"] (spExact K) := ok_exact F_exact_value g_OPERATIONS hOp
  refine F.ok sc_exact_values (fun vs H Q E ⟨_, _, _, iv, _⟩ => iv.len) (fun cdv A outer s H vs Q E hr h => ⟨_, (pss_cons (ps_set (i := 1) sc_exact_values.nd rfl (.inl rfl) (pe_lst pa_nil))
        (pss_cons (ps_for PassesOwn.never rfl (pi_list (pv 0)) (pg_name (i := 2) sc_exact_values.nd rfl (.inl rfl)) (pss_one (ps_expr (pe_bm PySem.F.plainAttrs_list PySem.F.slot_list_append PySem.F.type_list_append mt_append (pv 1) (pa_cons (pe_call G_exact_value (hr.mono (by decide)) (by rfl) g_exact_value F_exact_value.kp b_exact_value .nil pass0 (pa_cons (pv 2) (pa_cons (pv 1) pa_nil))) pa_nil)))))
        (pss_one (ps_ret (pv 1))))), run_bodyN h fun L B hp => ?_⟩)
  obtain ⟨hl, hp⟩ := hp
  refine sd_env (δ1 := [.dat (.list (L.map stD)), .no, .no]) rfl ?_
  refine q_asgO [_, .own [], _] (n_lst ds_nil) ?_
  refine q_for (w_list (d_var (s := .dat (.list (L.map stD))) rfl)) (fun i δ => i ≤ L.length ∧ ∃ s, δ = [.dat (.list (L.map stD)), .own ((L.take i).map exD), s]) ⟨Nat.zero_le _, _, rfl⟩ (fun i d δ' hd hq => ?_) (fun δ' hq => ?_)
  · obtain ⟨_, s, rfl⟩ := hq
    obtain ⟨hi, rfl⟩ := stD_get hd
    refine ⟨[2], [_, .own ((L.take i).map exD), .dat (stD L[i])], g_name, ?_⟩
    refine sd_app (n := 1) rfl (d_callO (L[i], (L.take i).map exD) (ah_cons (d_var (s := .dat (stD L[i])) rfl) (ah_own (n := 1) rfl ah_nil)) (hp i hi) (noL_exD _)) (by rw [List.length_map, List.length_take]; omega) ⟨hi, .dat (stD L[i]), ?_⟩
    rw [take_snoc L hi, List.map_append]
    rfl
  · obtain ⟨_, s, rfl⟩ := hq
    refine sd_retO (n := 1) rfl ?_
    rw [List.length_map, List.take_length]
/-! lacks_value, refuse_undefined: nothing is refused -/
abbrev spLacks (K : PySem.W.Frag) : Sp := SpF K (fun a : Str × Int × Int × Int => [nS a.1, nI a.2.1, nI a.2.2.1, nI a.2.2.2]) (fun a => a.1 = "times" ∨ (a.1 = "divide" ∧ a.2.1 ≠ 0)) fun _ => .bool false
theorem ok_lacks {f : Addr} {fd : FuncData} (F : Fun K "lacks_value" "lacks_value" s_lacks_value f fd) : FnOk P w K mg base CX0 1 f fd ["word", "low", "high", "one"] (spLacks K) := by
  refine F.ok sc_lacks_value (fun vs H Q E ⟨_, _, _, iv, _⟩ => iv.len) (fun cdv A outer s H vs Q E hr h => ⟨_, (pss_cons (ps_if (pt_cmpR op_eq (pv 0) pe_str (nomark _)) (pss_one (ps_ret (pe_and (pe_cmpR op_eq (pv 1) pe_int (nomark _)) (pe_one (pe_cmpR op_eq (pv 2) pe_int (nomark _)))))) pss_nil)
        (pss_cons (ps_if (pt_cmpR op_eq (pv 0) pe_str (nomark _)) Ln.pss_never pss_nil)
        (pss_cons (ps_if (pt_cmpR op_eq (pv 0) pe_str (nomark _)) Ln.pss_never pss_nil)
        (pss_cons (ps_if (pt_cmpR op_in_seq (pv 0) (pe_tup (pa_cons pe_str (pa_cons pe_str (pa_cons pe_str pa_nil)))) (by rfl)) Ln.pss_never pss_nil)
        (pss_cons (ps_if (pt_cmpR op_in_seq (pv 0) (pe_tup (pa_cons pe_str (pa_cons pe_str pa_nil))) (by rfl)) Ln.pss_never pss_nil)
        (pss_one (ps_ret pe_bl))))))), run_body h fun a B hp => ?_⟩)
  obtain ⟨x, lo, hi, one⟩ := a
  refine sd_env (δ1 := [nS x, nI lo, nI hi, nI one]) rfl ?_
  have X : EvS K B H (tVar 0) [nS x, nI lo, nI hi, nI one] (nS x) := d_var rfl
  rcases hp with hx | ⟨hx, h0⟩
  · have hx : x = "times" := hx
    subst hx
    refine q_when (b_is (c := false) (b_test (d_eqS X d_cs)) (by decide +kernel)) (fun hb => nomatch hb) (fun _ => ?_)
    refine q_when (b_is (c := false) (b_test (d_eqS X d_cs)) (by decide +kernel)) (fun hb => nomatch hb) (fun _ => ?_)
    refine q_when (b_is (c := false) (b_test (d_eqS X d_cs)) (by decide +kernel)) (fun hb => nomatch hb) (fun _ => ?_)
    refine q_when (b_is (c := false) (b_test (d_inTS (xs := ["sine", "cosine", "exp"]) X (d_tup (ds_cons d_cs (ds_cons d_cs (ds_cons d_cs ds_nil)))))) (by decide +kernel)) (fun hb => nomatch hb) (fun _ => ?_)
    refine q_when (b_is (c := false) (b_test (d_inTS (xs := ["arcsine", "arccosine"]) X (d_tup (ds_cons d_cs (ds_cons d_cs ds_nil))))) (by decide +kernel)) (fun hb => nomatch hb) (fun _ => ?_)
    exact sd_ret d_cb rfl
  · have hx : x = "divide" := hx
    subst hx
    refine q_when (b_is (c := true) (b_test (d_eqS X d_cs)) (by decide +kernel)) (fun _ => ?_) (fun hb => nomatch hb)
    refine sd_ret (d_isB (c := false) (d_andV (d_eqI (d_var (s := nI lo) rfl) d_ci) fun _ => d_eqI (d_var (s := nI hi) rfl) d_ci) ?_) rfl
    rw [decide_eq_false (show ¬ lo = 0 from h0)] <;> rfl
def RfOk (ds : List PyData) (xs : List EE) (s : FStep) : Prop := s = (("pi" : Str), []) ∨
  ∃ (x : Str) (i j : Nat) (d : PyData), s = (x, [(i : Int), (j : Int)]) ∧ ds[j]? = some d ∧ j < xs.length ∧ ((x = "times" ∧ (d = .none ∨ ∃ p q, d = fracD p q)) ∨ (x = "divide" ∧ d = .none ∧ 0 < (rhoL xs j).1))
abbrev spRefuse (K : PySem.W.Frag) : Sp := SpF K (fun a : FStep × List PyData × List EE × Nat => [.dat (stD a.1), .dat (.list a.2.1), .dat (.list (a.2.2.1.map pairD)), nI (a.2.2.2 : Int)]) (fun a => RfOk a.2.1 a.2.2.1 a.1 ∧ a.2.2.2 ≤ 4000) fun _ => .none
theorem ok_refuse {f f0 : Addr} {fd fd0 : FuncData} (F : Fun K "refuse_undefined" "refuse_undefined" s_refuse_undefined f fd) (F_lacks_value : Fun K "lacks_value" "lacks_value" s_lacks_value f0 fd0) (b_lacks_value : Binds K fd0 ["word", "low", "high", "one"] []) (g_lacks_value : mg "lacks_value" = some (.ref f0)) (m_len : mg "len" = none) : FnOk P w K mg base CX0 2 f fd ["step", "exacts", "found", "bits"] (spRefuse K) := by
  have G_lacks_value : FnOk P w K mg base CX0 1 f0 fd0 ["word", "low", "high", "one"] (spLacks K) := ok_lacks F_lacks_value
  refine F.ok sc_refuse_undefined (fun vs H Q E ⟨_, _, _, iv, _⟩ => iv.len) (fun cdv A outer s H vs Q E hr h => ⟨_, (pss_cons (ps_if (pt_cmpR op_eq (pe_callB call_len (by rfl) m_len (by decide +kernel) (pa_cons (pv 0) pa_nil)) pe_int (nomark _)) (pss_one ps_retN) pss_nil)
        (pss_cons (ps_set (i := 4) sc_refuse_undefined.nd rfl (.inl rfl) (pe_ix ix_list (pv 1) (pe_ix ix_tup (pv 0) (pe_un un_neg pe_int) (fun _ _ => rfl)) (fun _ _ => rfl)))
        (pss_cons (ps_if (pt_cmpR op_notN (pv 4) pe_non (nomark _)) (pss_cons (ps_asg (pv 4) (pg_tup rfl (pgs_cons (pg_name (i := 5) sc_refuse_undefined.nd rfl (.inl rfl)) (pgs_cons (pg_name (i := 6) sc_refuse_undefined.nd rfl (.inl rfl)) pgs_nil))))
        (pss_one (ps_set (i := 7) sc_refuse_undefined.nd rfl (.inl rfl) (pe_call G_lacks_value (hr.mono (by decide)) (by rfl) g_lacks_value F_lacks_value.kp b_lacks_value .nil pass0 (pa_cons (pe_ix ix_tup (pv 0) pe_int (fun _ _ => rfl)) (pa_cons (pv 5) (pa_cons (pv 5) (pa_cons (pv 6) pa_nil)))))))) (pss_cons (ps_set (i := 8) sc_refuse_undefined.nd rfl (.inl rfl) (pe_ix ix_list (pv 2) (pe_ix ix_tup (pv 0) (pe_un un_neg pe_int) (fun _ _ => rfl)) (fun _ _ => rfl)))
        (pss_one (ps_set (i := 7) sc_refuse_undefined.nd rfl (.inl rfl) (pe_and (pe_cmpR op_notN (pv 8) pe_non (nomark _)) (pe_one (pe_call G_lacks_value (hr.mono (by decide)) (by rfl) g_lacks_value F_lacks_value.kp b_lacks_value .nil pass0 (pa_cons (pe_ix ix_tup (pv 0) pe_int (fun _ _ => rfl)) (pa_cons (pe_ix ix_tup (pv 8) pe_int (fun _ _ => rfl)) (pa_cons (pe_ix ix_tup (pv 8) pe_int (fun _ _ => rfl)) (pa_cons (pe_op op_oneShl pe_int (pv 3)) pa_nil)))))))))))
        (pss_one (ps_if (pt_val (pv 7)) Ln.pss_never pss_nil))))), run_body h fun a B hp => ?_⟩)
  obtain ⟨st, ds, xs, b⟩ := a
  obtain ⟨hp, hb⟩ := hp
  simp only at hp hb
  rcases hp with rfl | ⟨x, i, j, d, rfl, hd, hj, hx⟩
  · refine sd_env (δ1 := [.dat (.tuple [.str "pi"]), .dat (.list ds), .dat (.list (xs.map pairD)), nI (b : Int), .no, .no, .no, .no, .no]) rfl ?_
    exact q_when (b_is (c := true) (b_test (d_eqI (d_lenT (d_var (s := .dat (.tuple [.str "pi"])) rfl)) d_ci)) rfl) (fun _ => sd_retN rfl) (fun hb => nomatch hb)
  · refine sd_env (δ1 := [.dat (.tuple [.str x, .int (i : Int), .int (j : Int)]), .dat (.list ds), .dat (.list (xs.map pairD)), nI (b : Int), .no, .no, .no, .no, .no]) rfl ?_
    have S0 : ∀ a b' c d' e : Sl, EvS K B H (tVar 0) [.dat (.tuple [.str x, .int (i : Int), .int (j : Int)]), .dat (.list ds), .dat (.list (xs.map pairD)), nI (b : Int), a, b', c, d', e] (.dat (.tuple [.str x, .int (i : Int), .int (j : Int)])) := fun _ _ _ _ _ => d_var rfl
    refine q_when (b_is (c := false) (b_test (d_eqI (d_lenT (S0 _ _ _ _ _)) d_ci)) rfl) (fun hb => nomatch hb) (fun _ => ?_)
    refine q_asg [_, _, _, _, .dat d, _, _, _, _] (d_ixL (d_var (s := .dat (.list ds)) rfl) (d_ixT (S0 _ _ _ _ _) (d_neg d_ci) rfl) (atI_get hd)) ?_
    by_cases hn : d = .none
    · subst hn
      have hpre : x = "times" ∨ (x = "divide" ∧ (rhoL xs j).1 ≠ 0) := by
        rcases hx with ⟨z, _⟩ | ⟨z, _, h0⟩
        · exact .inl z
        · exact .inr ⟨z, by omega⟩
      refine q_if (b := false) (b_is (b_test (d_notND (d_var (s := .dat .none) rfl))) rfl) (fun hb => nomatch hb) (fun _ => ?_)
      refine q_asg [_, _, _, _, _, _, _, _, .dat (pairD (rhoL xs j))] (d_ixL (d_var (s := .dat (.list (xs.map pairD))) rfl) (d_ixT (S0 _ _ _ _ _) (d_neg d_ci) rfl) (rho_get hj)) ?_
      have P0 : ∀ a b' c d' : Sl, EvS K B H (tVar 8) [.dat (.tuple [.str x, .int (i : Int), .int (j : Int)]), .dat (.list ds), .dat (.list (xs.map pairD)), nI (b : Int), a, b', c, d', .dat (pairD (rhoL xs j))] (.dat (.tuple [.int (rhoL xs j).1, .int (rhoL xs j).2])) := fun _ _ _ _ => d_var rfl
      refine sd_asg (s := nB false) (d_isB (d_andV (b := true) (d_isB (d_notND (P0 _ _ _ _)) rfl) fun _ => d_callF (x, (rhoL xs j).1, (rhoL xs j).2, (2 : Int) ^ b) (a_cons (d_ixT (S0 _ _ _ _ _) d_ci rfl) (a_cons (d_ixT (P0 _ _ _ _) d_ci rfl) (a_cons (d_ixT (P0 _ _ _ _) d_ci rfl) (a_cons (d_one (k := b) d_ci (d_var (s := nI (b : Int)) rfl) (by omega)) a_nil)))) hpre) rfl) ?_
      exact sd_when (b_val (d_var (s := nB false) rfl)) (fun hb => nomatch hb) (fun _ => rfl)
    · obtain ⟨hx2, p, q, rfl⟩ : x = "times" ∧ ∃ p q, d = fracD p q := by
        rcases hx with ⟨z, y | y⟩ | ⟨_, y, _⟩
        · exact absurd y hn
        · exact ⟨z, y⟩
        · exact absurd y hn
      refine q_if (b := true) (b_is (b_test (d_notND (d_var (s := .dat (fracD p q)) rfl))) rfl) (fun _ => ?_) (fun hb => nomatch hb)
      refine q_unp [_, _, _, _, _, nI p, nI q, _, _] (d_var (s := .dat (.tuple [.int p, .int q])) rfl) (g_tup (g_cons g_name (g_cons g_name g_nil))) ?_
      refine sd_asg (s := nB false) (d_callF (x, p, p, q) (a_cons (d_ixT (S0 _ _ _ _ _) d_ci rfl) (a_cons (d_var (s := nI p) rfl) (a_cons (d_var (s := nI p) rfl) (a_cons (d_var (s := nI q) rfl) a_nil)))) (.inl hx2)) ?_
      exact sd_when (b_val (d_var (s := nB false) rfl)) (fun hb => nomatch hb) (fun _ => rfl)
/-! ### sizes -/
theorem ediv_abs (a c : Int) : (a / c).natAbs ≤ a.natAbs := Int.natAbs_ediv_le_natAbs a c
theorem sz_neg {a : Int} {n : Nat} (h : a.natAbs < n) : (-a).natAbs < n := by rw [Int.natAbs_neg]; exact h
theorem sz_ediv {a c : Int} {n : Nat} (h : a.natAbs < n) : (a / c).natAbs < n := Nat.lt_of_le_of_lt (ediv_abs a c) h
theorem sz_min {a c : Int} {n : Nat} (h1 : a.natAbs < n) (h2 : c.natAbs < n) : (min a c).natAbs < n := by
  rcases Int.le_total a c with z | z
  · rw [Int.min_eq_left z]; exact h1
  · rw [Int.min_eq_right z]; exact h2
theorem sz_max {a c : Int} {n : Nat} (h1 : a.natAbs < n) (h2 : c.natAbs < n) : (max a c).natAbs < n := by
  rcases Int.le_total a c with z | z
  · rw [Int.max_eq_right z]; exact h2
  · rw [Int.max_eq_left z]; exact h1
theorem sz_mono {a : Int} {n m : Nat} (h : a.natAbs < 2 ^ n) (hm : n ≤ m) : a.natAbs < 2 ^ m := Nat.lt_of_lt_of_le h (Nat.pow_le_pow_right (by decide) hm)
theorem sz_shl {a : Int} {n b : Nat} (h : a.natAbs < 2 ^ n) : (a * 2 ^ b).natAbs < 2 ^ (n + b) := by
  rw [Int.natAbs_mul, Int.natAbs_pow, show (2 : Int).natAbs = 2 from rfl, Nat.pow_add]
  exact Nat.mul_lt_mul_of_pos_right h (Nat.pow_pos (by decide))
theorem sz_add {a c : Int} {n : Nat} (h1 : a.natAbs < 2 ^ n) (h2 : c.natAbs < 2 ^ n) : (a + c).natAbs < 2 ^ (n + 1) := by
  rw [Nat.pow_succ]
  have := Int.natAbs_add_le a c
  omega
theorem mach_small {w : Nat} (hw : w ≤ 1000) : (mach w).natAbs < 2 ^ 1107 := by
  have t5 : (Lp.tsum 5 w 1000).natAbs < 2 ^ 1100 := tsum_small hw
  have t239 : (Lp.tsum 239 w 1000).natAbs < 2 ^ 1100 := tsum_small hw
  have q1 : (4 * Lp.tsum 5 w 1000).natAbs < 2 ^ 1103 := mul_small (n := 3) (by decide) t5
  have q2 : (4 * Lp.tsum 5 w 1000 - Lp.tsum 239 w 1000).natAbs < 2 ^ 1104 := sub_small q1 (Nat.lt_trans t239 (Nat.pow_lt_pow_right (by decide) (by decide)))
  exact mul_small (n := 3) (by decide) q2
theorem piS_small {b : Nat} (hb : b ≤ 900) : (piS b).natAbs < 2 ^ 1108 := by
  unfold piS nearF
  refine sz_ediv ?_
  have h := mach_small (w := b + 32) (by omega)
  exact sz_add (sz_ediv h) (sz_mono (n := 1) (by decide) (by decide))
theorem pi_small {b : Nat} (hb : b ≤ 800) : (piLo b).natAbs < 2 ^ 1109 ∧ (piHi b).natAbs < 2 ^ 1109 := by
  have h := piS_small (b := b + 32) (by omega)
  unfold piLo piHi
  refine ⟨sz_ediv ?_, sz_neg (sz_ediv (sz_neg (sz_add h (sz_mono (n := 1) (by decide) (by decide)))))⟩
  rw [Int.sub_eq_add_neg]
  exact sz_add h (sz_mono (n := 1) (by decide) (by decide))
def SmF (x : EE) : Prop := x.1.natAbs < 2 ^ 3000 ∧ x.2.natAbs < 2 ^ 3000
theorem mulE_small {x y : EE} {b : Nat} (hx : SmE x) (hy : SmE y) : SmF (mulE x y b) := by
  obtain ⟨h1, h2⟩ := hx
  obtain ⟨h3, h4⟩ := hy
  have m : ∀ {i j : Int}, i.natAbs < 2 ^ 1000 → j.natAbs < 2 ^ 1000 → (i * j).natAbs < 2 ^ 3000 := fun hi hj => sz_mono (mul_small hi hj) (by decide)
  exact ⟨sz_ediv (sz_min (sz_min (m h1 h3) (m h1 h4)) (sz_min (m h2 h3) (m h2 h4))), sz_neg (sz_ediv (sz_neg (sz_max (sz_max (m h1 h3) (m h1 h4)) (sz_max (m h2 h3) (m h2 h4)))))⟩
theorem divE_small {x y : EE} {b : Nat} (hx : SmE x) (hb : b ≤ 1000) : SmF (divE x y b) := by
  obtain ⟨h1, h2⟩ := hx
  have m : ∀ {i : Int}, i.natAbs < 2 ^ 1000 → (i * 2 ^ b).natAbs < 2 ^ 3000 := fun hi => sz_mono (sz_shl hi) (by omega)
  exact ⟨sz_min (sz_min (sz_ediv (m h1)) (sz_ediv (m h1))) (sz_min (sz_ediv (m h2)) (sz_ediv (m h2))), sz_max (sz_max (sz_neg (sz_ediv (sz_neg (m h1)))) (sz_neg (sz_ediv (sz_neg (m h1))))) (sz_max (sz_neg (sz_ediv (sz_neg (m h2)))) (sz_neg (sz_ediv (sz_neg (m h2)))))⟩
theorem encS_small {b : Nat} {ρ : Nat → EE} {ν : Nat → Bool} {s : FStep} (hb : b ≤ 800) (h : StOk ρ ν s) (hn : s.1 ≠ "number") : SmF (encS b ρ s) := by
  cases h with
  | num p q => exact absurd rfl hn
  | pi =>
    rw [encS_pi]
    obtain ⟨h1, h2⟩ := pi_small hb
    exact ⟨sz_mono h1 (by decide), sz_mono h2 (by decide)⟩
  | mul i j h1 h2 =>
    rw [encS_mul]
    exact mulE_small h1 h2
  | div i j h1 h2 h3 h4 =>
    rw [encS_div]
    exact divE_small h1 (by omega)
/-! results_or_none -/
theorem stok_ix {ρ : Nat → EE} {ν : Nat → Bool} {s : FStep} (h : StOk ρ ν s) (hn : s.1 ≠ "number") : s.2 = (ix s).map fun i : Nat => (i : Int) := by
  cases h with
  | num p q => exact absurd rfl hn
  | pi => rfl
  | mul i j h1 h2 => rw [ix_two times_nn] <;> rfl
  | div i j h1 h2 h3 h4 => rw [ix_two divide_nn] <;> rfl
theorem cut_step (s : FStep) : Ja.cutD (.str s.1 :: s.2.map PyData.int) (some 1) none = s.2.map PyData.int := by
  unfold Ja.cutD
  rw [show HT.sIx (PyData.str s.1 :: s.2.map PyData.int).length 0 (some 1) = min 1 (PyData.str s.1 :: s.2.map PyData.int).length from HT.sIx_nat _ 0 1, HT.sIx_none]
  rw [show min 1 (PyData.str s.1 :: s.2.map PyData.int).length = 1 by rw [List.length_cons]; omega]
  show (s.2.map PyData.int).take ((PyData.str s.1 :: s.2.map PyData.int).length - 1) = _
  rw [List.length_cons, Nat.add_sub_cancel]
  exact List.take_length
abbrev spRon (K : PySem.W.Frag) : Sp := SpF K (fun a : FStep × List EE × Nat => [.dat (stD a.1), .dat (.list (a.2.1.map pairD)), nI (a.2.2 : Int)]) (fun a => a.2.2 ≤ 800 ∧ (∃ ν, StOk (rhoL a.2.1) ν a.1) ∧ (∀ m ∈ ix a.1, m < a.2.1.length) ∧ a.1.1 ≠ "number") fun a => pairD (encS a.2.2 (rhoL a.2.1) a.1)
theorem ok_ron {f f0 : Addr} {fd fd0 : FuncData} {t0 : Tok} (F : Fun K "results_or_none" "results_or_none" s_results_or_none f fd) (F_results : Fun K "results" "results" s_results f0 fd0) (b_results : Binds K fd0 ["step", "enclosures", "bits"] []) (g_results : mg "results" = some (.ref f0)) (G_results : FnOk P w K mg base CX0 4 f0 fd0 ["step", "enclosures", "bits"] (spRes K))
    (g_MOST_DIGITS : mg "MOST_DIGITS" = some (.int 262144 t0)) (m_max : mg "max" = none) (m_abs : mg "abs" = none) : FnOk P w K mg base CX0 5 f fd ["step", "found", "bits"] (spRon K) := by
  refine F.ok sc_results_or_none (fun vs H Q E ⟨_, _, _, iv, _⟩ => iv.len) (fun cdv A outer s H vs Q E hr h => ⟨_, (pss_cons (ps_for PassesOwn.never rfl (pi_tup (pe_slice sl_tup (pv 0) (po_some pe_int) po_none)) (pg_name (i := 3) sc_results_or_none.nd rfl (.inl rfl)) (pss_one (ps_if (pt_cmpR op_isN (pe_ix ix_list (pv 1) (pv 3) (fun _ _ => rfl)) pe_non (nomark _)) (pss_one (ps_ret pe_non)) pss_nil)))
        (pss_cons (ps_try_thru0 (pss_one (ps_set (i := 4) sc_results_or_none.nd rfl (.inl rfl) (pe_call G_results (hr.mono (by decide)) (by rfl) g_results F_results.kp b_results .nil pass0 (pa_cons (pv 0) (pa_cons (pv 1) (pa_cons (pv 2) pa_nil)))))))
        (pss_cons (ps_if (pt_cmpR op_gt (pe_bits (pe_callB (call_max2 rfl) (by rfl) m_max (by decide +kernel) (pa_cons (pe_callB call_abs (by rfl) m_abs (by decide +kernel) (pa_cons (pe_ix ix_tup (pv 4) pe_int (fun _ _ => rfl)) pa_nil)) (pa_cons (pe_callB call_abs (by rfl) m_abs (by decide +kernel) (pa_cons (pe_ix ix_tup (pv 4) pe_int (fun _ _ => rfl)) pa_nil)) pa_nil)))) (pe_glob (by rfl) g_MOST_DIGITS (show RelV (.int 262144) _ from ⟨_, rfl⟩)) (nomark _)) (pss_one (ps_ret pe_non)) pss_nil)
        (pss_one (ps_ret (pv 4)))))), run_body h fun a B hp => ?_⟩)
  obtain ⟨st, xs, b⟩ := a
  obtain ⟨hb, ⟨ν, hs⟩, hix, hn⟩ := hp
  simp only at hb hs hix hn
  refine sd_env (δ1 := [.dat (.tuple (.str st.1 :: st.2.map PyData.int)), .dat (.list (xs.map pairD)), nI (b : Int), .no, .no]) rfl ?_
  refine q_for (w_tup (d_is (d_slT (d_var (s := .dat (.tuple (.str st.1 :: st.2.map PyData.int))) rfl) (o_some d_ci) o_none (.inl (by
    rw [show HT.sIx (PyData.str st.1 :: st.2.map PyData.int).length 0 (some 1) = min 1 (PyData.str st.1 :: st.2.map PyData.int).length from HT.sIx_nat _ 0 1, List.length_cons]
    omega)) (fun z => by cases z)) (by rw [cut_step]))) (fun i δ => ∃ s, δ = [.dat (.tuple (.str st.1 :: st.2.map PyData.int)), .dat (.list (xs.map pairD)), nI (b : Int), s, .no]) ⟨_, rfl⟩ (fun i d δ' hd hq => ?_) (fun δ' hq => ?_)
  · obtain ⟨s, rfl⟩ := hq
    obtain ⟨m, hm, rfl⟩ : ∃ m, m < xs.length ∧ d = .int ((m : Nat) : Int) := by
      rw [stok_ix hs hn, List.map_map, List.getElem?_map] at hd
      obtain ⟨m, h1, h2⟩ := Option.map_eq_some_iff.mp hd
      exact ⟨m, hix m (List.mem_of_getElem? h1), h2.symm⟩
    refine ⟨[3], [_, _, _, nI (m : Int), _], g_name, ?_⟩
    exact sd_when (b_is (c := false) (b_test (d_isND (d_ixL (d_var (s := .dat (.list (xs.map pairD))) rfl) (d_var (s := nI (m : Int)) rfl) (rho_get hm)))) rfl) (fun hb => nomatch hb) (fun _ => ⟨_, rfl⟩)
  · obtain ⟨s, rfl⟩ := hq
    have hsm := encS_small hb hs hn
    refine sd_seq (sd_asg (s := .dat (pairD (encS b (rhoL xs) st))) (d_callF (st, xs, b) (a_cons (d_var (s := .dat (stD st)) rfl) (a_cons (d_var (s := .dat (.list (xs.map pairD))) rfl) (a_cons (d_var (s := nI (b : Int)) rfl) a_nil))) ⟨hb, ⟨ν, hs⟩, hix, hn⟩) ?_)
    obtain ⟨s1, s2⟩ := hsm
    refine sd_env (δ1 := [.dat (.tuple (.str st.1 :: st.2.map PyData.int)), .dat (.list (xs.map pairD)), nI (b : Int), s, .dat (.tuple [.int (encS b (rhoL xs) st).1, .int (encS b (rhoL xs) st).2])]) rfl ?_
    have P0 : EvS K B H (tVar 4) [.dat (.tuple (.str st.1 :: st.2.map PyData.int)), .dat (.list (xs.map pairD)), nI (b : Int), s, .dat (.tuple [.int (encS b (rhoL xs) st).1, .int (encS b (rhoL xs) st).2])] (.dat (.tuple [.int (encS b (rhoL xs) st).1, .int (encS b (rhoL xs) st).2])) := d_var rfl
    refine q_when (b_is (c := false) (b_test (d_b0 (d_bits (d_max (d_abs (d_ixT P0 d_ci rfl)) (d_abs (d_ixT P0 d_ci rfl)))) d_ci)) (decide_eq_false ?_)) (fun hb => nomatch hb) (fun _ => ?_)
    · have h3 : (max ((encS b (rhoL xs) st).1.natAbs : Int) ((encS b (rhoL xs) st).2.natAbs : Int)).natAbs < 2 ^ 3000 := sz_max (by rw [Int.natAbs_natCast]; exact s1) (by rw [Int.natAbs_natCast]; exact s2)
      have h4 := PyProof.Rows.intBits_le h3
      omega
    · exact sd_ret (d_var (s := .dat (.tuple [.int (encS b (rhoL xs) st).1, .int (encS b (rhoL xs) st).2])) rfl) rfl
/-! enclosed_steps -/
abbrev CC : Type := Bool × EE
def ev2 (b : Nat) (ρ : Nat → CC) (s : FStep) : CC := (decide (s.1 = "number"), encS b (fun j => (ρ j).2) s)
theorem snd_at (l : List CC) (j : Nat) : rhoL (l.map (·.2)) j = (Mg.at' l j).2 := by
  unfold rhoL Mg.at'
  rw [List.getD_eq_getElem?_getD, List.getD_eq_getElem?_getD, List.getElem?_map]
  cases l[j]? <;> rfl
theorem rho_snd (l : List CC) : rhoL (l.map (·.2)) = fun j => (Mg.at' l j).2 := funext (snd_at l)
abbrev V2 (b : Nat) (ss : List FStep) : List CC := Mg.evs (ev2 b) ss
/-- a step's arguments are as they must be -/
def Cd (ρ : Nat → CC) (s : FStep) : Prop := StOk (fun j => (ρ j).2) (fun j => (ρ j).1) s
theorem stok_loc {ρ ρ' : Nat → EE} {ν ν' : Nat → Bool} {s : FStep} (h : ∀ i ∈ ix s, ρ i = ρ' i ∧ ν i = ν' i) (k : StOk ρ ν s) : StOk ρ' ν' s := by
  cases k with
  | num p q a1 a2 a3 => exact .num p q a1 a2 a3
  | pi => exact .pi
  | mul i j h1 h2 h3 =>
    rw [ix_two times_nn] at h
    obtain ⟨e1, e2⟩ := h i (by simp)
    obtain ⟨e3, e4⟩ := h j (by simp)
    exact .mul i j (e1 ▸ h1) (e3 ▸ h2) (by rw [← e2, ← e4]; exact h3)
  | div i j h1 h2 h3 h4 h5 =>
    rw [ix_two divide_nn] at h
    obtain ⟨e1, e2⟩ := h i (by simp)
    obtain ⟨e3, e4⟩ := h j (by simp)
    exact .div i j (e1 ▸ h1) (e3 ▸ h2) (e3 ▸ h3) (e3 ▸ h4) (by rw [← e4]; exact h5)
theorem ix_of {x : Str} {l : List Int} (h : x ≠ "number") : ix (x, l) = l.map Int.toNat := if_neg h
theorem opE_loc {b : Nat} {ρ ρ' : Nat → EE} {x : Str} : ∀ {l : List Int}, (∀ i ∈ l.map Int.toNat, ρ i = ρ' i) → opE b ρ x l = opE b ρ' x l
  | [], _ => rfl
  | [_], _ => rfl
  | [i, j], h => by
    rw [opE_two, opE_two, h i.toNat (by simp), h j.toNat (by simp)]
  | _ :: _ :: _ :: _, _ => rfl
theorem opE_ren {b : Nat} {ρ : Nat → EE} {f : Nat → Nat} {x : Str} : ∀ {l : List Int}, opE b ρ x (l.map fun i => ((f i.toNat : Nat) : Int)) = opE b (fun i => ρ (f i)) x l
  | [] => rfl
  | [_] => rfl
  | [i, j] => by
    show opE b ρ x [((f i.toNat : Nat) : Int), ((f j.toNat : Nat) : Int)] = _
    rw [opE_two, opE_two, Int.toNat_natCast, Int.toNat_natCast]
  | _ :: _ :: _ :: _ => rfl
theorem nat2 (b : Nat) : Mg.Nat' (ev2 b) := by
  refine ⟨fun ρ ρ' s h => ?_, fun ρ f s => ?_⟩
  · unfold ev2 encS
    by_cases hn : s.1 = "number"
    · rw [if_pos hn, if_pos hn]
    · by_cases hp : s.1 = "pi"
      · rw [if_neg hn, if_pos hp, if_neg hn, if_pos hp]
      · rw [if_neg hn, if_neg hp, if_neg hn, if_neg hp, opE_loc (ρ := fun j => (ρ j).2) (ρ' := fun j => (ρ' j).2) fun i hi => congrArg (·.2) (h i (by
          unfold ix
          rw [if_neg hn]
          exact hi))]
  · unfold ev2
    rw [ren_word]
    unfold encS
    rw [ren_word]
    by_cases hn : s.1 = "number"
    · unfold Td.ren
      rw [if_pos hn, if_pos hn, if_pos hn]
    · by_cases hp : s.1 = "pi"
      · rw [if_neg hn, if_pos hp, if_neg hn, if_pos hp]
      · rw [if_neg hn, if_neg hp, if_neg hn, if_neg hp]
        unfold Td.ren
        rw [if_neg hn]
        exact congrArg _ opE_ren
theorem stok_ren {ρ : Nat → EE} {ν : Nat → Bool} {f : Nat → Nat} {s : FStep} (h : StOk (fun i => ρ (f i)) (fun i => ν (f i)) s) : StOk ρ ν (Td.ren f s) := by
  cases h with
  | num p q a1 a2 a3 =>
    rw [show Td.ren f (("number" : Str), [p, q]) = (("number" : Str), [p, q]) from if_pos rfl]
    exact .num p q a1 a2 a3
  | pi =>
    rw [show Td.ren f (("pi" : Str), []) = (("pi" : Str), []) from if_neg pi_nn]
    exact .pi
  | mul i j h1 h2 h3 =>
    rw [show Td.ren f (("times" : Str), [(i : Int), (j : Int)]) = (("times" : Str), [((f i : Nat) : Int), ((f j : Nat) : Int)]) from if_neg times_nn]
    exact .mul _ _ h1 h2 h3
  | div i j h1 h2 h3 h4 h5 =>
    rw [show Td.ren f (("divide" : Str), [(i : Int), (j : Int)]) = (("divide" : Str), [((f i : Nat) : Int), ((f j : Nat) : Int)]) from if_neg divide_nn]
    exact .div _ _ h1 h2 h3 h4 h5
/-- all steps are as they must be, each looking back -/
structure AllOk (b : Nat) (L : List FStep) : Prop where
  cd : ∀ k, (hk : k < L.length) → Cd (Mg.at' (V2 b L)) L[k]
  back : ∀ k, (hk : k < L.length) → ∀ m ∈ ix L[k], m < k
  few : L.length ≤ 1000
theorem AllOk.pre {b : Nat} {L : List FStep} (h : AllOk b L) {k : Nat} (hk : k < L.length) : Cd (Mg.at' (V2 b (L.take k))) L[k] :=
  stok_loc (fun i hi => by
    have e := Mg.evs_take_at (ev := ev2 b) L (h.back k hk i hi) (Nat.le_of_lt hk)
    exact ⟨congrArg (·.2) e.symm, congrArg (·.1) e.symm⟩) (h.cd k hk)
theorem V2_num {b : Nat} {L : List FStep} {j : Nat} (hj : j < L.length) : (Mg.at' (V2 b L) j).1 = decide (L[j].1 = "number") := by
  rw [Mg.evs_at L hj]
  rfl
theorem exD_isNo {s : FStep} (h : decide (s.1 = "number") = false) : exD s = .none := exD_not (of_decide_eq_false h)
theorem AllOk.ex {b : Nat} {L : List FStep} (h : AllOk b L) {k : Nat} (hk : k < L.length) : ExOk ((L.take k).map exD) L[k] := by
  have c := h.cd k hk
  have bk := h.back k hk
  generalize hs : L[k] = s at c bk
  have gt : ∀ {j : Nat} (hj : j < k), ((L.take k).map exD)[j]? = some (exD (L[j]'(Nat.lt_trans hj hk))) := fun {j} hj => by
    rw [List.getElem?_map, List.getElem?_take_of_lt hj, List.getElem?_eq_getElem (Nat.lt_trans hj hk)]
    rfl
  cases c with
  | num p q => exact .inl ⟨p, q, rfl⟩
  | pi => exact .inr (.inl rfl)
  | mul i j h1 h2 h3 =>
    rw [ix_two times_nn] at bk
    have hi := bk i (by simp)
    have hj := bk j (by simp)
    refine .inr (.inr ⟨_, i, j, _, _, .inl rfl, rfl, gt hi, gt hj, ?_⟩)
    rcases h3 with z | z
    · rw [V2_num (Nat.lt_trans hi hk)] at z
      exact .inl (by rw [exD_isNo z]; rfl)
    · rw [V2_num (Nat.lt_trans hj hk)] at z
      exact .inr (by rw [exD_isNo z]; rfl)
  | div i j h1 h2 h3 h4 h5 =>
    rw [ix_two divide_nn] at bk
    have hi := bk i (by simp)
    have hj := bk j (by simp)
    refine .inr (.inr ⟨_, i, j, _, _, .inr rfl, rfl, gt hi, gt hj, ?_⟩)
    rw [V2_num (Nat.lt_trans hj hk)] at h5
    exact .inr (by rw [exD_isNo h5]; rfl)
theorem AllOk.rf {b : Nat} {L : List FStep} (h : AllOk b L) {k : Nat} (hk : k < L.length) (hn : L[k].1 ≠ "number") : RfOk (L.map exD) ((V2 b (L.take k)).map (·.2)) L[k] := by
  have c := h.pre hk
  have bk := h.back k hk
  have hlen : ((V2 b (L.take k)).map (·.2)).length = k := by rw [List.length_map, Mg.evs_length, List.length_take]; omega
  generalize hs : L[k] = s at c bk hn
  have gt : ∀ {j : Nat} (hj : j < k), (L.map exD)[j]? = some (exD (L[j]'(Nat.lt_trans hj hk))) := fun {j} hj => by
    rw [List.getElem?_map, List.getElem?_eq_getElem (Nat.lt_trans hj hk)]
    rfl
  have exs : ∀ s : FStep, (∃ ρ ν, StOk ρ ν s) → exD s = .none ∨ ∃ p q, exD s = fracD p q := fun s ⟨ρ, ν, z⟩ => by
    cases z with
    | num p q => exact .inr ⟨p, q, exD_num p q⟩
    | pi => exact .inl (exD_not pi_nn)
    | mul i j => exact .inl (exD_not times_nn)
    | div i j => exact .inl (exD_not divide_nn)
  cases c with
  | num p q => exact absurd rfl hn
  | pi => exact .inl rfl
  | mul i j h1 h2 h3 =>
    rw [ix_two times_nn] at bk
    have hj := bk j (by simp)
    exact .inr ⟨_, i, j, _, rfl, gt hj, by rw [hlen]; exact hj, .inl ⟨rfl, exs _ ⟨_, _, h.cd j (Nat.lt_trans hj hk)⟩⟩⟩
  | div i j h1 h2 h3 h4 h5 =>
    rw [ix_two divide_nn] at bk
    have hj := bk j (by simp)
    refine .inr ⟨_, i, j, _, rfl, gt hj, by rw [hlen]; exact hj, .inr ⟨rfl, ?_, by rw [snd_at]; exact h3⟩⟩
    have e := Mg.evs_take_at (ev := ev2 b) L hj (Nat.le_of_lt hk)
    rw [e, V2_num (Nat.lt_trans hj hk)] at h5
    exact exD_isNo h5
/-- a formula whose steps are as they must be -/
structure FOk (b : Nat) (ff : List FStep) : Prop where
  ok : OkForm ff
  ne : ff ≠ []
  few : ff.length ≤ 1000
  cd : ∀ k, (hk : k < ff.length) → Cd (Mg.at' (V2 b ff)) ff[k]
theorem FOk.all {b : Nat} {ff : List FStep} (h : FOk b ff) : AllOk b (merge ff).1 := by
  refine ⟨fun k hk => ?_, (Mg.merge_inv (nat2 b) h.ok).ixs, ?_⟩
  · exact Mg.merge_cond (nat2 b) h.ok (Cd := Cd) (fun ρ ρ' s e k => stok_loc (fun i hi => ⟨congrArg (·.2) (e i hi), congrArg (·.1) (e i hi)⟩) k) (fun ρ f s k => stok_ren (ρ := fun j => (ρ j).2) (ν := fun j => (ρ j).1) k) h.cd k hk
  · have := (mfold_len [] ff ff.length (Nat.le_refl _)).2
    rw [List.take_length] at this
    have e : merge ff = ff.foldl mstep ([], []) := rfl
    rw [e]
    have := h.few
    simp at *
    omega
abbrev spEncl (K : PySem.W.Frag) : Sp := SpN K (fun a : List FStep × Nat => [.dat (.list (a.1.map stD)), .dat (.list (a.1.map exD)), nI (a.2 : Int)]) (fun a => a.2 ≤ 800 ∧ AllOk a.2 a.1) fun a ds => ds = ((V2 a.2 a.1).map (·.2)).map pairD
theorem zip_get {A : List FStep} {i : Nat} {d : PyData} (h : (zipD (A.map stD) (A.map exD))[i]? = some d) : ∃ hi : i < A.length, d = .tuple [stD A[i], exD A[i]] := by
  unfold zipD at h
  rw [List.getElem?_map] at h
  obtain ⟨s, h1, h2⟩ := Option.map_eq_some_iff.mp h
  rw [List.zip_map', List.getElem?_map] at h1
  obtain ⟨t, h3, h4⟩ := Option.map_eq_some_iff.mp h1
  obtain ⟨hi, e⟩ := List.getElem?_eq_some_iff.mp h3
  refine ⟨hi, ?_⟩
  rw [← h2, ← h4, e]
theorem ok_encl {f f0 f1 f2 : Addr} {fd fd0 fd1 fd2 : FuncData} (F : Fun K "enclosed_steps" "enclosed_steps" s_enclosed_steps f fd) (F_of_fraction : Fun K "of_fraction" "of_fraction" s_of_fraction f0 fd0) (b_of_fraction : Binds K fd0 ["bits", "p", "q"] []) (g_of_fraction : mg "of_fraction" = some (.ref f0))
    (F_refuse_undefined : Fun K "refuse_undefined" "refuse_undefined" s_refuse_undefined f1 fd1) (b_refuse_undefined : Binds K fd1 ["step", "exacts", "found", "bits"] []) (g_refuse_undefined : mg "refuse_undefined" = some (.ref f1)) (G_refuse_undefined : FnOk P w K mg base CX0 2 f1 fd1 ["step", "exacts", "found", "bits"] (spRefuse K))
    (F_results_or_none : Fun K "results_or_none" "results_or_none" s_results_or_none f2 fd2) (b_results_or_none : Binds K fd2 ["step", "found", "bits"] []) (g_results_or_none : mg "results_or_none" = some (.ref f2)) (G_results_or_none : FnOk P w K mg base CX0 5 f2 fd2 ["step", "found", "bits"] (spRon K)) (m_zip : mg "zip" = none) : FnOk P w K mg base CX0 6 f fd ["steps", "exacts", "bits"] (spEncl K) := by
  have G_of_fraction : FnOk P w K mg base CX0 1 f0 fd0 ["bits", "p", "q"] (spOf K) := ok_of F_of_fraction
  refine F.ok sc_enclosed_steps (fun vs H Q E ⟨_, _, _, iv, _⟩ => iv.len) (fun cdv A outer s H vs Q E hr h => ⟨_, (pss_cons (ps_set (i := 3) sc_enclosed_steps.nd rfl (.inl rfl) (pe_lst pa_nil))
        (pss_cons (ps_for PassesOwn.never rfl (RZ.pi_zipA (by rfl) m_zip (pa_cons (pv 0) (pa_cons (pv 1) pa_nil))) (pg_tup rfl (pgs_cons (pg_name (i := 4) sc_enclosed_steps.nd rfl (.inl rfl)) (pgs_cons (pg_name (i := 5) sc_enclosed_steps.nd rfl (.inl rfl)) pgs_nil))) (pss_one (ps_if (pt_cmpR op_notN (pv 5) pe_non (nomark _)) (pss_cons (ps_asg (pv 5) (pg_tup rfl (pgs_cons (pg_name (i := 6) sc_enclosed_steps.nd rfl (.inl rfl)) (pgs_cons (pg_name (i := 7) sc_enclosed_steps.nd rfl (.inl rfl)) pgs_nil))))
        (pss_one (ps_expr (pe_bm PySem.F.plainAttrs_list PySem.F.slot_list_append PySem.F.type_list_append mt_append (pv 3) (pa_cons (pe_call G_of_fraction (hr.mono (by decide)) (by rfl) g_of_fraction F_of_fraction.kp b_of_fraction .nil pass0 (pa_cons (pv 2) (pa_cons (pv 6) (pa_cons (pv 7) pa_nil)))) pa_nil))))) (pss_cons (ps_expr (pe_call G_refuse_undefined (hr.mono (by decide)) (by rfl) g_refuse_undefined F_refuse_undefined.kp b_refuse_undefined .nil pass0 (pa_cons (pv 4) (pa_cons (pv 1) (pa_cons (pv 3) (pa_cons (pv 2) pa_nil))))))
        (pss_one (ps_expr (pe_bm PySem.F.plainAttrs_list PySem.F.slot_list_append PySem.F.type_list_append mt_append (pv 3) (pa_cons (pe_call G_results_or_none (hr.mono (by decide)) (by rfl) g_results_or_none F_results_or_none.kp b_results_or_none .nil pass0 (pa_cons (pv 4) (pa_cons (pv 3) (pa_cons (pv 2) pa_nil)))) pa_nil))))))))
        (pss_one (ps_ret (pv 3))))), run_bodyN h fun a B hp => ?_⟩)
  obtain ⟨L, b⟩ := a
  obtain ⟨hb, hL⟩ := hp
  simp only at hb hL
  refine sd_env (δ1 := [.dat (.list (L.map stD)), .dat (.list (L.map exD)), nI (b : Int), .no, .no, .no, .no, .no]) rfl ?_
  refine q_asgO [_, _, _, .own [], _, _, _, _] (n_lst ds_nil) ?_
  refine q_for (w_zip (ds_cons (d_var (s := .dat (.list (L.map stD))) rfl) (ds_cons (d_var (s := .dat (.list (L.map exD))) rfl) ds_nil))) (fun i δ => i ≤ L.length ∧ ∃ s4 s5 s6 s7, δ = [.dat (.list (L.map stD)), .dat (.list (L.map exD)), nI (b : Int), .own (((V2 b (L.take i)).map (·.2)).map pairD), s4, s5, s6, s7]) ⟨Nat.zero_le _, _, _, _, _, rfl⟩ (fun i d δ' hd hq => ?_) (fun δ' hq => ?_)
  · obtain ⟨_, s4, s5, s6, s7, rfl⟩ := hq
    obtain ⟨hi, rfl⟩ := zip_get hd
    have hlen : ((V2 b (L.take i)).map (·.2)).length = i := by rw [List.length_map, Mg.evs_length, List.length_take]; omega
    have hnext : ((V2 b (L.take (i + 1))).map (·.2)).map pairD = ((V2 b (L.take i)).map (·.2)).map pairD ++ [pairD (encS b (rhoL ((V2 b (L.take i)).map (·.2))) L[i])] := by
      rw [show V2 b (L.take (i + 1)) = _ from Mg.evs_take (ev := ev2 b) L hi, List.map_append, List.map_append, rho_snd]
      rfl
    have hfew := hL.few
    refine ⟨_, [_, _, _, .own (((V2 b (L.take i)).map (·.2)).map pairD), .dat (stD L[i]), .dat (exD L[i]), s6, s7], g_tup (g_cons g_name (g_cons g_name g_nil)), ?_⟩
    by_cases hn : L[i].1 = "number"
    · obtain ⟨p, q, he, a1, a2, a3⟩ : ∃ p q, L[i] = (("number" : Str), [p, q]) ∧ p.natAbs < 2 ^ 100 ∧ 1 ≤ q ∧ q < 2 ^ 100 := by
        have c := hL.cd i hi
        generalize L[i] = s at c hn
        cases c with
        | num p q a1 a2 a3 => exact ⟨p, q, rfl, a1, a2, a3⟩
        | pi => exact absurd hn pi_nn
        | mul => exact absurd hn times_nn
        | div => exact absurd hn divide_nn
      rw [he] at hnext ⊢
      rw [exD_num]
      refine sd_if (b := true) (b_is (b_test (d_notND (d_var (s := .dat (fracD p q)) rfl))) rfl) (fun _ => ?_) (fun hb => nomatch hb)
      refine q_unp [_, _, _, _, _, _, nI p, nI q] (d_var (s := .dat (.tuple [.int p, .int q])) rfl) (g_tup (g_cons g_name (g_cons g_name g_nil))) ?_
      refine sd_app (n := 3) rfl (d_callF (b, p, q) (a_cons (d_var (s := nI (b : Int)) rfl) (a_cons (d_var (s := nI p) rfl) (a_cons (d_var (s := nI q) rfl) a_nil))) ⟨show b ≤ 4000 by omega, a1, a2, a3⟩) (by rw [List.length_map, hlen]; omega) ⟨hi, .dat (stD (("number" : Str), [p, q])), .dat (fracD p q), nI p, nI q, ?_⟩
      rw [hnext, encS_num]
      rfl
    · have hc := hL.pre hi
      rw [exD_not hn]
      refine sd_if (b := false) (b_is (b_test (d_notND (d_var (s := .dat .none) rfl))) rfl) (fun hb => nomatch hb) (fun _ => ?_)
      refine q_drop (d_callO (L[i], L.map exD, (V2 b (L.take i)).map (·.2), b) (ah_cons (d_var (s := .dat (stD L[i])) rfl) (ah_cons (d_var (s := .dat (.list (L.map exD))) rfl) (ah_own (n := 3) rfl (ah_cons (d_var (s := nI (b : Int)) rfl) ah_nil)))) ⟨hL.rf hi hn, show b ≤ 4000 by omega⟩ (by simp [noL])) ?_
      refine sd_app (n := 3) rfl (d_callO (L[i], (V2 b (L.take i)).map (·.2), b) (ah_cons (d_var (s := .dat (stD L[i])) rfl) (ah_own (n := 3) rfl (ah_cons (d_var (s := nI (b : Int)) rfl) ah_nil))) ⟨hb, ⟨_, by rw [rho_snd]; exact hc⟩, fun m hm => by rw [hlen]; exact hL.back i hi m hm, hn⟩ (by simp [pairD, noL, noLs])) (by rw [List.length_map, hlen]; omega) ⟨hi, .dat (stD L[i]), .dat .none, s6, s7, ?_⟩
      rw [hnext]
      rfl
  · obtain ⟨_, s4, s5, s6, s7, rfl⟩ := hq
    refine sd_retO (n := 3) rfl ?_
    have e : (zipD (L.map stD) (L.map exD)).length = L.length := by
      unfold zipD
      rw [List.length_map, List.length_zip, List.length_map, List.length_map, Nat.min_self]
    rw [e, List.take_length]
/-! ### the bits that are tried -/
/-- the numbers of bits to try -/
def tryF : Nat → Nat → List Nat
  | 0, _ => [2048]
  | n + 1, c => if c < 2048 then c :: tryF n (2 * c) else [2048]
theorem tryF_end {c : Nat} (h : ¬ c < 2048) : ∀ n, tryF n c = [2048]
  | 0 => rfl
  | n + 1 => if_neg h
def natD (n : Nat) : PyData := .int (n : Int)
abbrev spTry (K : PySem.W.Frag) : Sp := SpN K (fun b : Nat => [nI (b : Int)]) (fun b => 8 ≤ b ∧ b < 2048) fun b ds => ds = (tryF 4096 b).map natD
theorem ok_try {f : Addr} {fd : FuncData} {t0 : Tok} (F : Fun K "bits_to_try" "bits_to_try" s_bits_to_try f fd) (g_MOST_BITS : mg "MOST_BITS" = some (.int 2048 t0)) : FnOk P w K mg base CX0 1 f fd ["bits"] (spTry K) := by
  refine F.ok sc_bits_to_try (fun vs H Q E ⟨_, _, _, iv, _⟩ => iv.len) (fun cdv A outer s H vs Q E hr h => ⟨_, (pss_cons (ps_set (i := 1) sc_bits_to_try.nd rfl (.inl rfl) (pe_lst pa_nil))
        (pss_cons (ps_while PassesOwn.never (pt_cmpR op_lt (pv 0) (pe_glob (by rfl) g_MOST_BITS (show RelV (.int 2048) _ from ⟨_, rfl⟩)) (nomark _)) (pss_cons (ps_expr (pe_bm PySem.F.plainAttrs_list PySem.F.slot_list_append PySem.F.type_list_append mt_append (pv 1) (pa_cons (pv 0) pa_nil)))
        (pss_one (ps_set (i := 0) sc_bits_to_try.nd rfl (.inl rfl) (pe_op op_mulX pe_int (pv 0))))))
        (pss_cons (ps_expr (pe_bm PySem.F.plainAttrs_list PySem.F.slot_list_append PySem.F.type_list_append mt_append (pv 1) (pa_cons (pe_glob (by rfl) g_MOST_BITS (show RelV (.int 2048) _ from ⟨_, rfl⟩)) pa_nil)))
        (pss_one (ps_ret (pv 1)))))), run_bodyN h fun b B hp => ?_⟩)
  obtain ⟨h1, h2⟩ := hp
  refine sd_env (δ1 := [nI (b : Int), .no]) rfl ?_
  refine q_asgO [_, .own []] (n_lst ds_nil) ?_
  refine q_while (fun m δ => ∃ (c n : Nat) (cs : List Nat), 8 ≤ c ∧ c ≤ 4096 ∧ 4096 ≤ c + n ∧ m = 4096 - c ∧ cs.length ≤ c ∧ cs ++ tryF n c = tryF 4096 b ∧ δ = [nI (c : Int), .own (cs.map natD)]) (4096 - b) ⟨b, 4096, [], h1, by omega, by omega, rfl, by simp, rfl, rfl⟩ (fun m δ' hq => ?_)
  obtain ⟨c, n, cs, c1, c2, c3, rfl, hl, hd, rfl⟩ := hq
  refine ⟨_, b_test (d_b0 (d_var rfl) d_ci), fun hb => ?_, fun hb => ?_⟩
  · have hc : c < 2048 := by
      have := of_decide_eq_true hb
      omega
    obtain ⟨n', rfl⟩ : ∃ n', n = n' + 1 := ⟨n - 1, by omega⟩
    refine q_app [_, .own ((cs ++ [c]).map natD)] rfl (d_var rfl) (by rw [List.length_map]; omega) ?_ (by rw [List.map_append]; rfl)
    refine sd_asg (s := nI ((2 * c : Nat) : Int)) (d_isI (i := 2 * (c : Int)) (d_iC d_ci (d_var rfl) (mulx_ok (a := 100) (b := 100) (by decide) (by omega) (by decide))) (by omega)) ⟨4096 - 2 * c, by omega, 2 * c, n', cs ++ [c], by omega, by omega, by omega, rfl, by rw [List.length_append]; simp; omega, ?_, rfl⟩
    rw [← hd, List.append_assoc]
    show cs ++ (c :: tryF n' (2 * c)) = cs ++ (if c < 2048 then c :: tryF n' (2 * c) else [2048])
    rw [if_pos hc]
  · have hc : ¬ c < 2048 := by
      have := of_decide_eq_false hb
      omega
    refine q_app [_, .own ((cs ++ [2048]).map natD)] rfl d_ci (by rw [List.length_map]; omega) ?_ (by rw [List.map_append]; rfl)
    refine sd_retO rfl ?_
    show _ = (tryF 4096 b).map natD
    rw [← hd, tryF_end hc]
theorem d_notN {B0 H0 : Hp} {δ : List Sl} {ta : TE} {d : PyData} (ha : EvS K B0 H0 ta δ (.dat d)) (hd : d ≠ .none) : EvS K B0 H0 (tOp (fun x y H Q => y = .non ∧ Q (.bl (!decide (x = .non))) H) ta (tC .non)) δ (nB true) := fun B H σ S Q q =>
  ha B H σ S _ fun v B1 H1 s1 i1 => by
    have hv : v ≠ .non := fun z => by
      subst z
      cases i1
      exact hd rfl
    refine ⟨rfl, ?_⟩
    rw [decide_eq_false hv]
    exact q _ B1 H1 s1 (Dt.bl true)
/-! ### the function that is handed over -/
def s_narrow : Stmt := (defBody s_narrow_steps).getD 0 (.Pass ⟨0, 0, 0, 0⟩)
def qN : Str := "narrow_steps.<locals>.narrow"
def nfN (cl : List (Str × Addr)) (c : Addr) : NF := NF.of s_narrow "narrow" qN cl c
theorem sc_narrow : NScope ["_", "enclosures", "work", "bits", "low", "high"] ["_", "enclosures", "work"] ["bits"] (C8.fnScope s_narrow) := nscope_by (by decide +kernel)
abbrev NarA : Type := PyData × List EE × Nat
abbrev encN (a : NarA) : List Sl := [.dat a.1, .dat (.list (a.2.1.map pairD)), nI (a.2.2 : Int)]
/-- rescaled to n bits, its width is at most 4 -/
def Narrow (n wk : Nat) (e : EE) : Prop := n < wk ∧ -(-e.2 / 2 ^ (wk - n)) - e.1 / 2 ^ (wk - n) ≤ 4
def LastIs (xs : List EE) (e : EE) : Prop := ∃ ys, xs = ys ++ [e]
theorem LastIs.get {xs : List EE} {e : EE} (h : LastIs xs e) : atI (xs.map pairD) (-1) = some (pairD e) := by
  obtain ⟨ys, rfl⟩ := h
  rw [List.map_append]
  exact atI_last _ _
abbrev preN (b : Int) (a : NarA) : Prop := ∃ (n : Nat) (e : EE), b = (n : Int) ∧ LastIs a.2.1 e ∧ Narrow n a.2.2 e
abbrev postN (_ : Int) (a : NarA) (d : PyData) : Prop := d = .tuple [.int (a.2.2 : Int), .tuple (a.2.1.map pairD)]
abbrev spNar (K : PySem.W.Frag) : List (Option V) → Sp := spNest K encN preN postN
theorem ok_nar {f f0 f1 : Addr} {cl : List (Str × Addr)} {c' : Addr} {fd0 fd1 : FuncData} {t0 : Tok} (F_rescaled : Fun K "rescaled" "rescaled" s_rescaled f0 fd0) (b_rescaled : Binds K fd0 ["a", "bits", "other"] []) (g_rescaled : mg "rescaled" = some (.ref f0))
    (F_fewer_bits : Fun K "fewer_bits" "fewer_bits" s_fewer_bits f1 fd1) (b_fewer_bits : Binds K fd1 ["low", "high", "bits"] []) (g_fewer_bits : mg "fewer_bits" = some (.ref f1)) (g_WIDTH : mg "WIDTH" = some (.int 4 t0)) (m_tuple : mg "tuple" = none) :
    NOk P w K mg base CX0 3 f (nfN cl c') ["_", "enclosures", "work"] ["bits"] (spNar K) := by
  have G_rescaled : FnOk P w K mg base CX0 2 f0 fd0 ["a", "bits", "other"] (spResc K) := ok_resc F_rescaled F_fewer_bits b_fewer_bits g_fewer_bits
  refine nok_of sc_narrow (fun doc pm ctv us hl => match us, hl with | [_, _, _], _ => rfl) (fun ws vs H Q E ⟨_, _, _, _, _, iv, _⟩ => iv.len) (fun A outer s H vs ws Q E hr hf hc hw h => ?_)
  obtain ⟨b, rfl, h⟩ := h
  refine ⟨_, (pss_cons (ps_asg (pe_call G_rescaled (hr.mono (by decide)) (by rfl) g_rescaled F_rescaled.kp b_rescaled .nil pass0 (pa_cons (pe_ix ix_list (pv 1) (pe_un un_neg pe_int) (fun _ _ => rfl)) (pa_cons (pv 2) (pa_cons (pv 3) pa_nil)))) (pg_tup rfl (pgs_cons (pg_name (i := 4) sc_narrow.nd rfl (.inl rfl)) (pgs_cons (pg_name (i := 5) sc_narrow.nd rfl (.inl rfl)) pgs_nil))))         (pss_cons (ps_if (pt_cmpR op_gt (pe_op op_sub (pv 5) (pv 4)) (pe_glob (by rfl) g_WIDTH (show RelV (.int 4) _ from ⟨_, rfl⟩)) (nomark _)) (pss_one (ps_ret pe_non)) pss_nil)         (pss_one (ps_ret (pe_tup (pa_cons (pv 2) (pa_cons (pe_callTy call_tuple_of (by rfl) m_tuple (by decide +kernel) (pa_cons (pv 1) pa_nil)) pa_nil))))))), run_nbody h fun a B hp => ?_⟩
  obtain ⟨d0, xs, wk⟩ := a
  obtain ⟨n, ⟨lo, hi⟩, rfl, hl, hn, hwd⟩ := hp
  simp only at hl hn hwd
  refine sd_env (δ1 := [.dat d0, .dat (.list (xs.map pairD)), nI (wk : Int), nI (n : Int), .no, .no]) rfl ?_
  refine q_unp [_, _, _, _, nI (lo / 2 ^ (wk - n)), nI (-(-hi / 2 ^ (wk - n)))] (d_callF ((lo, hi), wk, n) (a_cons (d_ixL (d_var (s := .dat (.list (xs.map pairD))) rfl) (d_neg d_ci) hl.get) (a_cons (d_var (s := nI (wk : Int)) rfl) (a_cons (d_var (s := nI (n : Int)) rfl) a_nil))) hn) (g_tup (g_cons g_name (g_cons g_name g_nil))) ?_
  refine q_when (b_is (c := false) (b_test (d_b0 (d_i0 (d_var rfl) (d_var rfl)) d_ci)) (decide_eq_false (by omega))) (fun hb => nomatch hb) (fun _ => ?_)
  exact sd_ret (d_tup (ds_cons (d_var rfl) (ds_cons (d_tupL (d_var (s := .dat (.list (xs.map pairD))) rfl)) ds_nil))) rfl
/-! ### decided, with that function -/
abbrev valsE (b : Nat) (ff : List FStep) : List EE := (V2 b ff).map (·.2)
def ansD (b : Nat) (ff : List FStep) : PyData := .tuple [.int (b : Int), .tuple ((valsE b ff).map pairD)]
def lastE (b : Nat) (ff : List FStep) : EE := (Mg.at' (V2 b ff) (ff.length - 1)).2
theorem last_is {b : Nat} {ff : List FStep} (h : ff ≠ []) : LastIs (valsE b ff) (lastE b ff) := by
  have hl : 0 < ff.length := List.length_pos_iff.mpr h
  have e : ff.take (ff.length - 1 + 1) = ff := by rw [show ff.length - 1 + 1 = ff.length by omega, List.take_length]
  have hi : ff.length - 1 < ff.length := by omega
  have g := Mg.evs_take (ev := ev2 b) ff hi
  rw [e] at g
  refine ⟨valsE b (ff.take (ff.length - 1)), ?_⟩
  show (Mg.evs (ev2 b) ff).map (·.2) = _
  unfold lastE
  rw [show Mg.at' (V2 b ff) (ff.length - 1) = _ from Mg.evs_at (ev := ev2 b) ff hi, g, List.map_append]
  rfl
/-- the enclosures of all steps, from those of the kept ones -/
theorem spread {b : Nat} {ff : List FStep} (h : FOk b ff) : (merge ff).2.map (fun p => pairD (rhoL (valsE b (merge ff).1) p)) = (valsE b ff).map pairD := by
  have I := Mg.merge_inv (nat2 b) h.ok
  refine List.ext_getElem? fun j => ?_
  rw [List.getElem?_map, List.getElem?_map, List.getElem?_map]
  by_cases hj : j < ff.length
  · have h1 : j < (merge ff).2.length := by rw [I.len]; exact hj
    have h2 : j < (V2 b ff).length := by rw [Mg.evs_length]; exact hj
    have v := I.val j hj
    rw [List.getElem?_eq_getElem h1, List.getElem?_eq_getElem h2]
    have e1 : (merge ff).2.getD j 0 = (merge ff).2[j] := by rw [List.getD_eq_getElem?_getD, List.getElem?_eq_getElem h1]; rfl
    have e2 : Mg.at' (V2 b ff) j = (V2 b ff)[j] := by
      unfold Mg.at'
      rw [List.getD_eq_getElem?_getD, List.getElem?_eq_getElem h2]
      rfl
    rw [e1] at v
    show some (pairD (rhoL (valsE b (merge ff).1) (merge ff).2[j])) = some (pairD (V2 b ff)[j].2)
    rw [snd_at, v, ← e2]
  · rw [List.getElem?_eq_none (by rw [I.len]; omega), List.getElem?_eq_none (by rw [Mg.evs_length]; omega)]
    rfl
theorem shp_pairs (xs : List EE) : SeqAt.shaped (.list (xs.map pairD)) = true := (shp_lst (n := 1) (shp_map (f := pairD) (fun x => shp_tup (shp_cons (shp_int x.1) (shp_cons (shp_int x.2) shp_nil))) xs)).ok
theorem no_none : ∀ xs : List EE, ((xs.map pairD).any fun z => PyData.eqv z .none) = false
  | [] => rfl
  | x :: r => by
    rw [List.map_cons, List.any_cons, no_none r]
    rfl
theorem stsK_dt {H : Hp} : ∀ {us : List V} {ss : List FStep}, StsK K H us ss → DtAll K H us (ss.map stD)
  | [], [], _ => .nil
  | [], _ :: _, h => by simp [StsK] at h
  | _ :: _, [], h => by simp [StsK] at h
  | v :: vs, s :: ss, h => by
    obtain ⟨p, rfl, hp⟩ := h.2 0 v s rfl rfl
    exact .cons (.tup hp (.cons (.str _) (dt_ints s.2))) (stsK_dt ⟨by simpa using h.1, fun i x y a b => h.2 (i + 1) x y a b⟩)
theorem nats_dt {H : Hp} : ∀ (B : List Nat), DtAll K H (nats B) (B.map natD)
  | [] => .nil
  | n :: r => .cons (.int _) (nats_dt r)
theorem nats_get' {B : List Nat} {m : Nat} (h : ∃ C, B = C ++ [m]) : atI (B.map natD) (-1) = some (natD m) := by
  obtain ⟨C, rfl⟩ := h
  rw [List.map_append]
  exact atI_last _ _
def spDec (K : PySem.W.Frag) : SpC := fun outer h vs H Q _ => ∃ (fa f c' : Addr) (cl : List (Str × Addr)) (b n : Nat) (fs : List V) (ff : List FStep), vs = [.ref fa, .int (b : Int), .ref f] ∧ SqT K H fa fs ∧ StsK K H fs ff ∧ FOk b ff ∧ 8 ≤ b ∧ b ≤ 800 ∧ Narrow n b (lastE b ff) ∧
  H f = some (FnO f (nfN cl c')) ∧ H c' = some (CodeO c' qN) ∧ CellsAt cl ["bits"] [some (.int (n : Int))] h H ∧ (∀ y c, cl.lookup y = some c → c ∉ frs outer) ∧ ∀ v' H', Ex H H' → Dt K H' v' (ansD b ff) → Q v' H'
theorem ok_dec {f f0 f1 f2 f3 f4 f5 f6 f8 f9 aOp : Addr} {fd fd0 fd1 fd2 fd3 fd4 fd5 fd6 fd8 fd9 : FuncData} {t0 t1 : Tok} (F : Fun K "decided" "decided" s_decided f fd)
    (F_merged : Fun K "merged" "merged" s_merged f0 fd0) (b_merged : Binds K fd0 ["formula"] []) (g_merged : mg "merged" = some (.ref f0))
    (F_merged_into : Fun K "merged_into" "merged_into" s_merged_into f1 fd1) (b_merged_into : Binds K fd1 ["kept", "place_of", "formula"] []) (g_merged_into : mg "merged_into" = some (.ref f1))
    (F_moved : Fun K "moved" "moved" s_moved f2 fd2) (b_moved : Binds K fd2 ["step", "places"] []) (g_moved : mg "moved" = some (.ref f2))
    (F_exact_values : Fun K "exact_values" "exact_values" s_exact_values f3 fd3) (b_exact_values : Binds K fd3 ["steps"] []) (g_exact_values : mg "exact_values" = some (.ref f3))
    (F_exact_value : Fun K "exact_value" "exact_value" s_exact_value f4 fd4) (b_exact_value : Binds K fd4 ["step", "found"] []) (g_exact_value : mg "exact_value" = some (.ref f4)) (g_OPERATIONS : mg "OPERATIONS" = some (.ref aOp)) (hOp : ∀ H, Dt K H (.ref aOp) (.tuple (OPS.map PyData.str)))
    (F_bits_to_try : Fun K "bits_to_try" "bits_to_try" s_bits_to_try f5 fd5) (b_bits_to_try : Binds K fd5 ["bits"] []) (g_bits_to_try : mg "bits_to_try" = some (.ref f5))
    (F_enclosed_steps : Fun K "enclosed_steps" "enclosed_steps" s_enclosed_steps f6 fd6) (b_enclosed_steps : Binds K fd6 ["steps", "exacts", "bits"] []) (g_enclosed_steps : mg "enclosed_steps" = some (.ref f6)) (G_enclosed_steps : FnOk P w K mg base CX0 6 f6 fd6 ["steps", "exacts", "bits"] (spEncl K))
    (F_rescaled : Fun K "rescaled" "rescaled" s_rescaled f8 fd8) (b_rescaled : Binds K fd8 ["a", "bits", "other"] []) (g_rescaled : mg "rescaled" = some (.ref f8))
    (F_fewer_bits : Fun K "fewer_bits" "fewer_bits" s_fewer_bits f9 fd9) (b_fewer_bits : Binds K fd9 ["low", "high", "bits"] []) (g_fewer_bits : mg "fewer_bits" = some (.ref f9))
    (g_WIDTH : mg "WIDTH" = some (.int 4 t0)) (g_MOST_BITS : mg "MOST_BITS" = some (.int 2048 t1)) (m_tuple : mg "tuple" = none) (m_len : mg "len" = none) : FnC P w K mg base CX0 7 f fd ["formula", "bits", "verdict"] (spDec K) := by
  have G_merged : FnOk P w K mg base CX0 3 f0 fd0 ["formula"] (spMerged K) := ok_merged F_merged F_moved b_moved g_moved F_merged_into b_merged_into g_merged_into m_len
  have G_exact_values : FnOk P w K mg base CX0 2 f3 fd3 ["steps"] (spExacts K) := ok_exacts F_exact_values F_exact_value b_exact_value g_exact_value g_OPERATIONS hOp
  have G_bits_to_try : FnOk P w K mg base CX0 1 f5 fd5 ["bits"] (spTry K) := ok_try F_bits_to_try g_MOST_BITS
  refine okC F sc_decided (fun o h vs H Q E z => ?_) (fun A outer s H vs Q E env hr h => ?_)
  · obtain ⟨_, _, _, _, _, _, _, _, rfl, _⟩ := z
    rfl
  obtain ⟨fa, vf, c', cl, b, n, fs, ff, rfl, hfa, hfs, hok, hb1, hb2, hw, hf, hc, C_verdict, nf_verdict, k⟩ := h
  have G_verdict : NOk P w K mg base CX0 3 vf (nfN cl c') ["_", "enclosures", "work"] ["bits"] (spNar K) := ok_nar F_rescaled b_rescaled g_rescaled F_fewer_bits b_fewer_bits g_fewer_bits g_WIDTH m_tuple
  refine ⟨_, (pss_cons (ps_asg (pe_call G_merged (hr.mono (by decide)) (by rfl) g_merged F_merged.kp b_merged .nil pass0 (pa_cons (pv 0) pa_nil)) (pg_tup rfl (pgs_cons (pg_name (i := 3) sc_decided.nd rfl (.inl rfl)) (pgs_cons (pg_name (i := 4) sc_decided.nd rfl (.inl rfl)) pgs_nil))))
        (pss_cons (ps_set (i := 5) sc_decided.nd rfl (.inl rfl) (pe_call G_exact_values (hr.mono (by decide)) (by rfl) g_exact_values F_exact_values.kp b_exact_values .nil pass0 (pa_cons (pv 3) pa_nil)))
        (pss_cons (ps_for PassesOwn.never rfl (pi_list (pe_call G_bits_to_try (hr.mono (by decide)) (by rfl) g_bits_to_try F_bits_to_try.kp b_bits_to_try .nil pass0 (pa_cons (pv 1) pa_nil))) (pg_name (i := 6) sc_decided.nd rfl (.inl rfl)) (pss_cons (ps_set (i := 7) sc_decided.nd rfl (.inr rfl) (pe_call G_enclosed_steps (hr.mono (by decide)) (by rfl) g_enclosed_steps F_enclosed_steps.kp b_enclosed_steps .nil pass0 (pa_cons (pv 3) (pa_cons (pv 5) (pa_cons (pv 6) pa_nil)))))
        (pss_one (ps_if (pt_cmpR (op_notInD (hu65 hr)) pe_non (pv 7) (by rfl)) (pss_cons (ps_setLc (i := 8) (own := [("place", 9)]) (g := gName 9) rfl sc_decided.nd rfl rfl (sw_true rfl rfl rfl (by decide +kernel)) (pi_list (pv 4)) (blkOk_by (own := [("place", 9)]) (N := ["formula", "bits", "verdict", "steps", "places", "exacts", "work", "found", "enclosures", "place", "answer"]) (sc := defScope s_decided) (by decide +kernel)) (fun _ _ _ _ _ => (pg_name (i := 9) sc_decided.nd rfl (.inl rfl))) (fun _ _ _ _ _ => pts_nil) (fun _ _ _ _ _ => (pe_ix (r := rIxL K) ix_list (pv 7) (pv 9) (fun _ _ => rfl))))
        (pss_cons (ps_set (i := 10) sc_decided.nd rfl (.inl rfl) (Ln.pe_callV (i := 2) G_verdict C_verdict nf_verdict rfl hr (by decide) pass0 rfl (.inl rfl) (pa_cons (pe_ix ix_list (pv 5) (pe_ix ix_list (pv 4) (pe_un un_neg pe_int) (fun _ _ => rfl)) (fun _ _ => rfl)) (pa_cons (pv 8) (pa_cons (pv 6) pa_nil)))))
        (pss_one (ps_if (pt_cmpR op_notN (pv 10) pe_non (nomark _)) (pss_one (ps_ret (pv 10))) pss_nil)))) pss_nil))))
        Ln.pss_never))), ?_⟩
  refine ⟨_, rfl, fa, fs, ff, rfl, hfa, hfs, hok.ok, hok.few, fun t kp pl us H2 nt e2 ht hkp hus hpl => ?_⟩
  have hall := hok.all
  have hinv := Mg.merge_inv (nat2 b) hok.ok
  have hlast := last_is (b := b) hok.ne
  have hspread := spread hok
  obtain ⟨m, hm, hmA⟩ : ∃ m, (∃ C, (merge ff).2 = C ++ [m]) ∧ m < (merge ff).1.length := by
    have hl : 0 < ff.length := List.length_pos_iff.mpr hok.ne
    have hne : (merge ff).2 ≠ [] := fun z => by
      have := hinv.len
      rw [z] at this
      simp at this
      omega
    refine ⟨(merge ff).2.getLast hne, ⟨_, (List.dropLast_concat_getLast hne).symm⟩, ?_⟩
    have q := hinv.lt (ff.length - 1) (by omega)
    rw [List.getD_eq_getElem?_getD, List.getElem?_eq_getElem (by rw [hinv.len]; omega)] at q
    have e : (merge ff).2.getLast hne = (merge ff).2[ff.length - 1]'(by rw [hinv.len]; omega) := by
      rw [List.getLast_eq_getElem]
      congr 1
      rw [hinv.len]
    rw [e]
    exact q
  have hBA : ∀ p ∈ (merge ff).2, p < (merge ff).1.length := fun p hp => by
    obtain ⟨j, hj⟩ := List.getElem?_of_mem hp
    have hj2 : j < ff.length := by
      rw [← hinv.len]
      exact (List.getElem?_eq_some_iff.mp hj).1
    have q := hinv.lt j hj2
    rw [List.getD_eq_getElem?_getD, hj] at q
    exact q
  have hBl : (merge ff).2.length ≤ 1000 := by rw [hinv.len]; exact hok.few
  generalize (merge ff).1 = L at hus hall hspread hmA hBA
  generalize (merge ff).2 = B at hpl hspread hm hBA hBl
  refine ⟨t, _, rfl, st_of ht, rfl, _, _, rfl, _, _, rfl, rfl, ?_⟩
  have S : Sc K H2 H2 H2 H2 [some (.ref fa), some (.int (b : Int)), some (.ref vf), some (.ref kp), some (.ref pl), none, none, none, none, none, none] [.no, nI (b : Int), .raw (.ref vf), .dat (.list (L.map stD)), .dat (.list (B.map natD)), .no, .no, .no, .no, .no, .no] := by
    refine sc_at rfl fun i s hi => ?_
    match i with
    | 0 => exact .inl (Option.some.inj hi).symm
    | 1 =>
      cases Option.some.inj hi
      exact .inr ⟨_, rfl, .int _⟩
    | 2 =>
      cases Option.some.inj hi
      exact .inr ⟨_, rfl, rfl⟩
    | 3 =>
      cases Option.some.inj hi
      exact .inr ⟨_, rfl, .lst hkp (stsK_dt hus)⟩
    | 4 =>
      cases Option.some.inj hi
      exact .inr ⟨_, rfl, .lst hpl (nats_dt B)⟩
    | 5 | 6 | 7 | 8 | 9 | 10 => exact .inl (Option.some.inj hi).symm
    | i + 11 => simp at hi
  dsimp only
  have fin : ∀ (D : Ends) (ts : TS), D.rt = Q → SD K H2 H2 (fun _ _ _ _ => False) ts [.no, nI (b : Int), .raw (.ref vf), .dat (.list (L.map stD)), .dat (.list (B.map natD)), .no, .no, .no, .no, .no, .no] { nx := fun _ => False, rt := fun d => d = ansD b ff } → ts D [some (.ref fa), some (.int (b : Int)), some (.ref vf), some (.ref kp), some (.ref pl), none, none, none, none, none, none] H2 := fun D ts hD hs =>
    hs D H2 H2 _ S ⟨fun _ _ _ _ _ _ z => z.elim, fun v' d B' H' _ st dv hd => by rw [hD]; exact k v' H' (e2.trans st.h) (hd ▸ dt_mono st.bh _ _ dv), fun _ _ _ _ _ _ z => z.elim, fun _ _ _ _ _ _ z => z.elim, fun _ _ _ _ _ _ _ z => z.elim, fun _ _ _ _ _ _ _ _ _ _ _ z => z.elim⟩
  refine fin _ _ rfl ?_
  refine q_asg [_, _, _, _, _, .dat (.list (L.map exD)), _, _, _, _, _] (d_new (n_call (f := fun A : List FStep => A.map exD) L (a_cons (d_var (s := .dat (.list (L.map stD))) rfl) a_nil) ⟨hall.few, fun k hk => hall.ex hk⟩)) ?_
  have h0 : (tryF 4096 b)[0]? = some b := by
    show (if b < 2048 then b :: tryF 4095 (2 * b) else [2048])[0]? = some b
    rw [if_pos (by omega)]
    rfl
  refine q_for (w_list (d_new (n_call (f := fun b : Nat => (tryF 4096 b).map natD) b (a_cons (d_var (s := nI (b : Int)) rfl) a_nil) ⟨hb1, show b < 2048 by omega⟩))) (fun i δ => i = 0 ∧ δ = [.no, nI (b : Int), .raw (.ref vf), .dat (.list (L.map stD)), .dat (.list (B.map natD)), .dat (.list (L.map exD)), .no, .no, .no, .no, .no]) ⟨rfl, rfl⟩ (fun i d δ' hd hq => ?_) (fun δ' hq => ?_)
  · obtain ⟨rfl, rfl⟩ := hq
    rw [List.getElem?_map, h0] at hd
    cases Option.some.inj hd
    refine ⟨[6], [_, _, _, _, _, _, nI (b : Int), _, _, _, _], g_name, ?_⟩
    refine q_asg [_, _, _, _, _, _, _, .dat (.list ((valsE b L).map pairD)), _, _, _] (d_new (n_call (f := fun a : List FStep × Nat => (valsE a.2 a.1).map pairD) (L, b) (a_cons (d_var (s := .dat (.list (L.map stD))) rfl) (a_cons (d_var (s := .dat (.list (L.map exD))) rfl) (a_cons (d_var (s := nI (b : Int)) rfl) a_nil))) ⟨hb2, hall⟩)) ?_
    refine sd_if (b := true) (b_is (b_test (d_niD d_cn (d_var (s := .dat (.list ((valsE b L).map pairD))) rfl) rfl (shp_pairs _))) (by rw [no_none] <;> rfl)) (fun _ => ?_) (fun hb => nomatch hb)
    refine q_asg [_, _, _, _, _, _, _, _, .dat (.list ((valsE b ff).map pairD)), _, _] (d_is (d_new (n_lc1 (ix := [9]) B natD (fun z => [.no, nI (b : Int), .raw (.ref vf), .dat (.list (L.map stD)), .dat (.list (B.map natD)), .dat (.list (L.map exD)), nI (b : Int), .dat (.list ((valsE b L).map pairD)), .no, nI ((z : Nat) : Int), .no]) (fun p => pairD (rhoL (valsE b L) p)) (w_list (d_var (s := .dat (.list (B.map natD))) rfl)) (by decide) (by omega) (fun z hz => ?_) (fun z hz => ?_))) (by rw [hspread])) ?_
    · exact g_name
    · exact d_ixL (d_var (s := .dat (.list ((valsE b L).map pairD))) rfl) (d_var (s := nI ((z : Nat) : Int)) rfl) (rho_get (by rw [List.length_map, Mg.evs_length]; exact hBA z hz))
    refine q_asgR (d_callV (b := (n : Int)) (exD (L[m]), valsE b ff, b) rfl (e2 _ _ hf) (e2 _ _ hc) (a_cons (d_ixL (d_var (s := .dat (.list (L.map exD))) rfl) (d_ixL (d_var (s := .dat (.list (B.map natD))) rfl) (d_neg d_ci) (nats_get' hm)) (atI_get (by rw [List.getElem?_map, List.getElem?_eq_getElem hmA]; rfl))) (a_cons (d_var (s := .dat (.list ((valsE b ff).map pairD))) rfl) (a_cons (d_var (s := nI (b : Int)) rfl) a_nil))) ⟨n, lastE b ff, rfl, hlast, hw⟩) fun d hd => ?_
    obtain rfl : d = ansD b ff := hd
    refine sd_env (δ1 := [_, _, _, _, _, _, _, _, _, _, .dat (ansD b ff)]) rfl ?_
    refine sd_if (b := true) (b_test (d_notN (d_var (s := .dat (ansD b ff)) rfl) (fun z => by cases z))) (fun _ => ?_) (fun hb => nomatch hb)
    exact sd_ret (d_var (s := .dat (ansD b ff)) rfl) rfl
  · obtain ⟨hz, _⟩ := hq
    have hlen : 0 < (tryF 4096 b).length := by
      have := (List.getElem?_eq_some_iff.mp h0).1
      exact this
    rw [List.length_map] at hz
    omega
/-! ### narrow_steps: it makes the function -/
theorem sc_ns : FnScope ["formula", "bits", "narrow"] ["formula", "bits"] (defScope s_narrow_steps) := ⟨rfl, rfl, rfl, by decide +kernel, rfl, by decide +kernel, by decide +kernel⟩
theorem nd_ns : ndefB (defScope s_narrow_steps) (C8.fnScope s_narrow) ["bits"] = true := by decide +kernel
def nmN (_ _ : Nat) : Str := qN
def cDec (K : PySem.W.Frag) (cells : List (Str × Addr)) : List V → List (Option V) → Hp → VK → Prop := fun vs σ H Q => ∃ (fa f c' : Addr) (b n : Nat) (fs : List V) (ff : List FStep), vs = [.ref fa, .int (b : Int), .ref f] ∧ σ[1]? = some (some (.int (n : Int))) ∧ SqT K H fa fs ∧ StsK K H fs ff ∧ FOk b ff ∧ 8 ≤ b ∧ b ≤ 800 ∧ Narrow n b (lastE b ff) ∧
  H f = some (FnO f (nfN (cloFrom cells (C8.fnScope s_narrow).names []) c')) ∧ H c' = some (CodeO c' qN) ∧ ∀ v' H', Ex H H' → Dt K H' v' (ansD b ff) → Q v' H'
def spNS (K : PySem.W.Frag) (Pt : Addr) : Sp := fun vs H Q _ => ∃ (fa : Addr) (n : Nat) (fs : List V) (ff : List FStep), vs = [.ref fa, .int (n : Int)] ∧ SqT K H fa fs ∧ StsK K H fs ff ∧ FOk (n + 64) ff ∧ n ≤ 700 ∧ Narrow n (n + 64) (lastE (n + 64) ff) ∧ TabsN [(Pt, nmN)] H ∧ ∀ v' H', ExtN H H' → TabsN [(Pt, nmN)] H' → Dt K H' v' (ansD (n + 64) ff) → Q v' H'
theorem stsK_monoN {H H' : Hp} {vs : List V} {ss : List FStep} (e : ExtN H H') (h : StsK K H vs ss) : StsK K H' vs ss := ⟨h.1, fun i v s a b => by
  obtain ⟨p, r1, r2⟩ := h.2 i v s a b
  exact ⟨p, r1, sqT_monoN e r2⟩⟩
theorem ok_ns {Pt c : Addr} {f f0 f1 f2 f3 f4 f5 f6 f8 f9 fd' aOp : Addr} {fd fd0 fd1 fd2 fd3 fd4 fd5 fd6 fd8 fd9 fdd : FuncData} {t0 t1 t2 : Tok} (F : Fun K "narrow_steps" "narrow_steps" s_narrow_steps f fd) (hcd : fd.code = .ref c) (TB : TabB base mg c Pt)
    (F_decided : Fun K "decided" "decided" s_decided fd' fdd) (b_decided : Binds K fdd ["formula", "bits", "verdict"] []) (g_decided : mg "decided" = some (.ref fd')) (g_SPARE_BITS : mg "SPARE_BITS" = some (.int 64 t2))
    (F_merged : Fun K "merged" "merged" s_merged f0 fd0) (b_merged : Binds K fd0 ["formula"] []) (g_merged : mg "merged" = some (.ref f0))
    (F_merged_into : Fun K "merged_into" "merged_into" s_merged_into f1 fd1) (b_merged_into : Binds K fd1 ["kept", "place_of", "formula"] []) (g_merged_into : mg "merged_into" = some (.ref f1))
    (F_moved : Fun K "moved" "moved" s_moved f2 fd2) (b_moved : Binds K fd2 ["step", "places"] []) (g_moved : mg "moved" = some (.ref f2))
    (F_exact_values : Fun K "exact_values" "exact_values" s_exact_values f3 fd3) (b_exact_values : Binds K fd3 ["steps"] []) (g_exact_values : mg "exact_values" = some (.ref f3))
    (F_exact_value : Fun K "exact_value" "exact_value" s_exact_value f4 fd4) (b_exact_value : Binds K fd4 ["step", "found"] []) (g_exact_value : mg "exact_value" = some (.ref f4)) (g_OPERATIONS : mg "OPERATIONS" = some (.ref aOp)) (hOp : ∀ H, Dt K H (.ref aOp) (.tuple (OPS.map PyData.str)))
    (F_bits_to_try : Fun K "bits_to_try" "bits_to_try" s_bits_to_try f5 fd5) (b_bits_to_try : Binds K fd5 ["bits"] []) (g_bits_to_try : mg "bits_to_try" = some (.ref f5))
    (F_enclosed_steps : Fun K "enclosed_steps" "enclosed_steps" s_enclosed_steps f6 fd6) (b_enclosed_steps : Binds K fd6 ["steps", "exacts", "bits"] []) (g_enclosed_steps : mg "enclosed_steps" = some (.ref f6)) (G_enclosed_steps : FnOk P w K mg base CX0 6 f6 fd6 ["steps", "exacts", "bits"] (spEncl K))
    (F_rescaled : Fun K "rescaled" "rescaled" s_rescaled f8 fd8) (b_rescaled : Binds K fd8 ["a", "bits", "other"] []) (g_rescaled : mg "rescaled" = some (.ref f8))
    (F_fewer_bits : Fun K "fewer_bits" "fewer_bits" s_fewer_bits f9 fd9) (b_fewer_bits : Binds K fd9 ["low", "high", "bits"] []) (g_fewer_bits : mg "fewer_bits" = some (.ref f9))
    (g_WIDTH : mg "WIDTH" = some (.int 4 t0)) (g_MOST_BITS : mg "MOST_BITS" = some (.int 2048 t1)) (m_tuple : mg "tuple" = none) (m_len : mg "len" = none) : FnOk P w K mg base CX0 8 f fd ["formula", "bits"] (spNS K Pt) := by
  have G_decided : FnC P w K mg base CX0 7 fd' fdd ["formula", "bits", "verdict"] (spDec K) := ok_dec F_decided F_merged b_merged g_merged F_merged_into b_merged_into g_merged_into F_moved b_moved g_moved F_exact_values b_exact_values g_exact_values F_exact_value b_exact_value g_exact_value g_OPERATIONS hOp F_bits_to_try b_bits_to_try g_bits_to_try F_enclosed_steps b_enclosed_steps g_enclosed_steps G_enclosed_steps F_rescaled b_rescaled g_rescaled F_fewer_bits b_fewer_bits g_fewer_bits g_WIDTH g_MOST_BITS m_tuple m_len
  have C : FnC P w K mg base CX0 8 f fd ["formula", "bits"] (fun _ _ => spNS K Pt) := by
    refine okC F sc_ns (fun o h vs H Q E z => ?_) (fun A outer s H vs Q E env hr h => ?_)
    · obtain ⟨_, _, _, _, rfl, _⟩ := z
      rfl
    obtain ⟨fa, n, fs, ff, rfl, hf, hs, hok, hn, hw, hT, k⟩ := h
    refine ⟨_, (pss_cons (ps_ndefS (st := s_narrow) (T := [(Pt, nmN)]) (nm := nmN) (P := Pt) (c := c) (name := "narrow") (i := 2) rfl TB hcd (List.mem_singleton.mpr rfl) rfl (fun p hp _ => by rw [List.mem_singleton.mp hp]) (ndef_free nd_ns) rfl rfl rfl sc_ns.nd rfl (.inl rfl) (.inr rfl))
        (pss_one (ps_ret (pe_callC (c := cDec K (cellsFrom (s.heap.objs.size + 1) (defScope s_narrow_steps).names [])) (E := fun _ _ _ => False) G_decided (hr.mono (by decide)) (by rfl) g_decided F_decided.kp b_decided pass0 (fun pins σ H1 s1 vs1 Q1 I hc => ?_) (pa_cons (pv 0) (pa_cons (pe_op op_add (pv 1) (pe_glob (by rfl) g_SPARE_BITS (show RelV (.int 64) _ from ⟨_, rfl⟩))) (pa_cons (pv 2) pa_nil))))))), ?_⟩
    · obtain ⟨fa1, f1', c', b, m, fs', ff', rfl, hσ, h1, h2, h3, h4, h5, h6, h7, h8, h9⟩ := hc
      have hcp := Caps.made (fr := ["bits"]) (js := [1]) I.ok (ndef_free nd_ns) (ndef_fr nd_ns) rfl
      have hcells := cells_of I hcp
      rw [show ([1] : List Nat).map (slotAt σ) = [some (.int (m : Int))] from by
        show [slotAt σ 1] = _
        rw [slotAt_of hσ]] at hcells
      exact ⟨fa1, f1', c', _, b, m, fs', ff', rfl, h1, h2, h3, h4, h5, h6, h7, h8, hcells, fun y cc hy => cells_nofr I (fun _ => rfl) (hcp.sub y cc hy), h9⟩
    · refine ⟨hT, fun f1' c' H1 eN hT1 n0 hf1 hc1 => ?_⟩
      refine ⟨_, rfl, _, rfl, _, _, rfl, rfl, _, rfl, fa, f1', c', n + 64, n, fs, ff, rfl, rfl, sqT_monoN eN hf, stsK_monoN eN hs, hok, by omega, by omega, hw, hf1, hc1, fun v' H' e dv => k v' H' (extN_trans eN (extN_of e)) (hT1.ext e) dv⟩
  exact ⟨fun vs H Q E ⟨_, _, _, _, z, _⟩ => by rw [z] <;> rfl, fun A outer s H args us vs Q E => C.run A outer s H args us vs Q E⟩
/-! ### enclose -/
def outV (n : Nat) (e : EE) : EE := (e.1 / 2 ^ 64, -(-e.2 / 2 ^ 64))
def outD (n : Nat) (ff : List FStep) : PyData := pairD (outV n (lastE (n + 64) ff))
def spEnc (K : PySem.W.Frag) (Pt : Addr) : Sp := fun vs H Q _ => ∃ (fa : Addr) (n : Nat) (fs : List V) (ff : List FStep), vs = [.ref fa, .int (n : Int)] ∧ SqT K H fa fs ∧ StsK K H fs ff ∧ FOk (n + 64) ff ∧ n ≤ 700 ∧ Narrow n (n + 64) (lastE (n + 64) ff) ∧ TabsN [(Pt, nmN)] H ∧ ∀ v' H', ExtN H H' → TabsN [(Pt, nmN)] H' → Dt K H' v' (outD n ff) → Q v' H'
theorem ok_enc {Pt : Addr} {f f0 f1 f2 : Addr} {fd fd0 fd1 fd2 : FuncData} (F : Fun K "enclose" "enclose" s_enclose f fd) (F_narrow_steps : Fun K "narrow_steps" "narrow_steps" s_narrow_steps f0 fd0) (b_narrow_steps : Binds K fd0 ["formula", "bits"] []) (g_narrow_steps : mg "narrow_steps" = some (.ref f0))
    (G_narrow_steps : FnOk P w K mg base CX0 8 f0 fd0 ["formula", "bits"] (spNS K Pt))
    (F_rescaled : Fun K "rescaled" "rescaled" s_rescaled f1 fd1) (b_rescaled : Binds K fd1 ["a", "bits", "other"] []) (g_rescaled : mg "rescaled" = some (.ref f1))
    (F_fewer_bits : Fun K "fewer_bits" "fewer_bits" s_fewer_bits f2 fd2) (b_fewer_bits : Binds K fd2 ["low", "high", "bits"] []) (g_fewer_bits : mg "fewer_bits" = some (.ref f2)) : FnOk P w K mg base CX0 9 f fd ["formula", "bits"] (spEnc K Pt) := by
  have G_rescaled : FnOk P w K mg base CX0 2 f1 fd1 ["a", "bits", "other"] (spResc K) := ok_resc F_rescaled F_fewer_bits b_fewer_bits g_fewer_bits
  refine F.ok sc_enclose (fun vs H Q E ⟨_, _, _, _, z, _⟩ => by rw [z] <;> rfl) (fun cdv A outer s H vs Q E hr h => ?_)
  obtain ⟨fa, n, fs, ff, rfl, hf, hs, hok, hn, hw, hT, k⟩ := h
  refine ⟨_, (pss_cons (ps_asg (pe_call G_narrow_steps (hr.mono (by decide)) (by rfl) g_narrow_steps F_narrow_steps.kp b_narrow_steps .nil pass0 (pa_cons (pv 0) (pa_cons (pv 1) pa_nil))) (pg_tup rfl (pgs_cons (pg_name (i := 2) sc_enclose.nd rfl (.inl rfl)) (pgs_cons (pg_name (i := 3) sc_enclose.nd rfl (.inl rfl)) pgs_nil))))
        (pss_one (ps_ret (pe_call G_rescaled (hr.mono (by decide)) (by rfl) g_rescaled F_rescaled.kp b_rescaled .nil pass0 (pa_cons (pe_ix ix_tup (pv 3) (pe_un un_neg pe_int) (fun _ _ => rfl)) (pa_cons (pv 2) (pa_cons (pv 1) pa_nil))))))), ?_⟩
  refine ⟨_, rfl, _, rfl, fa, n, fs, ff, rfl, hf, hs, hok, hn, hw, hT, fun v' H' e tb dv => ?_⟩
  have hlast := last_is (b := n + 64) hok.ne
  cases dv with
  | tup h1 h2 =>
    cases h2 with
    | cons g1 g2 =>
      cases g2 with
      | cons g3 g4 =>
        cases g4
        cases g1
        refine ⟨_, _, rfl, h1, rfl, _, _, rfl, _, _, rfl, rfl, ?_⟩
        dsimp only
        rename_i v4
        have S : Sc K H' H' H' H' [some (.ref fa), some (.int (n : Int)), some (.int ((n + 64 : Nat) : Int)), some v4] [.no, nI (n : Int), nI ((n + 64 : Nat) : Int), .dat (.tuple ((valsE (n + 64) ff).map pairD))] := by
          refine sc_at rfl fun i s hi => ?_
          match i with
          | 0 => exact .inl (Option.some.inj hi).symm
          | 1 =>
            cases Option.some.inj hi
            exact .inr ⟨_, rfl, .int _⟩
          | 2 =>
            cases Option.some.inj hi
            exact .inr ⟨_, rfl, .int _⟩
          | 3 =>
            cases Option.some.inj hi
            exact .inr ⟨_, rfl, g3⟩
          | i + 4 => simp at hi
        have fin : ∀ (D : Ends) (ts : TS), D.rt = Q → SD K H' H' (fun _ _ _ _ => False) ts [.no, nI (n : Int), nI ((n + 64 : Nat) : Int), .dat (.tuple ((valsE (n + 64) ff).map pairD))] { nx := fun _ => False, rt := fun d => d = outD n ff } → ts D [some (.ref fa), some (.int (n : Int)), some (.int ((n + 64 : Nat) : Int)), some v4] H' := fun D ts hD hs =>
          hs D H' H' _ S ⟨fun _ _ _ _ _ _ z => z.elim, fun v' d B2 H2 _ st dv hd => by rw [hD]; exact k v' H2 (extN_trans e (extN_of st.h)) (tb.ext st.h) (hd ▸ dt_mono st.bh _ _ dv), fun _ _ _ _ _ _ z => z.elim, fun _ _ _ _ _ _ z => z.elim, fun _ _ _ _ _ _ _ z => z.elim, fun _ _ _ _ _ _ _ _ _ _ _ z => z.elim⟩
        refine fin _ _ rfl ?_
        refine sd_ret (d_callF (lastE (n + 64) ff, n + 64, n) (a_cons (d_ixT (d_var (s := .dat (.tuple ((valsE (n + 64) ff).map pairD))) rfl) (d_neg d_ci) hlast.get) (a_cons (d_var rfl) (a_cons (d_var rfl) a_nil))) (show n < n + 64 by omega)) ?_
        show PyData.tuple [.int ((lastE (n + 64) ff).1 / 2 ^ (n + 64 - n)), .int (-(-(lastE (n + 64) ff).2 / 2 ^ (n + 64 - n)))] = outD n ff
        rw [show n + 64 - n = 64 by omega]
        rfl
/-! ### formulas as data -/
theorem noL_ints : ∀ l : List Int, noLs (l.map PyData.int) = true
  | [] => by simp [noLs]
  | a :: r => by simp [noLs, noL, noL_ints r]
theorem noL_st (s : FStep) : noL (stD s) = true := by simp [stD, noL, noLs, noL_ints]
theorem noL_sts : ∀ ss : List FStep, noLs (ss.map stD) = true
  | [] => by simp [noLs]
  | s :: r => by simp [noLs, noL_st, noL_sts r]
theorem noL_fo (ss : List FStep) : noL (foD ss) = true := by simp [foD, noL, noL_sts]
theorem dt_stsK {H : Hp} : ∀ {vs : List V} {ss : List FStep}, DtAll K H vs (ss.map stD) → StsK K H vs ss
  | _, [], .nil => .nil
  | _, s :: ss, .cons h t => by
    have r := dt_stsK (ss := ss) t
    cases h with
    | tup h1 h2 =>
      cases h2 with
      | cons g1 g2 =>
        cases g1
        rw [dt_ints_inv s.2 g2] at h1
        exact StsK.app (.one ⟨_, rfl, h1⟩) r
theorem fo_inv {H : Hp} {v : V} {ss : List FStep} (h : Dt K H v (foD ss)) : ∃ a vs, v = .ref a ∧ SqT K H a vs ∧ StsK K H vs ss := by
  cases h with
  | tup h1 h2 => exact ⟨_, _, rfl, h1, dt_stsK h2⟩
theorem fo_mk {H : Hp} {a : Addr} {vs : List V} {ss : List FStep} (h1 : SqT K H a vs) (h2 : StsK K H vs ss) : Dt K H (.ref a) (foD ss) := .tup h1 (stsK_dt h2)
/-- from the promise by data to a raw body -/
theorem spF_raw {A : Type} {enc : A → List Sl} {pre : A → Prop} {f : A → PyData} {vs : List V} {H : Hp} {Q : VK} {R : XK} (h : SpF K enc pre f vs H Q R) (hn : ∀ a, noL (f a) = true) : ∃ a, IsAll K H vs (enc a) ∧ pre a ∧ ∀ v H', Ex H H' → Dt K H' v (f a) → Q v H' := by
  obtain ⟨B, a, e, iv, hp, q⟩ := h
  exact ⟨a, iv.mono e, hp, fun v H' e2 dv => q v (f a) (wT B H') H' rfl ⟨wT_b (e.trans e2), wT_h (e.trans e2), e2, wT_n e2⟩ (wT_dt _ _ (hn a) dv)⟩
/-- a call by data within a raw body: a bool -/
theorem ev_callF {A : Type} {enc : A → List Sl} {pre : A → Prop} {f : A → PyData} {σ : L2.St} {H : Hp} {ta : TA} {ws : List V} {R : XK} {b : Bool} (a : A) (h : EvA ta σ H ws) (iv : IsAll K H ws (enc a)) (hp : pre a) (hb : f a = .bool b) : Ev (tCall (SpF K enc pre f) [] R ta) σ H (.bl b) := fun H1 e Q q =>
  h H1 e _ fun H2 e2 => ⟨H2, a, .refl H2, by rw [List.append_nil]; exact iv.mono (e.trans e2), hp, fun v d B' H' hd st dv => by
    subst hd
    rw [hb] at dv
    cases dv
    exact q H' (e2.trans st.h)⟩
abbrev spNum (K : PySem.W.Frag) : Sp := SpF K (fun a : Int × Int => [nI a.1, nI a.2]) (fun _ => True) fun a => foD [(("number" : Str), [a.1, a.2])]
theorem ok_number {f : Addr} {fd : FuncData} (F : Fun K "number" "number" s_number f fd) : FnOk P w K mg base CX0 1 f fd ["p", "q"] (spNum K) := by
  refine F.ok sc_number (fun vs H Q E ⟨_, _, _, iv, _⟩ => iv.len) (fun cdv A outer s H vs Q E hr h => ⟨_, (pss_one (ps_ret (pe_tup (pa_cons (pe_tup (pa_cons pe_str (pa_cons (pv 0) (pa_cons (pv 1) pa_nil)))) pa_nil)))), run_body h fun a B _ => ?_⟩)
  obtain ⟨p, q⟩ := a
  refine sd_env (δ1 := [nI p, nI q]) rfl ?_
  exact sd_ret (d_tup (ds_cons (d_tup (ds_cons d_cs (ds_cons (d_var rfl) (ds_cons (d_var rfl) ds_nil)))) ds_nil)) rfl
abbrev spPi (K : PySem.W.Frag) : Sp := SpF K (fun _ : Unit => []) (fun _ => True) fun _ => foD [(("pi" : Str), [])]
theorem ok_piform {f : Addr} {fd : FuncData} (F : Fun K "pi_formula" "pi_formula" s_pi_formula f fd) : FnOk P w K mg base CX0 1 f fd [] (spPi K) := by
  refine F.ok sc_pi_formula (fun vs H Q E ⟨_, _, _, iv, _⟩ => iv.len) (fun cdv A outer s H vs Q E hr h => ⟨_, (pss_one (ps_ret (pe_tup (pa_cons (pe_tup (pa_cons pe_str pa_nil)) pa_nil)))), run_body h fun a B _ => ?_⟩)
  refine sd_env (δ1 := []) rfl ?_
  exact sd_ret (d_tup (ds_cons (d_tup (ds_cons d_cs ds_nil)) ds_nil)) rfl
abbrev spFrc (K : PySem.W.Frag) : Sp := SpF K (fun a : Int × Int => [nI a.1, nI a.2]) (fun a => 1 ≤ a.2 ∧ a.2 < 2 ^ 100) fun a => foD [(("number" : Str), [a.1 / gc a.1 a.2, a.2 / gc a.1 a.2])]
theorem ok_frc {f f0 f1 : Addr} {fd fd0 fd1 : FuncData} (F : Fun K "fraction" "fraction" s_fraction f fd) (F_lowest_terms : Fun K "lowest_terms" "lowest_terms" s_lowest_terms f0 fd0) (b_lowest_terms : Binds K fd0 ["p", "q"] []) (g_lowest_terms : mg "lowest_terms" = some (.ref f0))
    (F_number : Fun K "number" "number" s_number f1 fd1) (b_number : Binds K fd1 ["p", "q"] []) (g_number : mg "number" = some (.ref f1)) (g_gcd : mg "gcd" = some (.builtin "math.gcd")) : FnOk P w K mg base CX0 2 f fd ["p", "q"] (spFrc K) := by
  have G_lowest_terms : FnOk P w K mg base CX0 1 f0 fd0 ["p", "q"] (spLow K) := ok_low F_lowest_terms g_gcd
  have G_number : FnOk P w K mg base CX0 1 f1 fd1 ["p", "q"] (spNum K) := ok_number F_number
  refine F.ok sc_fraction (fun vs H Q E ⟨_, _, _, iv, _⟩ => iv.len) (fun cdv A outer s H vs Q E hr h => ⟨_, (pss_cons (ps_asg (pe_call G_lowest_terms (hr.mono (by decide)) (by rfl) g_lowest_terms F_lowest_terms.kp b_lowest_terms .nil pass0 (pa_cons (pv 0) (pa_cons (pv 1) pa_nil))) (pg_tup rfl (pgs_cons (pg_name (i := 0) sc_fraction.nd rfl (.inl rfl)) (pgs_cons (pg_name (i := 1) sc_fraction.nd rfl (.inl rfl)) pgs_nil))))
        (pss_one (ps_ret (pe_call G_number (hr.mono (by decide)) (by rfl) g_number F_number.kp b_number .nil pass0 (pa_cons (pv 0) (pa_cons (pv 1) pa_nil)))))), run_body h fun a B hp => ?_⟩)
  obtain ⟨p, q⟩ := a
  refine sd_env (δ1 := [nI p, nI q]) rfl ?_
  refine q_unp [nI (p / gc p q), nI (q / gc p q)] (d_callF (p, q) (a_cons (d_var (s := nI p) rfl) (a_cons (d_var (s := nI q) rfl) a_nil)) hp) (g_tup (g_cons g_name (g_cons g_name g_nil))) ?_
  exact sd_ret (d_callF (p / gc p q, q / gc p q) (a_cons (d_var (s := nI (p / gc p q)) rfl) (a_cons (d_var (s := nI (q / gc p q)) rfl) a_nil)) True.intro) rfl
/-- one number -/
def isFr (ff : List FStep) : Bool := decide (ff.length = 1) && decide ((ff.getD 0 ("", [])).1 = "number")
abbrev spIsFr (K : PySem.W.Frag) : Sp := SpF K (fun ff : List FStep => [.dat (foD ff)]) (fun ff => ff ≠ []) fun ff => .bool (isFr ff)
theorem ok_isfr {f : Addr} {fd : FuncData} (F : Fun K "is_fraction" "is_fraction" s_is_fraction f fd) (m_len : mg "len" = none) : FnOk P w K mg base CX0 1 f fd ["f"] (spIsFr K) := by
  refine F.ok sc_is_fraction (fun vs H Q E ⟨_, _, _, iv, _⟩ => iv.len) (fun cdv A outer s H vs Q E hr h => ⟨_, (pss_one (ps_ret (pe_and (pe_cmpR op_eq (pe_callB call_len (by rfl) m_len (by decide +kernel) (pa_cons (pv 0) pa_nil)) pe_int (nomark _)) (pe_one (pe_cmpR op_eq (pe_ix ix_tup (pe_ix ix_tup (pv 0) pe_int (fun _ _ => rfl)) pe_int (fun _ _ => rfl)) pe_str (nomark _)))))), run_body h fun ff B hp => ?_⟩)
  obtain ⟨s0, r, rfl⟩ : ∃ s0 r, ff = s0 :: r := by
    cases ff with
    | nil => exact absurd rfl hp
    | cons s0 r => exact ⟨s0, r, rfl⟩
  refine sd_env (δ1 := [.dat (.tuple (stD s0 :: r.map stD))]) rfl ?_
  have F0 : EvS K B H (tVar 0) [.dat (.tuple (stD s0 :: r.map stD))] (.dat (.tuple (stD s0 :: r.map stD))) := d_var rfl
  refine sd_ret (d_andV (d_eqI (d_lenT F0) d_ci) fun _ => d_eqS (x := s0.1) (d_ixT (ds := .str s0.1 :: s0.2.map PyData.int) (i := ((0 : Nat) : Int)) (d := .str s0.1) (d_ixT (i := ((0 : Nat) : Int)) (d := stD s0) F0 d_ci (atI_nat rfl)) d_ci (atI_nat rfl)) d_cs) ?_
  show PyData.bool _ = .bool (isFr (s0 :: r))
  unfold isFr
  congr 2
  · rw [List.length_cons, List.length_cons, List.length_map]
    exact decide_eq_decide.mpr ⟨fun z => by omega, fun z => by omega⟩
abbrev spIsNu (K : PySem.W.Frag) : Sp := SpF K (fun a : List FStep × Int => [.dat (foD a.1), nI a.2]) (fun a => (isFr a.1 = false ∧ a.1 ≠ []) ∨ ∃ p q, a.1 = [(("number" : Str), [p, q])] ∧ a.2.natAbs < 2 ^ 10 ∧ q.natAbs < 2 ^ 100) fun a => .bool (isFr a.1 && decide (((a.1.getD 0 ("", [])).2.getD 0 0) = a.2 * ((a.1.getD 0 ("", [])).2.getD 1 0)))
theorem ok_isnu {f f0 : Addr} {fd fd0 : FuncData} (F : Fun K "is_number" "is_number" s_is_number f fd) (F_is_fraction : Fun K "is_fraction" "is_fraction" s_is_fraction f0 fd0) (b_is_fraction : Binds K fd0 ["f"] []) (g_is_fraction : mg "is_fraction" = some (.ref f0)) (m_len : mg "len" = none) : FnOk P w K mg base CX0 2 f fd ["f", "n"] (spIsNu K) := by
  have G_is_fraction : FnOk P w K mg base CX0 1 f0 fd0 ["f"] (spIsFr K) := ok_isfr F_is_fraction m_len
  refine F.ok sc_is_number (fun vs H Q E ⟨_, _, _, iv, _⟩ => iv.len) (fun cdv A outer s H vs Q E hr h => ⟨_, (pss_one (ps_ret (pe_and (pe_call G_is_fraction (hr.mono (by decide)) (by rfl) g_is_fraction F_is_fraction.kp b_is_fraction .nil pass0 (pa_cons (pv 0) pa_nil)) (pe_one (pe_cmpR op_eq (pe_ix ix_tup (pe_ix ix_tup (pv 0) pe_int (fun _ _ => rfl)) pe_int (fun _ _ => rfl)) (pe_op op_mulX (pv 1) (pe_ix ix_tup (pe_ix ix_tup (pv 0) pe_int (fun _ _ => rfl)) pe_int (fun _ _ => rfl))) (nomark _)))))), run_body h fun a B hp => ?_⟩)
  obtain ⟨ff, n⟩ := a
  rcases hp with ⟨h0, hne⟩ | ⟨p, q, he, h1, h2⟩
  · simp only at h0 hne
    refine sd_env (δ1 := [.dat (foD ff), nI n]) rfl ?_
    refine sd_ret (d_isB (c := false) (d_andV (c := false) (d_isB (c := false) (d_callF ff (a_cons (d_var (s := .dat (foD ff)) rfl) a_nil) hne) h0) fun hb => nomatch hb) rfl) ?_
    show PyData.bool false = .bool (isFr ff && _)
    rw [h0] <;> rfl
  · simp only at he h1 h2
    subst he
    refine sd_env (δ1 := [.dat (.tuple [.tuple [.str "number", .int p, .int q]]), nI n]) rfl ?_
    have F0 : EvS K B H (tVar 0) [.dat (.tuple [.tuple [.str "number", .int p, .int q]]), nI n] (.dat (.tuple [.tuple [.str "number", .int p, .int q]])) := d_var rfl
    exact sd_ret (d_andV (d_callF [(("number" : Str), [p, q])] (a_cons F0 a_nil) (fun z => by cases z)) fun _ => d_eqI (d_ixT (ds := [.str "number", .int p, .int q]) (d_ixT F0 d_ci rfl) d_ci rfl) (d_iC (d_var (s := nI n) rfl) (d_ixT (ds := [.str "number", .int p, .int q]) (d_ixT F0 d_ci rfl) d_ci rfl) (mulx_ok (a := 10) (b := 100) h1 h2 (by decide)))) rfl
/-! joined: the steps of the first, then those of the second that are not there yet -/
def joinedF (x : Str) (ff gg : List FStep) : List FStep := (gg.foldl mstep (ff, [])).1 ++ [(x, [(ff.length : Int) - 1, (((gg.foldl mstep (ff, [])).2.getLastD 0 : Nat) : Int)])]
abbrev spJoin (K : PySem.W.Frag) : Sp := SpF K (fun a : Str × List FStep × List FStep => [nS a.1, .dat (foD a.2.1), .dat (foD a.2.2)]) (fun a => a.2.1.Nodup ∧ OkForm a.2.2 ∧ a.2.1 ≠ [] ∧ a.2.2 ≠ [] ∧ a.2.1.length + a.2.2.length ≤ 1000 ∧ (isFr a.2.1 && isFr a.2.2) = false) fun a => foD (joinedF a.1 a.2.1 a.2.2)
theorem ok_joined {f f0 f1 f2 : Addr} {fd fd0 fd1 fd2 : FuncData} (F : Fun K "joined" "joined" s_joined f fd) (F_is_fraction : Fun K "is_fraction" "is_fraction" s_is_fraction f0 fd0) (b_is_fraction : Binds K fd0 ["f"] []) (g_is_fraction : mg "is_fraction" = some (.ref f0))
    (F_merged_into : Fun K "merged_into" "merged_into" s_merged_into f1 fd1) (b_merged_into : Binds K fd1 ["kept", "place_of", "formula"] []) (g_merged_into : mg "merged_into" = some (.ref f1))
    (F_moved : Fun K "moved" "moved" s_moved f2 fd2) (b_moved : Binds K fd2 ["step", "places"] []) (g_moved : mg "moved" = some (.ref f2)) (m_len : mg "len" = none) (m_list : mg "list" = none) (m_enumerate : mg "enumerate" = none) : FnOk P w K mg base CX0 3 f fd ["word", "f", "g"] (spJoin K) := by
  have G_is_fraction : FnOk P w K mg base CX0 1 f0 fd0 ["f"] (spIsFr K) := ok_isfr F_is_fraction m_len
  have G_merged_into : FnOk P w K mg base CX0 2 f1 fd1 ["kept", "place_of", "formula"] (spMergeInto P w K) := ok_mergeinto F_merged_into F_moved b_moved g_moved m_len
  refine F.ok sc_joined (fun vs H Q E ⟨_, _, _, iv, _⟩ => iv.len) (fun cdv A outer s H vs Q E hr h => ⟨_, (pss_cons (ps_if (PW.pt (pw_and (pt_val (pe_call G_is_fraction (hr.mono (by decide)) (by rfl) g_is_fraction F_is_fraction.kp b_is_fraction .nil pass0 (pa_cons (pv 1) pa_nil))) (pw_and1 (pt_val (pe_call G_is_fraction (hr.mono (by decide)) (by rfl) g_is_fraction F_is_fraction.kp b_is_fraction .nil pass0 (pa_cons (pv 2) pa_nil)))))) Ln.pss_never pss_nil)
        (pss_cons (ps_set (i := 3) sc_joined.nd rfl (.inl rfl) (pe_callTy call_list_of (by rfl) m_list (by decide +kernel) (pa_cons (pv 1) pa_nil)))
        (pss_cons (Dk.ps_setDcT (i := 4) (own := [("place", 5), ("step", 6)]) (g := gTup K 2 (gCons (gName 5) (gCons (gName 6) (gNil)))) (hu_of hr) rfl sc_joined.nd rfl rfl (Dk.sw_dict rfl rfl rfl (by decide +kernel)) (pi_enumT (by rfl) m_enumerate (pa_cons (pv 1) pa_nil)) (blkOk_by (own := [("place", 5), ("step", 6)]) (N := ["word", "f", "g", "steps", "place_of", "place", "step", "places"]) (sc := defScope s_joined) (by decide +kernel)) (fun _ _ _ _ _ => (pg_tup rfl (pgs_cons (pg_name (i := 5) sc_joined.nd rfl (.inl rfl)) (pgs_cons (pg_name (i := 6) sc_joined.nd rfl (.inl rfl)) pgs_nil)))) (fun _ _ _ _ _ => pts_nil) (fun _ _ _ _ _ => (pv 6)) (fun _ _ _ _ _ => (pv 5)))
        (pss_cons (ps_set (i := 7) sc_joined.nd rfl (.inl rfl) (pe_call G_merged_into (hr.mono (by decide)) (by rfl) g_merged_into F_merged_into.kp b_merged_into .nil pass0 (pa_cons (pv 3) (pa_cons (pv 4) (pa_cons (pv 2) pa_nil)))))
        (pss_one (ps_ret (pe_tup (StX.pa_star (pv 3) (pa_cons (pe_tup (pa_cons (pv 0) (pa_cons (pe_op op_sub (pe_callB call_len (by rfl) m_len (by decide +kernel) (pa_cons (pv 1) pa_nil)) pe_int) (pa_cons (pe_ix ix_list (pv 7) (pe_un un_neg pe_int) (fun _ _ => rfl)) pa_nil)))) pa_nil))))))))), ?_⟩)
  obtain ⟨⟨x, ff, gg⟩, iv, ⟨hnd, hok, hf0, hg0, hl, hfr⟩, q⟩ := spF_raw h (fun a => noL_fo _)
  simp only at iv hnd hok hf0 hg0 hl hfr q
  cases iv with
  | cons i1 iv =>
  cases iv with
  | cons i2 iv =>
  cases iv with
  | cons i3 iv =>
  cases iv
  cases i1
  obtain ⟨a, us, rfl, ha, hus⟩ := fo_inv i2
  obtain ⟨b, ws, rfl, hb, hws⟩ := fo_inv i3
  have lf : 0 < ff.length := List.length_pos_iff.mpr hf0
  have lg : 0 < gg.length := List.length_pos_iff.mpr hg0
  -- not both are numbers
  refine q_when (b := false) (et_is (et_and (b := isFr gg) (a := isFr ff) (et_B (ev_callF ff (ea_cons (ev_var rfl) ea_nil) (.cons (fo_mk ha hus) .nil) hf0 rfl)) fun _ => (et_B (ev_callF gg (ea_cons (ev_var rfl) ea_nil) (.cons (fo_mk hb hws) .nil) hg0 rfl))) hfr) (fun hb => nomatch hb) fun _ H1 e1 => ?_
  replace ha := ex_t e1 ha
  replace hb := ex_t e1 hb
  replace hus := hus.mono e1
  replace hws := hws.mono e1
  -- steps = list(f)
  refine q_asgP (fun v H2 => ∃ l, v = .ref l ∧ H1 l = none ∧ H2 l = some (.lst us)) (fun Q1 k1 => ⟨_, rfl, a, us, rfl, .inr ha, fun l hl' => k1 _ _ (Ex.new hl') ⟨l, rfl, hl', upd_same⟩⟩) fun v H2 e2 hP => ?_
  obtain ⟨kp, rfl, nkp, hkp⟩ := hP
  refine st_is (σ' := [_, _, _, _, _, _, _, _]) rfl ?_
  replace ha := ex_t e2 ha
  replace hb := ex_t e2 hb
  replace hus := hus.mono e2
  replace hws := hws.mono e2
  -- place_of = {..}
  refine q_asgP (fun v H3 => ∃ dp, v = .ref dp ∧ H2 dp = none ∧ DictK P w K H3 dp ff) (fun Q1 k1 => ?_) fun v H3 e3 hP => ?_
  · refine ⟨_, rfl, a, us, rfl, ha, fun dp hdp => ?_⟩
    have e0 : Ex H2 (upd H2 dp (Dx.DxO P w dp [])) := Ex.new hdp
    refine ⟨fun i m G => i ≤ ff.length ∧ m = ff.length - i ∧ Ex H2 G ∧ DictK P w K G dp (ff.take i), ⟨ff.length, Nat.zero_le _, rfl, e0, .empty upd_same⟩, ?_⟩
    rintro i m G ⟨hi, rfl, eG, DG⟩
    have haG : SqT K G a us := ex_t eG ha
    have hul : us.length = ff.length := hus.1
    by_cases hlt : i < ff.length
    · right
      refine ⟨⟨us, us[i]'(by omega), haG, List.getElem?_eq_getElem (by omega)⟩, fun G' => Ex H2 G' ∧ DictK P w K G' dp (ff.take (i + 1)), fun G' h' => ⟨ff.length - (i + 1), by omega, hlt, rfl, h'.1, h'.2⟩, fun xv G' hy => ?_⟩
      obtain ⟨T, y, rfl, hT, rfl, hy2⟩ := hy
      have hy3 := hy2 us haG
      obtain ⟨st, hst, p, rfl, hp⟩ := hus.get hy3
      have e4 : Ex G (upd G T (.tup [.int (i : Nat), .ref p])) := Ex.new hT
      have hst2 : ff[i] = st := by
        rw [List.getElem?_eq_getElem hlt] at hst
        exact Option.some.inj hst
      refine ⟨T, [.int (i : Nat), .ref p], rfl, .inl (.inl upd_same), rfl, _, _, rfl, _, _, rfl, rfl, rfl, ?_⟩
      refine yes_go ?_
      refine ⟨_, rfl, _, rfl, ?_⟩
      obtain ⟨kvs, d1, d2, d3⟩ := DG.mono e4
      have hno : st ∉ ff.take i := fun z => by
        have h1 : (ff.take i ++ ff.drop i).Nodup := by rw [List.take_append_drop]; exact hnd
        rw [List.nodup_append] at h1
        have h2 : st ∈ ff.drop i := by
          rw [List.drop_eq_getElem_cons hlt, hst2]
          exact List.mem_cons_self
        exact h1.2.2 st z st h2 rfl
      have hp4 : SqT K (upd G T (.tup [.int (i : Nat), .ref p])) p (stV st) := ex_t (eG.trans e4) hp
      have hv := d3 st
      rw [if_neg hno] at hv
      have hlen : (ff.take i).length = i := by rw [List.length_take]; omega
      refine ⟨_, ⟨kvs, keyS st, p, rfl, d1, by rw [keyS_v]; exact hp4, hv, by rw [d2, hlen]; exact sz_lt (by omega), rfl⟩, ?_, ?_⟩
      · intro c o hc
        rw [upd_ne (fun z => by rw [z, hdp] at hc; cases hc)]
        exact (eG.trans e4) c o hc
      · rw [take_snoc ff hlt, hst2]
        have put := DictK.put d1 d2 d3 hp4 hno (Ex.refl _)
        rw [hlen] at put
        exact put
    · left
      have hi2 : i = ff.length := by omega
      refine ⟨⟨us, haG, by omega⟩, ?_⟩
      rw [hi2, List.take_length] at DG
      exact k1 _ G eG ⟨dp, rfl, hdp, DG⟩
  obtain ⟨dp, rfl, ndp, hD⟩ := hP
  refine st_is (σ' := [_, _, _, _, _, _, _, _]) rfl ?_
  have nkd : kp ≠ dp := fun z => by rw [z, ndp] at hkp; cases hkp
  -- places = merged_into(steps, place_of, g)
  refine ⟨_, rfl, _, rfl, _, rfl, kp, dp, b, us, ws, ff, gg, rfl, e3 _ _ hkp, hus.mono e3, hD, ex_t e3 hb, hws.mono e3, hok, hl, fun pl H4 npl M => ?_⟩
  refine st_is (σ' := [_, _, _, _, _, _, _, _]) rfl ?_
  have e14 : Ex H1 H4 := fun p o h => M.ex p o (fun z => by
    simp only [List.mem_cons, List.not_mem_nil, or_false] at z
    rcases z with z | z | z
    · rw [z, nkp] at h; cases h
    · have := none_of e2 ndp
      rw [z, this] at h
      cases h
    · have := none_of (e2.trans e3) npl
      rw [z, this] at h
      cases h) ((e2.trans e3) p o h)
  obtain ⟨ks, k1, k2⟩ := M.kept
  have hpl := M.places
  obtain ⟨hBl, hAl⟩ := mfold_len ff gg gg.length (Nat.le_refl _)
  rw [List.take_length] at hBl hAl
  have ha4 : SqT K H4 a us := by
    have e34 : Keep H3 H4 [kp, dp, pl] := M.ex
    refine sqT_keep e34 (fun p hp => ?_) (ex_t e3 ha)
    simp only [List.mem_cons, List.not_mem_nil, or_false] at hp
    rcases hp with rfl | rfl | rfl
    · exact notT_lst (e3 _ _ hkp)
    · obtain ⟨kvs, d1, _⟩ := hD
      exact notT_dx d1.self
    · exact ⟨fun ys z => (by rw [npl] at z; cases z), fun o u z => (by rw [npl] at z; cases z)⟩
  unfold joinedF at q
  generalize gg.foldl mstep (ff, []) = acc at k2 hpl hBl hAl q
  obtain ⟨A1, B1⟩ := acc
  simp only at k2 hpl hBl hAl q
  obtain ⟨C1, m, rfl⟩ : ∃ C1 m, B1 = C1 ++ [m] := by
    have hne : B1 ≠ [] := fun z => by rw [z] at hBl; simp at hBl; omega
    exact ⟨B1.dropLast, B1.getLast hne, (List.dropLast_concat_getLast hne).symm⟩
  have hlast : atI (nats (C1 ++ [m])) (-1) = some (.int ((m : Nat) : Int)) := by
    unfold nats
    rw [List.map_append]
    exact atI_last _ _
  -- the result
  refine ⟨_, rfl, kp, ks, rfl, .inr (sq_of k1), _, rfl, _, rfl, .ref a, us.length, rfl, .inr ⟨_, ha4, rfl⟩, _, _, rfl, rfl, _, rfl, _, rfl, pl, _, -1, _, rfl, rfl, sq_of hpl, hlast, ?_, fun c hc => ⟨?_, fun r hr2 => ?_⟩⟩
  · show 3 ≤ sizeLine
    decide
  · show (ks ++ [V.ref c]).length ≤ sizeLine
    rw [List.length_append, k2.1]
    exact sz_of (by simp; omega)
  · have e5 : Ex H4 (upd H4 c (.tup (stV (x, [(us.length : Int) - 1, ((m : Nat) : Int)])))) := Ex.new hc
    have e6 := e5.trans (Ex.new (o := .tup (ks ++ [V.ref c])) hr2)
    refine q (.ref r) _ ((e1.trans e14).trans e6) (fo_mk (st_of upd_same) ?_)
    rw [List.getLastD_concat]
    refine StsK.app (k2.mono e6) (.one ⟨c, rfl, st_of ?_⟩)
    rw [← hus.1]
    exact (Ex.new (o := .tup (ks ++ [V.ref c])) hr2) _ _ upd_same
/-! ### products, sums of steps, radians and degrees -/
def numS (p q : Int) : FStep := (("number" : Str), [p, q])
def piSt : FStep := (("pi" : Str), [])
def prodS (p q : Int) : List FStep := if p = 0 then [numS 0 1] else if p = q then [piSt] else [numS p q, piSt, (("times" : Str), [0, 1])]
theorem isFr_num (p q : Int) : isFr [numS p q] = true := by
  unfold isFr numS
  rfl
theorem isFr_pi : isFr [piSt] = false := by
  unfold isFr piSt
  decide +kernel
theorem joined_np (p q : Int) : joinedF "times" [numS p q] [piSt] = [numS p q, piSt, (("times" : Str), [0, 1])] := by
  have e : mstep ([numS p q], []) piSt = ([numS p q, piSt], [1]) := by
    rw [mstep_of]
    have h : ren (fun i => ([] : List Nat).getD i 0) piSt = piSt := if_neg pi_nn
    rw [h, if_neg (fun z => by
      have z2 := List.mem_singleton.mp z
      have := congrArg Prod.fst z2
      exact pi_nn this)]
    rfl
  unfold joinedF
  show (mstep ([numS p q], []) piSt).1 ++ [(("times" : Str), [(1 : Int) - 1, (((mstep ([numS p q], []) piSt).2.getLastD 0 : Nat) : Int)])] = _
  rw [e]
  rfl
abbrev spProd (K : PySem.W.Frag) : Sp := SpF K (fun a : Int × Int => [.dat (foD [numS a.1 a.2]), .dat (foD [piSt])]) (fun a => a.2.natAbs < 2 ^ 100 ∧ 1 ≤ a.2) fun a => foD (prodS a.1 a.2)
theorem ok_product {f f0 f1 f2 f3 f4 aZ : Addr} {fd fd0 fd1 fd2 fd3 fd4 : FuncData} (F : Fun K "product" "product" s_product f fd) (F_is_number : Fun K "is_number" "is_number" s_is_number f4 fd4) (b_is_number : Binds K fd4 ["f", "n"] []) (g_is_number : mg "is_number" = some (.ref f4)) (F_is_fraction : Fun K "is_fraction" "is_fraction" s_is_fraction f0 fd0) (b_is_fraction : Binds K fd0 ["f"] []) (g_is_fraction : mg "is_fraction" = some (.ref f0))
    (F_joined : Fun K "joined" "joined" s_joined f3 fd3) (b_joined : Binds K fd3 ["word", "f", "g"] []) (g_joined : mg "joined" = some (.ref f3))
    (F_merged_into : Fun K "merged_into" "merged_into" s_merged_into f1 fd1) (b_merged_into : Binds K fd1 ["kept", "place_of", "formula"] []) (g_merged_into : mg "merged_into" = some (.ref f1))
    (F_moved : Fun K "moved" "moved" s_moved f2 fd2) (b_moved : Binds K fd2 ["step", "places"] []) (g_moved : mg "moved" = some (.ref f2)) (g_ZERO : mg "ZERO" = some (.ref aZ)) (hZ : ∀ H, Dt K H (.ref aZ) (foD [numS 0 1])) (m_len : mg "len" = none) (m_list : mg "list" = none) (m_enumerate : mg "enumerate" = none) : FnOk P w K mg base CX0 4 f fd ["f", "g"] (spProd K) := by
  have G_is_number : FnOk P w K mg base CX0 2 f4 fd4 ["f", "n"] (spIsNu K) := ok_isnu F_is_number F_is_fraction b_is_fraction g_is_fraction m_len
  have G_joined : FnOk P w K mg base CX0 3 f3 fd3 ["word", "f", "g"] (spJoin K) := ok_joined F_joined F_is_fraction b_is_fraction g_is_fraction F_merged_into b_merged_into g_merged_into F_moved b_moved g_moved m_len m_list m_enumerate
  refine F.ok sc_product (fun vs H Q E ⟨_, _, _, iv, _⟩ => iv.len) (fun cdv A outer s H vs Q E hr h => ⟨_, (pss_cons (ps_if (PW.pt (pw_or (pt_val (pe_call G_is_number (hr.mono (by decide)) (by rfl) g_is_number F_is_number.kp b_is_number .nil pass0 (pa_cons (pv 0) (pa_cons pe_int pa_nil)))) (pw_or1 (pt_val (pe_call G_is_number (hr.mono (by decide)) (by rfl) g_is_number F_is_number.kp b_is_number .nil pass0 (pa_cons (pv 1) (pa_cons pe_int pa_nil))))))) (pss_one (ps_ret (pe_glob (by rfl) g_ZERO (show RelV (.ref _) _ from rfl)))) pss_nil)
        (pss_cons (ps_if (pt_val (pe_call G_is_number (hr.mono (by decide)) (by rfl) g_is_number F_is_number.kp b_is_number .nil pass0 (pa_cons (pv 0) (pa_cons pe_int pa_nil)))) (pss_one (ps_ret (pv 1))) pss_nil)
        (pss_cons (ps_if (pt_val (pe_call G_is_number (hr.mono (by decide)) (by rfl) g_is_number F_is_number.kp b_is_number .nil pass0 (pa_cons (pv 1) (pa_cons pe_int pa_nil)))) (pss_one (ps_ret (pv 0))) pss_nil)
        (pss_one (ps_ret (pe_call G_joined (hr.mono (by decide)) (by rfl) g_joined F_joined.kp b_joined .nil pass0 (pa_cons pe_str (pa_cons (pv 0) (pa_cons (pv 1) pa_nil))))))))), run_body h fun a B hp => ?_⟩)
  obtain ⟨p, q⟩ := a
  obtain ⟨h1, h2⟩ := hp
  simp only at h1 h2
  refine sd_env (δ1 := [.dat (foD [numS p q]), .dat (foD [piSt])]) rfl ?_
  have f0 : EvS K B H (tVar 0) [.dat (foD [numS p q]), .dat (foD [piSt])] (.dat (foD [numS p q])) := d_var rfl
  have f1 : EvS K B H (tVar 1) [.dat (foD [numS p q]), .dat (foD [piSt])] (.dat (foD [piSt])) := d_var rfl
  have nu : ∀ n : Int, n.natAbs < 2 ^ 10 → ∀ X : XK, EvS K B H (tCall (spIsNu K) [] X (tCons (tVar 0) (tCons (tC (.int n)) tNil))) [.dat (foD [numS p q]), .dat (foD [piSt])] (nB (decide (p = n * q))) := fun n hn X => d_isB (d_callF ([numS p q], n) (a_cons f0 (a_cons d_ci a_nil)) (.inr ⟨p, q, rfl, hn, h1⟩)) rfl
  have np : ∀ n : Int, ∀ X : XK, EvS K B H (tCall (spIsNu K) [] X (tCons (tVar 1) (tCons (tC (.int n)) tNil))) [.dat (foD [numS p q]), .dat (foD [piSt])] (nB false) := fun n X => d_isB (d_callF ([piSt], n) (a_cons f1 (a_cons d_ci a_nil)) (.inl ⟨isFr_pi, fun z => by cases z⟩)) (by
    show (isFr [piSt] && _) = false
    rw [isFr_pi] <;> rfl)
  by_cases e0 : p = 0
  · refine q_when (b_is (c := true) (b_or (b_val (nu 0 (by decide) _)) fun _ => b_val (np 0 _)) (by rw [decide_eq_true (show p = 0 * q by omega)] <;> rfl)) (fun _ => ?_) (fun hb => nomatch hb)
    exact sd_ret (d_ktD hZ) (by
      show foD _ = foD (prodS p q)
      rw [show prodS p q = [numS 0 1] from if_pos e0])
  refine q_when (b_is (c := false) (b_or (b_val (nu 0 (by decide) _)) fun _ => b_val (np 0 _)) (by rw [decide_eq_false (show ¬ p = 0 * q by omega)] <;> rfl)) (fun hb => nomatch hb) (fun _ => ?_)
  by_cases e1 : p = q
  · refine q_when (b_is (c := true) (b_val (nu 1 (by decide) _)) (decide_eq_true (by omega))) (fun _ => ?_) (fun hb => nomatch hb)
    exact sd_ret f1 (by
      show foD _ = foD (prodS p q)
      rw [show prodS p q = [piSt] by unfold prodS; rw [if_neg e0, if_pos e1]])
  refine q_when (b_is (c := false) (b_val (nu 1 (by decide) _)) (decide_eq_false (by omega))) (fun hb => nomatch hb) (fun _ => ?_)
  refine q_when (b_val (np 1 _)) (fun hb => nomatch hb) (fun _ => ?_)
  have hpi : OkForm [piSt] := fun k s h => by
    cases k with
    | zero =>
      cases Option.some.inj h
      exact .inr (.inl rfl)
    | succ k => simp at h
  have hpre : ([numS p q] : List FStep).Nodup ∧ OkForm [piSt] ∧ ([numS p q] : List FStep) ≠ [] ∧ ([piSt] : List FStep) ≠ [] ∧ ([numS p q] : List FStep).length + ([piSt] : List FStep).length ≤ 1000 ∧ (isFr [numS p q] && isFr [piSt]) = false :=
    ⟨by simp, hpi, List.cons_ne_nil _ _, List.cons_ne_nil _ _, by show 1 + 1 ≤ 1000; decide, by rw [isFr_pi, Bool.and_false]⟩
  exact sd_ret (d_callF (("times" : Str), [numS p q], [piSt]) (a_cons d_cs (a_cons f0 (a_cons f1 a_nil))) hpre) (by
    show foD (joinedF _ _ _) = foD (prodS p q)
    rw [joined_np, show prodS p q = [numS p q, piSt, (("times" : Str), [0, 1])] by unfold prodS; rw [if_neg e0, if_neg e1]])
/-! combined -/
theorem rgV_at {m n : Nat} {i : Int} (h0 : 0 ≤ i) (h1 : i < (n : Int)) : atI (rgV (m : Int) ((m : Int) + (n : Int))) i = some (.int ((m + i.toNat : Nat) : Int)) := by
  obtain ⟨j, rfl⟩ := Int.eq_ofNat_of_zero_le h0
  refine atI_nat ?_
  unfold rgV
  rw [List.getElem?_map, List.getElem?_range (by omega)]
  rfl
theorem rgV_last {m n : Nat} (h : 0 < n) : atI (rgV (m : Int) ((m : Int) + (n : Int))) (-1) = some (.int ((m : Int) + (n : Int) - 1)) := by
  obtain ⟨k, rfl⟩ : ∃ k, n = k + 1 := ⟨n - 1, by omega⟩
  unfold rgV
  rw [show ((m : Int) + ((k + 1 : Nat) : Int) - (m : Int)).toNat = k + 1 by omega, List.range_succ, List.map_append]
  refine (atI_last _ _).trans ?_
  exact congrArg some (congrArg V.int (by omega))
theorem shift_ren {m k : Nat} {s : FStep} (h : OkStep k s) : ren (fun i => m + i) s = shiftS m s := by
  unfold ren shiftS
  by_cases hn : s.1 = "number"
  · rw [if_pos hn, if_pos hn]
  · rw [if_neg hn, if_neg hn]
    refine congrArg _ (List.map_congr_left fun i hi => ?_)
    have := ok_pos h hn i hi
    show ((m + i.toNat : Nat) : Int) = (m : Int) + i
    omega
abbrev spComb (K : PySem.W.Frag) : Sp := SpF K (fun a : Str × List FStep × List FStep => [nS a.1, .dat (foD a.2.1), .dat (foD a.2.2)]) (fun a => OkForm a.2.2 ∧ a.2.1 ≠ [] ∧ a.2.2 ≠ [] ∧ a.2.1.length ≤ 400 ∧ a.2.2.length ≤ 400) fun a => foD (joinS a.1 a.2.1 a.2.2)
theorem ok_combined {f f3 : Addr} {fd fd3 : FuncData} (F : Fun K "combined" "combined" s_combined f fd) (F_moved : Fun K "moved" "moved" s_moved f3 fd3) (b_moved : Binds K fd3 ["step", "places"] []) (g_moved : mg "moved" = some (.ref f3))
    (m_len : mg "len" = none) (m_range : mg "range" = none) (m_list : mg "list" = none) : FnOk P w K mg base CX0 2 f fd ["word", "f", "g"] (spComb K) := by
  have G_moved : FnOk P w K mg base CX0 1 f3 fd3 _ (spMv K) := ok_moved F_moved m_len
  refine F.ok sc_combined (fun vs H Q E ⟨_, _, _, iv, _⟩ => iv.len) (fun cdv A outer s H vs Q E hr h => ⟨_, (pss_cons (ps_set (i := 3) sc_combined.nd rfl (.inr rfl) (pe_listRg rfl (by rfl) m_list (prg_2 (by rfl) m_range (pe_callB call_len (by rfl) m_len (by decide +kernel) (pa_cons (pv 1) pa_nil)) (pe_op op_add (pe_callB call_len (by rfl) m_len (by decide +kernel) (pa_cons (pv 1) pa_nil)) (pe_callB call_len (by rfl) m_len (by decide +kernel) (pa_cons (pv 2) pa_nil))))))
        (pss_cons (ps_setLc (i := 4) (own := [("step", 5)]) (g := gName 5) rfl sc_combined.nd rfl rfl (sw_true rfl rfl rfl (by decide +kernel)) (pi_tup (pv 2)) (blkOk_by (own := [("step", 5)]) (N := ["word", "f", "g", "places", "behind", "step"]) (sc := defScope s_combined) (by decide +kernel)) (fun _ _ _ _ _ => (pg_name (i := 5) sc_combined.nd rfl (.inl rfl))) (fun _ _ _ _ _ => pts_nil) (fun _ _ _ _ _ => (pe_call G_moved (hr.mono (by decide)) (by rfl) g_moved F_moved.kp b_moved .nil pass0 (pa_cons (pv 5) (pa_cons (pv 3) pa_nil)))))
        (pss_one (ps_ret (pe_tup (StX.pa_star (pv 1) (StX.pa_star (pv 4) (pa_cons (pe_tup (pa_cons (pv 0) (pa_cons (pe_op op_sub (pe_callB call_len (by rfl) m_len (by decide +kernel) (pa_cons (pv 1) pa_nil)) pe_int) (pa_cons (pe_ix ix_list (pv 3) (pe_un un_neg pe_int) (fun _ _ => rfl)) pa_nil)))) pa_nil)))))))), ?_⟩)
  obtain ⟨⟨x, ff, gg⟩, iv, ⟨hok, hfn, hgn, hl1, hl2⟩, q⟩ := spF_raw h (fun a => noL_fo _)
  simp only at iv hok hfn hgn hl1 hl2 q
  cases iv with
  | cons i1 iv =>
  cases iv with
  | cons i2 iv =>
  cases iv with
  | cons i3 iv =>
  cases iv
  cases i1
  obtain ⟨a, us, rfl, ha, hf⟩ := fo_inv i2
  obtain ⟨b, ws, rfl, hb, hg⟩ := fo_inv i3
  have l1 : 0 < ff.length := List.length_pos_iff.mpr hfn
  have l2 : 0 < gg.length := List.length_pos_iff.mpr hgn
  -- places = list(range(..))
  refine q_asgP (fun v H1 => ∃ l, v = .ref l ∧ H1 l = some (.lst (rgV (ff.length : Int) ((ff.length : Int) + (gg.length : Int))))) (fun Q1 k1 => ?_) fun v H1 e1 hP => ?_
  · refine ⟨_, rfl, .ref a, us.length, rfl, .inr ⟨_, ha, rfl⟩, _, rfl, .ref a, us.length, rfl, .inr ⟨_, ha, rfl⟩, _, rfl, .ref b, ws.length, rfl, .inr ⟨_, hb, rfl⟩, _, _, rfl, rfl, _, _, rfl, rfl, ?_, fun l hl => ?_⟩
    · have := hf.1
      have := hg.1
      exact RgOk.of_le (by omega) (by omega) (by omega) (by omega)
    · refine k1 _ _ (Ex.new hl) ⟨l, rfl, ?_⟩
      rw [hf.1, hg.1]
      exact upd_same
  obtain ⟨l, rfl, hl3⟩ := hP
  have hpl : SqL K H1 l (rgV (ff.length : Int) ((ff.length : Int) + (gg.length : Int))) := sq_of hl3
  refine st_is (σ' := [_, _, _, _, _, _]) rfl ?_
  -- behind = [moved(step, places) for step in g]
  refine q_asgP (fun v H2 => ∃ dl zs, v = .ref dl ∧ H2 dl = some (.lst zs) ∧ StsK K H2 zs (gg.map (shiftS ff.length))) (fun Q1 k1 => ?_) fun v H2 e2 hP => ?_
  · refine ⟨_, rfl, b, rfl, ⟨ws, ex_t e1 hb⟩, fun dl hdl => ?_⟩
    refine lc_tup (xs := ws) (fun i H' => Ex H1 H' ∧ ∃ zs, H' dl = some (.lst zs) ∧ StsK K H' zs ((gg.take i).map (shiftS ff.length))) ⟨Ex.new hdl, [], upd_same, .nil⟩ (fun i H' _ p => ex_t (e1.trans p.1) hb) (fun i y H' hy p => ?_) (fun H' p => ?_)
    · obtain ⟨e3, zs, h3, h4⟩ := p
      obtain ⟨st, hst, sat⟩ := hg.get hy
      have hoi := hok i st hst
      refine ⟨rfl, ?_⟩
      refine yes_go ?_
      refine ⟨_, rfl, _, rfl, y, st, l, _, (fun i => ff.length + i), gg.length, rfl, sat.mono (e1.trans e3), hoi.mono (Nat.le_of_lt (List.getElem?_eq_some_iff.mp hst).1), ex_l e3 hpl, fun i h0 h1 => rgV_at h0 h1, fun z H5 e5 hz => ?_⟩
      rw [shift_ren hoi] at hz
      refine ⟨zs, e5 _ _ h3, ?_, Ex.mut (e3.trans e5) hdl, zs ++ [z], upd_same, ?_⟩
      · have h5 := h4.1
        rw [List.length_map, List.length_take] at h5
        exact sz_lt (by omega)
      · have nL : ∀ p ∈ [dl], (∀ ys, H5 p ≠ some (.tup ys)) ∧ ∀ o u, H5 p ≠ some (.frz o u) := fun p hp => by
          rw [List.mem_singleton.mp hp]
          exact notT_lst (e5 _ _ h3)
        rw [List.take_add_one, hst, List.map_append]
        exact StsK.app ((h4.mono e5).keep keep_upd nL) (.one (hz.keep keep_upd nL))
    · obtain ⟨e3, zs, h3, h4⟩ := p
      have ew : ws.length = gg.length := hg.1
      rw [ew, List.take_length] at h4
      exact k1 _ _ e3 ⟨dl, zs, rfl, h3, h4⟩
  obtain ⟨dl, zs, rfl, h3, h4⟩ := hP
  refine st_is (σ' := [_, _, _, _, _, _]) rfl ?_
  -- the result
  have e12 := e1.trans e2
  refine ⟨_, rfl, a, us, rfl, .inl (ex_t e12 ha), _, rfl, dl, zs, rfl, .inr (sq_of h3), _, rfl, _, rfl, .ref a, us.length, rfl, .inr ⟨_, ex_t e12 ha, rfl⟩, _, _, rfl, rfl, _, rfl, _, rfl, l, _, -1, _, rfl, rfl, ex_l e2 hpl, rgV_last l2, ?_, fun c hc => ⟨?_, fun r hr2 => ?_⟩⟩
  · show 3 ≤ sizeLine
    decide
  · show (us ++ (zs ++ [V.ref c])).length ≤ sizeLine
    rw [List.length_append, List.length_append, hf.1, h4.1, List.length_map]
    exact sz_of (by simp; omega)
  · have e3 : Ex H2 (upd H2 c (.tup (stV (x, [(ff.length : Int) - 1, (ff.length : Int) + (gg.length : Int) - 1])))) := Ex.new hc
    rw [hf.1] at hr2 ⊢
    have e4 := e3.trans (Ex.new (o := .tup (us ++ (zs ++ [V.ref c]))) hr2)
    refine q (.ref r) _ (e12.trans e4) (fo_mk (st_of upd_same) ?_)
    show StsK K _ _ (joinS x ff gg)
    unfold joinS
    rw [List.append_assoc]
    exact StsK.app ((hf.mono e12).mono e4) (StsK.app (h4.mono e4) (.one ⟨c, rfl, st_of ((Ex.new (o := .tup (us ++ (zs ++ [V.ref c]))) hr2) _ _ upd_same)⟩))
abbrev spJn (x : Str) (K : PySem.W.Frag) : Sp := SpF K (fun a : List FStep × List FStep => [.dat (foD a.1), .dat (foD a.2)]) (fun a => OkForm a.2 ∧ a.1 ≠ [] ∧ a.2 ≠ [] ∧ a.1.length ≤ 400 ∧ a.2.length ≤ 400) fun a => foD (joinS x a.1 a.2)
theorem ok_times {f f4 : Addr} {fd fd4 : FuncData} (F : Fun K "times" "times" s_times f fd) (F_combined : Fun K "combined" "combined" s_combined f4 fd4) (G_combined : FnOk P w K mg base CX0 2 f4 fd4 ["word", "f", "g"] (spComb K)) (b_combined : Binds K fd4 ["word", "f", "g"] []) (g_combined : mg "combined" = some (.ref f4)) : FnOk P w K mg base CX0 3 f fd ["f", "g"] (spJn "times" K) := by
  refine F.ok sc_times (fun vs H Q E ⟨_, _, _, iv, _⟩ => iv.len) (fun cdv A outer s H vs Q E hr h => ⟨_, (pss_one (ps_ret (pe_call G_combined (hr.mono (by decide)) (by rfl) g_combined F_combined.kp b_combined .nil pass0 (pa_cons pe_str (pa_cons (pv 0) (pa_cons (pv 1) pa_nil)))))), run_body h fun a B hp => ?_⟩)
  obtain ⟨ff, gg⟩ := a
  refine sd_env (δ1 := [.dat (foD ff), .dat (foD gg)]) rfl ?_
  exact sd_ret (d_callF (("times" : Str), ff, gg) (a_cons d_cs (a_cons (d_var (s := .dat (foD ff)) rfl) (a_cons (d_var (s := .dat (foD gg)) rfl) a_nil))) hp) rfl
theorem ok_over {f f4 : Addr} {fd fd4 : FuncData} (F : Fun K "over" "over" s_over f fd) (F_combined : Fun K "combined" "combined" s_combined f4 fd4) (G_combined : FnOk P w K mg base CX0 2 f4 fd4 ["word", "f", "g"] (spComb K)) (b_combined : Binds K fd4 ["word", "f", "g"] []) (g_combined : mg "combined" = some (.ref f4)) : FnOk P w K mg base CX0 3 f fd ["f", "g"] (spJn "divide" K) := by
  refine F.ok sc_over (fun vs H Q E ⟨_, _, _, iv, _⟩ => iv.len) (fun cdv A outer s H vs Q E hr h => ⟨_, (pss_one (ps_ret (pe_call G_combined (hr.mono (by decide)) (by rfl) g_combined F_combined.kp b_combined .nil pass0 (pa_cons pe_str (pa_cons (pv 0) (pa_cons (pv 1) pa_nil)))))), run_body h fun a B hp => ?_⟩)
  obtain ⟨ff, gg⟩ := a
  refine sd_env (δ1 := [.dat (foD ff), .dat (foD gg)]) rfl ?_
  exact sd_ret (d_callF (("divide" : Str), ff, gg) (a_cons d_cs (a_cons (d_var (s := .dat (foD ff)) rfl) (a_cons (d_var (s := .dat (foD gg)) rfl) a_nil))) hp) rfl
theorem ok1 {s : FStep} (h : OkStep 0 s) : OkForm [s] := fun k x hk => by
  cases k with
  | zero =>
    cases Option.some.inj hk
    exact h
  | succ k => simp at hk
/-- 180 / pi -/
def ratS : List FStep := joinS "divide" [numS 180 1] [piSt]
theorem rat_ne : ratS ≠ [] := by
  unfold ratS joinS
  simp
theorem rat_len : ratS.length ≤ 400 := by
  unfold ratS joinS
  simp
def degS (ff : List FStep) : List FStep := joinS "times" ratS ff
abbrev spDeg (K : PySem.W.Frag) : Sp := SpF K (fun ff : List FStep => [.dat (foD ff)]) (fun ff => OkForm ff ∧ ff ≠ [] ∧ ff.length ≤ 400) fun ff => foD (degS ff)
theorem ok_degrees {f f0 f1 f2 f3 f4 f5 : Addr} {fd fd0 fd1 fd2 fd3 fd4 fd5 : FuncData} (F : Fun K "degrees" "degrees" s_degrees f fd) (F_number : Fun K "number" "number" s_number f0 fd0) (b_number : Binds K fd0 ["p", "q"] []) (g_number : mg "number" = some (.ref f0)) (F_pi_formula : Fun K "pi_formula" "pi_formula" s_pi_formula f1 fd1) (b_pi_formula : Binds K fd1 [] []) (g_pi_formula : mg "pi_formula" = some (.ref f1))
    (F_times : Fun K "times" "times" s_times f2 fd2) (b_times : Binds K fd2 ["f", "g"] []) (g_times : mg "times" = some (.ref f2)) (F_over : Fun K "over" "over" s_over f3 fd3) (b_over : Binds K fd3 ["f", "g"] []) (g_over : mg "over" = some (.ref f3))
    (F_combined : Fun K "combined" "combined" s_combined f4 fd4) (b_combined : Binds K fd4 ["word", "f", "g"] []) (g_combined : mg "combined" = some (.ref f4)) (F_moved : Fun K "moved" "moved" s_moved f5 fd5) (b_moved : Binds K fd5 ["step", "places"] []) (g_moved : mg "moved" = some (.ref f5))
    (m_len : mg "len" = none) (m_range : mg "range" = none) (m_list : mg "list" = none) : FnOk P w K mg base CX0 4 f fd ["formula"] (spDeg K) := by
  have G_number : FnOk P w K mg base CX0 1 f0 fd0 ["p", "q"] (spNum K) := ok_number F_number
  have G_pi_formula : FnOk P w K mg base CX0 1 f1 fd1 [] (spPi K) := ok_piform F_pi_formula
  have G_combined : FnOk P w K mg base CX0 2 f4 fd4 ["word", "f", "g"] (spComb K) := ok_combined F_combined F_moved b_moved g_moved m_len m_range m_list
  have G_times : FnOk P w K mg base CX0 3 f2 fd2 ["f", "g"] (spJn "times" K) := ok_times F_times F_combined G_combined b_combined g_combined
  have G_over : FnOk P w K mg base CX0 3 f3 fd3 ["f", "g"] (spJn "divide" K) := ok_over F_over F_combined G_combined b_combined g_combined
  refine F.ok sc_degrees (fun vs H Q E ⟨_, _, _, iv, _⟩ => iv.len) (fun cdv A outer s H vs Q E hr h => ⟨_, (pss_one (ps_ret (pe_call G_times (hr.mono (by decide)) (by rfl) g_times F_times.kp b_times .nil pass0 (pa_cons (pe_call G_over (hr.mono (by decide)) (by rfl) g_over F_over.kp b_over .nil pass0 (pa_cons (pe_call G_number (hr.mono (by decide)) (by rfl) g_number F_number.kp b_number .nil pass0 (pa_cons pe_int (pa_cons pe_int pa_nil))) (pa_cons (pe_call0 G_pi_formula (hr.mono (by decide)) (by rfl) g_pi_formula F_pi_formula.kp b_pi_formula .nil pass0) pa_nil))) (pa_cons (pv 0) pa_nil))))), run_body h fun ff B hp => ?_⟩)
  obtain ⟨h1, h2, h3⟩ := hp
  refine sd_env (δ1 := [.dat (foD ff)]) rfl ?_
  exact sd_ret (d_callF (ratS, ff) (a_cons (d_callF ([numS 180 1], [piSt]) (a_cons (d_callF (180, 1) (a_cons d_ci (a_cons d_ci a_nil)) True.intro) (a_cons (d_callF () a_nil True.intro) a_nil)) ⟨ok1 (.inr (.inl rfl)), List.cons_ne_nil _ _, List.cons_ne_nil _ _, (show 1 ≤ 400 by decide), (show 1 ≤ 400 by decide)⟩) (a_cons (d_var (s := .dat (foD ff)) rfl) a_nil)) ⟨h1, rat_ne, h2, rat_len, h3⟩) rfl
def radS (a : Int) : List FStep := prodS (a / gc a 1800000000) (1800000000 / gc a 1800000000)
abbrev spRad (K : PySem.W.Frag) : Sp := SpF K (fun a : Int => [nI a]) (fun _ => True) fun a => foD (radS a)
theorem gc_div (a : Int) : 1 ≤ 1800000000 / gc a 1800000000 ∧ (1800000000 / gc a 1800000000).natAbs < 2 ^ 100 := by
  have hg := gc_pos (p := a) (q := 1800000000) (by decide)
  have d2 : gc a 1800000000 ∣ 1800000000 := by
    unfold gc
    exact Int.ofNat_dvd_left.mpr (Nat.gcd_dvd_right _ _)
  have g4 : (1800000000 / gc a 1800000000 : Int).natAbs ≤ (1800000000 : Int).natAbs := Int.natAbs_ediv_le_natAbs _ _
  have g5 : 0 < 1800000000 / gc a 1800000000 := Int.ediv_pos_of_pos_of_dvd (by omega) (by omega) d2
  omega
theorem ok_radians {f f0 f1 f2 f3 f4 f5 f6 f7 f8 f9 aZ : Addr} {fd fd0 fd1 fd2 fd3 fd4 fd5 fd6 fd7 fd8 fd9 : FuncData} {t0 : Tok} (F : Fun K "radians" "radians" s_radians f fd) (F_product : Fun K "product" "product" s_product f5 fd5) (b_product : Binds K fd5 ["f", "g"] []) (g_product : mg "product" = some (.ref f5))
    (F_is_number : Fun K "is_number" "is_number" s_is_number f4 fd4) (b_is_number : Binds K fd4 ["f", "n"] []) (g_is_number : mg "is_number" = some (.ref f4)) (F_is_fraction : Fun K "is_fraction" "is_fraction" s_is_fraction f0 fd0) (b_is_fraction : Binds K fd0 ["f"] []) (g_is_fraction : mg "is_fraction" = some (.ref f0))
    (F_joined : Fun K "joined" "joined" s_joined f3 fd3) (b_joined : Binds K fd3 ["word", "f", "g"] []) (g_joined : mg "joined" = some (.ref f3))
    (F_merged_into : Fun K "merged_into" "merged_into" s_merged_into f1 fd1) (b_merged_into : Binds K fd1 ["kept", "place_of", "formula"] []) (g_merged_into : mg "merged_into" = some (.ref f1))
    (F_moved : Fun K "moved" "moved" s_moved f2 fd2) (b_moved : Binds K fd2 ["step", "places"] []) (g_moved : mg "moved" = some (.ref f2))
    (F_fraction : Fun K "fraction" "fraction" s_fraction f6 fd6) (b_fraction : Binds K fd6 ["p", "q"] []) (g_fraction : mg "fraction" = some (.ref f6)) (F_lowest_terms : Fun K "lowest_terms" "lowest_terms" s_lowest_terms f7 fd7) (b_lowest_terms : Binds K fd7 ["p", "q"] []) (g_lowest_terms : mg "lowest_terms" = some (.ref f7))
    (F_number : Fun K "number" "number" s_number f8 fd8) (b_number : Binds K fd8 ["p", "q"] []) (g_number : mg "number" = some (.ref f8)) (F_pi_formula : Fun K "pi_formula" "pi_formula" s_pi_formula f9 fd9) (b_pi_formula : Binds K fd9 [] []) (g_pi_formula : mg "pi_formula" = some (.ref f9))
    (g_gcd : mg "gcd" = some (.builtin "math.gcd")) (g_HALF_TURN : mg "HALF_TURN" = some (.int 1800000000 t0)) (g_ZERO : mg "ZERO" = some (.ref aZ)) (hZ : ∀ H, Dt K H (.ref aZ) (foD [numS 0 1])) (m_len : mg "len" = none) (m_list : mg "list" = none) (m_enumerate : mg "enumerate" = none) : FnOk P w K mg base CX0 5 f fd ["angle"] (spRad K) := by
  have G_product : FnOk P w K mg base CX0 4 f5 fd5 ["f", "g"] (spProd K) := ok_product F_product F_is_number b_is_number g_is_number F_is_fraction b_is_fraction g_is_fraction F_joined b_joined g_joined F_merged_into b_merged_into g_merged_into F_moved b_moved g_moved g_ZERO hZ m_len m_list m_enumerate
  have G_fraction : FnOk P w K mg base CX0 2 f6 fd6 ["p", "q"] (spFrc K) := ok_frc F_fraction F_lowest_terms b_lowest_terms g_lowest_terms F_number b_number g_number g_gcd
  have G_pi_formula : FnOk P w K mg base CX0 1 f9 fd9 [] (spPi K) := ok_piform F_pi_formula
  refine F.ok sc_radians (fun vs H Q E ⟨_, _, _, iv, _⟩ => iv.len) (fun cdv A outer s H vs Q E hr h => ⟨_, (pss_one (ps_ret (pe_call G_product (hr.mono (by decide)) (by rfl) g_product F_product.kp b_product .nil pass0 (pa_cons (pe_call G_fraction (hr.mono (by decide)) (by rfl) g_fraction F_fraction.kp b_fraction .nil pass0 (pa_cons (pv 0) (pa_cons (pe_glob (by rfl) g_HALF_TURN (show RelV (.int 1800000000) _ from ⟨_, rfl⟩)) pa_nil))) (pa_cons (pe_call0 G_pi_formula (hr.mono (by decide)) (by rfl) g_pi_formula F_pi_formula.kp b_pi_formula .nil pass0) pa_nil))))), run_body h fun a B hp => ?_⟩)
  refine sd_env (δ1 := [nI a]) rfl ?_
  exact sd_ret (d_callF (a / gc a 1800000000, 1800000000 / gc a 1800000000) (a_cons (d_callF (a, 1800000000) (a_cons (d_var (s := nI a) rfl) (a_cons d_ci a_nil)) (show (1 : Int) ≤ 1800000000 ∧ (1800000000 : Int) < 2 ^ 100 by decide)) (a_cons (d_callF () a_nil True.intro) a_nil)) ⟨(gc_div a).2, (gc_div a).1⟩) rfl
/-! ### what is a formula -/
structure Counts (K : PySem.W.Frag) (w : World) (d : Addr) : Prop where
  dict : ∃ es n, KDict K w d es n
  cnum : ∃ t, PySem.W.nsIn K d "number" = some (some (.int 2 t))
  cpi : ∃ t, PySem.W.nsIn K d "pi" = some (some (.int 0 t))
  c2 : ∀ x ∈ W2, ∃ t, PySem.W.nsIn K d x = some (some (.int 2 t))
  c1 : ∀ x ∈ W1, ∃ t, PySem.W.nsIn K d x = some (some (.int 1 t))
theorem Counts.of {d : Addr} (C : Counts K w d) {k : Nat} {st : FStep} (h : OkStep k st) : ∃ t, PySem.W.nsIn K d st.1 = some (some (.int (st.2.length : Nat) t)) := by
  rcases h with ⟨p, q, rfl, _⟩ | rfl | ⟨x, i, j, hx, rfl, _⟩ | ⟨x, i, hx, rfl, _⟩
  · exact C.cnum
  · exact C.cpi
  · exact C.c2 x hx
  · exact C.c1 x hx
abbrev spInteger (K : PySem.W.Frag) : Sp := SpF K (fun i : Int => [nI i]) (fun _ => True) fun _ => .bool true
theorem ok_integer {f : Addr} {fd : FuncData} (F : Fun K "is_integer" "is_integer" s_is_integer f fd) (m_isinstance : mg "isinstance" = none) (m_int : mg "int" = none) (m_bool : mg "bool" = none) : FnOk P w K mg base CX0 1 f fd ["value"] (spInteger K) := by
  refine F.ok sc_is_integer (fun vs H Q E ⟨_, _, _, iv, _⟩ => iv.len) (fun cdv A outer s H vs Q E hr h => ⟨_, (pss_one (ps_ret (pe_and (pe_callB call_isi (by rfl) m_isinstance (by decide +kernel) (pa_cons (pv 0) (pa_cons (pe_bltn (by rfl) m_int (by decide +kernel) (show RelV (.ty "int") _ from rfl)) pa_nil))) (pe_one (pe_not (pe_callB call_isi (by rfl) m_isinstance (by decide +kernel) (pa_cons (pv 0) (pa_cons (pe_bltn (by rfl) m_bool (by decide +kernel) (show RelV (.ty "bool") _ from rfl)) pa_nil)))))))), run_body h fun i B _ => ?_⟩)
  refine sd_env (δ1 := [nI i]) rfl ?_
  exact sd_ret (d_andV (d_isi (b := true) (d_var (s := nI i) rfl) rfl rfl) fun _ => d_notV (d_isi (b := false) (d_var (s := nI i) rfl) rfl rfl)) rfl
abbrev spInts (K : PySem.W.Frag) : Sp := SpF K (fun l : List Int => [.dat (.tuple (l.map PyData.int))]) (fun _ => True) fun _ => .bool true
theorem ok_ints {f f0 : Addr} {fd fd0 : FuncData} (F : Fun K "are_integers" "are_integers" s_are_integers f fd) (F_is_integer : Fun K "is_integer" "is_integer" s_is_integer f0 fd0) (b_is_integer : Binds K fd0 ["value"] []) (g_is_integer : mg "is_integer" = some (.ref f0))
    (m_isinstance : mg "isinstance" = none) (m_int : mg "int" = none) (m_bool : mg "bool" = none) : FnOk P w K mg base CX0 2 f fd ["values"] (spInts K) := by
  have G_is_integer : FnOk P w K mg base CX0 1 f0 fd0 ["value"] (spInteger K) := ok_integer F_is_integer m_isinstance m_int m_bool
  refine F.ok sc_are_integers (fun vs H Q E ⟨_, _, _, iv, _⟩ => iv.len) (fun cdv A outer s H vs Q E hr h => ⟨_, (pss_cons (ps_for PassesOwn.never rfl (pi_tup (pv 0)) (pg_name (i := 1) sc_are_integers.nd rfl (.inl rfl)) (pss_one (ps_if (pt_not (pt_val (pe_call G_is_integer (hr.mono (by decide)) (by rfl) g_is_integer F_is_integer.kp b_is_integer .nil pass0 (pa_cons (pv 1) pa_nil)))) (pss_one (ps_ret pe_bl)) pss_nil)))
        (pss_one (ps_ret pe_bl))), run_body h fun l B _ => ?_⟩)
  refine sd_env (δ1 := [.dat (.tuple (l.map PyData.int)), .no]) rfl ?_
  refine q_for (w_tup (d_var (s := .dat (.tuple (l.map PyData.int))) rfl)) (fun i δ => ∃ s, δ = [.dat (.tuple (l.map PyData.int)), s]) ⟨_, rfl⟩ (fun i d δ' hd hq => ?_) (fun δ' hq => ?_)
  · obtain ⟨s, rfl⟩ := hq
    obtain ⟨z, rfl⟩ : ∃ z, d = .int z := by
      rw [List.getElem?_map] at hd
      obtain ⟨z, _, h2⟩ := Option.map_eq_some_iff.mp hd
      exact ⟨z, h2.symm⟩
    refine ⟨[1], [_, nI z], g_name, ?_⟩
    exact sd_when (b_is (c := false) (b_not (b_val (d_callF z (a_cons (d_var (s := nI z) rfl) a_nil) True.intro))) rfl) (fun hb => nomatch hb) (fun _ => ⟨_, rfl⟩)
  · obtain ⟨s, rfl⟩ := hq
    exact sd_ret d_cb rfl
theorem ok_ixs {k : Nat} {s : FStep} (h : OkStep k s) (hn : s.1 ≠ "number") : ∀ z ∈ s.2, 0 ≤ z ∧ z < (k : Int) := ok_pos h hn
abbrev spIsStep (K : PySem.W.Frag) : Sp := SpF K (fun a : FStep × Nat => [.dat (stD a.1), nI (a.2 : Int)]) (fun a => OkStep a.2 a.1) fun _ => .bool true
theorem ok_isstep {f f0 f1 d : Addr} {fd fd0 fd1 : FuncData} (F : Fun K "is_step" "is_step" s_is_step f fd) (F_is_integer : Fun K "is_integer" "is_integer" s_is_integer f0 fd0) (b_is_integer : Binds K fd0 ["value"] []) (g_is_integer : mg "is_integer" = some (.ref f0))
    (F_are_integers : Fun K "are_integers" "are_integers" s_are_integers f1 fd1) (b_are_integers : Binds K fd1 ["values"] []) (g_are_integers : mg "are_integers" = some (.ref f1)) (g_COUNTS : mg "COUNTS" = some (.ref d)) (C : Counts K w d)
    (m_isinstance : mg "isinstance" = none) (m_int : mg "int" = none) (m_bool : mg "bool" = none) (m_len : mg "len" = none) (m_tuple : mg "tuple" = none) (m_str : mg "str" = none) : FnOk P w K mg base CX0 3 f fd ["step", "place"] (spIsStep K) := by
  have G_are_integers : FnOk P w K mg base CX0 2 f1 fd1 ["values"] (spInts K) := ok_ints F_are_integers F_is_integer b_is_integer g_is_integer m_isinstance m_int m_bool
  obtain ⟨es, nn, D_COUNTS⟩ := C.dict
  refine F.ok sc_is_step (fun vs H Q E ⟨_, _, _, iv, _⟩ => iv.len) (fun cdv A outer s H vs Q E hr h => ⟨_, (pss_cons (ps_if (PW.pt (pw_or (pt_not (pt_val (pe_callB call_isi (by rfl) m_isinstance (by decide +kernel) (pa_cons (pv 0) (pa_cons (pe_bltn (by rfl) m_tuple (by decide +kernel) (show RelV (.ty "tuple") _ from rfl)) pa_nil))))) (pw_or (pt_cmpR op_eq (pe_callB call_len (by rfl) m_len (by decide +kernel) (pa_cons (pv 0) pa_nil)) pe_int (nomark _)) (pw_or1 (pt_not (pt_val (pe_callB call_isi (by rfl) m_isinstance (by decide +kernel) (pa_cons (pe_ix ix_tup (pv 0) pe_int (fun _ _ => rfl)) (pa_cons (pe_bltn (by rfl) m_str (by decide +kernel) (show RelV (.ty "str") _ from rfl)) pa_nil))))))))) (pss_one (ps_ret pe_bl)) pss_nil)
        (pss_cons (ps_set (i := 2) sc_is_step.nd rfl (.inl rfl) (pe_ix ix_tup (pv 0) pe_int (fun _ _ => rfl)))
        (pss_cons (ps_if (PW.pt (pw_or (pt_cmpR (op_notIn_kd D_COUNTS) (pv 2) (pe_glob (by rfl) g_COUNTS (show RelV (.ref _) _ from rfl)) (by rfl)) (pw_or (pt_cmpR op_ne (pe_callB call_len (by rfl) m_len (by decide +kernel) (pa_cons (pv 0) pa_nil)) (pe_op op_add (pe_ix ix_kdict (pe_glob (by rfl) g_COUNTS (show RelV (.ref _) _ from rfl)) (pv 2) (fun _ _ => rfl)) pe_int) (nomark _)) (pw_or1 (pt_not (pt_val (pe_call G_are_integers (hr.mono (by decide)) (by rfl) g_are_integers F_are_integers.kp b_are_integers .nil pass0 (pa_cons (pe_slice sl_tup (pv 0) (po_some pe_int) po_none) pa_nil)))))))) (pss_one (ps_ret pe_bl)) pss_nil)
        (pss_cons (ps_if (pt_cmpR op_eq (pv 2) pe_str (nomark _)) (pss_one (ps_ret (pe_cmpR op_ge (pe_ix ix_tup (pv 0) pe_int (fun _ _ => rfl)) pe_int (nomark _)))) pss_nil)
        (pss_cons (ps_for PassesOwn.never rfl (pi_tup (pe_slice sl_tup (pv 0) (po_some pe_int) po_none)) (pg_name (i := 3) sc_is_step.nd rfl (.inl rfl)) (pss_one (ps_if (PW.pt (pw_or (pt_cmpR op_lt (pv 3) pe_int (nomark _)) (pw_or1 (pt_cmpR op_ge (pv 3) (pv 1) (nomark _))))) (pss_one (ps_ret pe_bl)) pss_nil)))
        (pss_one (ps_ret pe_bl))))))), run_body h fun a B hp => ?_⟩)
  obtain ⟨st, k⟩ := a
  have hok : OkStep k st := hp
  obtain ⟨t, hc⟩ := C.of hok
  have kd : KDct K w d st.1 (.int (st.2.length : Nat)) := ⟨es, nn, _, D_COUNTS.at_, D_COUNTS.lit, hc, ⟨_, rfl⟩⟩
  have lay : ∀ x y : Sl, EvS K B H (tVar 0) [.dat (.tuple (.str st.1 :: st.2.map PyData.int)), nI (k : Int), x, y] (.dat (.tuple (.str st.1 :: st.2.map PyData.int))) := fun _ _ => d_var rfl
  refine sd_env (δ1 := [.dat (.tuple (.str st.1 :: st.2.map PyData.int)), nI (k : Int), .no, .no]) rfl ?_
  have w0 : ∀ x y : Sl, EvS K B H (tOp (rIxT K) (tVar 0) (tC (.int 0))) [.dat (.tuple (.str st.1 :: st.2.map PyData.int)), nI (k : Int), x, y] (nS st.1) := fun x y => d_ixT (i := ((0 : Nat) : Int)) (lay x y) d_ci (atI_nat rfl)
  have sl : ∀ x y : Sl, EvS K B H (tSl (rSlT K) (tVar 0) (tPart (tC (.int 1))) tNoPart) [.dat (.tuple (.str st.1 :: st.2.map PyData.int)), nI (k : Int), x, y] (.dat (.tuple (st.2.map PyData.int))) := fun x y => d_is (d_slT (lay x y) (o_some d_ci) o_none (.inl (by
    rw [show HT.sIx (PyData.str st.1 :: st.2.map PyData.int).length 0 (some 1) = min 1 (PyData.str st.1 :: st.2.map PyData.int).length from HT.sIx_nat _ 0 1, List.length_cons]
    omega)) (fun z => by cases z)) (by rw [cut_step])
  refine q_when (b_is (c := false) (b_or (b_not (b_val (d_isi (b := true) (lay _ _) rfl rfl))) fun _ => (b_or (b_test (d_eqI (d_lenT (lay _ _)) d_ci)) fun _ => (b_not (b_val (d_isi (b := true) (w0 _ _) rfl rfl))))) ?_) (fun hb => nomatch hb) (fun _ => ?_)
  · rw [decide_eq_false (show ¬ (((PyData.str st.1 :: st.2.map PyData.int).length : Nat) : Int) = 0 by rw [List.length_cons]; omega)]
    rfl
  refine q_asg [_, _, nS st.1, _] (w0 _ _) ?_
  have cst : EvS K B H (tC (.ref d)) [.dat (.tuple (.str st.1 :: st.2.map PyData.int)), nI (k : Int), nS st.1, .no] (.raw (.ref d)) := d_cr
  refine q_when (b_is (c := false) (b_or (b_test (d_niK (d_var (s := nS st.1) rfl) cst hc)) fun _ => (b_or (b_test (d_neI (d_lenT (lay _ _)) (d_i0 (d_ixK cst (d_var (s := nS st.1) rfl) kd) d_ci))) fun _ => (b_not (b_val (d_callF st.2 (a_cons (sl _ _) a_nil) True.intro))))) ?_) (fun hb => nomatch hb) (fun _ => ?_)
  · rw [decide_eq_true (show (((PyData.str st.1 :: st.2.map PyData.int).length : Nat) : Int) = ((st.2.length : Nat) : Int) + 1 by rw [List.length_cons, List.length_map]; omega)]
    rfl
  by_cases hnum : st.1 = "number"
  · refine q_when (b_is (c := true) (b_test (d_eqS (d_var (s := nS st.1) rfl) d_cs)) (decide_eq_true hnum)) (fun _ => ?_) (fun hb => nomatch hb)
    obtain ⟨p0, q0, h2, h3⟩ : ∃ p0 q0, st.2 = [p0, q0] ∧ 1 ≤ q0 := by
      rcases hok with ⟨p0, q0, rfl, h⟩ | rfl | ⟨x, i, j, hx, rfl, _⟩ | ⟨x, i, hx, rfl, _⟩
      · exact ⟨p0, q0, rfl, h⟩
      · exact absurd hnum pi_nn
      · exact absurd hnum (w2_nn x hx)
      · exact absurd hnum (w1_nn x hx)
    refine sd_ret (d_isB (c := true) (d_b0 (d_ixT (i := ((2 : Nat) : Int)) (d := .int q0) (lay _ _) d_ci (atI_nat (by rw [h2]; rfl))) d_ci) (decide_eq_true h3)) rfl
  · refine q_when (b_is (c := false) (b_test (d_eqS (d_var (s := nS st.1) rfl) d_cs)) (decide_eq_false hnum)) (fun hb => nomatch hb) (fun _ => ?_)
    refine q_for (w_tup (sl _ _)) (fun i δ => ∃ s, δ = [.dat (.tuple (.str st.1 :: st.2.map PyData.int)), nI (k : Int), nS st.1, s]) ⟨_, rfl⟩ (fun i d δ' hd hq => ?_) (fun δ' hq => ?_)
    · obtain ⟨s, rfl⟩ := hq
      obtain ⟨z, hz, rfl⟩ : ∃ z ∈ st.2, d = .int z := by
        rw [List.getElem?_map] at hd
        obtain ⟨z, h1, h2⟩ := Option.map_eq_some_iff.mp hd
        exact ⟨z, List.mem_of_getElem? h1, h2.symm⟩
      obtain ⟨g1, g2⟩ := ok_ixs hok hnum z hz
      refine ⟨[3], [_, _, _, nI z], g_name, ?_⟩
      exact sd_when (b_is (c := false) (b_or (b_test (d_b0 (d_var (s := nI z) rfl) d_ci)) fun _ => b_test (d_b0 (d_var (s := nI z) rfl) (d_var (s := nI (k : Int)) rfl))) (by
        rw [decide_eq_false (show ¬ z < 0 by omega), decide_eq_false (show ¬ z ≥ (k : Int) by omega)] <;> rfl)) (fun hb => nomatch hb) (fun _ => ⟨_, rfl⟩)
    · obtain ⟨s, rfl⟩ := hq
      exact sd_ret d_cb rfl
abbrev spIsForm (K : PySem.W.Frag) : Sp := SpF K (fun ff : List FStep => [.dat (foD ff)]) (fun ff => OkForm ff ∧ ff ≠ []) fun _ => .bool true
theorem enumD_get {ds : List PyData} {i : Nat} {d : PyData} (h : (enumD ds)[i]? = some d) : ∃ e, ds[i]? = some e ∧ d = .tuple [.int (i : Int), e] := by
  unfold enumD at h
  rw [List.getElem?_map, List.getElem?_zipIdx] at h
  cases hd : ds[i]? with
  | none => rw [hd] at h; cases h
  | some e =>
    rw [hd] at h
    refine ⟨e, rfl, ?_⟩
    have := Option.some.inj h
    simpa using this.symm
theorem ok_isform {f f2 : Addr} {fd fd2 : FuncData} (F : Fun K "is_formula" "is_formula" s_is_formula f fd) (F_is_step : Fun K "is_step" "is_step" s_is_step f2 fd2) (G_is_step : FnOk P w K mg base CX0 3 f2 fd2 ["step", "place"] (spIsStep K)) (b_is_step : Binds K fd2 ["step", "place"] []) (g_is_step : mg "is_step" = some (.ref f2))
    (m_isinstance : mg "isinstance" = none) (m_len : mg "len" = none) (m_tuple : mg "tuple" = none) (m_enumerate : mg "enumerate" = none) : FnOk P w K mg base CX0 4 f fd ["value"] (spIsForm K) := by
  refine F.ok sc_is_formula (fun vs H Q E ⟨_, _, _, iv, _⟩ => iv.len) (fun cdv A outer s H vs Q E hr h => ⟨_, (pss_cons (ps_if (PW.pt (pw_or (pt_not (pt_val (pe_callB call_isi (by rfl) m_isinstance (by decide +kernel) (pa_cons (pv 0) (pa_cons (pe_bltn (by rfl) m_tuple (by decide +kernel) (show RelV (.ty "tuple") _ from rfl)) pa_nil))))) (pw_or1 (pt_cmpR op_eq (pe_callB call_len (by rfl) m_len (by decide +kernel) (pa_cons (pv 0) pa_nil)) pe_int (nomark _))))) (pss_one (ps_ret pe_bl)) pss_nil)
        (pss_cons (ps_for PassesOwn.never rfl (pi_enumT (by rfl) m_enumerate (pa_cons (pv 0) pa_nil)) (pg_tup rfl (pgs_cons (pg_name (i := 1) sc_is_formula.nd rfl (.inl rfl)) (pgs_cons (pg_name (i := 2) sc_is_formula.nd rfl (.inl rfl)) pgs_nil))) (pss_one (ps_if (pt_not (pt_val (pe_call G_is_step (hr.mono (by decide)) (by rfl) g_is_step F_is_step.kp b_is_step .nil pass0 (pa_cons (pv 2) (pa_cons (pv 1) pa_nil))))) (pss_one (ps_ret pe_bl)) pss_nil)))
        (pss_one (ps_ret pe_bl)))), run_body h fun ff B hp => ?_⟩)
  obtain ⟨hok, hne⟩ := hp
  have hl : 0 < ff.length := List.length_pos_iff.mpr hne
  refine sd_env (δ1 := [.dat (.tuple (ff.map stD)), .no, .no]) rfl ?_
  have F0 : EvS K B H (tVar 0) [.dat (.tuple (ff.map stD)), .no, .no] (.dat (.tuple (ff.map stD))) := d_var rfl
  refine q_when (b_is (c := false) (b_or (b_not (b_val (d_isi (b := true) F0 rfl rfl))) fun _ => b_test (d_eqI (d_lenT F0) d_ci)) ?_) (fun hb => nomatch hb) (fun _ => ?_)
  · rw [decide_eq_false (show ¬ (((ff.map stD).length : Nat) : Int) = 0 by rw [List.length_map]; omega)]
    rfl
  refine q_for (w_enumT (ds_cons F0 ds_nil)) (fun i δ => ∃ s1 s2, δ = [.dat (.tuple (ff.map stD)), s1, s2]) ⟨_, _, rfl⟩ (fun i d δ' hd hq => ?_) (fun δ' hq => ?_)
  · obtain ⟨s1, s2, rfl⟩ := hq
    obtain ⟨e, he, rfl⟩ := enumD_get hd
    obtain ⟨hi, rfl⟩ := stD_get he
    refine ⟨_, [_, nI (i : Int), .dat (stD ff[i])], g_tup (g_cons g_name (g_cons g_name g_nil)), ?_⟩
    exact sd_when (b_is (c := false) (b_not (b_val (d_callF (ff[i], i) (a_cons (d_var (s := .dat (stD ff[i])) rfl) (a_cons (d_var (s := nI (i : Int)) rfl) a_nil)) (hok i _ (List.getElem?_eq_getElem hi))))) rfl) (fun hb => nomatch hb) (fun _ => ⟨_, _, rfl⟩)
  · obtain ⟨s1, s2, rfl⟩ := hq
    exact sd_ret d_cb rfl
/-! ### the law's cells, by data -/
def cellOf (ns : List Int) (k : Nat) : Int := ns.getD k 0
abbrev spCell (K : PySem.W.Frag) : Sp := SpF K (fun a : List Int × Nat => [.sem (scrP K a.1), nI (a.2 : Int)]) (fun _ => True) fun a => .int (cellOf a.1 a.2)
theorem ok_cell {f : Addr} {fd : FuncData} (F : Fun K "_law_cell" "_law_cell" s_law_cell f fd) (m_len : mg "len" = none) : FnOk P w K mg base CX0 1 f fd ["script", "k"] (spCell K) := by
  refine F.ok sc_law_cell (fun vs H Q E ⟨_, _, _, iv, _⟩ => iv.len) (fun cdv A outer s H vs Q E hr h => ⟨_, (pss_cons (ps_if (pt_cmpR op_lt (pv 1) (pe_callB call_len (by rfl) m_len (by decide +kernel) (pa_cons (pv 0) pa_nil)) (nomark _)) (pss_one (ps_ret (pe_ix ix_list (pv 0) (pv 1) (fun _ _ => rfl)))) pss_nil)
        (pss_one (ps_ret pe_int))), run_body h fun a B _ => ?_⟩)
  obtain ⟨ns, k⟩ := a
  refine sd_env (δ1 := [.sem (scrP K ns), nI (k : Int)]) rfl ?_
  refine q_when (b_test (d_b0 (d_var rfl) (d_lenSc (d_var rfl)))) (fun hb => ?_) (fun hb => ?_)
  · have hk : k < ns.length := by
      have := of_decide_eq_true hb
      omega
    refine sd_ret (d_ixS (j := ns[k]) (d_var rfl) (d_var rfl) (atI_nat (List.getElem?_eq_getElem hk))) ?_
    show PyData.int _ = .int (ns.getD k 0)
    rw [List.getD_eq_getElem?_getD, List.getElem?_eq_getElem hk]
    rfl
  · have hk : ns.length ≤ k := by
      have := of_decide_eq_false hb
      omega
    refine sd_ret d_ci ?_
    show PyData.int 0 = .int (ns.getD k 0)
    rw [List.getD_eq_getElem?_getD, List.getElem?_eq_none hk]
    rfl
theorem mulc {x : Int} {c : Int} (h : x.natAbs < 2 ^ 100) (hc : c.natAbs < 2 ^ 100) : CMulX x c := mulx_ok (a := 100) (b := 100) h hc (by decide)
/-- the same, by a bound in figures -/
theorem mulk {x : Int} {k : Nat} (c : Int) (h : x.natAbs ≤ k) (hk : k < 2 ^ 100 := by decide +kernel) (hc : c.natAbs < 2 ^ 100 := by decide +kernel) : CMulX x c := mulc (Nat.lt_of_le_of_lt h hk) hc
/-! ### ints of a bounded number of bits -/
def Big (i : Int) : Prop := Builtin.Int.intBits i ≤ 1048576
theorem big_lt {i : Int} {a : Nat} (h : i.natAbs < 2 ^ a) (ha : a ≤ 1048576 := by decide) : Big i := Nat.le_trans (PyProof.Rows.intBits_le h) ha
theorem big_k {i : Int} {k : Nat} (h : i.natAbs ≤ k) (hk : k < 2 ^ 100 := by decide +kernel) : Big i := big_lt (Nat.lt_of_le_of_lt h hk)
theorem big_abs {i : Int} (h : Big i) : Big (i.natAbs : Int) := by
  unfold Big Builtin.Int.intBits at *
  have e : (((i.natAbs : Nat) : Int) == 0) = (i == 0) := by
    by_cases z : i = 0
    · subst z
      rfl
    · rw [beq_eq_false_iff_ne.mpr z, beq_eq_false_iff_ne.mpr (by omega)]
  rw [e, Int.natAbs_natCast]
  exact h
theorem mul_big {i : Int} (c : Int) (h : Big i) (hc : c.natAbs < 2 ^ 100 := by decide +kernel) : CMulX i c := by
  have := PyProof.Rows.intBits_le hc
  unfold Big at h
  unfold CMulX
  omega
theorem big_cell {ns : List Int} (h : ∀ z ∈ ns, Builtin.Int.intBits z ≤ 1048576) (k : Nat) : Big (cellOf ns k) := by
  unfold cellOf
  rw [List.getD_eq_getElem?_getD]
  cases e : ns[k]? with
  | none => exact big_k (k := 0) (Nat.le_refl _)
  | some z => exact h z (List.mem_of_getElem? e)
abbrev spRich (K : PySem.W.Frag) : Sp := SpA K (fun c : Int => [nI c]) (fun _ => True) fun c d => ∃ n : Nat, d = .int (n : Int) ∧ (Big c → Big (n : Int))
theorem ok_rich {f : Addr} {fd : FuncData} (F : Fun K "_law_rich" "_law_rich" s_law_rich f fd) (m_abs : mg "abs" = none) (m_int : mg "int" = none) : FnOk P w K mg base CX0 1 f fd ["cell"] (spRich K) := by
  refine F.ok sc_law_rich (fun vs H Q E ⟨_, _, _, iv, _⟩ => iv.len) (fun cdv A outer s H vs Q E hr h => ⟨_, (pss_cons (ps_set (i := 0) sc_law_rich.nd rfl (.inl rfl) (pe_callB call_abs (by rfl) m_abs (by decide +kernel) (pa_cons (pv 0) pa_nil)))
        (pss_cons (ps_if (pt_cmpR op_ge (pv 0) pe_int (nomark _)) (pss_one (ps_ret (pv 0))) pss_nil)
        (pss_cons (ps_set (i := 1) sc_law_rich.nd rfl (.inl rfl) (pe_op op_mod (pe_callTy call_int1 (by rfl) m_int (by decide +kernel) (pa_cons (pe_op op_add (pe_op op_mulX (pv 0) pe_int) pe_int) pa_nil)) pe_int))
        (pss_one (ps_ret (pe_op op_add (pe_op op_add (pe_op op_mulX (pe_op op_mulX (pv 1) pe_int) pe_int) (pe_op op_mulX (pe_op op_mod (pe_callTy call_int1 (by rfl) m_int (by decide +kernel) (pa_cons (pe_op op_add (pe_op op_mulX (pv 1) pe_int) (pv 0)) pa_nil)) pe_int) pe_int)) (pe_op op_fdiv (pv 1) pe_int))))))), run_body h fun c B _ => ?_⟩)
  refine sd_env (δ1 := [nI c, .no]) rfl ?_
  refine q_asg [_, _] (d_abs (d_var rfl)) ?_
  have hbig : Big c → Big (c.natAbs : Int) := big_abs
  generalize c.natAbs = n at hbig ⊢
  refine q_when (b_test (d_b0 (d_var rfl) d_ci)) (fun hb => ?_) (fun hb => ?_)
  · exact sd_ret (d_var rfl) ⟨_, rfl, hbig⟩
  · have hn : n < 1000000000000000000 := by
      have := of_decide_eq_false hb
      omega
    refine q_asg [_, _] (d_iC (d_int (d_i0 (d_iC (d_var rfl) d_ci (mulk (k := 1000000000000000000) _ (by omega))) d_ci)) d_ci (by decide)) ?_
    have hm : 0 ≤ ((n : Int) * 48271 + 7) % 2147483647 ∧ ((n : Int) * 48271 + 7) % 2147483647 < 2147483647 := ⟨by omega, by omega⟩
    generalize ((n : Int) * 48271 + 7) % 2147483647 = m at hm
    refine sd_ret (d_i0 (d_i0 (d_iC (d_iC (d_var rfl) d_ci (mulk (k := 2147483647) _ (by omega))) d_ci (mulk (k := 2147483647000000000000) _ (by omega))) (d_iC (d_iC (d_int (d_i0 (d_iC (d_var rfl) d_ci (mulk (k := 2147483647) _ (by omega))) (d_var rfl))) d_ci (by decide)) d_ci (mulk (k := 2147483647) _ (by omega)))) (d_iC (d_var rfl) d_ci ⟨by decide, by decide⟩)) ?_
    exact ⟨(m * 1000003 * 2147483629 + (m * 69621 + (n : Int)) % 2147483629 * 1000003 + m / 11).toNat, congrArg PyData.int (by omega), fun _ => big_k (k := 2147483647 * 1000003 * 2147483629 * 3) (by omega)⟩
/-! ### the law's own defs -/
abbrev spIntg (K : PySem.W.Frag) : Sp := SpF K (fun i : Int => [nI i]) (fun _ => True) fun _ => .bool true
theorem ok_intg {f : Addr} {fd : FuncData} (F : Fun K "_law_is_integer" "_law_is_integer" s_law_is_integer f fd) (m_isinstance : mg "isinstance" = none) (m_int : mg "int" = none) (m_bool : mg "bool" = none) : FnOk P w K mg base CX0 1 f fd ["actual"] (spIntg K) := by
  refine F.ok sc_law_is_integer (fun vs H Q E ⟨_, _, _, iv, _⟩ => iv.len) (fun cdv A outer s H vs Q E hr h => ⟨_, (pss_one (ps_ret (pe_and (pe_callB call_isi (by rfl) m_isinstance (by decide +kernel) (pa_cons (pv 0) (pa_cons (pe_bltn (by rfl) m_int (by decide +kernel) (show RelV (.ty "int") _ from rfl)) pa_nil))) (pe_one (pe_not (pe_callB call_isi (by rfl) m_isinstance (by decide +kernel) (pa_cons (pv 0) (pa_cons (pe_bltn (by rfl) m_bool (by decide +kernel) (show RelV (.ty "bool") _ from rfl)) pa_nil)))))))), run_body h fun i B _ => ?_⟩)
  refine sd_env (δ1 := [nI i]) rfl ?_
  exact sd_ret (d_andV (d_isi (b := true) (d_var (s := nI i) rfl) rfl rfl) fun _ => d_notV (d_isi (b := false) (d_var (s := nI i) rfl) rfl rfl)) rfl
structure Fit (lo hi v : Int) : Prop where
  w1 : 0 ≤ hi - lo
  w2 : hi - lo ≤ 4
  l : lo * 2 ^ 200 ≤ v + 2 ^ 180
  h : hi * 2 ^ 200 ≥ v - 2 ^ 180
  s1 : lo.natAbs < 2 ^ 300
  s2 : hi.natAbs < 2 ^ 300
abbrev spFits (K : PySem.W.Frag) : Sp := SpF K (fun a : (Int × Int) × Nat × Int => [.dat (.tuple [.int a.1.1, .int a.1.2]), nI (a.2.1 : Int), nI a.2.2, nI ((a.2.1 + 200 : Nat) : Int)]) (fun a => Fit a.1.1 a.1.2 a.2.2) fun _ => .bool true
theorem ok_fits {f f0 : Addr} {fd fd0 : FuncData} (F : Fun K "_law_fits" "_law_fits" s_law_fits f fd) (F_law_is_integer : Fun K "_law_is_integer" "_law_is_integer" s_law_is_integer f0 fd0) (b_law_is_integer : Binds K fd0 ["actual"] []) (g_law_is_integer : mg "_law_is_integer" = some (.ref f0))
    (m_isinstance : mg "isinstance" = none) (m_int : mg "int" = none) (m_bool : mg "bool" = none) (m_tuple : mg "tuple" = none) (m_len : mg "len" = none) : FnOk P w K mg base CX0 2 f fd ["found", "bits", "value", "b"] (spFits K) := by
  have G_law_is_integer : FnOk P w K mg base CX0 1 f0 fd0 ["actual"] (spIntg K) := ok_intg F_law_is_integer m_isinstance m_int m_bool
  refine F.ok sc_law_fits (fun vs H Q E ⟨_, _, _, iv, _⟩ => iv.len) (fun cdv A outer s H vs Q E hr h => ⟨_, (pss_cons (ps_if (PW.pt (pw_or (pt_not (pt_val (pe_callB call_isi (by rfl) m_isinstance (by decide +kernel) (pa_cons (pv 0) (pa_cons (pe_bltn (by rfl) m_tuple (by decide +kernel) (show RelV (.ty "tuple") _ from rfl)) pa_nil))))) (pw_or (pt_cmpR op_ne (pe_callB call_len (by rfl) m_len (by decide +kernel) (pa_cons (pv 0) pa_nil)) pe_int (nomark _)) (pw_or (pt_not (pt_val (pe_call G_law_is_integer (hr.mono (by decide)) (by rfl) g_law_is_integer F_law_is_integer.kp b_law_is_integer .nil pass0 (pa_cons (pe_ix ix_tup (pv 0) pe_int (fun _ _ => rfl)) pa_nil)))) (pw_or1 (pt_not (pt_val (pe_call G_law_is_integer (hr.mono (by decide)) (by rfl) g_law_is_integer F_law_is_integer.kp b_law_is_integer .nil pass0 (pa_cons (pe_ix ix_tup (pv 0) pe_int (fun _ _ => rfl)) pa_nil))))))))) (pss_one (ps_ret pe_bl)) pss_nil)
        (pss_cons (ps_set (i := 4) sc_law_fits.nd rfl (.inl rfl) (pe_op op_oneShl pe_int (pe_op op_sub (pe_op op_sub (pv 3) (pv 1)) pe_int)))
        (pss_cons (ps_set (i := 5) sc_law_fits.nd rfl (.inl rfl) (pe_op op_sub (pv 3) (pv 1)))
        (pss_cons (ps_if (pt_not (pt_chain op_le op_le pe_int (pe_op op_sub (pe_ix ix_tup (pv 0) pe_int (fun _ _ => rfl)) (pe_ix ix_tup (pv 0) pe_int (fun _ _ => rfl))) pe_int)) (pss_one (ps_ret pe_bl)) pss_nil)
        (pss_one (ps_ret (pe_and (pe_cmpR op_le (pe_op op_shlN (pe_ix ix_tup (pv 0) pe_int (fun _ _ => rfl)) (pv 5)) (pe_op op_add (pv 2) (pv 4)) (nomark _)) (pe_one (pe_cmpR op_ge (pe_op op_shlN (pe_ix ix_tup (pv 0) pe_int (fun _ _ => rfl)) (pv 5)) (pe_op op_sub (pv 2) (pv 4)) (nomark _)))))))))), run_body h fun a B hp => ?_⟩)
  obtain ⟨⟨lo, hi⟩, n, v⟩ := a
  obtain ⟨h1, h2, h3, h4, h5, h6⟩ := hp
  simp only at h1 h2 h3 h4 h5 h6
  refine sd_env (δ1 := [.dat (.tuple [.int lo, .int hi]), nI (n : Int), nI v, nI ((n + 200 : Nat) : Int), .no, .no]) rfl ?_
  have e0 : EvS K B H (tVar 0) [.dat (.tuple [.int lo, .int hi]), nI (n : Int), nI v, nI ((n + 200 : Nat) : Int), .no, .no] (.dat (.tuple [.int lo, .int hi])) := d_var rfl
  refine q_when (b_is (c := false) (b_or (b_not (b_val (d_isi (b := true) e0 rfl rfl))) fun _ => (b_or (b_test (d_neI (d_lenT e0) d_ci)) fun _ => (b_or (b_not (b_val (d_callF lo (a_cons (d_ixT e0 d_ci rfl) a_nil) True.intro))) fun _ => (b_not (b_val (d_callF hi (a_cons (d_ixT e0 d_ci rfl) a_nil) True.intro)))))) rfl) (fun hb => nomatch hb) (fun _ => ?_)
  refine q_asg [_, _, _, _, nI (2 ^ 180), _] (d_one (k := 180) d_ci (d_isI (i := ((n + 200 : Nat) : Int) - (n : Int) - 20) (j := ((180 : Nat) : Int)) (d_i0 (d_i0 (d_var rfl) (d_var rfl)) d_ci) (by omega)) (by decide)) ?_
  refine q_asg [_, _, _, _, _, nI ((200 : Nat) : Int)] (d_isI (i := ((n + 200 : Nat) : Int) - (n : Int)) (j := ((200 : Nat) : Int)) (d_i0 (d_var rfl) (d_var rfl)) (by omega)) ?_
  have e1 : EvS K B H (tVar 0) [.dat (.tuple [.int lo, .int hi]), nI (n : Int), nI v, nI ((n + 200 : Nat) : Int), nI (2 ^ 180), nI ((200 : Nat) : Int)] (.dat (.tuple [.int lo, .int hi])) := d_var rfl
  refine q_when (b_is (c := false) (b_not (b_val (d_chain d_ci (d_i0 (d_ixT e1 d_ci rfl) (d_ixT e1 d_ci rfl)) d_ci (fun _ => Evl.rv_I0) (fun _ => Evl.rv_I0)))) (by rw [decide_eq_true h1, decide_eq_true h2] <;> rfl)) (fun hb => nomatch hb) (fun _ => ?_)
  refine sd_ret (d_andV (d_b0 (d_shl (d_ixT e1 d_ci rfl) (d_var rfl) (shl_ok (n := 300) h5 (by decide))) (d_i0 (d_var rfl) (d_var rfl))) fun _ => (d_b0 (d_shl (d_ixT e1 d_ci rfl) (d_var rfl) (shl_ok (n := 300) h6 (by decide))) (d_i0 (d_var rfl) (d_var rfl)))) ?_
  rw [decide_eq_true h3, decide_eq_true h4] <;> rfl

theorem law_sg (i : Nat) : (1 : Int) - (i : Int) % 2 * 2 = Lp.sg i := by
  unfold Lp.sg
  by_cases h : i % 2 = 0
  · rw [if_pos h]
    omega
  · rw [if_neg h]
    omega
theorem sz_ediv_nat {a : Nat} {c n : Nat} (h : ((a : Nat) : Int).natAbs < 2 ^ n) : ((a / c : Nat) : Int).natAbs < 2 ^ n := by
  rw [Int.natAbs_natCast] at h ⊢
  exact Nat.lt_of_le_of_lt (Nat.div_le_self _ _) h
abbrev spAtan (K : PySem.W.Frag) : Sp := SpF K (fun a : Nat × Nat => [nI 1, nI (a.1 : Int), nI (a.2 : Int)]) (fun a => 2 ≤ a.1 ∧ a.1 < 1000 ∧ a.2 ≤ 900) fun a => .int (Lp.tsum a.1 a.2 1000)
theorem ok_atan {f : Addr} {fd : FuncData} (F : Fun K "_law_atan_sum" "_law_atan_sum" s_law_atan_sum f fd) (m_range : mg "range" = none) (m_int : mg "int" = none) : FnOk P w K mg base CX0 1 f fd ["p", "q", "b"] (spAtan K) := by
  refine F.ok sc_law_atan_sum (fun vs H Q E ⟨_, _, _, iv, _⟩ => iv.len) (fun cdv A outer s H vs Q E hr h => ⟨_, (pss_cons (ps_set (i := 3) sc_law_atan_sum.nd rfl (.inl rfl) (pe_op op_fdivA (pe_op op_shlN (pv 0) (pv 2)) (pv 1)))
        (pss_cons (ps_set (i := 4) sc_law_atan_sum.nd rfl (.inl rfl) pe_int)
        (pss_cons (ps_for PassesOwn.never rfl (pi_range1 (by rfl) m_range (pa_cons (pe_op op_add pe_int (pv 2)) pa_nil)) (pg_name (i := 5) sc_law_atan_sum.nd rfl (.inl rfl)) (pss_cons (ps_if (pt_cmpR op_eq (pv 3) pe_int (nomark _)) (pss_one ps_break) pss_nil)
        (pss_cons (ps_set (i := 4) sc_law_atan_sum.nd rfl (.inl rfl) (pe_op op_add (pv 4) (pe_op op_mulX (pe_op op_fdivA (pv 3) (pe_op op_add (pe_op op_mulX pe_int (pv 5)) pe_int)) (pe_op op_sub pe_int (pe_op op_mulX (pe_op op_mod (pe_callTy call_int1 (by rfl) m_int (by decide +kernel) (pa_cons (pv 5) pa_nil)) pe_int) pe_int)))))
        (pss_one (ps_set (i := 3) sc_law_atan_sum.nd rfl (.inl rfl) (pe_op op_fdivA (pe_op op_mulX (pe_op op_mulX (pv 3) (pv 0)) (pv 0)) (pe_op op_mulX (pv 1) (pv 1))))))))
        (pss_one (ps_ret (pv 4)))))), run_body h fun a B hp => ?_⟩)
  obtain ⟨n, b⟩ := a
  obtain ⟨h1, h2, h3⟩ := hp
  simp only at h1 h2 h3
  have hsq : n * n < 2 ^ 40 := by
    have := Nat.mul_le_mul (show n ≤ 1000 by omega) (show n ≤ 1000 by omega)
    omega
  have lgN : ∀ m : Nat, m < 2 ^ 40 → ((m : Nat) : Int).natAbs.log2 < 9000 := fun m hm => lg40 (k := 40) (by omega) (by decide)
  have psm : ∀ k : Nat, (((2 ^ b / n ^ (2 * k + 1) : Nat) : Int)).natAbs < 2 ^ 1001 := fun k => by
    rw [Int.natAbs_natCast]
    have e2 := Nat.div_le_self (2 ^ b) (n ^ (2 * k + 1))
    have e3 : (2 : Nat) ^ b < 2 ^ 1001 := Nat.pow_lt_pow_right (by decide) (by omega)
    omega
  refine sd_env (δ1 := [nI 1, nI (n : Int), nI (b : Int), .no, .no, .no]) rfl ?_
  refine q_asg [_, _, _, nI ((2 ^ b / n ^ (2 * 0 + 1) : Nat) : Int), _, _] (d_isI (j := ((2 ^ b / n ^ (2 * 0 + 1) : Nat) : Int)) (d_fdivA (d_shl (d_var (s := nI 1) rfl) (d_var (s := nI (b : Int)) rfl) (shl_ok (n := 2) (by decide) (by omega))) (d_var (s := nI (n : Int)) rfl) (by omega) (lgN n (by omega))) (by
    rw [Nat.mul_zero, Nat.zero_add, Nat.pow_one, Int.one_mul]
    push_cast
    rfl)) ?_
  refine q_asg [_, _, _, _, nI (Lp.tsum n b 0), _] d_ci ?_
  refine q_for (w_rng1 (n := 20 + (b : Int)) (ds_cons (d_i0 d_ci (d_var (s := nI (b : Int)) rfl)) ds_nil) (by omega) (by omega)) (fun i δ => ∃ s, δ = [nI 1, nI (n : Int), nI (b : Int), nI ((2 ^ b / n ^ (2 * i + 1) : Nat) : Int), nI (Lp.tsum n b i), s]) ⟨_, rfl⟩ (fun i d δ' hd hq => ?_) (fun δ' hq => ?_)
  · obtain ⟨s, rfl⟩ := hq
    obtain ⟨hi, rfl⟩ := upto_get hd
    rw [Int.zero_add]
    refine ⟨[5], [_, _, _, _, _, nI (i : Int)], g_name, ?_⟩
    refine q_when (b_test (d_eqI (d_var (s := nI ((2 ^ b / n ^ (2 * i + 1) : Nat) : Int)) rfl) d_ci)) (fun hb => ?_) (fun hb => ?_)
    · have hz : 2 ^ b / n ^ (2 * i + 1) = 0 := Int.ofNat.inj (of_decide_eq_true hb)
      refine sd_break ?_
      refine sd_ret (d_var (s := nI (Lp.tsum n b i)) rfl) ?_
      rw [tsum_fin h1 (by omega) hz]
    · refine q_asg [_, _, _, _, nI (Lp.tsum n b (i + 1)), _] (d_isI (j := Lp.tsum n b (i + 1)) (d_i0 (d_var (s := nI (Lp.tsum n b i)) rfl) (d_iC (d_isI (j := ((2 ^ b / n ^ (2 * i + 1) / (2 * i + 1) : Nat) : Int)) (d_fdivA (d_var (s := nI ((2 ^ b / n ^ (2 * i + 1) : Nat) : Int)) rfl) (d_isI (j := ((2 * i + 1 : Nat) : Int)) (d_i0 (d_iC d_ci (d_var (s := nI (i : Int)) rfl) (mulx_ok (a := 3) (b := 100) (by decide) (by omega) (by decide))) d_ci) (by push_cast; rfl)) (by omega) (lgN _ (by omega))) (Int.natCast_ediv _ _).symm) (d_isI (j := Lp.sg i) (d_i0 d_ci (d_iC (d_iC (d_int (d_var (s := nI (i : Int)) rfl)) d_ci (by decide)) d_ci (mulx_ok (a := 100) (b := 100) (by omega) (by decide) (by decide)))) (law_sg i)) (mulx_ok (a := 1001) (b := 2) (sz_ediv_nat (psm i)) (by rw [sg_abs]; decide) (by decide)))) (by
        rw [Lp.tm_of, Int.mul_comm]
        rfl)) ?_
      refine sd_asg (s := nI ((2 ^ b / n ^ (2 * (i + 1) + 1) : Nat) : Int)) (d_isI (j := ((2 ^ b / n ^ (2 * (i + 1) + 1) : Nat) : Int)) (d_fdivA (d_iC (d_iC (d_var (s := nI ((2 ^ b / n ^ (2 * i + 1) : Nat) : Int)) rfl) (d_var (s := nI 1) rfl) (mulx_ok (a := 1001) (b := 2) (psm i) (by decide) (by decide))) (d_var (s := nI 1) rfl) (mulx_ok (a := 1001) (b := 2) (by rw [Int.mul_one]; exact psm i) (by decide) (by decide))) (d_isI (j := ((n * n : Nat) : Int)) (d_iC (d_var (s := nI (n : Int)) rfl) (d_var (s := nI (n : Int)) rfl) (mulx_ok (a := 40) (b := 40) (by omega) (by omega) (by decide))) (Int.natCast_mul n n).symm) (by
        have := Nat.mul_le_mul h1 h1
        omega) (lgN _ hsq)) (by
        rw [Int.mul_one, Int.mul_one, ← Lp.pow_step]
        exact (Int.natCast_ediv _ _).symm)) ⟨_, rfl⟩
  · obtain ⟨s, rfl⟩ := hq
    rw [upto_len]
    have hz : 2 ^ b / n ^ (2 * (20 + (b : Int)).toNat + 1) = 0 := by
      by_cases z : 2 ^ b / n ^ (2 * (20 + (b : Int)).toNat + 1) = 0
      · exact z
      · have := pow_room h1 z
        omega
    refine sd_ret (d_var (s := nI (Lp.tsum n b (20 + (b : Int)).toNat)) rfl) ?_
    rw [tsum_fin h1 (by omega) hz]
def lawPi (b : Nat) : Int := mach (b + 32) / 2 ^ 32
abbrev spLPi (K : PySem.W.Frag) : Sp := SpF K (fun b : Nat => [nI (b : Int)]) (fun b => b ≤ 800) fun b => .int (lawPi b)
theorem ok_lpi {f f0 : Addr} {fd fd0 : FuncData} (F : Fun K "_law_pi" "_law_pi" s_law_pi f fd) (F_law_atan_sum : Fun K "_law_atan_sum" "_law_atan_sum" s_law_atan_sum f0 fd0) (b_law_atan_sum : Binds K fd0 ["p", "q", "b"] []) (g_law_atan_sum : mg "_law_atan_sum" = some (.ref f0)) (m_range : mg "range" = none) (m_int : mg "int" = none) : FnOk P w K mg base CX0 2 f fd ["b"] (spLPi K) := by
  have G_law_atan_sum : FnOk P w K mg base CX0 1 f0 fd0 ["p", "q", "b"] (spAtan K) := ok_atan F_law_atan_sum m_range m_int
  refine F.ok sc_law_pi (fun vs H Q E ⟨_, _, _, iv, _⟩ => iv.len) (fun cdv A outer s H vs Q E hr h => ⟨_, (pss_one (ps_ret (pe_op op_shrN (pe_op op_sub (pe_op op_mulX pe_int (pe_call G_law_atan_sum (hr.mono (by decide)) (by rfl) g_law_atan_sum F_law_atan_sum.kp b_law_atan_sum .nil pass0 (pa_cons pe_int (pa_cons pe_int (pa_cons (pe_op op_add (pv 0) pe_int) pa_nil))))) (pe_op op_mulX pe_int (pe_call G_law_atan_sum (hr.mono (by decide)) (by rfl) g_law_atan_sum F_law_atan_sum.kp b_law_atan_sum .nil pass0 (pa_cons pe_int (pa_cons pe_int (pa_cons (pe_op op_add (pv 0) pe_int) pa_nil)))))) pe_int))), run_body h fun b B hp => ?_⟩)
  have hp : b ≤ 800 := hp
  have t5 : (Lp.tsum 5 (b + 32) 1000).natAbs < 2 ^ 1100 := tsum_small (by omega)
  have t239 : (Lp.tsum 239 (b + 32) 1000).natAbs < 2 ^ 1100 := tsum_small (by omega)
  refine sd_env (δ1 := [nI (b : Int)]) rfl ?_
  have nb : EvS K B H (tOp (rI0 fun i j => .int (i + j)) (tVar 0) (tC (.int 32))) [nI (b : Int)] (nI ((b + 32 : Nat) : Int)) := d_isI (i := (b : Int) + 32) (d_i0 (d_var (s := nI (b : Int)) rfl) d_ci) (by omega)
  refine sd_ret (d_isI (j := lawPi b) (d_shr (k := 32) (d_i0 (d_iC d_ci (d_callF (5, b + 32) (a_cons d_ci (a_cons d_ci (a_cons nb a_nil))) ⟨show 2 ≤ 5 by decide, show 5 < 1000 by decide, show b + 32 ≤ 900 by omega⟩) (mulx_ok (a := 5) (b := 1100) (by decide) t5 (by decide))) (d_iC d_ci (d_callF (239, b + 32) (a_cons d_ci (a_cons d_ci (a_cons nb a_nil))) ⟨show 2 ≤ 239 by decide, show 239 < 1000 by decide, show b + 32 ≤ 900 by omega⟩) (mulx_ok (a := 3) (b := 1100) (by decide) t239 (by decide)))) d_ci) ?_) rfl
  unfold lawPi mach
  congr 1
  show 16 * Lp.tsum 5 (b + 32) 1000 - 4 * Lp.tsum 239 (b + 32) 1000 = 4 * (4 * Lp.tsum 5 (b + 32) 1000 - Lp.tsum 239 (b + 32) 1000)
  omega
/-! ### pi by numbers -/
theorem mach_near (w s : Nat) : (mach (w + s) - 2 ^ s * mach w).natAbs ≤ 20000 * 2 ^ s := by
  have a := Lp.tsum_near (n := 5) (by decide) w s 1000
  have b := Lp.tsum_near (n := 239) (by decide) w s 1000
  unfold mach
  generalize Lp.tsum 5 (w + s) 1000 = x1 at a ⊢
  generalize Lp.tsum 239 (w + s) 1000 = y1 at b ⊢
  have e : (2 : Int) ^ s * (4 * (4 * Lp.tsum 5 w 1000 - Lp.tsum 239 w 1000)) = 16 * (2 ^ s * Lp.tsum 5 w 1000) - 4 * (2 ^ s * Lp.tsum 239 w 1000) := by
    rw [Int.mul_left_comm, Int.mul_sub, Int.mul_sub, Int.mul_left_comm (2 ^ s) 4, Int.mul_comm]
    generalize (2 : Int) ^ s * Lp.tsum 5 w 1000 = u
    generalize (2 : Int) ^ s * Lp.tsum 239 w 1000 = v
    omega
  rw [e]
  generalize (2 : Int) ^ s * Lp.tsum 5 w 1000 = u at a ⊢
  generalize (2 : Int) ^ s * Lp.tsum 239 w 1000 = v at b ⊢
  generalize (2 : Nat) ^ s = p at a b ⊢
  omega
theorem mach64 : 3 * 2 ^ 64 + 20000 ≤ mach 64 ∧ 2 * mach 64 + 40000 ≤ 7 * 2 ^ 64 := by
  have e5 : Lp.tsum 5 64 1000 = Lp.tsum 5 64 30 := Lp.tsum_stays (n := 5) (w := 64) (k0 := 30) (by decide) (by decide +kernel) 970
  have e239 : Lp.tsum 239 64 1000 = Lp.tsum 239 64 30 := Lp.tsum_stays (n := 239) (w := 64) (k0 := 30) (by decide) (by decide +kernel) 970
  unfold mach
  rw [e5, e239]
  decide +kernel
theorem pow_pos (b : Nat) : (0 : Int) < 2 ^ b := Int.pow_pos (by decide)
theorem pow_nat (s : Nat) : ((2 ^ s : Nat) : Int) = 2 ^ s := by push_cast; rfl
theorem mach_bounds {w : Nat} (hw : 64 ≤ w) : 3 * 2 ^ w ≤ mach w ∧ 2 * mach w ≤ 7 * 2 ^ w := by
  obtain ⟨s, rfl⟩ : ∃ s, w = 64 + s := ⟨w - 64, by omega⟩
  have n := mach_near 64 s
  obtain ⟨h1, h2⟩ := mach64
  have p := pow_pos s
  have e0 := pow_nat s
  have k1 := Int.mul_le_mul_of_nonneg_left h1 (Int.le_of_lt p)
  have k2 := Int.mul_le_mul_of_nonneg_left h2 (Int.le_of_lt p)
  have e1 : (2 : Int) ^ s * (2 * mach 64 + 40000) = 2 * (2 ^ s * mach 64) + 40000 * 2 ^ s := by
    rw [Int.mul_add, Int.mul_left_comm, Int.mul_comm (2 ^ s) 40000]
  have e2 : (2 : Int) ^ s * (3 * 2 ^ 64 + 20000) = 3 * 2 ^ (64 + s) + 20000 * 2 ^ s := by
    rw [Int.mul_add, Int.pow_add, Int.mul_left_comm, Int.mul_comm (2 ^ s) (2 ^ 64), Int.mul_comm (2 ^ s) 20000]
  have e3 : (2 : Int) ^ s * (7 * 2 ^ 64) = 7 * 2 ^ (64 + s) := by
    rw [Int.pow_add, Int.mul_left_comm, Int.mul_comm (2 ^ s) (2 ^ 64)]
  rw [e1, e3] at k2
  rw [e2] at k1
  generalize (2 : Int) ^ s * mach 64 = u at *
  generalize (2 : Int) ^ (64 + s) = v at *
  generalize mach (64 + s) = y at *
  generalize hq : (2 : Int) ^ s = q at *
  have e4 : ((20000 * 2 ^ s : Nat) : Int) = 20000 * q := by rw [Int.natCast_mul, e0]; rfl
  omega
theorem near32 (Q : Int) : (2 * nearF Q 32 - 1) * 2 ^ 31 ≤ Q ∧ Q < (2 * nearF Q 32 + 1) * 2 ^ 31 := by
  unfold nearF
  show (2 * ((Q / 2 ^ 31 + 1) / 2) - 1) * 2 ^ 31 ≤ Q ∧ Q < (2 * ((Q / 2 ^ 31 + 1) / 2) + 1) * 2 ^ 31
  omega
/-- pi_enclosed holds the law's pi, whatever its bits beyond -/
theorem pi_G (b s : Nat) (hb : 2 ≤ b) : Np.G (2 ^ b) (piLo b) (piHi b) (mach (b + 64 + s)) (2 ^ (b + 64 + s)) 2 4 ∧ 2 ^ b ≤ piLo b := by
  have n := mach_near (b + 64) s
  obtain ⟨q1, q2⟩ := near32 (mach (b + 64))
  have ev : piS (b + 32) = nearF (mach (b + 64)) 32 := rfl
  obtain ⟨m1, m2⟩ := mach_bounds (w := b + 64 + s) (by omega)
  have hlo : piLo b = (piS (b + 32) - 1) / 2 ^ 32 := rfl
  have hhi : piHi b = -(-(piS (b + 32) + 1) / 2 ^ 32) := rfl
  rw [← ev] at q1 q2
  have l1 := Np.fl_le (piS (b + 32) - 1) (show (0 : Int) < 2 ^ 32 by decide)
  have c1 := Np.ce_ge (piS (b + 32) + 1) (show (0 : Int) < 2 ^ 32 by decide)
  have wd : piHi b - piLo b ≤ 2 := by
    rw [hlo, hhi]
    omega
  rw [← hlo] at l1
  rw [← hhi] at c1
  generalize piS (b + 32) = v at *
  generalize hQ : mach (b + 64) = Q at *
  generalize hM : mach (b + 64 + s) = M at *
  have p := pow_pos s
  have pb := pow_pos b
  have e0 := pow_nat s
  have e4 : ((20000 * 2 ^ s : Nat) : Int) = 20000 * 2 ^ s := by rw [Int.natCast_mul, e0]; rfl
  have eW : (2 : Int) ^ (b + 64 + s) = 2 ^ b * (2 ^ 64 * 2 ^ s) := by rw [Int.pow_add, Int.pow_add, Int.mul_assoc]
  -- M against v
  have k1 := Int.mul_le_mul_of_nonneg_left q1 (Int.le_of_lt p)
  have k2 := Int.mul_lt_mul_of_pos_left q2 p
  have f1 : (2 : Int) ^ s * ((2 * v - 1) * 2 ^ 31) = (2 ^ s * v) * 2 ^ 32 - 2 ^ s * 2 ^ 31 := by
    rw [Int.sub_mul, Int.mul_sub, Int.one_mul]
    congr 1
    rw [show (2 : Int) ^ 32 = 2 * 2 ^ 31 from rfl, ← Int.mul_assoc (2 ^ s * v), Int.mul_comm 2 v, ← Int.mul_assoc, ← Int.mul_assoc]
  have f2 : (2 : Int) ^ s * ((2 * v + 1) * 2 ^ 31) = (2 ^ s * v) * 2 ^ 32 + 2 ^ s * 2 ^ 31 := by
    rw [Int.add_mul, Int.mul_add, Int.one_mul]
    congr 1
    rw [show (2 : Int) ^ 32 = 2 * 2 ^ 31 from rfl, ← Int.mul_assoc (2 ^ s * v), Int.mul_comm 2 v, ← Int.mul_assoc, ← Int.mul_assoc]
  rw [f1] at k1
  rw [f2] at k2
  have lo' : piLo b * (2 ^ 64 * 2 ^ s) ≤ M := by
    have a1 := Int.mul_le_mul_of_nonneg_left l1 (Int.le_of_lt p)
    have g1 : (2 : Int) ^ s * (v - 1) = 2 ^ s * v - 2 ^ s := by rw [Int.mul_sub, Int.mul_one]
    have g2 : piLo b * (2 ^ 64 * 2 ^ s) = 2 ^ s * (piLo b * 2 ^ 32) * 2 ^ 32 := by
      rw [show (2 : Int) ^ 64 = 2 ^ 32 * 2 ^ 32 from rfl, Int.mul_comm (2 ^ s), ← Int.mul_assoc, ← Int.mul_assoc, Int.mul_right_comm (piLo b * 2 ^ 32)]
    rw [g1] at a1
    rw [g2]
    generalize (2 : Int) ^ s * (piLo b * 2 ^ 32) = t at a1 ⊢
    generalize (2 : Int) ^ s * v = u at *
    generalize (2 : Int) ^ s * Q = z at *
    omega
  have hi' : M ≤ piHi b * (2 ^ 64 * 2 ^ s) := by
    have a1 := Int.mul_le_mul_of_nonneg_left c1 (Int.le_of_lt p)
    have g1 : (2 : Int) ^ s * (v + 1) = 2 ^ s * v + 2 ^ s := by rw [Int.mul_add, Int.mul_one]
    have g2 : piHi b * (2 ^ 64 * 2 ^ s) = 2 ^ s * (piHi b * 2 ^ 32) * 2 ^ 32 := by
      rw [show (2 : Int) ^ 64 = 2 ^ 32 * 2 ^ 32 from rfl, Int.mul_comm (2 ^ s), ← Int.mul_assoc, ← Int.mul_assoc, Int.mul_right_comm (piHi b * 2 ^ 32)]
    rw [g1] at a1
    rw [g2]
    generalize (2 : Int) ^ s * (piHi b * 2 ^ 32) = t at a1 ⊢
    generalize (2 : Int) ^ s * v = u at *
    generalize (2 : Int) ^ s * Q = z at *
    omega
  have pT : (0 : Int) < 2 ^ 64 * 2 ^ s := Int.mul_pos (by decide) p
  rw [eW] at m1 m2
  have up : 2 * piLo b ≤ 7 * 2 ^ b := by
    have : 2 * piLo b * (2 ^ 64 * 2 ^ s) ≤ 7 * 2 ^ b * (2 ^ 64 * 2 ^ s) := by
      rw [Int.mul_assoc, Int.mul_assoc]
      omega
    exact Int.le_of_mul_le_mul_right this pT
  have dn : 3 * 2 ^ b ≤ piHi b := by
    have : 3 * 2 ^ b * (2 ^ 64 * 2 ^ s) ≤ piHi b * (2 ^ 64 * 2 ^ s) := by
      rw [Int.mul_assoc]
      omega
    exact Int.le_of_mul_le_mul_right this pT
  have b4 : (4 : Int) ≤ 2 ^ b := by
    have h := Nat.pow_le_pow_right (show 0 < 2 by decide) hb
    have e := pow_nat b
    have e2 : (2 : Nat) ^ 2 = 4 := rfl
    omega
  refine ⟨⟨pow_pos _, ?_, ?_, wd, by omega, by omega⟩, by omega⟩
  · rw [eW]
    have := Int.mul_le_mul_of_nonneg_left lo' (Int.le_of_lt pb)
    rw [Int.mul_left_comm] at this
    rw [Int.mul_comm M]
    exact this
  · rw [eW]
    have := Int.mul_le_mul_of_nonneg_left hi' (Int.le_of_lt pb)
    rw [Int.mul_left_comm] at this
    rw [Int.mul_comm M]
    exact this
theorem of_G (b : Nat) {p q m : Int} (hq : 1 ≤ q) (h1 : -(m * q) ≤ p) (h2 : p ≤ m * q) : Np.G (2 ^ b) (enc1 b p q) (enc2 b p q) p q 1 m := by
  have q0 : 0 < q := by omega
  have pb := pow_pos b
  unfold enc1 enc2
  have f1 := Np.fl_le (p * 2 ^ b) q0
  have f2 := Np.fl_lt (p * 2 ^ b) q0
  have c1 := Np.ce_ge (p * 2 ^ b) q0
  have c2 := Np.ce_lt (p * 2 ^ b) q0
  generalize p * 2 ^ b / q = lo at f1 f2 ⊢
  generalize -(-(p * 2 ^ b) / q) = hi at c1 c2 ⊢
  have k1 : -(m * q) * 2 ^ b ≤ p * 2 ^ b := Int.mul_le_mul_of_nonneg_right h1 (Int.le_of_lt pb)
  have k2 : p * 2 ^ b ≤ m * q * 2 ^ b := Int.mul_le_mul_of_nonneg_right h2 (Int.le_of_lt pb)
  refine ⟨q0, f1, c1, ?_, ?_, ?_⟩
  · have : (hi - 1) * q < (lo + 1) * q := by omega
    have := Int.lt_of_mul_lt_mul_right this (Int.le_of_lt q0)
    omega
  · have e : -(m * q) * 2 ^ b = -(m * 2 ^ b) * q := by rw [Int.neg_mul, Int.neg_mul, Int.mul_right_comm]
    have : -(m * 2 ^ b) * q < (lo + 1) * q := by omega
    have := Int.lt_of_mul_lt_mul_right this (Int.le_of_lt q0)
    omega
  · have e : m * q * 2 ^ b = m * 2 ^ b * q := by rw [Int.mul_right_comm]
    have : (hi - 1) * q < m * 2 ^ b * q := by omega
    have := Int.lt_of_mul_lt_mul_right this (Int.le_of_lt q0)
    omega
/-! ### what a formula is worth, part by part -/
structure Vw (b : Nat) (ff : List FStep) (e : EE) (nu : Bool) : Prop where
  ok : FOk b ff
  val : Mg.at' (V2 b ff) (ff.length - 1) = (nu, e)
theorem V2_one (b : Nat) (s : FStep) : V2 b [s] = [ev2 b (Mg.at' []) s] := rfl
theorem Vw.one {b : Nat} {s : FStep} (h : OkStep 0 s) (hs : StOk (fun j => (Mg.at' ([] : List CC) j).2) (fun j => (Mg.at' ([] : List CC) j).1) s) (hix : ix s = []) : Vw b [s] (encS b (fun j => (Mg.at' ([] : List CC) j).2) s) (decide (s.1 = "number")) := by
  refine ⟨⟨ok1 h, List.cons_ne_nil _ _, (show 1 ≤ 1000 by decide), fun k hk => ?_⟩, rfl⟩
  have : k = 0 := by simp at hk; exact hk
  subst this
  exact stok_loc (fun i hi => by
    have hi' : i ∈ ix s := hi
    rw [hix] at hi'
    cases hi') hs
theorem Vw.num {b : Nat} {p q : Int} (h1 : p.natAbs < 2 ^ 100) (h2 : 1 ≤ q) (h3 : q < 2 ^ 100) : Vw b [numS p q] (enc1 b p q, enc2 b p q) true := by
  have h := Vw.one (b := b) (s := numS p q) (.inl ⟨p, q, rfl, h2⟩) (.num p q h1 h2 h3) rfl
  exact ⟨h.ok, h.val.trans (by
    rw [show encS b _ (numS p q) = ofE b p q from encS_num _ _ _ _]
    rfl)⟩
theorem Vw.pi {b : Nat} : Vw b [piSt] (piLo b, piHi b) false := by
  have h := Vw.one (b := b) (s := piSt) (.inr (.inl rfl)) .pi (by unfold ix piSt; rw [if_neg pi_nn]; rfl)
  exact ⟨h.ok, h.val.trans (by
    rw [show encS b _ piSt = (piLo b, piHi b) from encS_pi _ _]
    have e : decide (piSt.1 = "number") = false := decide_eq_false pi_nn
    rw [e])⟩
/-- an operation with two formulas -/
theorem Vw.join {b : Nat} {f g : List FStep} {e1 e2 : EE} {n1 n2 : Bool} {x : Str} (hx : x ∈ W2) (hf : Vw b f e1 n1) (hg : Vw b g e2 n2) (hl : f.length + g.length < 1000)
    (hs : ∀ ρ ν (i j : Nat), ρ i = e1 → ρ j = e2 → ν i = n1 → ν j = n2 → StOk ρ ν (x, [(i : Int), (j : Int)])) : ∃ e, (∀ ρ (i j : Nat), ρ i = e1 → ρ j = e2 → encS b ρ (x, [(i : Int), (j : Int)]) = e) ∧ Vw b (joinS x f g) e false := by
  have hnp : x ≠ "pi" := fun z => absurd hx (by rw [z]; decide +kernel)
  have N := nat2 b
  have lf : 0 < f.length := List.length_pos_iff.mpr hf.ok.ne
  have lg : 0 < g.length := List.length_pos_iff.mpr hg.ok.ne
  have hnn : x ≠ "number" := fun z => absurd hx (by rw [z]; decide +kernel)
  have app : V2 b (f ++ g.map (shiftS f.length)) = V2 b f ++ V2 b g := Mg.evs_app N f g.length g rfl hg.ok.ok
  have hlen : (f ++ g.map (shiftS f.length)).length = f.length + g.length := by rw [List.length_append, List.length_map]
  have vf : (V2 b f).length = f.length := Mg.evs_length f
  have vg : (V2 b g).length = g.length := Mg.evs_length g
  -- the last step
  have hst : joinS x f g = f ++ g.map (shiftS f.length) ++ [(x, [((f.length - 1 : Nat) : Int), ((f.length + (g.length - 1) : Nat) : Int)])] := by
    unfold joinS
    congr 4
    · omega
    · congr 1
      omega
  have r1 : Mg.at' (V2 b f ++ V2 b g) (f.length - 1) = (n1, e1) := by
    rw [Mg.at_app_l (by omega)]
    exact hf.val
  have r2 : Mg.at' (V2 b f ++ V2 b g) (f.length + (g.length - 1)) = (n2, e2) := by
    rw [← vf, Mg.at_app_r2]
    exact hg.val
  have full : V2 b (joinS x f g) = V2 b f ++ V2 b g ++ [ev2 b (Mg.at' (V2 b f ++ V2 b g)) (x, [((f.length - 1 : Nat) : Int), ((f.length + (g.length - 1) : Nat) : Int)])] := by
    have sn := Mg.evs_snoc (ev := ev2 b) (f ++ g.map (shiftS f.length)) (x, [((f.length - 1 : Nat) : Int), ((f.length + (g.length - 1) : Nat) : Int)])
    have app' : Mg.evs (ev2 b) (f ++ g.map (shiftS f.length)) = V2 b f ++ V2 b g := app
    rw [app'] at sn
    rw [hst]
    exact sn
  refine ⟨opE b (fun k => if k = 0 then e1 else e2) x [((0 : Nat) : Int), ((1 : Nat) : Int)], fun ρ i j h1 h2 => ?_, ⟨⟨hf.ok.ok.join hg.ok.ok hx hf.ok.ne hg.ok.ne, by unfold joinS; simp, by rw [hst, List.length_append, hlen]; simp; omega, fun k hk => ?_⟩, ?_⟩⟩
  · exact (show encS b ρ _ = opE b (fun k => if k = 0 then e1 else e2) x [((0 : Nat) : Int), ((1 : Nat) : Int)] from by
      unfold encS
      rw [if_neg hnn, if_neg hnp, opE_two, opE_two]
      simp only [Int.toNat_natCast]
      rw [h1, h2]
      rfl)
  · have hk2 : k < f.length + g.length + 1 := by
      rw [hst, List.length_append, hlen] at hk
      exact hk
    rw [show Mg.at' (V2 b (joinS x f g)) = Mg.at' (V2 b f ++ V2 b g ++ [ev2 b (Mg.at' (V2 b f ++ V2 b g)) (x, [((f.length - 1 : Nat) : Int), ((f.length + (g.length - 1) : Nat) : Int)])]) from by rw [full]]
    have get : ∀ {s : FStep}, (joinS x f g)[k]? = some s → (joinS x f g)[k] = s := fun h => by
      rw [List.getElem?_eq_getElem hk] at h
      exact Option.some.inj h
    by_cases c1 : k < f.length
    · have eq : (joinS x f g)[k] = f[k] := get (by rw [hst, List.getElem?_append_left (by rw [hlen]; omega), List.getElem?_append_left c1, List.getElem?_eq_getElem c1])
      rw [eq]
      refine stok_loc (fun i hi => ?_) (hf.ok.cd k c1)
      have hik := ok_ix (Mg.ok_at hf.ok.ok c1) i hi
      have e : Mg.at' (V2 b f ++ V2 b g ++ [ev2 b (Mg.at' (V2 b f ++ V2 b g)) (x, [((f.length - 1 : Nat) : Int), ((f.length + (g.length - 1) : Nat) : Int)])]) i = Mg.at' (V2 b f) i := by
        rw [Mg.at_app_l (by rw [List.length_append]; omega), Mg.at_app_l (by omega)]
      exact ⟨congrArg (·.2) e.symm, congrArg (·.1) e.symm⟩
    · by_cases c2 : k < f.length + g.length
      · have hkg : k - f.length < g.length := by omega
        have eq : (joinS x f g)[k] = Td.ren (fun i => f.length + i) g[k - f.length] := get (by rw [hst, List.getElem?_append_left (by rw [hlen]; omega), List.getElem?_append_right (by omega), List.getElem?_map, List.getElem?_eq_getElem hkg, Mg.shift_ren (Mg.ok_at hg.ok.ok hkg)]; rfl)
        rw [eq]
        refine stok_ren (f := fun i => f.length + i) (stok_loc (fun i hi => ?_) (hg.ok.cd (k - f.length) hkg))
        have hik := ok_ix (Mg.ok_at hg.ok.ok hkg) i hi
        have e : Mg.at' (V2 b f ++ V2 b g ++ [ev2 b (Mg.at' (V2 b f ++ V2 b g)) (x, [((f.length - 1 : Nat) : Int), ((f.length + (g.length - 1) : Nat) : Int)])]) (f.length + i) = Mg.at' (V2 b g) i := by
          rw [Mg.at_app_l (by rw [List.length_append]; omega), ← vf, Mg.at_app_r2]
        exact ⟨congrArg (·.2) e.symm, congrArg (·.1) e.symm⟩
      · have hk3 : k = f.length + g.length := by omega
        have eq : (joinS x f g)[k] = (x, [((f.length - 1 : Nat) : Int), ((f.length + (g.length - 1) : Nat) : Int)]) := get (by
          rw [hst, hk3, ← hlen, List.getElem?_append_right (Nat.le_refl _)]
          simp)
        rw [eq]
        have s1 : Mg.at' (V2 b f ++ V2 b g ++ [ev2 b (Mg.at' (V2 b f ++ V2 b g)) (x, [((f.length - 1 : Nat) : Int), ((f.length + (g.length - 1) : Nat) : Int)])]) (f.length - 1) = (n1, e1) := by
          rw [Mg.at_app_l (by rw [List.length_append]; omega)]
          exact r1
        have s2 : Mg.at' (V2 b f ++ V2 b g ++ [ev2 b (Mg.at' (V2 b f ++ V2 b g)) (x, [((f.length - 1 : Nat) : Int), ((f.length + (g.length - 1) : Nat) : Int)])]) (f.length + (g.length - 1)) = (n2, e2) := by
          rw [Mg.at_app_l (by rw [List.length_append]; omega)]
          exact r2
        exact hs _ _ _ _ (by rw [s1]) (by rw [s2]) (by rw [s1]) (by rw [s2])
  · rw [full]
    have hj : (joinS x f g).length - 1 = (V2 b f ++ V2 b g).length := by
      rw [hst, List.length_append, hlen, List.length_append]
      simp
      omega
    rw [hj, Mg.at_app_r]
    unfold ev2
    have e0 : decide ((x, [((f.length - 1 : Nat) : Int), ((f.length + (g.length - 1) : Nat) : Int)]).1 = "number") = false := decide_eq_false hnn
    rw [e0]
    congr 1
    unfold encS
    rw [if_neg hnn, if_neg hnp]
    show opE b _ x [((f.length - 1 : Nat) : Int), ((f.length + (g.length - 1) : Nat) : Int)] = _
    rw [opE_two, opE_two]
    simp only [Int.toNat_natCast]
    rw [r1, r2]
    rfl
theorem Vw.mul {b : Nat} {f g : List FStep} {e1 e2 : EE} {n1 n2 : Bool} (hf : Vw b f e1 n1) (hg : Vw b g e2 n2) (hl : f.length + g.length < 1000) (s1 : SmE e1) (s2 : SmE e2) (hn : n1 = false ∨ n2 = false) : Vw b (joinS "times" f g) (mulE e1 e2 b) false := by
  obtain ⟨e, he, h⟩ := Vw.join (x := "times") (by decide +kernel) hf hg hl (fun ρ ν i j a1 a2 a3 a4 => .mul i j (a1 ▸ s1) (a2 ▸ s2) (by rw [a3, a4]; exact hn))
  have := he (fun k => if k = 0 then e1 else e2) 0 1 rfl rfl
  rw [encS_mul] at this
  exact this ▸ h
theorem Vw.div {b : Nat} {f g : List FStep} {e1 e2 : EE} {n1 n2 : Bool} (hf : Vw b f e1 n1) (hg : Vw b g e2 n2) (hl : f.length + g.length < 1000) (s1 : SmE e1) (s2 : SmE e2) (p1 : 0 < e2.1) (p2 : 0 < e2.2) (hn : n2 = false) : Vw b (joinS "divide" f g) (divE e1 e2 b) false := by
  obtain ⟨e, he, h⟩ := Vw.join (x := "divide") (by decide +kernel) hf hg hl (fun ρ ν i j a1 a2 a3 a4 => .div i j (a1 ▸ s1) (a2 ▸ s2) (a2 ▸ p1) (a2 ▸ p2) (by rw [a4]; exact hn))
  have := he (fun k => if k = 0 then e1 else e2) 0 1 rfl rfl
  rw [encS_div] at this
  exact this ▸ h
/-! ### the three formulas by numbers -/
def Rf (b : Nat) (ff : List FStep) (nu : Bool) (N D wd m : Int) : Prop := ∃ e : EE, Vw b ff e nu ∧ Np.G (2 ^ b) e.1 e.2 N D wd m
theorem smE_of {b : Nat} {x1 x2 N D wd m : Int} (hb : b ≤ 200) (hm : m < 2 ^ 60) (h : Np.G (2 ^ b) x1 x2 N D wd m) : SmE (x1, x2) := by
  have le := h.le
  have a1 := h.a1
  have a2 := h.a2
  have p := pow_pos b
  have hp : (2 : Int) ^ b ≤ 2 ^ 200 := by
    have e := Nat.pow_le_pow_right (show 0 < 2 by decide) hb
    have e0 := pow_nat b
    have e1 := pow_nat 200
    omega
  have k : m * 2 ^ b ≤ 2 ^ 60 * 2 ^ 200 := by
    have c1 : m * 2 ^ b ≤ 2 ^ 60 * 2 ^ b := Int.mul_le_mul_of_nonneg_right (by omega) (Int.le_of_lt p)
    have c2 : (2 : Int) ^ 60 * 2 ^ b ≤ 2 ^ 60 * 2 ^ 200 := Int.mul_le_mul_of_nonneg_left hp (by decide)
    omega
  have e : (2 : Int) ^ 60 * 2 ^ 200 = 2 ^ 260 := by decide
  have lt : ∀ z : Int, -(2 ^ 260) ≤ z → z ≤ 2 ^ 260 → z.natAbs < 2 ^ 1000 := fun z h1 h2 => by
    have : z.natAbs < 2 ^ 261 := by omega
    exact Nat.lt_trans this (Nat.pow_lt_pow_right (by decide) (by decide))
  exact ⟨lt _ (by omega) (by omega), lt _ (by omega) (by omega)⟩
theorem Rf.mul {b : Nat} {f g : List FStep} {n1 n2 : Bool} {N1 D1 w1 m1 N2 D2 w2 m2 : Int} (hb : b ≤ 200) (hf : Rf b f n1 N1 D1 w1 m1) (hg : Rf b g n2 N2 D2 w2 m2) (hl : f.length + g.length < 1000) (hn : n1 = false ∨ n2 = false) (h1 : m1 < 2 ^ 60) (h2 : m2 < 2 ^ 60) :
    Rf b (joinS "times" f g) false (N1 * N2) (D1 * D2) (m1 * w2 + m2 * w1 + 2) (m1 * m2 + 1) := by
  obtain ⟨e1, v1, g1⟩ := hf
  obtain ⟨e2, v2, g2⟩ := hg
  exact ⟨_, v1.mul v2 hl (smE_of hb h1 g1) (smE_of hb h2 g2) hn, g1.mul (pow_pos b) g2⟩
theorem Rf.div {b : Nat} {f g : List FStep} {n1 : Bool} {N1 D1 w1 m1 N2 D2 w2 m2 : Int} (hb : b ≤ 200) (hf : Rf b f n1 N1 D1 w1 m1) (hg : ∃ e : EE, (Vw b g e false ∧ Np.G (2 ^ b) e.1 e.2 N2 D2 w2 m2) ∧ 2 ^ b ≤ e.1) (hl : f.length + g.length < 1000) (h1 : m1 < 2 ^ 60) (h2 : m2 < 2 ^ 60) (h0 : 0 ≤ m1) (hN : 0 < N2) :
    Rf b (joinS "divide" f g) false (N1 * D2) (D1 * N2) (m1 * w2 + w1 + 1) (m1 + 1) := by
  obtain ⟨e1, v1, g1⟩ := hf
  obtain ⟨e2, ⟨v2, g2⟩, k⟩ := hg
  have p := pow_pos b
  have le := g2.le
  exact ⟨_, v1.div v2 hl (smE_of hb h1 g1) (smE_of hb h2 g2) (by omega) (by omega) rfl, g1.div p g2 hN k h0⟩
theorem Rf.same {b : Nat} {f : List FStep} {n1 : Bool} {N1 D1 wd m N D : Int} (h : Rf b f n1 N1 D1 wd m) (hD : 0 < D) (e : N * D1 = N1 * D) : Rf b f n1 N D wd m := by
  obtain ⟨e1, v1, g1⟩ := h
  exact ⟨e1, v1, g1.same hD e⟩
theorem Rf.mono {b : Nat} {f : List FStep} {n1 : Bool} {N D w1 m1 w2 m2 : Int} (h : Rf b f n1 N D w1 m1) (hw : w1 ≤ w2) (hm : m1 ≤ m2) : Rf b f n1 N D w2 m2 := by
  obtain ⟨e1, v1, g1⟩ := h
  exact ⟨e1, v1, g1.mono (pow_pos b) hw hm⟩
theorem Rf.num {b : Nat} {p q m : Int} (h1 : p.natAbs < 2 ^ 100) (h2 : 1 ≤ q) (h3 : q < 2 ^ 100) (k1 : -(m * q) ≤ p) (k2 : p ≤ m * q) : Rf b [numS p q] true p q 1 m :=
  ⟨_, Vw.num h1 h2 h3, of_G b h2 k1 k2⟩
section
variable {b : Nat}
/-- the law's pi, unscaled -/
abbrev LP (b : Nat) : Int := mach (b + 168)
theorem piR (hb : 2 ≤ b) : ∃ e : EE, (Vw b [piSt] e false ∧ Np.G (2 ^ b) e.1 e.2 (LP b) (2 ^ (b + 168)) 2 4) ∧ 2 ^ b ≤ e.1 := by
  obtain ⟨h1, h2⟩ := pi_G b 104 hb
  exact ⟨_, ⟨Vw.pi, h1⟩, h2⟩
theorem lp_pos : 0 < LP b := by
  have h := (mach_bounds (w := b + 168) (by omega)).1
  have := pow_pos (b + 168)
  show 0 < mach (b + 168)
  omega
theorem ratR (hb : 2 ≤ b) (hb2 : b ≤ 200) : Rf b ratS false (180 * 2 ^ (b + 168)) (LP b) 362 181 := by
  have h := Rf.div (b := b) hb2 (Rf.num (p := 180) (q := 1) (m := 180) (by decide) (by decide) (by decide) (by decide) (by decide)) (piR hb) (by decide) (by decide) (by decide) (by decide) lp_pos
  exact (h.mono (by decide) (by decide)).same lp_pos (by rw [Int.one_mul])
theorem gcs {a : Int} : ∃ g, 0 < g ∧ a = a / gc a 1800000000 * g ∧ (1800000000 : Int) = 1800000000 / gc a 1800000000 * g := by
  have hg := gc_pos (p := a) (q := 1800000000) (by decide)
  have d1 : gc a 1800000000 ∣ a := by
    unfold gc
    exact Int.ofNat_dvd_left.mpr (Nat.gcd_dvd_left _ _)
  have d2 : gc a 1800000000 ∣ 1800000000 := by
    unfold gc
    exact Int.ofNat_dvd_left.mpr (Nat.gcd_dvd_right _ _)
  exact ⟨gc a 1800000000, by omega, (Int.ediv_mul_cancel d1).symm, (Int.ediv_mul_cancel d2).symm⟩
theorem radR {a : Int} (hb : 2 ≤ b) (hb2 : b ≤ 200) (ha : -7200000000 ≤ a ∧ a ≤ 7200000000) : (∃ nu, Rf b (radS a) nu (a * LP b) (1800000000 * 2 ^ (b + 168)) 14 17) ∧ (radS a).length ≤ 3 := by
  obtain ⟨g, hg, e1, e2⟩ := gcs (a := a)
  have hq := gc_div a
  unfold radS
  generalize a / gc a 1800000000 = p at *
  generalize 1800000000 / gc a 1800000000 = q at *
  obtain ⟨hq1, hq2⟩ := hq
  have hq3 : q ≤ 1800000000 := by
    have : q * 1 ≤ q * g := Int.mul_le_mul_of_nonneg_left (by omega) (by omega)
    omega
  have pW := pow_pos (b + 168)
  have hD : (0 : Int) < 1800000000 * 2 ^ (b + 168) := by omega
  -- p / q is at most 4
  have k2 : p ≤ 4 * q := by
    have : p * g ≤ 4 * q * g := by
      rw [Int.mul_assoc]
      omega
    exact Int.le_of_mul_le_mul_right this hg
  have k1 : -(4 * q) ≤ p := by
    have : -(4 * q) * g ≤ p * g := by
      rw [Int.neg_mul, Int.mul_assoc]
      omega
    exact Int.le_of_mul_le_mul_right this hg
  unfold prodS
  by_cases c1 : p = 0
  · rw [if_pos c1]
    subst c1
    have a0 : a = 0 := by rw [e1]; omega
    refine ⟨⟨true, ((Rf.num (b := b) (p := 0) (q := 1) (m := 4) (by decide) (by decide) (by decide) (by decide) (by decide)).mono (by decide) (by decide)).same hD (by rw [a0, Int.zero_mul, Int.zero_mul, Int.zero_mul])⟩, by show 1 ≤ 3; decide⟩
  · rw [if_neg c1]
    by_cases c2 : p = q
    · rw [if_pos c2]
      have a0 : a = 1800000000 := by rw [e1, e2, c2]
      obtain ⟨e, ⟨v, G⟩, _⟩ := piR hb
      exact ⟨⟨false, (Rf.mono (b := b) ⟨e, v, G⟩ (by decide) (by decide)).same hD (by rw [a0, Int.mul_comm 1800000000 (LP b), Int.mul_assoc])⟩, by show 1 ≤ 3; decide⟩
    · rw [if_neg c2]
      obtain ⟨e, ⟨v, G⟩, _⟩ := piR hb
      have h := Rf.mul (b := b) hb2 (Rf.num (b := b) (p := p) (q := q) (m := 4) (by omega) hq1 (by omega) k1 k2) ⟨e, v, G⟩ (show 1 + 1 < 1000 by decide) (.inr rfl) (by decide) (by decide)
      have ej : joinS "times" [numS p q] [piSt] = [numS p q, piSt, (("times" : Str), [0, 1])] := by
        unfold joinS
        have : shiftS [numS p q].length piSt = piSt := if_neg pi_nn
        rw [List.map_cons, this]
        rfl
      rw [ej] at h
      refine ⟨⟨false, (h.mono (by decide) (by decide)).same hD ?_⟩, by show 3 ≤ 3; decide⟩
      -- a q' = p' 1800000000
      have e3 : a * q = p * 1800000000 := by
        rw [e1, e2, Int.mul_right_comm p g q, Int.mul_assoc p q g]
      calc a * LP b * (q * 2 ^ (b + 168)) = a * q * (LP b * 2 ^ (b + 168)) := by
            rw [Int.mul_assoc a, Int.mul_left_comm (LP b) q, ← Int.mul_assoc a q]
        _ = p * 1800000000 * (LP b * 2 ^ (b + 168)) := by rw [e3]
        _ = p * LP b * (1800000000 * 2 ^ (b + 168)) := by rw [Int.mul_assoc p, Int.mul_left_comm 1800000000 (LP b), ← Int.mul_assoc p]
theorem rat_len3 : ratS.length = 3 := by
  unfold ratS joinS
  simp
theorem degR {p q : Int} (hb : 2 ≤ b) (hb2 : b ≤ 200) (hp : -1000 ≤ p ∧ p ≤ 1000) (hq : 1 ≤ q ∧ q ≤ 20) : ∃ nu, Rf b (degS [numS p q]) nu (180 * 2 ^ (b + 168) * p) (LP b * q) 400000 200000 := by
  have h := Rf.mul (b := b) hb2 (ratR hb hb2) (Rf.num (b := b) (p := p) (q := q) (m := 1000) (by omega) hq.1 (by omega) (by omega) (by omega)) (by rw [rat_len3]; show 3 + 1 < 1000; decide) (.inl rfl) (by decide) (by decide)
  exact ⟨false, h.mono (by decide) (by decide)⟩
theorem drR {a : Int} (hb : 2 ≤ b) (hb2 : b ≤ 200) (ha : -7200000000 ≤ a ∧ a ≤ 7200000000) : ∃ nu, Rf b (degS (radS a)) nu a 10000000 400000 200000 := by
  obtain ⟨⟨nu, h2⟩, hl⟩ := radR (a := a) hb hb2 ha
  have h := Rf.mul (b := b) hb2 (ratR hb hb2) h2 (by rw [rat_len3]; omega) (.inl rfl) (by decide) (by decide)
  refine ⟨false, (h.mono (by decide) (by decide)).same (by decide) ?_⟩
  generalize LP b = L
  generalize (2 : Int) ^ (b + 168) = W
  calc a * (L * (1800000000 * W)) = a * L * W * 1800000000 := by
        rw [Int.mul_comm 1800000000 W, ← Int.mul_assoc L, ← Int.mul_assoc a, ← Int.mul_assoc a]
    _ = a * L * W * (180 * 10000000) := rfl
    _ = 180 * W * (a * L) * 10000000 := by
        rw [← Int.mul_assoc (a * L * W), Int.mul_comm (a * L * W) 180, Int.mul_comm (a * L) W, ← Int.mul_assoc 180 W]
end
/-! the end: what enclose gives fits -/
theorem fit_of {n : Nat} {ff : List FStep} {nu : Bool} {N D wd m v : Int} (hn : n ≤ 100) (h : Rf (n + 64) ff nu N D wd m) (hw : wd ≤ 2 ^ 64) (hm : m < 2 ^ 60) (h1 : N * 2 ^ (n + 200) ≤ (v + 2 ^ 180) * D) (h2 : (v - 2 ^ 180) * D ≤ N * 2 ^ (n + 200)) :
    FOk (n + 64) ff ∧ Narrow n (n + 64) (lastE (n + 64) ff) ∧ Fit (outV n (lastE (n + 64) ff)).1 (outV n (lastE (n + 64) ff)).2 v := by
  obtain ⟨⟨x1, x2⟩, vw, g⟩ := h
  have hl : lastE (n + 64) ff = (x1, x2) := by
    unfold lastE
    rw [vw.val]
  have sm := smE_of (b := n + 64) (by omega) hm g
  have le := g.le
  have wdt := g.wd
  have gl := g.cl
  have gh := g.ch
  have gd := g.d
  have ga1 := g.a1
  have ga2 := g.a2
  simp only at le wdt gl gh ga1 ga2 sm
  rw [hl]
  have f1 := Np.fl_le x1 (show (0 : Int) < 2 ^ 64 by decide)
  have c1 := Np.ce_ge x2 (show (0 : Int) < 2 ^ 64 by decide)
  have width : -(-x2 / 2 ^ 64) - x1 / 2 ^ 64 ≤ 4 ∧ 0 ≤ -(-x2 / 2 ^ 64) - x1 / 2 ^ 64 := by omega
  have ez : n + 64 - n = 64 := by omega
  refine ⟨vw.ok, ⟨by omega, by rw [ez]; exact width.1⟩, ?_⟩
  show Fit (x1 / 2 ^ 64) (-(-x2 / 2 ^ 64)) v
  have s1 : (x1 / 2 ^ 64).natAbs < 2 ^ 300 ∧ (-(-x2 / 2 ^ 64)).natAbs < 2 ^ 300 := by
    have p := pow_pos (n + 64)
    have hp : (2 : Int) ^ (n + 64) ≤ 2 ^ 200 := by
      have e := Nat.pow_le_pow_right (show 0 < 2 by decide) (show n + 64 ≤ 200 by omega)
      have e0 := pow_nat (n + 64)
      have e1 := pow_nat 200
      omega
    have k : m * 2 ^ (n + 64) ≤ 2 ^ 60 * 2 ^ 200 := by
      have c1 : m * 2 ^ (n + 64) ≤ 2 ^ 60 * 2 ^ (n + 64) := Int.mul_le_mul_of_nonneg_right (by omega) (Int.le_of_lt p)
      have c2 : (2 : Int) ^ 60 * 2 ^ (n + 64) ≤ 2 ^ 60 * 2 ^ 200 := Int.mul_le_mul_of_nonneg_left hp (by decide)
      omega
    have e : (2 : Int) ^ 60 * 2 ^ 200 = 2 ^ 260 := by decide
    exact ⟨sz_ediv (by omega), sz_neg (sz_ediv (sz_neg (by omega)))⟩
  have pn := pow_pos n
  have e64 : (2 : Int) ^ (n + 64) = 2 ^ n * 2 ^ 64 := Int.pow_add ..
  have e200 : (2 : Int) ^ (n + 200) = 2 ^ n * 2 ^ 200 := Int.pow_add ..
  rw [e64, ← Int.mul_assoc] at gl gh
  rw [e200, ← Int.mul_assoc] at h1 h2
  generalize x1 / 2 ^ 64 = lo at *
  generalize -(-x2 / 2 ^ 64) = hi at *
  have sc : ∀ {s t : Int}, s ≤ t → s * D ≤ t * D := fun h => Int.mul_le_mul_of_nonneg_right h (Int.le_of_lt gd)
  refine ⟨width.2, width.1, ?_, ?_, s1.1, s1.2⟩
  · refine Int.le_of_mul_le_mul_right ?_ gd
    have a1 := Int.le_trans (sc f1) gl
    have a2 : lo * D * 2 ^ 64 ≤ N * 2 ^ n * 2 ^ 64 := by
      rw [Int.mul_right_comm lo D]
      exact a1
    have a3 := Int.le_of_mul_le_mul_right a2 (by decide)
    rw [Int.mul_right_comm lo]
    generalize N * 2 ^ n = t at *
    generalize lo * D = s at *
    omega
  · refine Int.le_of_mul_le_mul_right ?_ gd
    have a1 := Int.le_trans gh (sc c1)
    have a2 : N * 2 ^ n * 2 ^ 64 ≤ hi * D * 2 ^ 64 := by
      rw [Int.mul_right_comm hi D]
      exact a1
    have a3 := Int.le_of_mul_le_mul_right a2 (by decide)
    rw [Int.mul_right_comm hi]
    generalize N * 2 ^ n = t at *
    generalize hi * D = s at *
    omega
section
variable {n : Nat} {a p q : Int}
theorem lawPi_is (n : Nat) : lawPi (n + 200) = LP (n + 64) / 2 ^ 32 := by
  unfold lawPi
  rw [show n + 200 + 32 = n + 64 + 168 by omega]
theorem lawPi_of (n : Nat) : ∃ r, LP (n + 64) = lawPi (n + 200) * 2 ^ 32 + r ∧ 0 ≤ r ∧ r < 2 ^ 32 := by
  rw [lawPi_is]
  generalize LP (n + 64) = L
  exact ⟨L % 2 ^ 32, by omega, by omega, by omega⟩
theorem powW (n : Nat) : (2 : Int) ^ (n + 64 + 168) = 2 ^ (n + 200) * 2 ^ 32 := Int.pow_add 2 (n + 200) 32
theorem lawPi_ge (n : Nat) : 3 * 2 ^ (n + 200) ≤ lawPi (n + 200) := by
  have h : 3 * 2 ^ (n + 64 + 168) ≤ LP (n + 64) := (mach_bounds (w := n + 64 + 168) (by omega)).1
  rw [powW] at h
  rw [lawPi_is]
  generalize LP (n + 64) = L at *
  generalize (2 : Int) ^ (n + 200) = B at *
  omega
/-- due of the first formula -/
theorem due0 (ha : -7200000000 ≤ a ∧ a ≤ 7200000000) : a * LP (n + 64) * 2 ^ (n + 200) ≤ (a * lawPi (n + 200) / 1800000000 + 2 ^ 180) * (1800000000 * 2 ^ (n + 64 + 168)) ∧ (a * lawPi (n + 200) / 1800000000 - 2 ^ 180) * (1800000000 * 2 ^ (n + 64 + 168)) ≤ a * LP (n + 64) * 2 ^ (n + 200) := by
  obtain ⟨r, e, r1, r2⟩ := lawPi_of n
  have pP := pow_pos (n + 200)
  have m := Np.mul_abs (a := a) (c := r) (A := 7200000000) (C := 4294967296) ha.1 ha.2 (by omega) (by omega)
  have eL : a * LP (n + 64) = a * lawPi (n + 200) * 4294967296 + a * r := by
    rw [e, Int.mul_add, Int.mul_assoc]
    rfl
  have d1 := Int.ediv_mul_le (a * lawPi (n + 200)) (show (1800000000 : Int) ≠ 0 by decide)
  have d2 := Int.lt_ediv_add_one_mul_self (a * lawPi (n + 200)) (show (0 : Int) < 1800000000 by decide)
  rw [powW, eL]
  generalize a * lawPi (n + 200) / 1800000000 = v at *
  generalize a * lawPi (n + 200) = t at *
  generalize a * r = s at *
  generalize (2 : Int) ^ (n + 200) = B at *
  have eW : ∀ z : Int, z * (1800000000 * (B * 2 ^ 32)) = z * 7730941132800000000 * B := fun z => by
    rw [Int.mul_assoc z, Int.mul_comm B, ← Int.mul_assoc 1800000000]
    rfl
  rw [eW, eW]
  have e180 : (2 : Int) ^ 180 = 1532495540865888858358347027150309183618739122183602176 := by decide
  rw [e180]
  exact ⟨Int.mul_le_mul_of_nonneg_right (by omega) (Int.le_of_lt pP), Int.mul_le_mul_of_nonneg_right (by omega) (Int.le_of_lt pP)⟩
/-- due of the third -/
theorem due2 : a * 2 ^ (n + 200) ≤ (a * 2 ^ (n + 200) / 10000000 + 2 ^ 180) * 10000000 ∧ (a * 2 ^ (n + 200) / 10000000 - 2 ^ 180) * 10000000 ≤ a * 2 ^ (n + 200) := by
  generalize a * 2 ^ (n + 200) = t
  omega
/-- due of the second -/
theorem due1 (hp : -1000 ≤ p ∧ p ≤ 1000) (hq : 1 ≤ q ∧ q ≤ 20) : 180 * 2 ^ (n + 64 + 168) * p * 2 ^ (n + 200) ≤ (180 * p * 2 ^ (2 * (n + 200)) / (q * lawPi (n + 200)) + 2 ^ 180) * (LP (n + 64) * q) ∧ (180 * p * 2 ^ (2 * (n + 200)) / (q * lawPi (n + 200)) - 2 ^ 180) * (LP (n + 64) * q) ≤ 180 * 2 ^ (n + 64 + 168) * p * 2 ^ (n + 200) := by
  obtain ⟨r, e, r1, r2⟩ := lawPi_of n
  have hπ := lawPi_ge n
  have pP := pow_pos (n + 200)
  have e2 : (2 : Int) ^ (2 * (n + 200)) = 2 ^ (n + 200) * 2 ^ (n + 200) := by rw [show 2 * (n + 200) = (n + 200) + (n + 200) by omega, Int.pow_add]
  rw [e2, e, powW]
  generalize lawPi (n + 200) = π at *
  generalize (2 : Int) ^ (n + 200) = B at *
  have pπ : 0 < π := by omega
  have pD : 0 < q * π := Int.mul_pos (by omega) pπ
  have d1 := Int.ediv_mul_le (180 * p * (B * B)) (show q * π ≠ 0 by omega)
  have d2 := Int.lt_ediv_add_one_mul_self (180 * p * (B * B)) pD
  -- v is not great
  have bX : ∀ z : Int, z = 180 * p * (B * B) → z ≤ 2 ^ 18 * B * (q * π) ∧ -(2 ^ 18 * B * (q * π)) ≤ z := fun z hz => by
    have b1 : B * B ≤ B * (q * π) := by
      refine Int.mul_le_mul_of_nonneg_left ?_ (Int.le_of_lt pP)
      have := Int.mul_le_mul_of_nonneg_right (show 1 ≤ q by omega) (Int.le_of_lt pπ)
      omega
    have b0 : 0 ≤ B * B := Int.mul_nonneg (Int.le_of_lt pP) (Int.le_of_lt pP)
    have m := Np.mul_abs (a := 180 * p) (c := B * B) (A := 2 ^ 18) (C := B * (q * π)) (by omega) (by omega) (by omega) b1
    rw [← hz, ← Int.mul_assoc (2 ^ 18) B] at m
    exact m
  obtain ⟨x1, x2⟩ := bX _ rfl
  have ex : 180 * (B * 2 ^ 32) * p * B = 180 * p * (B * B) * 2 ^ 32 := by
    rw [Int.mul_right_comm 180 _ p, ← Int.mul_assoc (180 * p) B, ← Int.mul_assoc (180 * p) B, Int.mul_right_comm (180 * p * B) (2 ^ 32) B]
  rw [ex]
  generalize hX : 180 * p * (B * B) = X at *
  have v1 : X / (q * π) ≤ 2 ^ 18 * B := Int.le_of_mul_le_mul_right (Int.le_trans d1 x1) pD
  have v2 : -(2 ^ 18 * B) - 1 ≤ X / (q * π) := by
    have : -(2 ^ 18 * B) * (q * π) < (X / (q * π) + 1) * (q * π) := by
      rw [Int.neg_mul]
      omega
    have := Int.lt_of_mul_lt_mul_right this (Int.le_of_lt pD)
    omega
  generalize X / (q * π) = v at *
  -- (v + c) (π 2^32 + r) q
  have ev : ∀ c : Int, (v + c) * ((π * 2 ^ 32 + r) * q) = v * (q * π) * 2 ^ 32 + q * (v * r) + c * (q * π) * 2 ^ 32 + q * (c * r) := fun c => by
    rw [Int.add_mul, Int.add_mul (π * 2 ^ 32), Int.mul_add, Int.mul_add]
    have t1 : ∀ z : Int, z * (π * 2 ^ 32 * q) = z * (q * π) * 2 ^ 32 := fun z => by rw [Int.mul_right_comm π, Int.mul_comm π q, ← Int.mul_assoc]
    have t2 : ∀ z : Int, z * (r * q) = q * (z * r) := fun z => by rw [← Int.mul_assoc, Int.mul_comm]
    rw [t1, t1, t2, t2]
    omega
  have vr : -(q * π * 2 ^ 60) ≤ q * (v * r) ∧ q * (v * r) ≤ q * π * 2 ^ 60 := by
    have m := Np.mul_abs (a := v) (c := r) (A := 2 ^ 19 * π) (C := 2 ^ 32) (by omega) (by omega) (by omega) (by omega)
    have k : (2 : Int) ^ 19 * π * 2 ^ 32 = π * 2 ^ 51 := by omega
    rw [k] at m
    have k2 : q * (π * 2 ^ 51) = q * π * 2 ^ 51 := (Int.mul_assoc ..).symm
    have m1 := Int.mul_le_mul_of_nonneg_left m.1 (show 0 ≤ q by omega)
    have m2 := Int.mul_le_mul_of_nonneg_left m.2 (show 0 ≤ q by omega)
    rw [k2] at m1
    rw [Int.mul_neg, k2] at m2
    omega
  have cr : 0 ≤ q * ((2 : Int) ^ 180 * r) ∧ q * ((2 : Int) ^ 180 * r) = 2 ^ 180 * (q * r) := ⟨Int.mul_nonneg (by omega) (by omega), Int.mul_left_comm ..⟩
  have evm : (v - 2 ^ 180) = v + -(2 ^ 180) := rfl
  rw [evm, ev, ev]
  have en : q * (-(2 : Int) ^ 180 * r) = -(q * (2 ^ 180 * r)) := by rw [Int.neg_mul, Int.mul_neg]
  rw [en, Int.neg_mul]
  have d3 : X < v * (q * π) + q * π := by
    rw [Int.add_mul, Int.one_mul] at d2
    exact d2
  obtain ⟨cr1, cr2⟩ := cr
  generalize q * ((2 : Int) ^ 180 * r) = y at *
  generalize q * (v * r) = z at *
  generalize v * (q * π) = t at *
  generalize q * π = u at *
  constructor
  · omega
  · omega
end
/-! ### the law -/
section
variable {B0 H0 : Hp} {D : Ends} {t u : TS} {te : TE} {tt : TT} {δ δ1 : List Sl} {s : Sl} {n : Nat} {b : Bool}
abbrev yes : PyData → Prop := fun d => d = .bool true
theorem qq_asg (hr : ∀ v d (B' H' : Hp), yes d → Dt K B' v d → D.rt v H') (δ1 : List Sl) (h : EvS K B0 H0 te δ s) (k : SDq K B0 H0 D u δ1) (he : δ.set n s = δ1 := by rfl) : SDq K B0 H0 D (tSeq (tAsg te (gName n)) u) δ := qq hr (sd_asg h (by subst he; exact k))
theorem qq_asgR {M : PyData → Prop} (hr : ∀ v d (B' H' : Hp), yes d → Dt K B' v d → D.rt v H') (h : EvR K B0 H0 te δ M) (k : ∀ d, M d → SDq K B0 H0 D u (δ.set n (.dat d))) : SDq K B0 H0 D (tSeq (tAsg te (gName n)) u) δ := qq hr (sd_asgR h k)
theorem qq_when (hr : ∀ v d (B' H' : Hp), yes d → Dt K B' v d → D.rt v H') (h : EvB K B0 H0 tt δ b) (h1 : b = true → SD K B0 H0 (fun _ _ _ _ => False) t δ { nx := fun δ' => SDq K B0 H0 D u δ', rt := yes }) (h2 : b = false → SDq K B0 H0 D u δ) : SDq K B0 H0 D (tSeq (tIfS tt t tNext) u) δ := qq hr (sd_when h h1 h2)
theorem qq_if2 {M : List Sl → Prop} (hr : ∀ v d (B' H' : Hp), yes d → Dt K B' v d → D.rt v H') (h : EvB K B0 H0 tt δ b) (h1 : b = true → ∀ E : DE, (∀ δ', M δ' → E.nx δ') → SD K B0 H0 (fun _ _ _ _ => False) t δ E) (h2 : b = false → M δ) (k : ∀ δ', M δ' → SDq K B0 H0 D u δ') : SDq K B0 H0 D (tSeq (tIfS tt t tNext) u) δ :=
  qq hr (sd_when h (fun hb => h1 hb _ k) fun hb => k _ (h2 hb))
end
theorem d_kt {B0 H0 : Hp} {δ : List Sl} {a : Addr} {ns : List Int} (h : ∀ H, SqT K H a (ns.map V.int)) : EvS K B0 H0 (tC (.ref a)) δ (.dat (.tuple (ns.map PyData.int))) := fun B H σ S Q q => q _ B H (.refl S.st.bh) (.tup (h B) (dt_ints ns))
def spLaw (K : PySem.W.Frag) (Pt : Addr) : Sp := fun vs H Q _ => ∃ (sa : Addr) (ns : List Int), vs = [.ref sa] ∧ SqL K H sa (ns.map V.int) ∧ ns.length ≤ 63 ∧ (∀ z ∈ ns, Builtin.Int.intBits z ≤ 1048576) ∧ TabsN [(Pt, nmN)] H ∧ ∀ H', Q (.bl true) H'
/-- the turn of the loop: a test by data, then enclose within the law's judge -/
theorem nestI {T1 : TT} {spF spE : Sp} {E1 E2 : XK} {ta2 tr1 : TA} {R : TS} {D : Ends} {σ : L2.St} {H : Hp} (h1 : ∀ Q : Bool → Hp → Prop, (∀ H1, Ex H H1 → Q false H1) → T1 σ H Q)
    (h2 : ∀ H1, Ex H H1 → ta2 σ H1 fun ws H4 => spE (ws ++ []) H4 (fun v4 H5 => tr1 σ H5 fun us H6 => spF ((v4 :: us) ++ []) H6 (fun vv H7 => ∃ c, vv = .bl c ∧ if (!c) = true then R D σ H7 else D.nx σ H7) E1) E2) :
    tIfS (tOr T1 (tNot (tB (tCall spF [] E1 (tCons (tCall spE [] E2 ta2) tr1))))) R tNext D σ H := h1 _ fun H1 e => h2 H1 e
theorem d_notB {B0 H0 : Hp} {δ : List Sl} {ta tb : TE} {b c : Bool} (ha : EvS K B0 H0 ta δ (nB b)) (hb : EvS K B0 H0 tb δ (nB c)) : EvS K B0 H0 (tOp rNotB ta tb) δ (nB (!decide (b = c))) := d_bbb ha hb fun _ => rv_notB
theorem ok_law {Pt : Addr} {f fe0 fe1 fe2 fe3 fe4 fe5 fe6 fe7 fe8 fe9 fe10 : Addr} {fd fde0 fde1 fde2 fde3 fde4 fde5 fde6 fde7 fde8 fde9 fde10 : FuncData} (F : Fun K "law" "law" s_law f fd)
    (F_law_rich : Fun K "_law_rich" "_law_rich" s_law_rich fe0 fde0) (b_law_rich : Binds K fde0 ["cell"] []) (g_law_rich : mg "_law_rich" = some (.ref fe0))
    (F_law_cell : Fun K "_law_cell" "_law_cell" s_law_cell fe1 fde1) (b_law_cell : Binds K fde1 ["script", "k"] []) (g_law_cell : mg "_law_cell" = some (.ref fe1))
    (F_law_fits : Fun K "_law_fits" "_law_fits" s_law_fits fe2 fde2) (b_law_fits : Binds K fde2 ["found", "bits", "value", "b"] []) (g_law_fits : mg "_law_fits" = some (.ref fe2))
    (F_law_is_integer : Fun K "_law_is_integer" "_law_is_integer" s_law_is_integer fe3 fde3) (b_law_is_integer : Binds K fde3 ["actual"] []) (g_law_is_integer : mg "_law_is_integer" = some (.ref fe3))
    (F_law_pi : Fun K "_law_pi" "_law_pi" s_law_pi fe4 fde4) (b_law_pi : Binds K fde4 ["b"] []) (g_law_pi : mg "_law_pi" = some (.ref fe4))
    (F_law_atan_sum : Fun K "_law_atan_sum" "_law_atan_sum" s_law_atan_sum fe5 fde5) (b_law_atan_sum : Binds K fde5 ["p", "q", "b"] []) (g_law_atan_sum : mg "_law_atan_sum" = some (.ref fe5))
    (F_radians : Fun K "radians" "radians" s_radians fe6 fde6) (b_radians : Binds K fde6 ["angle"] []) (g_radians : mg "radians" = some (.ref fe6)) (G_radians : FnOk P w K mg base CX0 5 fe6 fde6 ["angle"] (spRad K))
    (F_degrees : Fun K "degrees" "degrees" s_degrees fe7 fde7) (b_degrees : Binds K fde7 ["formula"] []) (g_degrees : mg "degrees" = some (.ref fe7)) (G_degrees : FnOk P w K mg base CX0 4 fe7 fde7 ["formula"] (spDeg K))
    (F_number : Fun K "number" "number" s_number fe8 fde8) (b_number : Binds K fde8 ["p", "q"] []) (g_number : mg "number" = some (.ref fe8))
    (F_is_formula : Fun K "is_formula" "is_formula" s_is_formula fe9 fde9) (b_is_formula : Binds K fde9 ["value"] []) (g_is_formula : mg "is_formula" = some (.ref fe9)) (G_is_formula : FnOk P w K mg base CX0 4 fe9 fde9 ["value"] (spIsForm K))
    (F_enclose : Fun K "enclose" "enclose" s_enclose fe10 fde10) (b_enclose : Binds K fde10 ["formula", "bits"] []) (g_enclose : mg "enclose" = some (.ref fe10)) (G_enclose : FnOk P w K mg base CX0 9 fe10 fde10 ["formula", "bits"] (spEnc K Pt))
    (m_len : mg "len" = none) (m_abs : mg "abs" = none) (m_int : mg "int" = none) (m_bool : mg "bool" = none) (m_tuple : mg "tuple" = none) (m_range : mg "range" = none) (m_isinstance : mg "isinstance" = none) :
    FnOk P w K mg base CX0 10 f fd ["script"] (spLaw K Pt) := by
  have G_law_rich : FnOk P w K mg base CX0 1 fe0 fde0 ["cell"] (spRich K) := ok_rich F_law_rich m_abs m_int
  have G_law_cell : FnOk P w K mg base CX0 1 fe1 fde1 ["script", "k"] (spCell K) := ok_cell F_law_cell m_len
  have G_law_fits : FnOk P w K mg base CX0 2 fe2 fde2 ["found", "bits", "value", "b"] (spFits K) := ok_fits F_law_fits F_law_is_integer b_law_is_integer g_law_is_integer m_isinstance m_int m_bool m_tuple m_len
  have G_law_pi : FnOk P w K mg base CX0 2 fe4 fde4 ["b"] (spLPi K) := ok_lpi F_law_pi F_law_atan_sum b_law_atan_sum g_law_atan_sum m_range m_int
  have G_number : FnOk P w K mg base CX0 1 fe8 fde8 ["p", "q"] (spNum K) := ok_number F_number
  refine F.ok sc_law (fun vs H Q E ⟨_, _, z, _⟩ => by rw [z] <;> rfl) (fun cdv A outer s H vs Q E hr h => ?_)
  obtain ⟨sa, ns, rfl, hS, hl, hbits, hT, hq⟩ := h
  refine ⟨_, (pss_cons (ps_set (i := 1) sc_law.nd rfl (.inl rfl) (pe_call G_law_rich (hr.mono (by decide)) (by rfl) g_law_rich F_law_rich.kp b_law_rich .nil pass0 (pa_cons (pe_call G_law_cell (hr.mono (by decide)) (by rfl) g_law_cell F_law_cell.kp b_law_cell .nil pass0 (pa_cons (pv 0) (pa_cons pe_int pa_nil))) pa_nil)))
        (pss_cons (ps_set (i := 2) sc_law.nd rfl (.inl rfl) (pe_op op_add pe_int (pe_op op_mod (pe_callTy call_int1 (by rfl) m_int (by decide +kernel) (pa_cons (pv 1) pa_nil)) pe_int)))
        (pss_cons (ps_set (i := 3) sc_law.nd rfl (.inl rfl) (pe_op op_add (pv 2) pe_int))
        (pss_cons (ps_set (i := 4) sc_law.nd rfl (.inl rfl) (pe_call G_law_pi (hr.mono (by decide)) (by rfl) g_law_pi F_law_pi.kp b_law_pi .nil pass0 (pa_cons (pv 3) pa_nil)))
        (pss_cons (ps_set (i := 5) sc_law.nd rfl (.inl rfl) (pe_op op_sub (pe_op op_mod (pe_callTy call_int1 (by rfl) m_int (by decide +kernel) (pa_cons (pe_op op_fdiv (pv 1) pe_int) pa_nil)) pe_int) pe_int))
        (pss_cons (ps_set (i := 6) sc_law.nd rfl (.inl rfl) (pe_op op_sub (pe_op op_mod (pe_callTy call_int1 (by rfl) m_int (by decide +kernel) (pa_cons (pe_op op_fdiv (pv 1) pe_int) pa_nil)) pe_int) pe_int))
        (pss_cons (ps_set (i := 7) sc_law.nd rfl (.inl rfl) (pe_op op_add pe_int (pe_op op_mod (pe_callTy call_int1 (by rfl) m_int (by decide +kernel) (pa_cons (pe_op op_fdiv (pv 1) pe_int) pa_nil)) pe_int)))
        (pss_cons (ps_set (i := 8) sc_law.nd rfl (.inl rfl) (pe_lst (pa_cons (pe_call G_radians (hr.mono (by decide)) (by rfl) g_radians F_radians.kp b_radians .nil pass0 (pa_cons (pv 5) pa_nil)) (pa_cons (pe_call G_degrees (hr.mono (by decide)) (by rfl) g_degrees F_degrees.kp b_degrees .nil pass0 (pa_cons (pe_call G_number (hr.mono (by decide)) (by rfl) g_number F_number.kp b_number .nil pass0 (pa_cons (pv 6) (pa_cons (pv 7) pa_nil))) pa_nil)) (pa_cons (pe_call G_degrees (hr.mono (by decide)) (by rfl) g_degrees F_degrees.kp b_degrees .nil pass0 (pa_cons (pe_call G_radians (hr.mono (by decide)) (by rfl) g_radians F_radians.kp b_radians .nil pass0 (pa_cons (pv 5) pa_nil)) pa_nil)) pa_nil)))))
        (pss_cons (ps_set (i := 9) sc_law.nd rfl (.inl rfl) (pe_lst (pa_cons (pe_op op_fdivA (pe_op op_mulX (pv 5) (pv 4)) pe_int) (pa_cons (pe_op op_fdivA (pe_op op_mulX (pe_op op_mulX pe_int (pv 6)) (pe_op op_oneShl pe_int (pe_op op_mulX pe_int (pv 3)))) (pe_op op_mulX (pv 7) (pv 4))) (pa_cons (pe_op op_fdiv (pe_op op_shlN (pv 5) (pv 3)) pe_int) pa_nil)))))
        (pss_cons (ps_for PassesOwn.never rfl (pi_range1 (by rfl) m_range (pa_cons pe_int pa_nil)) (pg_name (i := 10) sc_law.nd rfl (.inl rfl)) (pss_one (ps_if (PW.pt (pw_or (pt_cmpR op_notBl (pe_call G_is_formula (hr.mono (by decide)) (by rfl) g_is_formula F_is_formula.kp b_is_formula .nil pass0 (pa_cons (pe_ix ix_list (pv 8) (pv 10) (fun _ _ => rfl)) pa_nil)) pe_bl (nomark _)) (pw_or1 (pt_not (pt_val (pe_call G_law_fits (hr.mono (by decide)) (by rfl) g_law_fits F_law_fits.kp b_law_fits .nil pass0 (pa_cons (pe_call G_enclose (hr.mono (by decide)) (by rfl) g_enclose F_enclose.kp b_enclose .nil pass0 (pa_cons (pe_ix ix_list (pv 8) (pv 10) (fun _ _ => rfl)) (pa_cons (pv 2) pa_nil))) (pa_cons (pv 2) (pa_cons (pe_ix ix_list (pv 9) (pv 10) (fun _ _ => rfl)) (pa_cons (pv 3) pa_nil)))))))))) (pss_one (ps_ret pe_bl)) pss_nil)))
        (pss_one (ps_ret pe_bl)))))))))))), ?_⟩
  have S0 : Sc K H H H H (L2.start ["script", "head", "bits", "b", "pi", "angle", "p", "q", "formulas", "due", "k"] [.ref sa]) [.sem (scrP K ns), .no, .no, .no, .no, .no, .no, .no, .no, .no, .no] := sc_start (vs := [V.ref sa]) (ss := [Sl.sem (scrP K ns)]) 10 (.refl H) (.cons ⟨sa, rfl, hS⟩ .nil)
  have fin : ∀ (D : Ends) (ts : TS), SDq K H H D ts [.sem (scrP K ns), .no, .no, .no, .no, .no, .no, .no, .no, .no, .no] → ts D (L2.start ["script", "head", "bits", "b", "pi", "angle", "p", "q", "formulas", "due", "k"] [.ref sa]) H := fun D ts h => h H H _ S0
  refine fin _ _ ?_
  generalize hDD : ({ nx := fun _ H' => Q .non H', rt := Q } : Ends) = D
  have hD : D.rt = Q := by rw [← hDD]
  have hY : ∀ v d (B' H' : Hp), yes d → Dt K B' v d → D.rt v H' := fun v d B' H' hd dv => by
    obtain rfl : d = .bool true := hd
    cases dv
    rw [hD]
    exact hq H'
  clear fin S0
  refine qq_asgR hY (r_call1 (r_of (d_callF (ns, 0) (a_cons (d_var rfl) (a_cons d_ci a_nil)) True.intro) (P := fun d => d = .int (cellOf ns 0)) rfl) fun d hd => ⟨cellOf ns 0, by rw [hd], True.intro⟩) fun d hd => ?_
  obtain ⟨_, _, n0, rfl, _⟩ := hd
  obtain ⟨n, en, hn8, hn⟩ : ∃ n : Nat, 8 + (n0 : Int) % 93 = (n : Int) ∧ 8 ≤ n ∧ n ≤ 100 := ⟨(8 + (n0 : Int) % 93).toNat, by omega, by omega, by omega⟩
  refine qq_asg hY [.sem (scrP K ns), nI (n0 : Int), nI (n : Int), .no, .no, .no, .no, .no, .no, .no, .no] (d_isI (d_i0 d_ci (d_iC (d_int (d_var rfl)) d_ci (by decide))) en) ?_
  refine qq_asg hY [.sem (scrP K ns), nI (n0 : Int), nI (n : Int), nI ((n + 200 : Nat) : Int), .no, .no, .no, .no, .no, .no, .no] (d_isI (i := (n : Int) + 200) (j := ((n + 200 : Nat) : Int)) (d_i0 (d_var rfl) d_ci) (by omega)) ?_
  refine qq_asg hY [.sem (scrP K ns), nI (n0 : Int), nI (n : Int), nI ((n + 200 : Nat) : Int), nI (lawPi (n + 200)), .no, .no, .no, .no, .no, .no] (d_callF (n + 200) (a_cons (d_var (s := nI ((n + 200 : Nat) : Int)) rfl) a_nil) (show n + 200 ≤ 800 by omega)) ?_
  obtain ⟨a, ea, ha⟩ : ∃ a : Int, (n0 : Int) / 128 % 14400000001 - 7200000000 = a ∧ (-7200000000 ≤ a ∧ a ≤ 7200000000) := ⟨_, rfl, by omega, by omega⟩
  refine qq_asg hY [.sem (scrP K ns), nI (n0 : Int), nI (n : Int), nI ((n + 200 : Nat) : Int), nI (lawPi (n + 200)), nI a, .no, .no, .no, .no, .no] (d_isI (d_i0 (d_iC (d_int (d_iC (d_var rfl) d_ci ⟨by decide, by decide⟩)) d_ci (by decide)) d_ci) ea) ?_
  clear ea
  obtain ⟨p, ep, hp⟩ : ∃ p : Int, (n0 : Int) / 4096 % 2001 - 1000 = p ∧ (-1000 ≤ p ∧ p ≤ 1000) := ⟨_, rfl, by omega, by omega⟩
  refine qq_asg hY [.sem (scrP K ns), nI (n0 : Int), nI (n : Int), nI ((n + 200 : Nat) : Int), nI (lawPi (n + 200)), nI a, nI p, .no, .no, .no, .no] (d_isI (d_i0 (d_iC (d_int (d_iC (d_var rfl) d_ci ⟨by decide, by decide⟩)) d_ci (by decide)) d_ci) ep) ?_
  clear ep
  obtain ⟨q, eq, hq1⟩ : ∃ q : Int, 1 + (n0 : Int) / 65536 % 20 = q ∧ (1 ≤ q ∧ q ≤ 20) := ⟨_, rfl, by omega, by omega⟩
  refine qq_asg hY [.sem (scrP K ns), nI (n0 : Int), nI (n : Int), nI ((n + 200 : Nat) : Int), nI (lawPi (n + 200)), nI a, nI p, nI q, .no, .no, .no] (d_isI (d_i0 d_ci (d_iC (d_int (d_iC (d_var rfl) d_ci ⟨by decide, by decide⟩)) d_ci (by decide))) eq) ?_
  clear eq
  -- what the three are worth
  have hb2 : 2 ≤ n + 64 := by omega
  have hb200 : n + 64 ≤ 200 := by omega
  obtain ⟨⟨nu0, R0⟩, len0⟩ := radR (b := n + 64) (a := a) hb2 hb200 ha
  obtain ⟨nu1, R1⟩ := degR (b := n + 64) (p := p) (q := q) hb2 hb200 hp hq1
  obtain ⟨nu2, R2⟩ := drR (b := n + 64) (a := a) hb2 hb200 ha
  obtain ⟨k01, k02⟩ := due0 (n := n) ha
  obtain ⟨k11, k12⟩ := due1 (n := n) hp hq1
  obtain ⟨k21, k22⟩ := due2 (n := n) (a := a)
  have fit0 := fit_of hn R0 (by decide) (by decide) k01 k02
  have fit1 := fit_of hn R1 (by decide) (by decide) k11 k12
  have fit2 := fit_of hn R2 (by decide) (by decide) k21 k22
  have hpi0 : 0 < lawPi (n + 200) := by
    have := lawPi_ge n
    have := pow_pos (n + 200)
    omega
  have hpis : (lawPi (n + 200)).natAbs < 2 ^ 1107 := by
    unfold lawPi
    exact sz_ediv (mach_small (by omega))
  have okr : OkForm (radS a) ∧ radS a ≠ [] := ⟨fit0.1.ok, fit0.1.ne⟩
  clear R0 R1 R2 k01 k02 k11 k12 k21 k22
  -- the formulas
  refine qq hY (sd_asgO (ds := [foD (radS a), foD (degS [numS p q]), foD (degS (radS a))]) (n_lst (ds_cons (d_callF a (a_cons (d_var (s := nI a) rfl) a_nil) True.intro) (ds_cons (d_callF [numS p q] (a_cons (d_callF (p, q) (a_cons (d_var (s := nI p) rfl) (a_cons (d_var (s := nI q) rfl) a_nil)) True.intro) a_nil) ⟨ok1 (.inl ⟨p, q, rfl, hq1.1⟩), List.cons_ne_nil _ _, (show 1 ≤ 400 by decide)⟩) (ds_cons (d_callF (radS a) (a_cons (d_callF a (a_cons (d_var (s := nI a) rfl) a_nil) True.intro) a_nil) ⟨okr.1, okr.2, (show (radS a).length ≤ 400 by omega)⟩) ds_nil)))) ?_)
  show SDq K H H D _ [.sem (scrP K ns), nI (n0 : Int), nI (n : Int), nI ((n + 200 : Nat) : Int), nI (lawPi (n + 200)), nI a, nI p, nI q, .own [foD (radS a), foD (degS [numS p q]), foD (degS (radS a))], .no, .no]
  -- what is due
  have e2b : 2 * ((n + 200 : Nat) : Int) = ((2 * (n + 200) : Nat) : Int) := by omega
  have hp2 : ((2 : Int) ^ (2 * (n + 200))).natAbs < 2 ^ 1000 := by
    rw [Int.natAbs_pow]
    exact Nat.pow_lt_pow_right (by decide) (by omega)
  refine qq hY (sd_asgO (ds := [.int (a * lawPi (n + 200) / 1800000000), .int (180 * p * 2 ^ (2 * (n + 200)) / (q * lawPi (n + 200))), .int (a * 2 ^ (n + 200) / 10000000)]) (n_lst (ds_cons (d_fdivA (d_iC (d_var (s := nI a) rfl) (d_var (s := nI (lawPi (n + 200))) rfl) (mulx_ok (a := 100) (b := 1107) (by omega) hpis (by decide))) d_ci (by decide) (lg40 (k := 100) (by decide) (by decide)))
    (ds_cons (d_fdivA (d_iC (d_iC d_ci (d_var (s := nI p) rfl) (mulx_ok (a := 100) (b := 100) (by decide) (by omega) (by decide))) (d_one (k := 2 * (n + 200)) d_ci (d_isI (d_iC d_ci (d_var (s := nI ((n + 200 : Nat) : Int)) rfl) (mulx_ok (a := 100) (b := 100) (by decide) (by omega) (by decide))) e2b) (by omega)) (mulx_ok (a := 100) (b := 1000) (by omega) hp2 (by decide))) (d_iC (d_var (s := nI q) rfl) (d_var (s := nI (lawPi (n + 200))) rfl) (mulx_ok (a := 100) (b := 1107) (by omega) hpis (by decide))) (Int.mul_pos (by omega) hpi0) (lg40 (k := 1207) (mul_small (n := 100) (by omega) hpis) (by decide)))
    (ds_cons (d_iC (d_shl (d_var (s := nI a) rfl) (d_var (s := nI ((n + 200 : Nat) : Int)) rfl) (shl_ok (n := 100) (by omega) (by omega))) d_ci ⟨by decide, by decide⟩) ds_nil)))) ?_)
  show SDq K H H D _ [.sem (scrP K ns), nI (n0 : Int), nI (n : Int), nI ((n + 200 : Nat) : Int), nI (lawPi (n + 200)), nI a, nI p, nI q, .own [foD (radS a), foD (degS [numS p q]), foD (degS (radS a))], .own [.int (a * lawPi (n + 200) / 1800000000), .int (180 * p * 2 ^ (2 * (n + 200)) / (q * lawPi (n + 200))), .int (a * 2 ^ (n + 200) / 10000000)], .no]
  -- the loop, raw: the tables of code objects grow
  intro B1 H1 σ S
  obtain ⟨fl, us, s8, hfl, _, _, dfl⟩ := S.own 8 _ rfl
  obtain ⟨dl, ws, s9, hdl, _, _, ddl⟩ := S.own 9 _ rfl
  obtain ⟨v2, s2, i2⟩ := S.val 2 _ rfl rfl
  obtain ⟨v3, s3, i3⟩ := S.val 3 _ rfl rfl
  cases i2
  cases i3
  have hTl : TabsN [(Pt, nmN)] H1 := hT.ext S.st.h
  have dF : Dt K H1 (.ref fl) (.list [foD (radS a), foD (degS [numS p q]), foD (degS (radS a))]) := .lst hfl (dts_mono S.st.bh _ _ dfl)
  have dV : Dt K H1 (.ref dl) (.list [.int (a * lawPi (n + 200) / 1800000000), .int (180 * p * 2 ^ (2 * (n + 200)) / (q * lawPi (n + 200))), .int (a * 2 ^ (n + 200) / 10000000)]) := .lst hdl (dts_mono S.st.bh _ _ ddl)
  have hlen : σ.length = 11 := S.len
  have pick : ∀ i : Nat, i < 3 → ∃ ff v, ([foD (radS a), foD (degS [numS p q]), foD (degS (radS a))] : List PyData)[i]? = some (foD ff) ∧ ([.int (a * lawPi (n + 200) / 1800000000), .int (180 * p * 2 ^ (2 * (n + 200)) / (q * lawPi (n + 200))), .int (a * 2 ^ (n + 200) / 10000000)] : List PyData)[i]? = some (.int v) ∧
      FOk (n + 64) ff ∧ Narrow n (n + 64) (lastE (n + 64) ff) ∧ Fit (outV n (lastE (n + 64) ff)).1 (outV n (lastE (n + 64) ff)).2 v := fun i hi => by
    match i, hi with
    | 0, _ => exact ⟨_, _, rfl, rfl, fit0⟩
    | 1, _ => exact ⟨_, _, rfl, rfl, fit1⟩
    | 2, _ => exact ⟨_, _, rfl, rfl, fit2⟩
  clear fit0 fit1 fit2 S dfl ddl
  generalize ([foD (radS a), foD (degS [numS p q]), foD (degS (radS a))] : List PyData) = FS at dF pick
  generalize ([.int (a * lawPi (n + 200) / 1800000000), .int (180 * p * 2 ^ (2 * (n + 200)) / (q * lawPi (n + 200))), .int (a * 2 ^ (n + 200) / 10000000)] : List PyData) = VS at dV pick
  refine q_forR1 (ea_cons ev_c ea_nil) (by decide) (fun i σ' H' => (σ'.length = 11 ∧ ∀ j, j < 10 → σ'[j]? = σ[j]?) ∧ ExtN H1 H' ∧ TabsN [(Pt, nmN)] H') (fun H2 e2 => ⟨⟨hlen, fun _ _ => rfl⟩, extN_of e2, hTl.ext e2⟩) (fun i σ' H' hi hP => ?_) (fun σ' H' hP => ?_)
  · obtain ⟨⟨l1, l2⟩, eN, hT2⟩ := hP
    obtain ⟨ff, v, gf, gv, fok, nar, fit⟩ := pick i (by omega)
    generalize hσ : σ'.set 10 (some (.int (i : Int))) = τ
    have t1 : τ.length = 11 := by rw [← hσ, List.length_set]; exact l1
    have t2 : ∀ j, j < 10 → τ[j]? = σ[j]? := fun j hj => by
      rw [← hσ, List.getElem?_set_ne (by omega)]
      exact l2 j hj
    have t10 : τ[10]? = some (some (.int (i : Int))) := by
      rw [← hσ]
      exact get_set_eq (by omega)
    have Sx : ∀ H'' : Hp, ExtN H1 H'' → Sc K H'' H'' H'' H'' τ [.no, .no, nI (n : Int), nI ((n + 200 : Nat) : Int), .no, .no, .no, .no, .dat (.list FS), .dat (.list VS), nI (i : Int)] := fun H'' e => by
      refine sc_at t1 fun j sl hj => ?_
      match j with
      | 0 | 1 | 4 | 5 | 6 | 7 => exact .inl (Option.some.inj hj).symm
      | 2 =>
        cases Option.some.inj hj
        exact .inr ⟨_, (t2 2 (by decide)).trans s2, .int _⟩
      | 3 =>
        cases Option.some.inj hj
        exact .inr ⟨_, (t2 3 (by decide)).trans s3, .int _⟩
      | 8 =>
        cases Option.some.inj hj
        exact .inr ⟨_, (t2 8 (by decide)).trans s8, dt_monoN e _ _ dF⟩
      | 9 =>
        cases Option.some.inj hj
        exact .inr ⟨_, (t2 9 (by decide)).trans s9, dt_monoN e _ _ dV⟩
      | 10 =>
        cases Option.some.inj hj
        exact .inr ⟨_, t10, .int _⟩
      | j + 11 => simp at hj
    have S1 := Sx H' eN
    have gF : ∀ H'' : Hp, EvS K H'' H'' (tOp (rIxL K) (tVar 8) (tVar 10)) [.no, .no, nI (n : Int), nI ((n + 200 : Nat) : Int), .no, .no, .no, .no, .dat (.list FS), .dat (.list VS), nI (i : Int)] (.dat (foD ff)) := fun _ => d_ixL (d_var (s := .dat (.list FS)) rfl) (d_var (s := nI (i : Int)) rfl) (atI_get gf)
    refine nestI (fun Q1 k1 => ?_) (fun H2 e2 => ?_)
    · refine b_is (b := !decide (true = true)) (c := false) (b_test (d_notB (d_callF ff (a_cons (gF H') a_nil) ⟨fok.ok, fok.ne⟩) d_cb)) rfl H' H' τ S1 Q1 fun B2 H2 st => k1 H2 st.h
    · have S2 := Sx H2 (extN_trans eN (extN_of e2))
      refine a_cons (gF H2) (a_cons (d_var (s := nI (n : Int)) rfl) a_nil) H2 H2 τ S2 _ fun as B3 H3 st3 i3 => ?_
      cases i3 with
      | cons j1 i3 =>
      cases i3 with
      | cons j2 i3 =>
      cases i3
      cases j2
      obtain ⟨fa, vs, rfl, hfa, hfs⟩ := fo_inv (dt_mono st3.bh _ _ j1)
      refine ⟨fa, n, vs, ff, rfl, hfa, hfs, fok, by omega, nar, (hT2.ext e2).ext st3.h, fun v4 H4 e4 tb4 dv => ?_⟩
      have eN4 : ExtN H1 H4 := extN_trans (extN_trans eN (extN_of (e2.trans st3.h))) e4
      have S4 := Sx H4 eN4
      refine a_cons (d_var (s := nI (n : Int)) rfl) (a_cons (d_ixL (d_var (s := .dat (.list VS)) rfl) (d_var (s := nI (i : Int)) rfl) (atI_get gv)) (a_cons (d_var (s := nI ((n + 200 : Nat) : Int)) rfl) a_nil)) H4 H4 τ S4 _ fun bs B5 H5 st5 i5 => ?_
      refine ⟨B5, (outV n (lastE (n + 64) ff), n, v), st5.bh, ?_, fit, fun vv d B6 H6 hd st6 dv6 => ?_⟩
      · rw [List.append_nil]
        exact .cons (dt_mono st5.b _ _ dv) i5
      · obtain rfl : d = .bool true := hd
        cases dv6
        refine ⟨true, rfl, ?_⟩
        show (((τ.length = 11 ∧ ∀ j, j < 10 → τ[j]? = σ[j]?) ∧ ExtN H1 H6 ∧ TabsN [(Pt, nmN)] H6) : Prop)
        exact ⟨⟨t1, t2⟩, extN_trans eN4 (extN_of (st5.h.trans st6.h)), (tb4.ext st5.h).ext st6.h⟩
  · show D.rt (.bl true) H'
    rw [hD]
    exact hq H'
theorem all_mk {l : PySem.W.OpenLaw} {w : World} {K : PySem.W.Frag} {h : Heap} {mg : Str → Option Value} {fa f0 f1 f2 f3 f4 f5 f6 f7 f8 f9 f10 f11 f12 f13 f14 f15 f16 f17 f18 f19 f20 f21 f22 f23 f24 f25 f26 f27 f28 f29 f30 f31 f32 f33 f34 f35 f36 f37 f38 f39 f40 f41 f42 f43 f44 f45 f46 f47 : Addr} (X : K.In h) (G : h.Ns mainGlobals mg) (hfa : mg "law" = some (.ref fa))
    {od0 an0 od1 an1 od2 an2 od3 an3 od4 an4 od5 an5 od6 an6 od7 an7 od8 an8 od9 an9 od10 an10 od11 an11 od12 an12 od13 an13 od14 an14 od15 an15 od16 an16 od17 an17 od18 an18 od19 an19 od20 an20 od21 an21 od22 an22 od23 an23 od24 an24 od25 an25 od26 an26 od27 an27 od28 an28 od29 an29 od30 an30 od31 an31 od32 an32 od33 an33 od34 an34 od35 an35 od36 an36 od37 an37 od38 an38 od39 an39 od40 an40 od41 an41 od42 an42 od43 an43 od44 an44 od45 an45 od46 an46 od47 an47 : Option Addr} {sl0 sl1 sl2 sl3 sl4 sl5 sl6 sl7 sl8 sl9 sl10 sl11 sl12 sl13 sl14 sl15 sl16 sl17 sl18 sl19 sl20 sl21 sl22 sl23 sl24 sl25 sl26 sl27 sl28 sl29 sl30 sl31 sl32 sl33 sl34 sl35 sl36 sl37 sl38 sl39 sl40 sl41 sl42 sl43 sl44 sl45 sl46 sl47 : Array (Option Value)} {oc0 kV0 dc0 pm0 cd0 ct0 oc1 kV1 dc1 pm1 cd1 ct1 oc2 kV2 dc2 pm2 cd2 ct2 oc3 kV3 dc3 pm3 cd3 ct3 oc4 kV4 dc4 pm4 cd4 ct4 oc5 kV5 dc5 pm5 cd5 ct5 oc6 kV6 dc6 pm6 cd6 ct6 oc7 kV7 dc7 pm7 cd7 ct7 oc8 kV8 dc8 pm8 cd8 ct8 oc9 kV9 dc9 pm9 cd9 ct9 oc10 kV10 dc10 pm10 cd10 ct10 oc11 kV11 dc11 pm11 cd11 ct11 oc12 kV12 dc12 pm12 cd12 ct12 oc13 kV13 dc13 pm13 cd13 ct13 oc14 kV14 dc14 pm14 cd14 ct14 oc15 kV15 dc15 pm15 cd15 ct15 oc16 kV16 dc16 pm16 cd16 ct16 oc17 kV17 dc17 pm17 cd17 ct17 oc18 kV18 dc18 pm18 cd18 ct18 oc19 kV19 dc19 pm19 cd19 ct19 oc20 kV20 dc20 pm20 cd20 ct20 oc21 kV21 dc21 pm21 cd21 ct21 oc22 kV22 dc22 pm22 cd22 ct22 oc23 kV23 dc23 pm23 cd23 ct23 oc24 kV24 dc24 pm24 cd24 ct24 oc25 kV25 dc25 pm25 cd25 ct25 oc26 kV26 dc26 pm26 cd26 ct26 oc27 kV27 dc27 pm27 cd27 ct27 oc28 kV28 dc28 pm28 cd28 ct28 oc29 kV29 dc29 pm29 cd29 ct29 oc30 kV30 dc30 pm30 cd30 ct30 oc31 kV31 dc31 pm31 cd31 ct31 oc32 kV32 dc32 pm32 cd32 ct32 oc33 kV33 dc33 pm33 cd33 ct33 oc34 kV34 dc34 pm34 cd34 ct34 oc35 kV35 dc35 pm35 cd35 ct35 oc36 kV36 dc36 pm36 cd36 ct36 oc37 kV37 dc37 pm37 cd37 ct37 oc38 kV38 dc38 pm38 cd38 ct38 oc39 kV39 dc39 pm39 cd39 ct39 oc40 kV40 dc40 pm40 cd40 ct40 oc41 kV41 dc41 pm41 cd41 ct41 oc42 kV42 dc42 pm42 cd42 ct42 oc43 kV43 dc43 pm43 cd43 ct43 oc44 kV44 dc44 pm44 cd44 ct44 oc45 kV45 dc45 pm45 cd45 ct45 oc46 kV46 dc46 pm46 cd46 ct46 oc47 kV47 dc47 pm47 cd47 ct47 : Value}
    (a0 : PySem.W.nsIn K mainGlobals "is_integer" = some (some (.ref f0))) (l0 : K.lookup f0 = some ⟨oc0, od0, .func (PySem.W.fnOf "is_integer" "is_integer" (defArgs s_is_integer) (defBody s_is_integer) (defScope s_is_integer) .none kV0 dc0 pm0 an0 cd0 ct0), sl0⟩) (c0 : PySem.W.codeIn K cd0 "is_integer" = true) (k0 : PySem.W.keepIn K (.ref f0) = true)
    (a1 : PySem.W.nsIn K mainGlobals "are_integers" = some (some (.ref f1))) (l1 : K.lookup f1 = some ⟨oc1, od1, .func (PySem.W.fnOf "are_integers" "are_integers" (defArgs s_are_integers) (defBody s_are_integers) (defScope s_are_integers) .none kV1 dc1 pm1 an1 cd1 ct1), sl1⟩) (c1 : PySem.W.codeIn K cd1 "are_integers" = true) (k1 : PySem.W.keepIn K (.ref f1) = true)
    (a2 : PySem.W.nsIn K mainGlobals "is_formula" = some (some (.ref f2))) (l2 : K.lookup f2 = some ⟨oc2, od2, .func (PySem.W.fnOf "is_formula" "is_formula" (defArgs s_is_formula) (defBody s_is_formula) (defScope s_is_formula) .none kV2 dc2 pm2 an2 cd2 ct2), sl2⟩) (c2 : PySem.W.codeIn K cd2 "is_formula" = true) (k2 : PySem.W.keepIn K (.ref f2) = true)
    (a3 : PySem.W.nsIn K mainGlobals "number" = some (some (.ref f3))) (l3 : K.lookup f3 = some ⟨oc3, od3, .func (PySem.W.fnOf "number" "number" (defArgs s_number) (defBody s_number) (defScope s_number) .none kV3 dc3 pm3 an3 cd3 ct3), sl3⟩) (c3 : PySem.W.codeIn K cd3 "number" = true) (k3 : PySem.W.keepIn K (.ref f3) = true)
    (a4 : PySem.W.nsIn K mainGlobals "pi_formula" = some (some (.ref f4))) (l4 : K.lookup f4 = some ⟨oc4, od4, .func (PySem.W.fnOf "pi_formula" "pi_formula" (defArgs s_pi_formula) (defBody s_pi_formula) (defScope s_pi_formula) .none kV4 dc4 pm4 an4 cd4 ct4), sl4⟩) (c4 : PySem.W.codeIn K cd4 "pi_formula" = true) (k4 : PySem.W.keepIn K (.ref f4) = true)
    (a5 : PySem.W.nsIn K mainGlobals "times" = some (some (.ref f5))) (l5 : K.lookup f5 = some ⟨oc5, od5, .func (PySem.W.fnOf "times" "times" (defArgs s_times) (defBody s_times) (defScope s_times) .none kV5 dc5 pm5 an5 cd5 ct5), sl5⟩) (c5 : PySem.W.codeIn K cd5 "times" = true) (k5 : PySem.W.keepIn K (.ref f5) = true)
    (a6 : PySem.W.nsIn K mainGlobals "over" = some (some (.ref f6))) (l6 : K.lookup f6 = some ⟨oc6, od6, .func (PySem.W.fnOf "over" "over" (defArgs s_over) (defBody s_over) (defScope s_over) .none kV6 dc6 pm6 an6 cd6 ct6), sl6⟩) (c6 : PySem.W.codeIn K cd6 "over" = true) (k6 : PySem.W.keepIn K (.ref f6) = true)
    (a7 : PySem.W.nsIn K mainGlobals "is_step" = some (some (.ref f7))) (l7 : K.lookup f7 = some ⟨oc7, od7, .func (PySem.W.fnOf "is_step" "is_step" (defArgs s_is_step) (defBody s_is_step) (defScope s_is_step) .none kV7 dc7 pm7 an7 cd7 ct7), sl7⟩) (c7 : PySem.W.codeIn K cd7 "is_step" = true) (k7 : PySem.W.keepIn K (.ref f7) = true)
    (a8 : PySem.W.nsIn K mainGlobals "moved" = some (some (.ref f8))) (l8 : K.lookup f8 = some ⟨oc8, od8, .func (PySem.W.fnOf "moved" "moved" (defArgs s_moved) (defBody s_moved) (defScope s_moved) .none kV8 dc8 pm8 an8 cd8 ct8), sl8⟩) (c8 : PySem.W.codeIn K cd8 "moved" = true) (k8 : PySem.W.keepIn K (.ref f8) = true)
    (a9 : PySem.W.nsIn K mainGlobals "combined" = some (some (.ref f9))) (l9 : K.lookup f9 = some ⟨oc9, od9, .func (PySem.W.fnOf "combined" "combined" (defArgs s_combined) (defBody s_combined) (defScope s_combined) .none kV9 dc9 pm9 an9 cd9 ct9), sl9⟩) (c9 : PySem.W.codeIn K cd9 "combined" = true) (k9 : PySem.W.keepIn K (.ref f9) = true)
    (a10 : PySem.W.nsIn K mainGlobals "merged" = some (some (.ref f10))) (l10 : K.lookup f10 = some ⟨oc10, od10, .func (PySem.W.fnOf "merged" "merged" (defArgs s_merged) (defBody s_merged) (defScope s_merged) .none kV10 dc10 pm10 an10 cd10 ct10), sl10⟩) (c10 : PySem.W.codeIn K cd10 "merged" = true) (k10 : PySem.W.keepIn K (.ref f10) = true)
    (a11 : PySem.W.nsIn K mainGlobals "merged_into" = some (some (.ref f11))) (l11 : K.lookup f11 = some ⟨oc11, od11, .func (PySem.W.fnOf "merged_into" "merged_into" (defArgs s_merged_into) (defBody s_merged_into) (defScope s_merged_into) .none kV11 dc11 pm11 an11 cd11 ct11), sl11⟩) (c11 : PySem.W.codeIn K cd11 "merged_into" = true) (k11 : PySem.W.keepIn K (.ref f11) = true)
    (a12 : PySem.W.nsIn K mainGlobals "exact_values" = some (some (.ref f12))) (l12 : K.lookup f12 = some ⟨oc12, od12, .func (PySem.W.fnOf "exact_values" "exact_values" (defArgs s_exact_values) (defBody s_exact_values) (defScope s_exact_values) .none kV12 dc12 pm12 an12 cd12 ct12), sl12⟩) (c12 : PySem.W.codeIn K cd12 "exact_values" = true) (k12 : PySem.W.keepIn K (.ref f12) = true)
    (a13 : PySem.W.nsIn K mainGlobals "exact_value" = some (some (.ref f13))) (l13 : K.lookup f13 = some ⟨oc13, od13, .func (PySem.W.fnOf "exact_value" "exact_value" (defArgs s_exact_value) (defBody s_exact_value) (defScope s_exact_value) .none kV13 dc13 pm13 an13 cd13 ct13), sl13⟩) (c13 : PySem.W.codeIn K cd13 "exact_value" = true) (k13 : PySem.W.keepIn K (.ref f13) = true)
    (a14 : PySem.W.nsIn K mainGlobals "lowest_terms" = some (some (.ref f14))) (l14 : K.lookup f14 = some ⟨oc14, od14, .func (PySem.W.fnOf "lowest_terms" "lowest_terms" (defArgs s_lowest_terms) (defBody s_lowest_terms) (defScope s_lowest_terms) .none kV14 dc14 pm14 an14 cd14 ct14), sl14⟩) (c14 : PySem.W.codeIn K cd14 "lowest_terms" = true) (k14 : PySem.W.keepIn K (.ref f14) = true)
    (a15 : PySem.W.nsIn K mainGlobals "fraction" = some (some (.ref f15))) (l15 : K.lookup f15 = some ⟨oc15, od15, .func (PySem.W.fnOf "fraction" "fraction" (defArgs s_fraction) (defBody s_fraction) (defScope s_fraction) .none kV15 dc15 pm15 an15 cd15 ct15), sl15⟩) (c15 : PySem.W.codeIn K cd15 "fraction" = true) (k15 : PySem.W.keepIn K (.ref f15) = true)
    (a16 : PySem.W.nsIn K mainGlobals "product" = some (some (.ref f16))) (l16 : K.lookup f16 = some ⟨oc16, od16, .func (PySem.W.fnOf "product" "product" (defArgs s_product) (defBody s_product) (defScope s_product) .none kV16 dc16 pm16 an16 cd16 ct16), sl16⟩) (c16 : PySem.W.codeIn K cd16 "product" = true) (k16 : PySem.W.keepIn K (.ref f16) = true)
    (a17 : PySem.W.nsIn K mainGlobals "joined" = some (some (.ref f17))) (l17 : K.lookup f17 = some ⟨oc17, od17, .func (PySem.W.fnOf "joined" "joined" (defArgs s_joined) (defBody s_joined) (defScope s_joined) .none kV17 dc17 pm17 an17 cd17 ct17), sl17⟩) (c17 : PySem.W.codeIn K cd17 "joined" = true) (k17 : PySem.W.keepIn K (.ref f17) = true)
    (a18 : PySem.W.nsIn K mainGlobals "is_fraction" = some (some (.ref f18))) (l18 : K.lookup f18 = some ⟨oc18, od18, .func (PySem.W.fnOf "is_fraction" "is_fraction" (defArgs s_is_fraction) (defBody s_is_fraction) (defScope s_is_fraction) .none kV18 dc18 pm18 an18 cd18 ct18), sl18⟩) (c18 : PySem.W.codeIn K cd18 "is_fraction" = true) (k18 : PySem.W.keepIn K (.ref f18) = true)
    (a19 : PySem.W.nsIn K mainGlobals "is_number" = some (some (.ref f19))) (l19 : K.lookup f19 = some ⟨oc19, od19, .func (PySem.W.fnOf "is_number" "is_number" (defArgs s_is_number) (defBody s_is_number) (defScope s_is_number) .none kV19 dc19 pm19 an19 cd19 ct19), sl19⟩) (c19 : PySem.W.codeIn K cd19 "is_number" = true) (k19 : PySem.W.keepIn K (.ref f19) = true)
    (a20 : PySem.W.nsIn K mainGlobals "radians" = some (some (.ref f20))) (l20 : K.lookup f20 = some ⟨oc20, od20, .func (PySem.W.fnOf "radians" "radians" (defArgs s_radians) (defBody s_radians) (defScope s_radians) .none kV20 dc20 pm20 an20 cd20 ct20), sl20⟩) (c20 : PySem.W.codeIn K cd20 "radians" = true) (k20 : PySem.W.keepIn K (.ref f20) = true)
    (a21 : PySem.W.nsIn K mainGlobals "degrees" = some (some (.ref f21))) (l21 : K.lookup f21 = some ⟨oc21, od21, .func (PySem.W.fnOf "degrees" "degrees" (defArgs s_degrees) (defBody s_degrees) (defScope s_degrees) .none kV21 dc21 pm21 an21 cd21 ct21), sl21⟩) (c21 : PySem.W.codeIn K cd21 "degrees" = true) (k21 : PySem.W.keepIn K (.ref f21) = true)
    (a22 : PySem.W.nsIn K mainGlobals "of_fraction" = some (some (.ref f22))) (l22 : K.lookup f22 = some ⟨oc22, od22, .func (PySem.W.fnOf "of_fraction" "of_fraction" (defArgs s_of_fraction) (defBody s_of_fraction) (defScope s_of_fraction) .none kV22 dc22 pm22 an22 cd22 ct22), sl22⟩) (c22 : PySem.W.codeIn K cd22 "of_fraction" = true) (k22 : PySem.W.keepIn K (.ref f22) = true)
    (a23 : PySem.W.nsIn K mainGlobals "rescaled" = some (some (.ref f23))) (l23 : K.lookup f23 = some ⟨oc23, od23, .func (PySem.W.fnOf "rescaled" "rescaled" (defArgs s_rescaled) (defBody s_rescaled) (defScope s_rescaled) .none kV23 dc23 pm23 an23 cd23 ct23), sl23⟩) (c23 : PySem.W.codeIn K cd23 "rescaled" = true) (k23 : PySem.W.keepIn K (.ref f23) = true)
    (a24 : PySem.W.nsIn K mainGlobals "multiplied" = some (some (.ref f24))) (l24 : K.lookup f24 = some ⟨oc24, od24, .func (PySem.W.fnOf "multiplied" "multiplied" (defArgs s_multiplied) (defBody s_multiplied) (defScope s_multiplied) .none kV24 dc24 pm24 an24 cd24 ct24), sl24⟩) (c24 : PySem.W.codeIn K cd24 "multiplied" = true) (k24 : PySem.W.keepIn K (.ref f24) = true)
    (a25 : PySem.W.nsIn K mainGlobals "divided" = some (some (.ref f25))) (l25 : K.lookup f25 = some ⟨oc25, od25, .func (PySem.W.fnOf "divided" "divided" (defArgs s_divided) (defBody s_divided) (defScope s_divided) .none kV25 dc25 pm25 an25 cd25 ct25), sl25⟩) (c25 : PySem.W.codeIn K cd25 "divided" = true) (k25 : PySem.W.keepIn K (.ref f25) = true)
    (a26 : PySem.W.nsIn K mainGlobals "fewer_bits" = some (some (.ref f26))) (l26 : K.lookup f26 = some ⟨oc26, od26, .func (PySem.W.fnOf "fewer_bits" "fewer_bits" (defArgs s_fewer_bits) (defBody s_fewer_bits) (defScope s_fewer_bits) .none kV26 dc26 pm26 an26 cd26 ct26), sl26⟩) (c26 : PySem.W.codeIn K cd26 "fewer_bits" = true) (k26 : PySem.W.keepIn K (.ref f26) = true)
    (a27 : PySem.W.nsIn K mainGlobals "nearest" = some (some (.ref f27))) (l27 : K.lookup f27 = some ⟨oc27, od27, .func (PySem.W.fnOf "nearest" "nearest" (defArgs s_nearest) (defBody s_nearest) (defScope s_nearest) .none kV27 dc27 pm27 an27 cd27 ct27), sl27⟩) (c27 : PySem.W.codeIn K cd27 "nearest" = true) (k27 : PySem.W.keepIn K (.ref f27) = true)
    (a28 : PySem.W.nsIn K mainGlobals "reciprocal_series" = some (some (.ref f28))) (l28 : K.lookup f28 = some ⟨oc28, od28, .func (PySem.W.fnOf "reciprocal_series" "reciprocal_series" (defArgs s_reciprocal_series) (defBody s_reciprocal_series) (defScope s_reciprocal_series) .none kV28 dc28 pm28 an28 cd28 ct28), sl28⟩) (c28 : PySem.W.codeIn K cd28 "reciprocal_series" = true) (k28 : PySem.W.keepIn K (.ref f28) = true)
    (a29 : PySem.W.nsIn K mainGlobals "pi_scaled" = some (some (.ref f29))) (l29 : K.lookup f29 = some ⟨oc29, od29, .func (PySem.W.fnOf "pi_scaled" "pi_scaled" (defArgs s_pi_scaled) (defBody s_pi_scaled) (defScope s_pi_scaled) .none kV29 dc29 pm29 an29 cd29 ct29), sl29⟩) (c29 : PySem.W.codeIn K cd29 "pi_scaled" = true) (k29 : PySem.W.keepIn K (.ref f29) = true)
    (a30 : PySem.W.nsIn K mainGlobals "pi_enclosed" = some (some (.ref f30))) (l30 : K.lookup f30 = some ⟨oc30, od30, .func (PySem.W.fnOf "pi_enclosed" "pi_enclosed" (defArgs s_pi_enclosed) (defBody s_pi_enclosed) (defScope s_pi_enclosed) .none kV30 dc30 pm30 an30 cd30 ct30), sl30⟩) (c30 : PySem.W.codeIn K cd30 "pi_enclosed" = true) (k30 : PySem.W.keepIn K (.ref f30) = true)
    (a31 : PySem.W.nsIn K mainGlobals "outwards" = some (some (.ref f31))) (l31 : K.lookup f31 = some ⟨oc31, od31, .func (PySem.W.fnOf "outwards" "outwards" (defArgs s_outwards) (defBody s_outwards) (defScope s_outwards) .none kV31 dc31 pm31 an31 cd31 ct31), sl31⟩) (c31 : PySem.W.codeIn K cd31 "outwards" = true) (k31 : PySem.W.keepIn K (.ref f31) = true)
    (a32 : PySem.W.nsIn K mainGlobals "results" = some (some (.ref f32))) (l32 : K.lookup f32 = some ⟨oc32, od32, .func (PySem.W.fnOf "results" "results" (defArgs s_results) (defBody s_results) (defScope s_results) .none kV32 dc32 pm32 an32 cd32 ct32), sl32⟩) (c32 : PySem.W.codeIn K cd32 "results" = true) (k32 : PySem.W.keepIn K (.ref f32) = true)
    (a33 : PySem.W.nsIn K mainGlobals "lacks_value" = some (some (.ref f33))) (l33 : K.lookup f33 = some ⟨oc33, od33, .func (PySem.W.fnOf "lacks_value" "lacks_value" (defArgs s_lacks_value) (defBody s_lacks_value) (defScope s_lacks_value) .none kV33 dc33 pm33 an33 cd33 ct33), sl33⟩) (c33 : PySem.W.codeIn K cd33 "lacks_value" = true) (k33 : PySem.W.keepIn K (.ref f33) = true)
    (a34 : PySem.W.nsIn K mainGlobals "decided" = some (some (.ref f34))) (l34 : K.lookup f34 = some ⟨oc34, od34, .func (PySem.W.fnOf "decided" "decided" (defArgs s_decided) (defBody s_decided) (defScope s_decided) .none kV34 dc34 pm34 an34 cd34 ct34), sl34⟩) (c34 : PySem.W.codeIn K cd34 "decided" = true) (k34 : PySem.W.keepIn K (.ref f34) = true)
    (a35 : PySem.W.nsIn K mainGlobals "narrow_steps" = some (some (.ref f35))) (l35 : K.lookup f35 = some ⟨oc35, od35, .func (PySem.W.fnOf "narrow_steps" "narrow_steps" (defArgs s_narrow_steps) (defBody s_narrow_steps) (defScope s_narrow_steps) .none kV35 dc35 pm35 an35 cd35 ct35), sl35⟩) (c35 : PySem.W.codeIn K cd35 "narrow_steps" = true) (k35 : PySem.W.keepIn K (.ref f35) = true)
    (a36 : PySem.W.nsIn K mainGlobals "bits_to_try" = some (some (.ref f36))) (l36 : K.lookup f36 = some ⟨oc36, od36, .func (PySem.W.fnOf "bits_to_try" "bits_to_try" (defArgs s_bits_to_try) (defBody s_bits_to_try) (defScope s_bits_to_try) .none kV36 dc36 pm36 an36 cd36 ct36), sl36⟩) (c36 : PySem.W.codeIn K cd36 "bits_to_try" = true) (k36 : PySem.W.keepIn K (.ref f36) = true)
    (a37 : PySem.W.nsIn K mainGlobals "enclosed_steps" = some (some (.ref f37))) (l37 : K.lookup f37 = some ⟨oc37, od37, .func (PySem.W.fnOf "enclosed_steps" "enclosed_steps" (defArgs s_enclosed_steps) (defBody s_enclosed_steps) (defScope s_enclosed_steps) .none kV37 dc37 pm37 an37 cd37 ct37), sl37⟩) (c37 : PySem.W.codeIn K cd37 "enclosed_steps" = true) (k37 : PySem.W.keepIn K (.ref f37) = true)
    (a38 : PySem.W.nsIn K mainGlobals "refuse_undefined" = some (some (.ref f38))) (l38 : K.lookup f38 = some ⟨oc38, od38, .func (PySem.W.fnOf "refuse_undefined" "refuse_undefined" (defArgs s_refuse_undefined) (defBody s_refuse_undefined) (defScope s_refuse_undefined) .none kV38 dc38 pm38 an38 cd38 ct38), sl38⟩) (c38 : PySem.W.codeIn K cd38 "refuse_undefined" = true) (k38 : PySem.W.keepIn K (.ref f38) = true)
    (a39 : PySem.W.nsIn K mainGlobals "results_or_none" = some (some (.ref f39))) (l39 : K.lookup f39 = some ⟨oc39, od39, .func (PySem.W.fnOf "results_or_none" "results_or_none" (defArgs s_results_or_none) (defBody s_results_or_none) (defScope s_results_or_none) .none kV39 dc39 pm39 an39 cd39 ct39), sl39⟩) (c39 : PySem.W.codeIn K cd39 "results_or_none" = true) (k39 : PySem.W.keepIn K (.ref f39) = true)
    (a40 : PySem.W.nsIn K mainGlobals "enclose" = some (some (.ref f40))) (l40 : K.lookup f40 = some ⟨oc40, od40, .func (PySem.W.fnOf "enclose" "enclose" (defArgs s_enclose) (defBody s_enclose) (defScope s_enclose) .none kV40 dc40 pm40 an40 cd40 ct40), sl40⟩) (c40 : PySem.W.codeIn K cd40 "enclose" = true) (k40 : PySem.W.keepIn K (.ref f40) = true)
    (a41 : PySem.W.nsIn K mainGlobals "_law_is_integer" = some (some (.ref f41))) (l41 : K.lookup f41 = some ⟨oc41, od41, .func (PySem.W.fnOf "_law_is_integer" "_law_is_integer" (defArgs s_law_is_integer) (defBody s_law_is_integer) (defScope s_law_is_integer) .none kV41 dc41 pm41 an41 cd41 ct41), sl41⟩) (c41 : PySem.W.codeIn K cd41 "_law_is_integer" = true) (k41 : PySem.W.keepIn K (.ref f41) = true)
    (a42 : PySem.W.nsIn K mainGlobals "_law_cell" = some (some (.ref f42))) (l42 : K.lookup f42 = some ⟨oc42, od42, .func (PySem.W.fnOf "_law_cell" "_law_cell" (defArgs s_law_cell) (defBody s_law_cell) (defScope s_law_cell) .none kV42 dc42 pm42 an42 cd42 ct42), sl42⟩) (c42 : PySem.W.codeIn K cd42 "_law_cell" = true) (k42 : PySem.W.keepIn K (.ref f42) = true)
    (a43 : PySem.W.nsIn K mainGlobals "_law_rich" = some (some (.ref f43))) (l43 : K.lookup f43 = some ⟨oc43, od43, .func (PySem.W.fnOf "_law_rich" "_law_rich" (defArgs s_law_rich) (defBody s_law_rich) (defScope s_law_rich) .none kV43 dc43 pm43 an43 cd43 ct43), sl43⟩) (c43 : PySem.W.codeIn K cd43 "_law_rich" = true) (k43 : PySem.W.keepIn K (.ref f43) = true)
    (a44 : PySem.W.nsIn K mainGlobals "_law_atan_sum" = some (some (.ref f44))) (l44 : K.lookup f44 = some ⟨oc44, od44, .func (PySem.W.fnOf "_law_atan_sum" "_law_atan_sum" (defArgs s_law_atan_sum) (defBody s_law_atan_sum) (defScope s_law_atan_sum) .none kV44 dc44 pm44 an44 cd44 ct44), sl44⟩) (c44 : PySem.W.codeIn K cd44 "_law_atan_sum" = true) (k44 : PySem.W.keepIn K (.ref f44) = true)
    (a45 : PySem.W.nsIn K mainGlobals "_law_pi" = some (some (.ref f45))) (l45 : K.lookup f45 = some ⟨oc45, od45, .func (PySem.W.fnOf "_law_pi" "_law_pi" (defArgs s_law_pi) (defBody s_law_pi) (defScope s_law_pi) .none kV45 dc45 pm45 an45 cd45 ct45), sl45⟩) (c45 : PySem.W.codeIn K cd45 "_law_pi" = true) (k45 : PySem.W.keepIn K (.ref f45) = true)
    (a46 : PySem.W.nsIn K mainGlobals "_law_fits" = some (some (.ref f46))) (l46 : K.lookup f46 = some ⟨oc46, od46, .func (PySem.W.fnOf "_law_fits" "_law_fits" (defArgs s_law_fits) (defBody s_law_fits) (defScope s_law_fits) .none kV46 dc46 pm46 an46 cd46 ct46), sl46⟩) (c46 : PySem.W.codeIn K cd46 "_law_fits" = true) (k46 : PySem.W.keepIn K (.ref f46) = true)
    (a47 : PySem.W.nsIn K mainGlobals "law" = some (some (.ref f47))) (l47 : K.lookup f47 = some ⟨oc47, od47, .func (PySem.W.fnOf "law" "law" (defArgs s_law) (defBody s_law) (defScope s_law) .none kV47 dc47 pm47 an47 cd47 ct47), sl47⟩) (c47 : PySem.W.codeIn K cd47 "law" = true) (k47 : PySem.W.keepIn K (.ref f47) = true)
    (z0 : PySem.W.nsIn K mainGlobals "len" = some none)
    (z1 : PySem.W.nsIn K mainGlobals "abs" = some none)
    (z2 : PySem.W.nsIn K mainGlobals "int" = some none)
    (z3 : PySem.W.nsIn K mainGlobals "bool" = some none)
    (z4 : PySem.W.nsIn K mainGlobals "str" = some none)
    (z5 : PySem.W.nsIn K mainGlobals "tuple" = some none)
    (z6 : PySem.W.nsIn K mainGlobals "list" = some none)
    (z7 : PySem.W.nsIn K mainGlobals "range" = some none)
    (z8 : PySem.W.nsIn K mainGlobals "isinstance" = some none)
    (z9 : PySem.W.nsIn K mainGlobals "zip" = some none)
    (z10 : PySem.W.nsIn K mainGlobals "max" = some none)
    (z11 : PySem.W.nsIn K mainGlobals "min" = some none)
    (z12 : PySem.W.nsIn K mainGlobals "enumerate" = some none)
    {dd : Addr} {es : Array DictEntry} {nd : Nat} {t0 t1 t2 t3 t4 t5 t6 t7 t8 t9 t10 t11 t12 t13 : Tok} (zc : PySem.W.nsIn K mainGlobals "COUNTS" = some (some (.ref dd))) (zl : K.lookup dd = some ⟨.type "dict", none, .dict es nd, #[]⟩) (zk : PySem.W.KeysLit w.params es.toList) (zo : (dd == sysModules) = false)
    (y0 : PySem.W.nsIn K dd "number" = some (some (.int 2 t0)))
    (y1 : PySem.W.nsIn K dd "pi" = some (some (.int 0 t1)))
    (y2 : PySem.W.nsIn K dd "add" = some (some (.int 2 t2)))
    (y3 : PySem.W.nsIn K dd "subtract" = some (some (.int 2 t3)))
    (y4 : PySem.W.nsIn K dd "times" = some (some (.int 2 t4)))
    (y5 : PySem.W.nsIn K dd "divide" = some (some (.int 2 t5)))
    (y6 : PySem.W.nsIn K dd "root" = some (some (.int 1 t6)))
    (y7 : PySem.W.nsIn K dd "sine" = some (some (.int 1 t7)))
    (y8 : PySem.W.nsIn K dd "cosine" = some (some (.int 1 t8)))
    (y9 : PySem.W.nsIn K dd "exp" = some (some (.int 1 t9)))
    (y10 : PySem.W.nsIn K dd "log" = some (some (.int 1 t10)))
    (y11 : PySem.W.nsIn K dd "arctan" = some (some (.int 1 t11)))
    (y12 : PySem.W.nsIn K dd "arcsine" = some (some (.int 1 t12)))
    (y13 : PySem.W.nsIn K dd "arccosine" = some (some (.int 1 t13)))
    {ti0 ti1 ti2 ti3 ti4 ti5 ti6 : Tok} (ui0 : PySem.W.nsIn K mainGlobals "MOST_BITS" = some (some (.int 2048 ti0))) (ui1 : PySem.W.nsIn K mainGlobals "WIDTH" = some (some (.int 4 ti1))) (ui2 : PySem.W.nsIn K mainGlobals "SPARE_BITS" = some (some (.int 64 ti2))) (ui3 : PySem.W.nsIn K mainGlobals "GUARD" = some (some (.int 32 ti3))) (ui4 : PySem.W.nsIn K mainGlobals "EXTRA" = some (some (.int 32 ti4))) (ui5 : PySem.W.nsIn K mainGlobals "MOST_DIGITS" = some (some (.int 262144 ti5))) (ui6 : PySem.W.nsIn K mainGlobals "HALF_TURN" = some (some (.int 1800000000 ti6))) (ug : PySem.W.nsIn K mainGlobals "gcd" = some (some (.builtin "math.gcd")))
    {aO aZ aS : Addr} {wO0 wO1 wO2 wO3 wZ0 wZ1 wZ2 : Tok} {nO nZ nS : Nat} {slO slZ slS : Array (Option Value)} (vO : PySem.W.nsIn K mainGlobals "OPERATIONS" = some (some (.ref aO))) (oO : K.lookup aO = some ⟨.type "tuple", none, .seq #[.str "add" wO0, .str "subtract" wO1, .str "times" wO2, .str "divide" wO3] nO, slO⟩)
    (vZ : PySem.W.nsIn K mainGlobals "ZERO" = some (some (.ref aZ))) (oZ : K.lookup aZ = some ⟨.type "tuple", none, .seq #[.ref aS] nZ, slZ⟩) (oS : K.lookup aS = some ⟨.type "tuple", none, .seq #[.str "number" wZ0, .int 0 wZ1, .int 1 wZ2] nS, slS⟩)
    {cT PT : Addr} (tt : PySem.W.tabIn K "narrow_steps" = some (cT, PT)) (nT : K.lookup PT = none) (hTab : ∀ c p, PySem.W.tabIn K "narrow_steps" = some (c, p) → PySem.W.CodeHd h c p ∧ h.get? p = some { cls := .none, data := .fields #[] })
    : LawAtS l w K CX0 10 63 "script" mg fa h := by
  have e := hfa.symm.trans (PySem.W.mg_of X G a47)
  cases e
  have F_is_integer := fun_mk (st := s_is_integer) l0 c0 k0
  have F_are_integers := fun_mk (st := s_are_integers) l1 c1 k1
  have F_is_formula := fun_mk (st := s_is_formula) l2 c2 k2
  have F_number := fun_mk (st := s_number) l3 c3 k3
  have F_pi_formula := fun_mk (st := s_pi_formula) l4 c4 k4
  have F_times := fun_mk (st := s_times) l5 c5 k5
  have F_over := fun_mk (st := s_over) l6 c6 k6
  have F_is_step := fun_mk (st := s_is_step) l7 c7 k7
  have F_moved := fun_mk (st := s_moved) l8 c8 k8
  have F_combined := fun_mk (st := s_combined) l9 c9 k9
  have F_merged := fun_mk (st := s_merged) l10 c10 k10
  have F_merged_into := fun_mk (st := s_merged_into) l11 c11 k11
  have F_exact_values := fun_mk (st := s_exact_values) l12 c12 k12
  have F_exact_value := fun_mk (st := s_exact_value) l13 c13 k13
  have F_lowest_terms := fun_mk (st := s_lowest_terms) l14 c14 k14
  have F_fraction := fun_mk (st := s_fraction) l15 c15 k15
  have F_product := fun_mk (st := s_product) l16 c16 k16
  have F_joined := fun_mk (st := s_joined) l17 c17 k17
  have F_is_fraction := fun_mk (st := s_is_fraction) l18 c18 k18
  have F_is_number := fun_mk (st := s_is_number) l19 c19 k19
  have F_radians := fun_mk (st := s_radians) l20 c20 k20
  have F_degrees := fun_mk (st := s_degrees) l21 c21 k21
  have F_of_fraction := fun_mk (st := s_of_fraction) l22 c22 k22
  have F_rescaled := fun_mk (st := s_rescaled) l23 c23 k23
  have F_multiplied := fun_mk (st := s_multiplied) l24 c24 k24
  have F_divided := fun_mk (st := s_divided) l25 c25 k25
  have F_fewer_bits := fun_mk (st := s_fewer_bits) l26 c26 k26
  have F_nearest := fun_mk (st := s_nearest) l27 c27 k27
  have F_reciprocal_series := fun_mk (st := s_reciprocal_series) l28 c28 k28
  have F_pi_scaled := fun_mk (st := s_pi_scaled) l29 c29 k29
  have F_pi_enclosed := fun_mk (st := s_pi_enclosed) l30 c30 k30
  have F_outwards := fun_mk (st := s_outwards) l31 c31 k31
  have F_results := fun_mk (st := s_results) l32 c32 k32
  have F_lacks_value := fun_mk (st := s_lacks_value) l33 c33 k33
  have F_decided := fun_mk (st := s_decided) l34 c34 k34
  have F_narrow_steps := fun_mk (st := s_narrow_steps) l35 c35 k35
  have F_bits_to_try := fun_mk (st := s_bits_to_try) l36 c36 k36
  have F_enclosed_steps := fun_mk (st := s_enclosed_steps) l37 c37 k37
  have F_refuse_undefined := fun_mk (st := s_refuse_undefined) l38 c38 k38
  have F_results_or_none := fun_mk (st := s_results_or_none) l39 c39 k39
  have F_enclose := fun_mk (st := s_enclose) l40 c40 k40
  have F_law_is_integer := fun_mk (st := s_law_is_integer) l41 c41 k41
  have F_law_cell := fun_mk (st := s_law_cell) l42 c42 k42
  have F_law_rich := fun_mk (st := s_law_rich) l43 c43 k43
  have F_law_atan_sum := fun_mk (st := s_law_atan_sum) l44 c44 k44
  have F_law_pi := fun_mk (st := s_law_pi) l45 c45 k45
  have F_law_fits := fun_mk (st := s_law_fits) l46 c46 k46
  have F_law := fun_mk (st := s_law) l47 c47 k47
  have b_is_integer := F_is_integer.binds (ps := ["value"]) fun _ _ _ _ _ _ us hl => match us, hl with | [_], _ => rfl
  have g_is_integer := PySem.W.mg_of X G a0
  have b_are_integers := F_are_integers.binds (ps := ["values"]) fun _ _ _ _ _ _ us hl => match us, hl with | [_], _ => rfl
  have g_are_integers := PySem.W.mg_of X G a1
  have b_is_formula := F_is_formula.binds (ps := ["value"]) fun _ _ _ _ _ _ us hl => match us, hl with | [_], _ => rfl
  have g_is_formula := PySem.W.mg_of X G a2
  have b_number := F_number.binds (ps := ["p", "q"]) fun _ _ _ _ _ _ us hl => match us, hl with | [_, _], _ => rfl
  have g_number := PySem.W.mg_of X G a3
  have b_pi_formula := F_pi_formula.binds (ps := []) fun _ _ _ _ _ _ us hl => match us, hl with | [], _ => rfl
  have g_pi_formula := PySem.W.mg_of X G a4
  have b_times := F_times.binds (ps := ["f", "g"]) fun _ _ _ _ _ _ us hl => match us, hl with | [_, _], _ => rfl
  have g_times := PySem.W.mg_of X G a5
  have b_over := F_over.binds (ps := ["f", "g"]) fun _ _ _ _ _ _ us hl => match us, hl with | [_, _], _ => rfl
  have g_over := PySem.W.mg_of X G a6
  have b_is_step := F_is_step.binds (ps := ["step", "place"]) fun _ _ _ _ _ _ us hl => match us, hl with | [_, _], _ => rfl
  have g_is_step := PySem.W.mg_of X G a7
  have b_moved := F_moved.binds (ps := ["step", "places"]) fun _ _ _ _ _ _ us hl => match us, hl with | [_, _], _ => rfl
  have g_moved := PySem.W.mg_of X G a8
  have b_combined := F_combined.binds (ps := ["word", "f", "g"]) fun _ _ _ _ _ _ us hl => match us, hl with | [_, _, _], _ => rfl
  have g_combined := PySem.W.mg_of X G a9
  have b_merged := F_merged.binds (ps := ["formula"]) fun _ _ _ _ _ _ us hl => match us, hl with | [_], _ => rfl
  have g_merged := PySem.W.mg_of X G a10
  have b_merged_into := F_merged_into.binds (ps := ["kept", "place_of", "formula"]) fun _ _ _ _ _ _ us hl => match us, hl with | [_, _, _], _ => rfl
  have g_merged_into := PySem.W.mg_of X G a11
  have b_exact_values := F_exact_values.binds (ps := ["steps"]) fun _ _ _ _ _ _ us hl => match us, hl with | [_], _ => rfl
  have g_exact_values := PySem.W.mg_of X G a12
  have b_exact_value := F_exact_value.binds (ps := ["step", "found"]) fun _ _ _ _ _ _ us hl => match us, hl with | [_, _], _ => rfl
  have g_exact_value := PySem.W.mg_of X G a13
  have b_lowest_terms := F_lowest_terms.binds (ps := ["p", "q"]) fun _ _ _ _ _ _ us hl => match us, hl with | [_, _], _ => rfl
  have g_lowest_terms := PySem.W.mg_of X G a14
  have b_fraction := F_fraction.binds (ps := ["p", "q"]) fun _ _ _ _ _ _ us hl => match us, hl with | [_, _], _ => rfl
  have g_fraction := PySem.W.mg_of X G a15
  have b_product := F_product.binds (ps := ["f", "g"]) fun _ _ _ _ _ _ us hl => match us, hl with | [_, _], _ => rfl
  have g_product := PySem.W.mg_of X G a16
  have b_joined := F_joined.binds (ps := ["word", "f", "g"]) fun _ _ _ _ _ _ us hl => match us, hl with | [_, _, _], _ => rfl
  have g_joined := PySem.W.mg_of X G a17
  have b_is_fraction := F_is_fraction.binds (ps := ["f"]) fun _ _ _ _ _ _ us hl => match us, hl with | [_], _ => rfl
  have g_is_fraction := PySem.W.mg_of X G a18
  have b_is_number := F_is_number.binds (ps := ["f", "n"]) fun _ _ _ _ _ _ us hl => match us, hl with | [_, _], _ => rfl
  have g_is_number := PySem.W.mg_of X G a19
  have b_radians := F_radians.binds (ps := ["angle"]) fun _ _ _ _ _ _ us hl => match us, hl with | [_], _ => rfl
  have g_radians := PySem.W.mg_of X G a20
  have b_degrees := F_degrees.binds (ps := ["formula"]) fun _ _ _ _ _ _ us hl => match us, hl with | [_], _ => rfl
  have g_degrees := PySem.W.mg_of X G a21
  have b_of_fraction := F_of_fraction.binds (ps := ["bits", "p", "q"]) fun _ _ _ _ _ _ us hl => match us, hl with | [_, _, _], _ => rfl
  have g_of_fraction := PySem.W.mg_of X G a22
  have b_rescaled := F_rescaled.binds (ps := ["a", "bits", "other"]) fun _ _ _ _ _ _ us hl => match us, hl with | [_, _, _], _ => rfl
  have g_rescaled := PySem.W.mg_of X G a23
  have b_multiplied := F_multiplied.binds (ps := ["a", "b", "bits"]) fun _ _ _ _ _ _ us hl => match us, hl with | [_, _, _], _ => rfl
  have g_multiplied := PySem.W.mg_of X G a24
  have b_divided := F_divided.binds (ps := ["a", "b", "bits"]) fun _ _ _ _ _ _ us hl => match us, hl with | [_, _, _], _ => rfl
  have g_divided := PySem.W.mg_of X G a25
  have b_fewer_bits := F_fewer_bits.binds (ps := ["low", "high", "bits"]) fun _ _ _ _ _ _ us hl => match us, hl with | [_, _, _], _ => rfl
  have g_fewer_bits := PySem.W.mg_of X G a26
  have b_nearest := F_nearest.binds (ps := ["n", "bits"]) fun _ _ _ _ _ _ us hl => match us, hl with | [_, _], _ => rfl
  have g_nearest := PySem.W.mg_of X G a27
  have b_reciprocal_series := F_reciprocal_series.binds (ps := ["n", "bits", "sign"]) fun _ _ _ _ _ _ us hl => match us, hl with | [_, _, _], _ => rfl
  have g_reciprocal_series := PySem.W.mg_of X G a28
  have b_pi_scaled := F_pi_scaled.binds (ps := ["bits"]) fun _ _ _ _ _ _ us hl => match us, hl with | [_], _ => rfl
  have g_pi_scaled := PySem.W.mg_of X G a29
  have b_pi_enclosed := F_pi_enclosed.binds (ps := ["bits"]) fun _ _ _ _ _ _ us hl => match us, hl with | [_], _ => rfl
  have g_pi_enclosed := PySem.W.mg_of X G a30
  have b_outwards := F_outwards.binds (ps := ["value"]) fun _ _ _ _ _ _ us hl => match us, hl with | [_], _ => rfl
  have g_outwards := PySem.W.mg_of X G a31
  have b_results := F_results.binds (ps := ["step", "enclosures", "bits"]) fun _ _ _ _ _ _ us hl => match us, hl with | [_, _, _], _ => rfl
  have g_results := PySem.W.mg_of X G a32
  have b_lacks_value := F_lacks_value.binds (ps := ["word", "low", "high", "one"]) fun _ _ _ _ _ _ us hl => match us, hl with | [_, _, _, _], _ => rfl
  have g_lacks_value := PySem.W.mg_of X G a33
  have b_decided := F_decided.binds (ps := ["formula", "bits", "verdict"]) fun _ _ _ _ _ _ us hl => match us, hl with | [_, _, _], _ => rfl
  have g_decided := PySem.W.mg_of X G a34
  have b_narrow_steps := F_narrow_steps.binds (ps := ["formula", "bits"]) fun _ _ _ _ _ _ us hl => match us, hl with | [_, _], _ => rfl
  have g_narrow_steps := PySem.W.mg_of X G a35
  have b_bits_to_try := F_bits_to_try.binds (ps := ["bits"]) fun _ _ _ _ _ _ us hl => match us, hl with | [_], _ => rfl
  have g_bits_to_try := PySem.W.mg_of X G a36
  have b_enclosed_steps := F_enclosed_steps.binds (ps := ["steps", "exacts", "bits"]) fun _ _ _ _ _ _ us hl => match us, hl with | [_, _, _], _ => rfl
  have g_enclosed_steps := PySem.W.mg_of X G a37
  have b_refuse_undefined := F_refuse_undefined.binds (ps := ["step", "exacts", "found", "bits"]) fun _ _ _ _ _ _ us hl => match us, hl with | [_, _, _, _], _ => rfl
  have g_refuse_undefined := PySem.W.mg_of X G a38
  have b_results_or_none := F_results_or_none.binds (ps := ["step", "found", "bits"]) fun _ _ _ _ _ _ us hl => match us, hl with | [_, _, _], _ => rfl
  have g_results_or_none := PySem.W.mg_of X G a39
  have b_enclose := F_enclose.binds (ps := ["formula", "bits"]) fun _ _ _ _ _ _ us hl => match us, hl with | [_, _], _ => rfl
  have g_enclose := PySem.W.mg_of X G a40
  have b_law_is_integer := F_law_is_integer.binds (ps := ["actual"]) fun _ _ _ _ _ _ us hl => match us, hl with | [_], _ => rfl
  have g_law_is_integer := PySem.W.mg_of X G a41
  have b_law_cell := F_law_cell.binds (ps := ["script", "k"]) fun _ _ _ _ _ _ us hl => match us, hl with | [_, _], _ => rfl
  have g_law_cell := PySem.W.mg_of X G a42
  have b_law_rich := F_law_rich.binds (ps := ["cell"]) fun _ _ _ _ _ _ us hl => match us, hl with | [_], _ => rfl
  have g_law_rich := PySem.W.mg_of X G a43
  have b_law_atan_sum := F_law_atan_sum.binds (ps := ["p", "q", "b"]) fun _ _ _ _ _ _ us hl => match us, hl with | [_, _, _], _ => rfl
  have g_law_atan_sum := PySem.W.mg_of X G a44
  have b_law_pi := F_law_pi.binds (ps := ["b"]) fun _ _ _ _ _ _ us hl => match us, hl with | [_], _ => rfl
  have g_law_pi := PySem.W.mg_of X G a45
  have b_law_fits := F_law_fits.binds (ps := ["found", "bits", "value", "b"]) fun _ _ _ _ _ _ us hl => match us, hl with | [_, _, _, _], _ => rfl
  have g_law_fits := PySem.W.mg_of X G a46
  have m_len := PySem.W.mg_none_of X G z0
  have m_abs := PySem.W.mg_none_of X G z1
  have m_int := PySem.W.mg_none_of X G z2
  have m_bool := PySem.W.mg_none_of X G z3
  have m_str := PySem.W.mg_none_of X G z4
  have m_tuple := PySem.W.mg_none_of X G z5
  have m_list := PySem.W.mg_none_of X G z6
  have m_range := PySem.W.mg_none_of X G z7
  have m_isinstance := PySem.W.mg_none_of X G z8
  have m_zip := PySem.W.mg_none_of X G z9
  have m_max := PySem.W.mg_none_of X G z10
  have m_min := PySem.W.mg_none_of X G z11
  have m_enumerate := PySem.W.mg_none_of X G z12
  have g_COUNTS := PySem.W.mg_of X G zc
  have C : Counts K w dd := ⟨⟨es, nd, zl, zk, zo⟩, ⟨_, y0⟩, ⟨_, y1⟩, w2_all ⟨⟨_, y2⟩, ⟨_, y3⟩, ⟨_, y4⟩, ⟨_, y5⟩⟩, w1_all ⟨⟨_, y6⟩, ⟨_, y7⟩, ⟨_, y8⟩, ⟨_, y9⟩, ⟨_, y10⟩, ⟨_, y11⟩, ⟨_, y12⟩, ⟨_, y13⟩⟩⟩
  have g_MOST_BITS := PySem.W.mg_of X G ui0
  have g_WIDTH := PySem.W.mg_of X G ui1
  have g_SPARE_BITS := PySem.W.mg_of X G ui2
  have g_GUARD := PySem.W.mg_of X G ui3
  have g_EXTRA := PySem.W.mg_of X G ui4
  have g_MOST_DIGITS := PySem.W.mg_of X G ui5
  have g_HALF_TURN := PySem.W.mg_of X G ui6
  have g_gcd := PySem.W.mg_of X G ug
  have g_OPERATIONS := PySem.W.mg_of X G vO
  have g_ZERO := PySem.W.mg_of X G vZ
  have sO : ∀ H, SqT K H aO [V.str "add", V.str "subtract", V.str "times", V.str "divide"] := fun H => .inr ⟨_, _, _, oO, rfl, rfl, (show 4 ≤ sizeLine by decide +kernel), (.cons ⟨_, rfl⟩ (.cons ⟨_, rfl⟩ (.cons ⟨_, rfl⟩ (.cons ⟨_, rfl⟩ .nil))))⟩
  have sZ : ∀ H, SqT K H aZ [V.ref aS] := fun H => .inr ⟨_, _, _, oZ, rfl, rfl, (show 1 ≤ sizeLine by decide +kernel), (.cons rfl .nil)⟩
  have sS : ∀ H, SqT K H aS [V.str "number", V.int 0, V.int 1] := fun H => .inr ⟨_, _, _, oS, rfl, rfl, (show 3 ≤ sizeLine by decide +kernel), (.cons ⟨_, rfl⟩ (.cons ⟨_, rfl⟩ (.cons ⟨_, rfl⟩ .nil)))⟩
  have hOp : ∀ H, Dt K H (.ref aO) (.tuple (OPS.map PyData.str)) := fun H => .tup (sO H) (.cons (.str _) (.cons (.str _) (.cons (.str _) (.cons (.str _) .nil))))
  have hZ : ∀ H, Dt K H (.ref aZ) (foD [numS 0 1]) := fun H => .tup (sZ H) (.cons (.tup (sS H) (.cons (.str _) (.cons (.int _) (.cons (.int _) .nil)))) .nil)
  have hcd := PySem.W.law_code X G tt (PySem.W.mg_of X G a35) (X _ _ l35) rfl
  obtain ⟨hT1, hT2⟩ := hTab _ _ tt
  exact ⟨PySem.W.fnOf "law" "law" (defArgs s_law) (defBody s_law) (defScope s_law) .none kV47 dc47 pm47 an47 cd47 ct47, [(cT, PT)], spLaw K PT, fun p hp => (by rw [List.mem_singleton.mp hp]; exact hT2), fun p hp => (by rw [List.mem_singleton.mp hp]; exact nT), fun p hp => (by rw [List.mem_singleton.mp hp]; exact hT1), fun s v => .of_eq rfl, fun H a ns hl hb hT hS => ⟨a, ns, rfl, hS, hl, hb, fun p hp => (by rw [List.mem_singleton.mp hp]; exact TabN.nil (hT _ (List.mem_singleton.mpr rfl))), fun _ => rfl⟩, fun base _ _ hTB => ok_law F_law F_law_rich b_law_rich g_law_rich F_law_cell b_law_cell g_law_cell F_law_fits b_law_fits g_law_fits F_law_is_integer b_law_is_integer g_law_is_integer F_law_pi b_law_pi g_law_pi F_law_atan_sum b_law_atan_sum g_law_atan_sum F_radians b_radians g_radians (ok_radians F_radians F_product b_product g_product F_is_number b_is_number g_is_number F_is_fraction b_is_fraction g_is_fraction F_joined b_joined g_joined F_merged_into b_merged_into g_merged_into F_moved b_moved g_moved F_fraction b_fraction g_fraction F_lowest_terms b_lowest_terms g_lowest_terms F_number b_number g_number F_pi_formula b_pi_formula g_pi_formula g_gcd g_HALF_TURN g_ZERO hZ m_len m_list m_enumerate) F_degrees b_degrees g_degrees (ok_degrees F_degrees F_number b_number g_number F_pi_formula b_pi_formula g_pi_formula F_times b_times g_times F_over b_over g_over F_combined b_combined g_combined F_moved b_moved g_moved m_len m_range m_list) F_number b_number g_number F_is_formula b_is_formula g_is_formula (ok_isform F_is_formula F_is_step (ok_isstep F_is_step F_is_integer b_is_integer g_is_integer F_are_integers b_are_integers g_are_integers g_COUNTS C m_isinstance m_int m_bool m_len m_tuple m_str) b_is_step g_is_step m_isinstance m_len m_tuple m_enumerate) F_enclose b_enclose g_enclose (ok_enc F_enclose F_narrow_steps b_narrow_steps g_narrow_steps (ok_ns F_narrow_steps hcd (hTB _ (List.mem_singleton.mpr rfl)) F_decided b_decided g_decided g_SPARE_BITS F_merged b_merged g_merged F_merged_into b_merged_into g_merged_into F_moved b_moved g_moved F_exact_values b_exact_values g_exact_values F_exact_value b_exact_value g_exact_value g_OPERATIONS hOp F_bits_to_try b_bits_to_try g_bits_to_try F_enclosed_steps b_enclosed_steps g_enclosed_steps (ok_encl F_enclosed_steps F_of_fraction b_of_fraction g_of_fraction F_refuse_undefined b_refuse_undefined g_refuse_undefined (ok_refuse F_refuse_undefined F_lacks_value b_lacks_value g_lacks_value m_len) F_results_or_none b_results_or_none g_results_or_none (ok_ron F_results_or_none F_results b_results g_results (ok_results F_results F_pi_enclosed b_pi_enclosed g_pi_enclosed (ok_piE F_pi_enclosed F_pi_scaled b_pi_scaled g_pi_scaled F_outwards b_outwards g_outwards F_reciprocal_series b_reciprocal_series g_reciprocal_series F_nearest b_nearest g_nearest g_GUARD g_EXTRA) F_multiplied b_multiplied g_multiplied F_divided b_divided g_divided F_fewer_bits b_fewer_bits g_fewer_bits m_min m_max) g_MOST_DIGITS m_max m_abs) m_zip) F_rescaled b_rescaled g_rescaled F_fewer_bits b_fewer_bits g_fewer_bits g_WIDTH g_MOST_BITS m_tuple m_len) F_rescaled b_rescaled g_rescaled F_fewer_bits b_fewer_bits g_fewer_bits) m_len m_abs m_int m_bool m_tuple m_range m_isinstance⟩
end
end K41
open PySem PySem.W PyProof.Rows
set_option maxHeartbeats 0 in
theorem PySem.Challenge.cw_portolan_k41_radians_and_degrees_holds : PySem.Challenge.rw_portolan_k41_radians_and_degrees.Holds := by
  w_on; o_law; k_head; (case hw => w_witness2)
  k_fill
  refine Ln.walk_tab (l := PySem.Challenge.rw_portolan_k41_radians_and_degrees) (n := 63) (k := 10) (x := "script") (CX := fun _ => L2.CX0) "narrow_steps" rfl (by decide) rfl ⟨rfl, by decide, by decide⟩ ?hrec (fun w h Y => PySem.W.km_in_of Y) ?F (fun _ _ _ _ _ h => h)
  case hrec => first | rfl | decide +kernel
  case F =>
    intro w mg fa h Y KX G hmg hTab
    refine' K41.all_mk KX G hmg ?a0 ?l0 ?c0 ?k0 ?a1 ?l1 ?c1 ?k1 ?a2 ?l2 ?c2 ?k2 ?a3 ?l3 ?c3 ?k3 ?a4 ?l4 ?c4 ?k4 ?a5 ?l5 ?c5 ?k5 ?a6 ?l6 ?c6 ?k6 ?a7 ?l7 ?c7 ?k7 ?a8 ?l8 ?c8 ?k8 ?a9 ?l9 ?c9 ?k9 ?a10 ?l10 ?c10 ?k10 ?a11 ?l11 ?c11 ?k11 ?a12 ?l12 ?c12 ?k12 ?a13 ?l13 ?c13 ?k13 ?a14 ?l14 ?c14 ?k14 ?a15 ?l15 ?c15 ?k15 ?a16 ?l16 ?c16 ?k16 ?a17 ?l17 ?c17 ?k17 ?a18 ?l18 ?c18 ?k18 ?a19 ?l19 ?c19 ?k19 ?a20 ?l20 ?c20 ?k20 ?a21 ?l21 ?c21 ?k21 ?a22 ?l22 ?c22 ?k22 ?a23 ?l23 ?c23 ?k23 ?a24 ?l24 ?c24 ?k24 ?a25 ?l25 ?c25 ?k25 ?a26 ?l26 ?c26 ?k26 ?a27 ?l27 ?c27 ?k27 ?a28 ?l28 ?c28 ?k28 ?a29 ?l29 ?c29 ?k29 ?a30 ?l30 ?c30 ?k30 ?a31 ?l31 ?c31 ?k31 ?a32 ?l32 ?c32 ?k32 ?a33 ?l33 ?c33 ?k33 ?a34 ?l34 ?c34 ?k34 ?a35 ?l35 ?c35 ?k35 ?a36 ?l36 ?c36 ?k36 ?a37 ?l37 ?c37 ?k37 ?a38 ?l38 ?c38 ?k38 ?a39 ?l39 ?c39 ?k39 ?a40 ?l40 ?c40 ?k40 ?a41 ?l41 ?c41 ?k41 ?a42 ?l42 ?c42 ?k42 ?a43 ?l43 ?c43 ?k43 ?a44 ?l44 ?c44 ?k44 ?a45 ?l45 ?c45 ?k45 ?a46 ?l46 ?c46 ?k46 ?a47 ?l47 ?c47 ?k47 ?z0 ?z1 ?z2 ?z3 ?z4 ?z5 ?z6 ?z7 ?z8 ?z9 ?z10 ?z11 ?z12 ?zc ?zl ?zk ?zo ?y0 ?y1 ?y2 ?y3 ?y4 ?y5 ?y6 ?y7 ?y8 ?y9 ?y10 ?y11 ?y12 ?y13 ?ui0 ?ui1 ?ui2 ?ui3 ?ui4 ?ui5 ?ui6 ?ug ?vO ?oO ?vZ ?oZ ?oS ?tt ?nT hTab
    (case a0 => k_is); (case l0 => k_is); (case c0 => k_is); (case k0 => k_is); (case a1 => k_is); (case l1 => k_is); (case c1 => k_is); (case k1 => k_is); (case a2 => k_is); (case l2 => k_is); (case c2 => k_is); (case k2 => k_is); (case a3 => k_is); (case l3 => k_is); (case c3 => k_is); (case k3 => k_is); (case a4 => k_is); (case l4 => k_is); (case c4 => k_is); (case k4 => k_is); (case a5 => k_is); (case l5 => k_is); (case c5 => k_is); (case k5 => k_is); (case a6 => k_is); (case l6 => k_is); (case c6 => k_is); (case k6 => k_is); (case a7 => k_is); (case l7 => k_is); (case c7 => k_is); (case k7 => k_is); (case a8 => k_is); (case l8 => k_is); (case c8 => k_is); (case k8 => k_is); (case a9 => k_is); (case l9 => k_is); (case c9 => k_is); (case k9 => k_is); (case a10 => k_is); (case l10 => k_is); (case c10 => k_is); (case k10 => k_is); (case a11 => k_is); (case l11 => k_is); (case c11 => k_is); (case k11 => k_is); (case a12 => k_is); (case l12 => k_is); (case c12 => k_is); (case k12 => k_is); (case a13 => k_is); (case l13 => k_is); (case c13 => k_is); (case k13 => k_is); (case a14 => k_is); (case l14 => k_is); (case c14 => k_is); (case k14 => k_is); (case a15 => k_is); (case l15 => k_is); (case c15 => k_is); (case k15 => k_is); (case a16 => k_is); (case l16 => k_is); (case c16 => k_is); (case k16 => k_is); (case a17 => k_is); (case l17 => k_is); (case c17 => k_is); (case k17 => k_is); (case a18 => k_is); (case l18 => k_is); (case c18 => k_is); (case k18 => k_is); (case a19 => k_is); (case l19 => k_is); (case c19 => k_is); (case k19 => k_is); (case a20 => k_is); (case l20 => k_is); (case c20 => k_is); (case k20 => k_is); (case a21 => k_is); (case l21 => k_is); (case c21 => k_is); (case k21 => k_is); (case a22 => k_is); (case l22 => k_is); (case c22 => k_is); (case k22 => k_is); (case a23 => k_is); (case l23 => k_is); (case c23 => k_is); (case k23 => k_is); (case a24 => k_is); (case l24 => k_is); (case c24 => k_is); (case k24 => k_is); (case a25 => k_is); (case l25 => k_is); (case c25 => k_is); (case k25 => k_is); (case a26 => k_is); (case l26 => k_is); (case c26 => k_is); (case k26 => k_is); (case a27 => k_is); (case l27 => k_is); (case c27 => k_is); (case k27 => k_is); (case a28 => k_is); (case l28 => k_is); (case c28 => k_is); (case k28 => k_is); (case a29 => k_is); (case l29 => k_is); (case c29 => k_is); (case k29 => k_is); (case a30 => k_is); (case l30 => k_is); (case c30 => k_is); (case k30 => k_is); (case a31 => k_is); (case l31 => k_is); (case c31 => k_is); (case k31 => k_is); (case a32 => k_is); (case l32 => k_is); (case c32 => k_is); (case k32 => k_is); (case a33 => k_is); (case l33 => k_is); (case c33 => k_is); (case k33 => k_is); (case a34 => k_is); (case l34 => k_is); (case c34 => k_is); (case k34 => k_is); (case a35 => k_is); (case l35 => k_is); (case c35 => k_is); (case k35 => k_is); (case a36 => k_is); (case l36 => k_is); (case c36 => k_is); (case k36 => k_is); (case a37 => k_is); (case l37 => k_is); (case c37 => k_is); (case k37 => k_is); (case a38 => k_is); (case l38 => k_is); (case c38 => k_is); (case k38 => k_is); (case a39 => k_is); (case l39 => k_is); (case c39 => k_is); (case k39 => k_is); (case a40 => k_is); (case l40 => k_is); (case c40 => k_is); (case k40 => k_is); (case a41 => k_is); (case l41 => k_is); (case c41 => k_is); (case k41 => k_is); (case a42 => k_is); (case l42 => k_is); (case c42 => k_is); (case k42 => k_is); (case a43 => k_is); (case l43 => k_is); (case c43 => k_is); (case k43 => k_is); (case a44 => k_is); (case l44 => k_is); (case c44 => k_is); (case k44 => k_is); (case a45 => k_is); (case l45 => k_is); (case c45 => k_is); (case k45 => k_is); (case a46 => k_is); (case l46 => k_is); (case c46 => k_is); (case k46 => k_is); (case a47 => k_is); (case l47 => k_is); (case c47 => k_is); (case k47 => k_is); (case z0 => k_is); (case z1 => k_is); (case z2 => k_is); (case z3 => k_is); (case z4 => k_is); (case z5 => k_is); (case z6 => k_is); (case z7 => k_is); (case z8 => k_is); (case z9 => k_is); (case z10 => k_is); (case z11 => k_is); (case z12 => k_is); (case zc => k_is); (case zl => k_is); (case zk => k_keys); (case zo => decide); (case y0 => k_is); (case y1 => k_is); (case y2 => k_is); (case y3 => k_is); (case y4 => k_is); (case y5 => k_is); (case y6 => k_is); (case y7 => k_is); (case y8 => k_is); (case y9 => k_is); (case y10 => k_is); (case y11 => k_is); (case y12 => k_is); (case y13 => k_is); (case ui0 => k_is); (case ui1 => k_is); (case ui2 => k_is); (case ui3 => k_is); (case ui4 => k_is); (case ui5 => k_is); (case ui6 => k_is); (case ug => k_is); (case vO => k_is); (case oO => k_is); (case vZ => k_is); (case oZ => k_is); (case oS => k_is); (case tt => first | k_is | rfl); (case nT => first | k_is | rfl | decide +kernel)

