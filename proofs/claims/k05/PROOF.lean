import PyProof.Rows.All
import Wide.All
import OpenK.AllK
import Wide.FinOn
import HandS.ForMost
import HandS.ForExc
import HandS.ExcIs
import HandS.More
import HandS.Gcd
import HandS.EndBits
import HandS.Small
import HandS.Deep
import HandS.RevRange
import HandS.TupLen
import HandS.Dict
import HandS.SetFor
import HandS.Strs
import PyProof.ExcBaseAll.ValueError
import PySem.Challenge.RW_portolan_k05_inverse_functions
import HandS.Evl
import HandS.Wide
import HandS.WideBits
import HandS.Style
import HandS.IsInst
import PyProof.P3Eq
import KE.GoesEnum
import HandS.Star
import HandS.Conv
import HandS.Walk
import PyProof.MaxThree
import Flt.RightSqrt
import KE.KMathG
import HandS.Codes
import HandS.StrMore
import HandS.Text
import KE.IntTextLaws
import PyProof.Rows.StrAscii
import HandS.Words
import HandS.Zip
import HandS.FStr
import KE.KDictZip
import KE.KTurns
import PyProof.ListNew
import HandS.List
import HandS.Flt
import HandS.Comp
import HandS.Exc
import HandS.ExcOwn
import HandS.MapJoin
import HandS.Nested
import HandS.EndTab
import KE.KNest
import HandS.Call
set_option Elab.async false
set_option linter.all false
set_option maxRecDepth 100000
set_option maxHeartbeats 4000000
/-! Own rules over the layer: what a reading evaluates to, for texts that change nothing. -/
namespace Cm
open PySem PySem.Spec PyProof.Rows L2 Evl

theorem ex_app {H H' : Hp} (e : Ex H H') {p : Addr} {o : HO} (h : H p = some o) : H' p = some o := e p o h
/-- a new tuple comes back -/
def RetU (xs : List V) (H : Hp) (Q : VK) : Prop := ∀ p H2, H p = none → Ex H H2 → H2 p = some (.tup xs) → Q (.ref p) H2
def SpU (sp : Sp) (vs : List V) (H : Hp) (xs : List V) : Prop := ∀ H1, Ex H H1 → ∀ Q : VK, (∀ p H2, H1 p = none → Ex H1 H2 → H2 p = some (.tup xs) → Q (.ref p) H2) → ∀ E : XK, sp vs H1 Q E
section
variable {K : PySem.W.Frag} {σ : L2.St} {H H' : Hp} {ta tb tc te tx : TE} {t u : TT} {x y z v w : V} {r r' : R2} {D : Ends} {tz : TS}
/-- the slots written out anew -/
theorem st_is {σ' : L2.St} {ts : TS} (e : σ = σ') (h : ts D σ' H) : ts D σ H := by
  rw [e]
  exact h
theorem RetU.go {xs : List V} {Q : VK} (k : RetU xs H Q) (e : Ex H H') {p : Addr} {H2 : Hp} (hp : H' p = none) (e2 : Ex H' H2) (h : H2 p = some (.tup xs)) : Q (.ref p) H2 := k p H2 (fresh_back e hp) (e.trans e2) h
theorem eu_call {sp : Sp} {dvs vs xs : List V} {E : XK} {ta : TA} (h : EvA ta σ H vs) (hs : SpU sp (vs ++ dvs) H xs) : EvU (tCall sp dvs E ta) σ H xs := fun H1 e Q q =>
  h H1 e _ fun H2 e2 => hs H2 (e.trans e2) Q (fun p H3 hp e3 h3 => q p H3 (fresh_back e2 hp) (e2.trans e3) h3) E
theorem eu_is {xs ys : List V} (h : EvU te σ H xs) (e : xs = ys) : EvU te σ H ys := by
  rw [← e]
  exact h
/-- a call whose first argument is a new tuple -/
theorem ev_callU {sp : Sp} {dvs vs xs : List V} {E : XK} {tr : TA} (h1 : EvU te σ H xs) (h2 : EvA tr σ H vs) (hs : ∀ p H1, Ex H H1 → H1 p = some (.tup xs) → SpV sp (.ref p :: vs ++ dvs) H1 z) : Ev (tCall sp dvs E (tCons te tr)) σ H z := fun H1 e Q q =>
  h1 H1 e _ fun p H2 np e2 hp => h2 H2 (e.trans e2) _ fun H3 e3 => hs p H3 ((e.trans e2).trans e3) (e3 _ _ hp) H3 (Ex.refl H3) Q (fun H4 e4 => q H4 ((e2.trans e3).trans e4)) E
/-- .. whose second argument is a new tuple -/
theorem ev_callVU {sp : Sp} {dvs vs xs : List V} {E : XK} {tr : TA} (h0 : Ev ta σ H x) (h1 : EvU te σ H xs) (h2 : EvA tr σ H vs) (hs : ∀ p H1, Ex H H1 → H1 p = some (.tup xs) → SpV sp (x :: .ref p :: vs ++ dvs) H1 z) : Ev (tCall sp dvs E (tCons ta (tCons te tr))) σ H z := fun H1 e Q q =>
  h0 H1 e _ fun H2 e2 => h1 H2 (e.trans e2) _ fun p H3 np e3 hp => h2 H3 ((e.trans e2).trans e3) _ fun H4 e4 => hs p H4 (((e.trans e2).trans e3).trans e4) (e4 _ _ hp) H4 (Ex.refl H4) Q (fun H5 e5 => q H5 (((e2.trans e3).trans e4).trans e5)) E
theorem ev_chain {b c : Bool} (ha : Ev ta σ H x) (hb : Ev tb σ H y) (hc : Ev tc σ H w) (h1 : RV r x y H (.bl b)) (h2 : RV r' y w H (.bl c)) : Ev (tChain r r' ta tb tc) σ H (.bl (b && c)) := fun H1 e Q q =>
  ha H1 e _ fun H2 e2 => hb H2 (e.trans e2) _ fun H3 e3 => h1 H3 ((e.trans e2).trans e3) _ fun H4 e4 => ⟨b, rfl, by
    cases b with
    | true =>
      show tc σ H4 _
      exact hc H4 (((e.trans e2).trans e3).trans e4) _ fun H5 e5 => h2 H5 ((((e.trans e2).trans e3).trans e4).trans e5) Q fun H6 e6 => q H6 ((((e2.trans e3).trans e4).trans e5).trans e6)
    | false =>
      show Q (.bl false) H4
      exact q H4 ((e2.trans e3).trans e4)⟩
theorem rv_shl {i : Int} {k : Nat} (h : CShl i (k : Int)) : RV (fun x y H Q => ∃ (i : Int) (k : Nat), x = .int i ∧ y = .int (k : Int) ∧ CShl i (k : Int) ∧ Q (.int (i * 2 ^ k)) H) (.int i) (.int (k : Int)) H (.int (i * 2 ^ k)) :=
  fun H1 _ _ q => ⟨i, k, rfl, rfl, h, q H1 (Ex.refl H1)⟩
theorem rv_shr {i : Int} {k : Nat} : RV (fun x y H Q => ∃ (i : Int) (k : Nat), x = .int i ∧ y = .int (k : Int) ∧ Q (.int (i / 2 ^ k)) H) (.int i) (.int (k : Int)) H (.int (i / 2 ^ k)) :=
  fun H1 _ _ q => ⟨i, k, rfl, rfl, q H1 (Ex.refl H1)⟩
theorem rv_isB {a b : Bool} : RV rIsB (.bl a) (.bl b) H (.bl (decide (a = b))) := fun H1 _ _ q => ⟨a, b, rfl, rfl, q H1 (Ex.refl H1)⟩
theorem rv_notB {a b : Bool} : RV rNotB (.bl a) (.bl b) H (.bl (!decide (a = b))) := fun H1 _ _ q => ⟨a, b, rfl, rfl, q H1 (Ex.refl H1)⟩
theorem rv_isN : RV (fun x y H Q => y = .non ∧ Q (.bl (decide (x = .non))) H) x .non H (.bl (decide (x = .non))) := fun H1 _ _ q => ⟨rfl, q H1 (Ex.refl H1)⟩
theorem rv_notN : RV (fun x y H Q => y = .non ∧ Q (.bl (!decide (x = .non))) H) x .non H (.bl (!decide (x = .non))) := fun H1 _ _ q => ⟨rfl, q H1 (Ex.refl H1)⟩
theorem rc_abs {i : Int} : RC (fun xs H Q => ∃ i, xs = [.int i] ∧ Q (.int (if i < 0 then -i else i)) H) [.int i] H (.int (i.natAbs : Int)) := fun H1 _ Q q => ⟨i, rfl, by
  have e : (if i < 0 then -i else i) = (i.natAbs : Int) := by split <;> omega
  rw [e]
  exact q H1 (Ex.refl H1)⟩
theorem rc_max2 {i j : Int} : RC (fun xs H Q => ∃ i j, xs = [.int i, .int j] ∧ Q (.int (if j > i then j else i)) H) [.int i, .int j] H (.int (max i j)) := fun H1 _ Q q => ⟨i, j, rfl, by
  have e : (if j > i then j else i) = max i j := by split <;> omega
  rw [e]
  exact q H1 (Ex.refl H1)⟩
theorem rc_min2 {i j : Int} : RC (fun xs H Q => ∃ i j, xs = [.int i, .int j] ∧ Q (.int (if j < i then j else i)) H) [.int i, .int j] H (.int (min i j)) := fun H1 _ Q q => ⟨i, j, rfl, by
  have e : (if j < i then j else i) = min i j := by split <;> omega
  rw [e]
  exact q H1 (Ex.refl H1)⟩
theorem rc_intB {k : Bool} : RC (fun xs H Q => (∃ i, xs = [.int i] ∧ Q (.int i) H) ∨ ∃ k, xs = [.bl k] ∧ Q (.int (if k then 1 else 0)) H) [.bl k] H (.int (if k then 1 else 0)) := fun H1 _ Q q => Or.inr ⟨k, rfl, q H1 (Ex.refl H1)⟩
theorem rc_intI {i : Int} : RC (fun xs H Q => (∃ i, xs = [.int i] ∧ Q (.int i) H) ∨ ∃ k, xs = [.bl k] ∧ Q (.int (if k then 1 else 0)) H) [.int i] H (.int i) := fun H1 _ Q q => Or.inl ⟨i, rfl, q H1 (Ex.refl H1)⟩
theorem rc_isiT {p : Addr} {xs : List V} (h : H p = some (.tup xs)) : RC (rIsi K) [.ref p, .ty "tuple"] H (.bl true) := fun H1 e _ q =>
  ⟨.ref p, .ty "tuple", .type "tuple", .type "tuple", true, rfl, .ty _, .base (.tup (e _ _ h)), kit_ty (by decide +kernel), q H1 (Ex.refl H1)⟩
theorem rc_isiS {x : Str} : RC (rIsi K) [.str x, .ty "str"] H (.bl true) := fun H1 e _ q =>
  ⟨.str x, .ty "str", .type "str", .type "str", true, rfl, .ty _, .base (.str x), kit_ty (by decide +kernel), q H1 (Ex.refl H1)⟩
theorem rc_lenL {p : Addr} {xs : List V} (h : SqL K H p xs) : RC (fun xs H Q => ∃ x n, xs = [x] ∧ LenV K x H n ∧ Q (.int n) H) [.ref p] H (.int (xs.length : Int)) := fun H1 e _ q =>
  ⟨.ref p, (xs.length : Nat), rfl, .inl ⟨_, ex_l e h, rfl⟩, q H1 (Ex.refl H1)⟩
/-! ### data -/
mutual
theorem dp_mono (e : Ex H H') : ∀ (d : PyData) (v : V), Dp K H v d → Dp K H' v d
  | _, _, .non => .non
  | _, _, .bl b => .bl b
  | _, _, .int i => .int i
  | _, _, .str x => .str x
  | _, _, .lst h a => .lst (ex_l e h) (dps_mono e _ _ a)
  | _, _, .tup h a => .tup (ex_t e h) (dps_mono e _ _ a)
theorem dps_mono (e : Ex H H') : ∀ (ds : List PyData) (vs : List V), DpAll K H vs ds → DpAll K H' vs ds
  | _, _, .nil => .nil
  | _, _, .cons h t => .cons (dp_mono e _ _ h) (dps_mono e _ _ t)
end
theorem dpInts : ∀ (is : List Int), DpAll K H (is.map V.int) (is.map PyData.int)
  | [] => .nil
  | i :: r => .cons (.int i) (dpInts r)
theorem eqvS {d : PyData} (h : SeqAt.shaped d = true) : PyData.eqv d d = true := by
  unfold SeqAt.shaped at h
  rw [Bool.and_eq_true] at h
  exact PySem.SeqAt.eqv_refl d h.1
/-- the same data on both sides -/
theorem rv_neS {d : PyData} (hx : Dp K H x d) (hy : Dp K H y d) (hs : SeqAt.shaped d = true) : RV (rNeD K) x y H (.bl false) := fun H1 e Q q =>
  ⟨d, d, dp_mono e _ _ hx, dp_mono e _ _ hy, hs, hs, by
    rw [eqvS hs]
    exact q H1 (Ex.refl H1)⟩
theorem rv_eqS {d : PyData} (hx : Dp K H x d) (hy : Dp K H y d) (hs : SeqAt.shaped d = true) : RV (rEqD K) x y H (.bl true) := fun H1 e Q q =>
  ⟨d, d, dp_mono e _ _ hx, dp_mono e _ _ hy, hs, hs, by
    rw [eqvS hs]
    exact q H1 (Ex.refl H1)⟩
/-- a pair of ints -/
theorem dp2 {p : Addr} {i j : Int} (h : SqT K H p [.int i, .int j]) : Dp K H (.ref p) (.tuple [.int i, .int j]) := .tup h (.cons (.int i) (.cons (.int j) .nil))
theorem sh2 {i j : Int} : SeqAt.shaped (.tuple [.int i, .int j]) = true := rfl
end
/-! ### numbers -/
/-- a bound that omega does not look into -/
def Bd (k : Nat) (x : Int) : Prop := x.natAbs < 2 ^ k
theorem pow_pos (n : Nat) : (0 : Int) < 2 ^ n := PySem.W.kbt_pos n
theorem pow_abs (n : Nat) : ((2 : Int) ^ n).natAbs = 2 ^ n := by
  rw [Int.natAbs_pow]
  rfl
theorem ab_mono {x : Int} {a b : Nat} (h : x.natAbs < 2 ^ a) (hab : a ≤ b) : x.natAbs < 2 ^ b := Nat.lt_of_lt_of_le h (Nat.pow_le_pow_right (by decide) hab)
theorem ab_pow {n k : Nat} (h : n < k) : ((2 : Int) ^ n).natAbs < 2 ^ k := by
  rw [pow_abs]
  exact Nat.pow_lt_pow_right (by decide) h
theorem ab_shl {x : Int} {a n : Nat} (h : x.natAbs < 2 ^ a) : (x * 2 ^ n).natAbs < 2 ^ (a + n) := by
  rw [Int.natAbs_mul, pow_abs, Nat.pow_add]
  exact Nat.mul_lt_mul_of_pos_right h (Nat.two_pow_pos n)
theorem ab_mul {x y : Int} {a b : Nat} (hx : x.natAbs < 2 ^ a) (hy : y.natAbs < 2 ^ b) : (x * y).natAbs < 2 ^ (a + b) := wide_lt hx hy
theorem ab_add {x y : Int} {a : Nat} (hx : x.natAbs < 2 ^ a) (hy : y.natAbs < 2 ^ a) : (x + y).natAbs < 2 ^ (a + 1) := by
  have e : 2 ^ (a + 1) = 2 ^ a + 2 ^ a := by rw [Nat.pow_succ]; omega
  omega
theorem ab_neg {x : Int} {a : Nat} (hx : x.natAbs < 2 ^ a) : (-x).natAbs < 2 ^ a := by omega
theorem ab_sm {x : Int} {a c : Nat} (h : x.natAbs ≤ c) (hc : c < 2 ^ a) : x.natAbs < 2 ^ a := Nat.lt_of_le_of_lt h hc
theorem fl_le {s q : Int} (hq : 0 < q) : s / q * q ≤ s := Int.ediv_mul_le s (by omega)
theorem fl_lt {s q : Int} (hq : 0 < q) : s < (s / q + 1) * q := by
  rw [Int.add_mul, Int.one_mul]
  exact Int.lt_ediv_add_one_mul_self s hq |> fun h => by rw [Int.add_mul, Int.one_mul] at h; exact h
theorem cl_ge {s q : Int} (hq : 0 < q) : s ≤ -(-s / q) * q := by
  have h := fl_le (s := -s) hq
  rw [Int.neg_mul]
  omega
theorem cl_lt {s q : Int} (hq : 0 < q) : (-(-s / q) - 1) * q < s := by
  have h := fl_lt (s := -s) hq
  rw [Int.sub_mul, Int.one_mul, Int.neg_mul]
  rw [Int.add_mul, Int.one_mul] at h
  omega
theorem ab_div {x q : Int} {a : Nat} (hq : 0 < q) (h : x.natAbs < 2 ^ a) : (x / q).natAbs < 2 ^ a := by
  have h1 : (x / q).natAbs ≤ x.natAbs := by
    by_cases hx : 0 ≤ x
    · have := Int.ediv_le_self q hx
      have := Int.ediv_nonneg hx (Int.le_of_lt hq)
      omega
    · have h2 : x / q < 0 := Int.ediv_neg_of_neg_of_pos (by omega) hq
      have h3 := fl_lt (s := x) hq
      have h4 : (x / q + 1) * q ≤ (x / q + 1) := by
        have h5 : (x / q + 1) * (q - 1) ≤ 0 := Int.mul_nonpos_of_nonpos_of_nonneg (by omega) (by omega)
        rw [Int.mul_sub, Int.mul_one] at h5
        omega
      omega
  omega
theorem mul_le_r {a b q : Int} (h : a ≤ b) (hq : 0 < q) : a * q ≤ b * q := Int.mul_le_mul_of_nonneg_right h (Int.le_of_lt hq)
/-- the ceiling, by one more where the floor is not exact -/
theorem ceil_eq {s q : Int} (hq : 0 < q) : -(-s / q) = s / q + (if (!decide (s / q * q = s)) = true then 1 else 0) := by
  have a1 := fl_le (s := s) hq
  have a2 := fl_lt (s := s) hq
  have b1 := cl_ge (s := s) hq
  have b2 := cl_lt (s := s) hq
  have lt_of : ∀ {u v : Int}, u * q < v * q → u < v := fun h => Int.lt_of_mul_lt_mul_right h (Int.le_of_lt hq)
  have c1 : -(-s / q) - 1 < s / q + 1 := lt_of (Int.lt_trans b2 a2)
  by_cases e : s / q * q = s
  · rw [decide_eq_true e]
    have c2 : -(-s / q) - 1 < s / q := lt_of (by rw [e]; exact b2)
    have c3 : s / q - 1 < -(-s / q) := lt_of (Int.lt_of_lt_of_le (by rw [Int.sub_mul, Int.one_mul, e]; omega) b1)
    show _ = s / q + 0
    omega
  · rw [decide_eq_false e]
    have c3 : s / q < -(-s / q) := lt_of (by omega)
    show _ = s / q + 1
    omega
end Cm

/-! Own rule: for i, x in enumerate(t), t a tuple. -/
namespace Et
open PySem PySem.Spec PyProof.Rows L2

theorem meets1 {v : Value} {o : Obj} {H : Heap → Prop} (B : Begins v o H) :
    Meets (Builtin.«enumerate.__new__» ⟨[.type "enumerate", v], []⟩) (fun _ R s => H s.heap ∧
      R (.ok (.ret (.ref (s.heap.push o).objs.size))) { s with heap := (s.heap.push o).push { cls := .type "enumerate", data := .fields #[.none, .bool false, .ref s.heap.objs.size, rawInt 0, .none, .none] } }) :=
  .of_wp fun prog w A R s h => by
    obtain ⟨hp, g, d, tk, os⟩ := s; obtain ⟨h1, h⟩ := h
    have hsub := sub_enumerate
    have q1 : ∀ {A' : Around} {E : Value → Shared → Prop} {Q : Value → Shared → Prop}, Q (.ref hp.objs.size) ⟨hp.push o, g, d, tk, os⟩ → wpAny (model prog w) A' (pyIter v) Q E ⟨hp, g, d, tk, os⟩ :=
      fun q => B.iter prog w _ _ ⟨hp, g, d, tk, os⟩ _ h1 q
    wp_walk using q1
    refine wpAny_stack_any fun st => wpAny_pure ?_
    split
    · rename_i c _ _ _ _ _
      cases (c == Value.type "enumerate")
      · wp_walk using q1
        exact ⟨_, rfl, h⟩
      · wp_walk using q1
        exact ⟨_, rfl, h⟩
    · wp_walk using q1
      exact ⟨_, rfl, h⟩
section
variable {prog : Program} {w : World} {A : Around} {E : Value → Shared → Prop} {s : Shared}
theorem begins1 {v : Value} {o : Obj} {H : Heap → Prop} {Q : Value → Shared → Prop} (B : Begins v o H) (h1 : H s.heap)
    (h : ∀ h', IsEnum h' (s.heap.objs.size + 1) s.heap.objs.size 0 .none → h'.get? s.heap.objs.size = some o → h'.objs.size = s.heap.objs.size + 2 →
      (∀ b o, s.heap.get? b = some o → h'.get? b = some o) → Q (.ref (s.heap.objs.size + 1)) { s with heap := h' }) :
    wpAny (model prog w) A (call (.type "enumerate") [v]) Q E s := by
  refine callType_new F.called_enumerate (by decide) (F.typeCall_enumerate_1 _) (F.newCall_enumerate_1 _) (fun obj => F.args_object_init_2 obj _) F.entry_enumerate_new
    (meets1 B) ⟨h1, ?_⟩
  have hz : (s.heap.push o).objs.size = s.heap.objs.size + 1 := Heap.size_push ..
  show _ ∧ _
  rw [hz]
  have he : IsEnum ((s.heap.push o).push { cls := .type "enumerate", data := .fields #[.none, .bool false, .ref s.heap.objs.size, rawInt 0, .none, .none] }) (s.heap.objs.size + 1) s.heap.objs.size 0 .none := by
    have := Heap.get?_push_size (s.heap.push o) (o := { cls := .type "enumerate", data := .fields #[.none, .bool false, .ref s.heap.objs.size, rawInt 0, .none, .none] }) rfl
    rw [hz] at this; exact this
  refine ⟨⟨_, he, rfl⟩, h _ he (Heap.get?_push_of_some _ (Heap.get?_push_size _ B.free)) (by rw [Heap.size_push, hz]) fun b o x => Heap.get?_push_of_some _ (Heap.get?_push_of_some _ x)⟩
end
section
variable {prog : Program} {w : World} {A : Around} {E : Value → Shared → Prop} {s : Shared}
theorem enum_endT {e it l : Addr} {i : Nat} {items : Array Value} {old : Value} {Q : Option Value → Shared → Prop} (hh : A.handled = none)
    (he : IsEnum s.heap e it i old) (hit : s.heap.IsTupleIter it l i) (hl : s.heap.IsTuple l items) (hx : items[i]? = none)
    (hQ : ∀ h', Heap.ExtBut it s.heap h' → Q none { s with heap := h' }) : wpAny (model prog w) A (pyNext (.ref e)) Q E s := by
  have hT : s.TypeIs (.ref e) "enumerate" := ⟨_, he, rfl⟩
  unfold pyNext
  refine wpAny_bind (wpAny_attempt (wpAny_callSpecial?_slot (name := Str.ofString "__next__") hT F.slot_enumerate_next
    (wpAny_call_entry F.slot_enumerate_next hT F.entry_enumerate_next ?_ (F.args_enumerate_next_1 _))))
  show wpAny _ _ (field (.ref e) 2 >>= _) _ _ _
  refine wpAny_bind (wpAny_field he rfl (x := .ref it) rfl ?_)
  refine wpAny_bind (wpAny_nextOf_tuple_end hh hit hl hx fun h' x he' hx' => ?_)
  obtain ⟨o, ho, hc⟩ := hx'
  refine wpAny_bind (wpAny_isInstance (T := "StopIteration") (b := true) ⟨o, ho, hc⟩ isSubtype_stop ?_)
  exact wpAny_pure (hQ _ he')
end
/-- the tuple at a as it stands at each turn, each item in a new pair -/
def Iet (K : PySem.W.Frag) (a : Addr) : It :=
  ⟨fun i H => ∃ (xs : List V) (x : V), SqT K H a xs ∧ xs[i]? = some x, fun i H v H' => ∃ T x, v = .ref T ∧ H T = none ∧ H' = upd H T (.tup [.int (i : Nat), x]) ∧ ∀ xs, SqT K H a xs → xs[i]? = some x, fun i H => ∃ xs : List V, SqT K H a xs ∧ xs.length ≤ i⟩
theorem turn_enumT {P : Program} {w : World} {K : PySem.W.Frag} {elts : List Expr} {kk : Nat} {tpos : Pos} (a e it : Addr) :
    Turn P w K (.Tuple elts kk tpos) (Iet K a) [e, it] e (fun i h => (∃ old, IsEnum h e it ((i : Nat) : Int) old) ∧ h.IsTupleIter it a i ∧ e ≠ it) where
  mem := by simp
  obj := fun i h st b hb => by
    obtain ⟨⟨old, he⟩, ⟨o, ho, hc, hd⟩, _⟩ := st
    have e' : b = e ∨ b = it := by simpa using hb
    rcases e' with z | z
    · rw [z]; exact ⟨_, he, fun v q => nomatch q⟩
    · rw [z]; exact ⟨o, ho, fun v q => by rw [hd] at q; cases q⟩
  keep := fun i h h' st k => let ⟨⟨old, he⟩, hi, hne⟩ := st; ⟨⟨old, k e (by simp) _ he⟩, hi.at fun o q => k it (by simp) o q, hne⟩
  item := by
    intro X hP hw hK hc i pins s σ H E I hf st hg
    subst hP hw hK
    obtain ⟨⟨old, he⟩, hit, hne⟩ := st
    obtain ⟨xs, x, hq, hx⟩ := hg
    obtain ⟨its, rv, p, hz⟩ := I.tuple hq
    obtain ⟨u, hu, ru⟩ := rv.get hx
    have hel : e < s.heap.objs.size := Heap.lt_size he
    have hil : it < s.heap.objs.size := by obtain ⟨_, q, _⟩ := hit; exact Heap.lt_size q
    have hat : a ≠ it := fun z => by
      subst z
      obtain ⟨o1, e1, c1, _⟩ := hit
      obtain ⟨o2, e2, c2, _⟩ := p
      rw [e1] at e2
      cases e2
      rw [c1] at c2
      exact absurd (Value.type.inj c2) (by decide)
    have hae : a ≠ e := fun z => by
      subst z
      obtain ⟨o2, e2, c2, _⟩ := p
      rw [he] at e2
      cases e2
      exact absurd (Value.type.inj c2) (by decide)
    have hlt : i < its.toArray.size := by
      rw [List.size_toArray]
      exact (List.getElem?_eq_some_iff.mp hu).1
    refine wpAny_pyNext_enum_itemD (Draws.tuple (A := X.A.in1) (I.ok.hd hc) it a hat its.toArray) he ⟨hit, p⟩ hlt hne (by simp; exact ⟨hne, Ne.symm hae⟩) fun y h' tk hy ho hst' hT hsz hk => ?_
    have eu : y = u := by
      have h1 : its.toArray[i]? = some u := by simpa using hu
      rw [h1] at hy
      exact (Option.some.inj hy).symm
    subst eu
    refine ⟨_, rfl, wpAny_letOwnedTupleGo_enum (s := { s with heap := h', toks := tk + 1 }) ho fun h'' he' sb => ?_⟩
    have hT2 : h''.get? s.heap.objs.size = some { cls := .type "tuple", data := .seq #[.int i tk, y] } := (sb.2 _ (Nat.ne_of_gt hel)).trans hT
    have new : ObjOk X.prog X.w (upd H s.heap.objs.size (.tup [.int (i : Nat), x])) h'' s.heap.objs.size (.tup [.int (i : Nat), x]) :=
      ⟨by show 2 ≤ sizeLine; decide, [.int i tk, y], .cons ⟨_, rfl⟩ (.cons ru .nil), ⟨_, hT2, rfl, _, rfl⟩⟩
    have I1 : Inv X pins σ (upd H s.heap.objs.size (.tup [.int (i : Nat), x])) { s with heap := h'', toks := tk + 1 } :=
      I.turnedNew (ch := [e, it]) (fun b ob hb q => (sb.2 b (fun z => hb (by simp [z]))).trans (hk b ob (fun z => hb (by simp [z])) (fun z => hb (by simp [z])) q)) hf (Nat.le_refl _) new
    refine ⟨.ref s.heap.objs.size, _, I1, rfl, ⟨_, x, rfl, I.hok.fresh (Nat.le_refl _), rfl, fun ys hy => by rw [I.tuple_inj hy hq]; exact hx⟩, ⟨⟨y, ?_⟩, hst'.1.at fun o q => (sb.2 it (Ne.symm hne)).trans q, hne⟩, fun b hb => ?_⟩
    · have e1 : ((i + 1 : Nat) : Int) = (i : Int) + 1 := by omega
      rw [e1]; exact he'
    · have hb' : b < s.heap.objs.size := by
        have e' : b = e ∨ b = it := by simpa using hb
        rcases e' with z | z
        · rw [z]; exact hel
        · rw [z]; exact hil
      rw [upd_ne (Nat.ne_of_lt hb')]
      exact (hf b hb).1
  done := by
    intro X hP hw hK hc i pins s σ H E I hf st hg
    subst hP hw hK
    obtain ⟨⟨old, he⟩, hit, hne⟩ := st
    obtain ⟨xs, hq, hx⟩ := hg
    obtain ⟨its, rv, p, hz⟩ := I.tuple hq
    obtain ⟨f0, f1, f2, f3, f4, f5⟩ := hf it (by simp)
    have hl := rv.length
    refine enum_endT (I.ok.hd hc) he hit p (by simp; omega) fun h' eb => ⟨rfl, I.turned (t' := s.toks) (fun b o hb q => eb b o hb q) f0 f1 f3 f4 f5⟩
  self := fun A i s Q E st h => let ⟨⟨_, he⟩, _⟩ := st; wpAny_pyIter_enum he h
def iEnumT (K : PySem.W.Frag) (ta : TA) : TI := fun σ H R => ta σ H fun vs H1 => ∃ a xs, vs = [.ref a] ∧ SqT K H1 a xs ∧ R (Iet K a) H1
theorem pi_enumT {X : Cx} {e : Expr} {ta : TA} {p pos tpos : Pos} {elts : List Expr} {kk : Nat} (hg : Gl X "enumerate") (hm : X.mg "enumerate" = none) (ha : PA X [e] ta) (hs : starEach [e] X.env = [(false, eval e X.env)] := by rfl) :
    PI X (.Tuple elts kk tpos) (.Call (.Name "enumerate" p) [e] [] pos) (iEnumT X.K ta) := by
  refine ⟨fun pins s σ H R I h => ?_⟩
  refine Call_ (ld_blt I hg hm boot_enumerate (PyProof.Rows.callWith_type1 (thn (ha.run pos pins s σ H _ I h) fun us s1 ⟨vs, H1, I1, r1, q1⟩ => ?_) hs rfl))
  obtain ⟨a, xs, ex, hq, q⟩ := q1
  subst ex
  cases r1 with
  | cons r rr =>
    cases rr
    cases r
    obtain ⟨its, rv, p', hz⟩ := I1.tuple hq
    refine begins1 (begins_tuple a its.toArray) p' fun h' he hit hsz hk => wpAny_pyIter_enum he ?_
    have I2 : Inv X pins σ H1 { s1 with heap := h' } := I1.kept (t' := s1.toks) hk
    refine ⟨s1.heap.objs.size + 1, [s1.heap.objs.size + 1, s1.heap.objs.size], _, _, H1, rfl, I2, turn_enumT a (s1.heap.objs.size + 1) s1.heap.objs.size, ⟨⟨.none, he⟩, ⟨_, hit, rfl, rfl⟩, Nat.succ_ne_self _⟩, fun b hb => ?_, q⟩
    have e' : b = s1.heap.objs.size + 1 ∨ b = s1.heap.objs.size := by simpa using hb
    have hle : s1.heap.objs.size ≤ b := by
      rcases e' with z | z
      · rw [z]; exact Nat.le_add_right _ _
      · rw [z]; exact Nat.le_refl _
    exact I1.fpOk hle (I1.hok.fresh hle)
end Et

/-! Own data: formulas as they stand in the heap. -/
namespace Fm
open PySem PySem.Spec PyProof.Rows L2 Evl Cm Et

abbrev FStep := Str × List Int
def stV (s : FStep) : List V := .str s.1 :: s.2.map V.int
def stD (s : FStep) : PyData := .tuple (.str s.1 :: s.2.map PyData.int)
def StepAt (H : Hp) (v : V) (s : FStep) : Prop := ∃ p, v = .ref p ∧ H p = some (.tup (stV s))
def StepsAt (H : Hp) (vs : List V) (ss : List FStep) : Prop := vs.length = ss.length ∧ ∀ (i : Nat) v s, vs[i]? = some v → ss[i]? = some s → StepAt H v s
section
variable {K : PySem.W.Frag} {σ : L2.St} {H H' : Hp} {ta tb tc te tx tl : TE} {t u : TT} {x y z v w : V} {r r' : R2} {D : Ends} {tu tz : TS} {vs ws : List V} {ss ts : List FStep} {s : FStep} {g : TG}
theorem StepAt.mono (e : Ex H H') (h : StepAt H v s) : StepAt H' v s := by
  obtain ⟨p, h1, h2⟩ := h
  exact ⟨p, h1, e _ _ h2⟩
theorem StepsAt.mono (e : Ex H H') (h : StepsAt H vs ss) : StepsAt H' vs ss := ⟨h.1, fun i v s a b => (h.2 i v s a b).mono e⟩
theorem StepsAt.nil : StepsAt H [] [] := ⟨rfl, fun i v s h _ => by simp at h⟩
theorem StepsAt.app (h1 : StepsAt H vs ss) (h2 : StepsAt H ws ts) : StepsAt H (vs ++ ws) (ss ++ ts) := by
  refine ⟨by rw [List.length_append, List.length_append, h1.1, h2.1], fun i v s a b => ?_⟩
  by_cases hi : i < vs.length
  · rw [List.getElem?_append_left hi] at a
    rw [List.getElem?_append_left (by rw [← h1.1]; exact hi)] at b
    exact h1.2 i v s a b
  · rw [List.getElem?_append_right (by omega)] at a
    rw [List.getElem?_append_right (by have := h1.1; omega)] at b
    rw [← h1.1] at b
    exact h2.2 _ v s a b
theorem StepsAt.one (h : StepAt H v s) : StepsAt H [v] [s] := ⟨rfl, fun i x y a b => by
  cases i with
  | zero =>
    cases Option.some.inj a
    cases Option.some.inj b
    exact h
  | succ i => simp at a⟩
theorem StepsAt.snoc (h1 : StepsAt H vs ss) (h : StepAt H v s) : StepsAt H (vs ++ [v]) (ss ++ [s]) := h1.app (.one h)
theorem StepsAt.get (h : StepsAt H vs ss) {i : Nat} (hi : vs[i]? = some v) : ∃ s, ss[i]? = some s ∧ StepAt H v s := by
  have h1 : i < ss.length := by
    rw [← h.1]
    exact (List.getElem?_eq_some_iff.mp hi).1
  exact ⟨ss[i], List.getElem?_eq_getElem h1, h.2 i v _ hi (List.getElem?_eq_getElem h1)⟩
theorem StepAt.dp (h : StepAt H v s) : Dp K H v (stD s) := by
  obtain ⟨p, rfl, h⟩ := h
  exact .tup (st_of h) (.cons (.str _) (dpInts _))
theorem StepsAt.dp : ∀ {vs : List V} {ss : List FStep}, StepsAt H vs ss → DpAll K H vs (ss.map stD)
  | [], [], _ => .nil
  | [], _ :: _, h => by simp [StepsAt] at h
  | _ :: _, [], h => by simp [StepsAt] at h
  | v :: vs, s :: ss, h => .cons (StepAt.dp (h.2 0 v s rfl rfl)) (StepsAt.dp ⟨by simpa using h.1, fun i x y a b => h.2 (i + 1) x y a b⟩)
theorem lay_ints : ∀ (is : List Int), PyData.canLayAll0 (is.map PyData.int) = true
  | [] => rfl
  | i :: r => by
    show (PyData.canLay0 (.int i) && PyData.canLayAll0 (r.map PyData.int)) = true
    rw [lay_ints r]
    rfl
theorem dep_ints : ∀ (is : List Int), PyData.depthAll (is.map PyData.int) = 0
  | [] => rfl
  | i :: r => by
    show max 0 (PyData.depthAll (r.map PyData.int)) = 0
    rw [dep_ints r]
    rfl
theorem dep_st (s : FStep) : PyData.depth (stD s) = 1 := by
  show max 0 (PyData.depthAll (s.2.map PyData.int)) + 1 = 1
  rw [dep_ints]
  rfl
theorem dep_sts : ∀ (ss : List FStep), PyData.depthAll (ss.map stD) ≤ 1
  | [] => Nat.zero_le _
  | s :: r => by
    show max (PyData.depth (stD s)) (PyData.depthAll (r.map stD)) ≤ 1
    rw [dep_st]
    have := dep_sts r
    omega
def OkS (s : FStep) : Prop := PyData.strOk s.1 = true
theorem lay_st {s : FStep} (h : OkS s) : PyData.canLay0 (stD s) = true := by
  show (PyData.canLay0 (.str s.1) && PyData.canLayAll0 (s.2.map PyData.int)) = true
  rw [lay_ints, Bool.and_true]
  exact h
theorem lay_sts : ∀ {ss : List FStep}, (∀ s ∈ ss, OkS s) → PyData.canLayAll0 (ss.map stD) = true
  | [], _ => rfl
  | s :: r, h => by
    show (PyData.canLay0 (stD s) && PyData.canLayAll0 (r.map stD)) = true
    rw [lay_st (h s (.head _)), lay_sts fun x hx => h x (.tail _ hx)]
    rfl
def foD (ss : List FStep) : PyData := .tuple (ss.map stD)
theorem sh_form (h : ∀ s ∈ ss, OkS s) : SeqAt.shaped (foD ss) = true := by
  unfold SeqAt.shaped
  rw [show PyData.canLay0 (foD ss) = PyData.canLayAll0 (ss.map stD) from rfl, lay_sts h, Bool.true_and]
  refine decide_eq_true ?_
  show PyData.depthAll (ss.map stD) + 1 ≤ 64
  have := dep_sts ss
  omega
theorem sh_list (h : ∀ s ∈ ss, OkS s) : SeqAt.shaped (.list (ss.map stD)) = true := sh_form h
/-! ### what is a formula -/
def W2 : List Str := ["add", "subtract", "times", "divide"]
def W1 : List Str := ["root", "sine", "cosine", "exp", "log", "arctan", "arcsine", "arccosine"]
def OkStep (k : Nat) (s : FStep) : Prop :=
  (∃ p q, s = (("number" : Str), [p, q]) ∧ 1 ≤ q) ∨ s = (("pi" : Str), []) ∨ (∃ w i j, w ∈ W2 ∧ s = (w, [i, j]) ∧ (0 ≤ i ∧ i < k) ∧ (0 ≤ j ∧ j < k)) ∨ (∃ w i, w ∈ W1 ∧ s = (w, [i]) ∧ (0 ≤ i ∧ i < k))
def OkForm (ss : List FStep) : Prop := ∀ k s, ss[k]? = some s → OkStep k s
theorem w2_all {P : Str → Prop} (h : P "add" ∧ P "subtract" ∧ P "times" ∧ P "divide") : ∀ w ∈ W2, P w := by
  intro w hw
  unfold W2 at hw
  simp only [List.mem_cons, List.not_mem_nil, or_false] at hw
  obtain ⟨h1, h2, h3, h4⟩ := h
  rcases hw with rfl | rfl | rfl | rfl <;> assumption
theorem w1_all {P : Str → Prop} (h : P "root" ∧ P "sine" ∧ P "cosine" ∧ P "exp" ∧ P "log" ∧ P "arctan" ∧ P "arcsine" ∧ P "arccosine") : ∀ w ∈ W1, P w := by
  intro w hw
  unfold W1 at hw
  simp only [List.mem_cons, List.not_mem_nil, or_false] at hw
  obtain ⟨h1, h2, h3, h4, h5, h6, h7, h8⟩ := h
  rcases hw with rfl | rfl | rfl | rfl | rfl | rfl | rfl | rfl <;> assumption
theorem w2_ok : ∀ w ∈ W2, PyData.strOk w = true := w2_all ⟨by decide +kernel, by decide +kernel, by decide +kernel, by decide +kernel⟩
theorem w1_ok : ∀ w ∈ W1, PyData.strOk w = true := w1_all ⟨by decide +kernel, by decide +kernel, by decide +kernel, by decide +kernel, by decide +kernel, by decide +kernel, by decide +kernel, by decide +kernel⟩
theorem w2_nn : ∀ w ∈ W2, w ≠ "number" := w2_all ⟨by decide +kernel, by decide +kernel, by decide +kernel, by decide +kernel⟩
theorem w2_np : ∀ w ∈ W2, w ≠ "pi" := w2_all ⟨by decide +kernel, by decide +kernel, by decide +kernel, by decide +kernel⟩
theorem w1_nn : ∀ w ∈ W1, w ≠ "number" := w1_all ⟨by decide +kernel, by decide +kernel, by decide +kernel, by decide +kernel, by decide +kernel, by decide +kernel, by decide +kernel, by decide +kernel⟩
theorem w1_np : ∀ w ∈ W1, w ≠ "pi" := w1_all ⟨by decide +kernel, by decide +kernel, by decide +kernel, by decide +kernel, by decide +kernel, by decide +kernel, by decide +kernel, by decide +kernel⟩
theorem pi_nn : ("pi" : Str) ≠ "number" := by decide +kernel
theorem ok_num : PyData.strOk "number" = true := by decide +kernel
theorem ok_pi : PyData.strOk "pi" = true := by decide +kernel
theorem OkStep.oks {k : Nat} (h : OkStep k s) : OkS s := by
  rcases h with ⟨p, q, rfl, _⟩ | rfl | ⟨w, i, j, hw, rfl, _⟩ | ⟨w, i, hw, rfl, _⟩
  · exact ok_num
  · exact ok_pi
  · exact w2_ok w hw
  · exact w1_ok w hw
theorem OkStep.mono {k m : Nat} (hk : k ≤ m) (h : OkStep k s) : OkStep m s := by
  rcases h with h | h | ⟨w, i, j, hw, rfl, h1, h2⟩ | ⟨w, i, hw, rfl, h1⟩
  · exact .inl h
  · exact .inr (.inl h)
  · exact .inr (.inr (.inl ⟨w, i, j, hw, rfl, ⟨h1.1, by omega⟩, ⟨h2.1, by omega⟩⟩))
  · exact .inr (.inr (.inr ⟨w, i, hw, rfl, ⟨h1.1, by omega⟩⟩))
theorem OkForm.oks (h : OkForm ss) : ∀ s ∈ ss, OkS s := fun s hs => by
  obtain ⟨k, hk⟩ := List.getElem?_of_mem hs
  exact (h k s hk).oks
theorem OkForm.nil : OkForm [] := fun k s h => by simp at h
theorem OkForm.snoc (h : OkForm ss) (hs : OkStep ss.length s) : OkForm (ss ++ [s]) := fun k x hk => by
  by_cases hi : k < ss.length
  · rw [List.getElem?_append_left hi] at hk
    exact h k x hk
  · rw [List.getElem?_append_right (by omega)] at hk
    have e : k - ss.length = 0 := by
      have := (List.getElem?_eq_some_iff.mp hk).1
      simp at this
      omega
    rw [e] at hk
    cases Option.some.inj hk
    exact hs.mono (by omega)
def shiftS (m : Nat) (s : FStep) : FStep := if s.1 = "number" then s else (s.1, s.2.map fun i => (m : Int) + i)
theorem OkStep.shift {k m : Nat} (h : OkStep k s) : OkStep (m + k) (shiftS m s) := by
  rcases h with ⟨p, q, rfl, hq⟩ | rfl | ⟨w, i, j, hw, rfl, h1, h2⟩ | ⟨w, i, hw, rfl, h1⟩
  · unfold shiftS
    rw [if_pos rfl]
    exact .inl ⟨p, q, rfl, hq⟩
  · unfold shiftS
    rw [if_neg pi_nn]
    exact .inr (.inl rfl)
  · unfold shiftS
    rw [if_neg (w2_nn w hw)]
    exact .inr (.inr (.inl ⟨w, (m : Int) + i, (m : Int) + j, hw, rfl, ⟨by omega, by omega⟩, ⟨by omega, by omega⟩⟩))
  · unfold shiftS
    rw [if_neg (w1_nn w hw)]
    exact .inr (.inr (.inr ⟨w, (m : Int) + i, hw, rfl, ⟨by omega, by omega⟩⟩))
def joinS (w : Str) (f g : List FStep) : List FStep := f ++ g.map (shiftS f.length) ++ [(w, [(f.length : Int) - 1, (f.length : Int) + (g.length : Int) - 1])]
theorem OkForm.app_shift {f gg : List FStep} (hf : OkForm f) (hg : OkForm gg) : OkForm (f ++ gg.map (shiftS f.length)) := fun k x hk => by
  by_cases hi : k < f.length
  · rw [List.getElem?_append_left hi] at hk
    exact hf k x hk
  · rw [List.getElem?_append_right (by omega), List.getElem?_map] at hk
    obtain ⟨s, h1, rfl⟩ := Option.map_eq_some_iff.mp hk
    have h2 := (hg _ s h1).shift (m := f.length)
    rw [show f.length + (k - f.length) = k by omega] at h2
    exact h2
theorem OkForm.join {f gg : List FStep} {w : Str} (hf : OkForm f) (hg : OkForm gg) (hw : w ∈ W2) (h1 : f ≠ []) (h2 : gg ≠ []) : OkForm (joinS w f gg) := by
  have l1 : 0 < f.length := List.length_pos_iff.mpr h1
  have l2 : 0 < gg.length := List.length_pos_iff.mpr h2
  refine OkForm.snoc (hf.app_shift hg) (.inr (.inr (.inl ⟨w, _, _, hw, rfl, ⟨by omega, ?_⟩, ⟨by omega, ?_⟩⟩)))
  · rw [List.length_append, List.length_map]
    omega
  · rw [List.length_append, List.length_map]
    omega
theorem OkForm.app1 {f : List FStep} {w : Str} (hf : OkForm f) (hw : w ∈ W1) (h1 : f ≠ []) : OkForm (f ++ [(w, [(f.length : Int) - 1])]) := by
  have l1 : 0 < f.length := List.length_pos_iff.mpr h1
  exact hf.snoc (.inr (.inr (.inr ⟨w, _, hw, rfl, by omega, by omega⟩)))
/-! ### what comes back -/
def RetF (ss : List FStep) (H : Hp) (Q : VK) : Prop := ∀ a H2 vs, H a = none → Ex H H2 → H2 a = some (.tup vs) → StepsAt H2 vs ss → Q (.ref a) H2
def RetS (s : FStep) (H : Hp) (Q : VK) : Prop := ∀ v H2, Ex H H2 → StepAt H2 v s → Q v H2
def EvF (te : TE) (σ : L2.St) (H : Hp) (ss : List FStep) : Prop := ∀ H1, Ex H H1 → ∀ Q : VK, RetF ss H1 Q → te σ H1 Q
def SpF (sp : Sp) (vs : List V) (H : Hp) (ss : List FStep) : Prop := ∀ H1, Ex H H1 → ∀ Q : VK, RetF ss H1 Q → ∀ E : XK, sp vs H1 Q E
theorem RetF.go {Q : VK} (k : RetF ss H Q) (e : Ex H H') {a : Addr} {H2 : Hp} (ha : H' a = none) (e2 : Ex H' H2) (h : H2 a = some (.tup vs)) (h2 : StepsAt H2 vs ss) : Q (.ref a) H2 := k a H2 vs (fresh_back e ha) (e.trans e2) h h2
theorem ef_call {sp : Sp} {dvs ws : List V} {E : XK} {ta : TA} (h : EvA ta σ H ws) (hs : SpF sp (ws ++ dvs) H ss) : EvF (tCall sp dvs E ta) σ H ss := fun H1 e Q q =>
  h H1 e _ fun H2 e2 => hs H2 (e.trans e2) Q (fun a H3 vs ha e3 h3 hs3 => q a H3 vs (fresh_back e2 ha) (e2.trans e3) h3 hs3) E
theorem q_asgF {i : Nat} (h : EvF te σ H ss) (k : ∀ a H1 vs, Ex H H1 → H1 a = some (.tup vs) → StepsAt H1 vs ss → tz D (σ.set i (some (.ref a))) H1) : tSeq (tAsg te (gName i)) tz D σ H :=
  h H (Ex.refl H) _ fun a H1 vs _ e h1 h2 => k a H1 vs e h1 h2
theorem q_asgP {i : Nat} (P : V → Hp → Prop) (h : ∀ Q : VK, (∀ v H1, Ex H H1 → P v H1 → Q v H1) → te σ H Q) (k : ∀ v H1, Ex H H1 → P v H1 → tz D (σ.set i (some v)) H1) : tSeq (tAsg te (gName i)) tz D σ H := h _ k
theorem s_retF (h : EvF te σ H ss) (k : RetF ss H D.rt) : tRet te D σ H := h H (Ex.refl H) _ k
theorem ev_neFF (ha : EvF ta σ H ss) (hb : EvF tb σ H ss) (hs : ∀ s ∈ ss, OkS s) : Ev (tOp (rNeD K) ta tb) σ H (.bl false) := fun H1 e Q q =>
  ha H1 e _ fun p H2 vs _ e2 hp hv => hb H2 (e.trans e2) _ fun p2 H3 ws _ e3 hp2 hw =>
    rv_neS (H := H3) (d := foD ss) (.tup (st_of (e3 _ _ hp)) (hv.mono e3).dp) (.tup (st_of hp2) hw.dp) (sh_form hs) H3 (Ex.refl _) Q fun H4 e4 => q H4 ((e2.trans e3).trans e4)
theorem ev_eqF {p : Addr} (h : H p = some (.tup vs)) (hv : StepsAt H vs ss) (ha : Ev ta σ H (.ref p)) (hb : EvF tb σ H ss) (hs : ∀ s ∈ ss, OkS s) : Ev (tOp (rEqD K) ta tb) σ H (.bl true) := fun H1 e Q q =>
  ha H1 e _ fun H2 e2 => hb H2 (e.trans e2) _ fun p2 H3 ws _ e3 hp2 hw =>
    rv_eqS (H := H3) (d := foD ss) (.tup (st_of (((e.trans e2).trans e3) _ _ h)) (hv.mono ((e.trans e2).trans e3)).dp) (.tup (st_of hp2) hw.dp) (sh_form hs) H3 (Ex.refl _) Q fun H4 e4 => q H4 ((e2.trans e3).trans e4)
/-- a call whose argument is a new formula -/
theorem ev_callF {sp : Sp} {dvs ws : List V} {E : XK} {tr : TA} (h1 : EvF te σ H ss) (h2 : EvA tr σ H ws) (hs : ∀ p H1 us, Ex H H1 → H1 p = some (.tup us) → StepsAt H1 us ss → SpV sp (.ref p :: ws ++ dvs) H1 z) : Ev (tCall sp dvs E (tCons te tr)) σ H z := fun H1 e Q q =>
  h1 H1 e _ fun p H2 us np e2 hp hu => h2 H2 (e.trans e2) _ fun H3 e3 => hs p H3 us ((e.trans e2).trans e3) (e3 _ _ hp) (hu.mono e3) H3 (Ex.refl H3) Q (fun H4 e4 => q H4 ((e2.trans e3).trans e4)) E
theorem rc_isiI {i : Int} : RC (rIsi K) [.int i, .ty "int"] H (.bl true) := fun H1 e _ q =>
  ⟨.int i, .ty "int", .type "int", .type "int", true, rfl, .ty _, .base (.int i), kit_ty (by decide +kernel), q H1 (Ex.refl H1)⟩
theorem rc_isiIB {i : Int} : RC (rIsi K) [.int i, .ty "bool"] H (.bl false) := fun H1 e _ q =>
  ⟨.int i, .ty "bool", .type "int", .type "bool", false, rfl, .ty _, .base (.int i), kit_ty (by decide +kernel), q H1 (Ex.refl H1)⟩
theorem rc_lenT {p : Addr} {xs : List V} (h : SqT K H p xs) : RC (fun xs H Q => ∃ x n, xs = [x] ∧ LenV K x H n ∧ Q (.int n) H) [.ref p] H (.int (xs.length : Int)) := fun H1 e _ q =>
  ⟨.ref p, (xs.length : Nat), rfl, .inr ⟨_, ex_t e h, rfl⟩, q H1 (Ex.refl H1)⟩
theorem cut1 (xs : List V) : cutV xs (some 1) none = xs.drop 1 := by
  unfold cutV
  rw [show HT.sIx xs.length 0 (some 1) = min 1 xs.length from HT.sIx_nat xs.length 0 1, HT.sIx_none]
  cases xs with
  | nil => rfl
  | cons x r =>
    rw [show min 1 (x :: r).length = 1 by
      rw [List.length_cons]
      omega]
    show (List.take ((x :: r).length - 1) r) = r
    rw [List.length_cons, Nat.add_sub_cancel]
    exact List.take_length
/-- t[1:] of a tuple that is not empty -/
theorem eu_tail {a : Addr} {xs : List V} (h : Ev te σ H (.ref a)) (hx : SqT K H a (y :: xs)) : EvU (tSl (rSlT K) te (tPart (tC (.int 1))) tNoPart) σ H xs := fun H1 e Q q =>
  h H1 e _ fun H2 e2 => ⟨1, rfl, a, y :: xs, rfl, ex_t (e.trans e2) hx, fun z => by
    have z1 : HT.sIx (y :: xs).length 0 (some 1) = min 1 (y :: xs).length := HT.sIx_nat (y :: xs).length 0 1
    have z2 := z.1
    rw [z1, List.length_cons] at z2
    omega, fun p hp => by
    have e3 : cutV (y :: xs) (some 1) none = xs := cut1 (y :: xs)
    rw [e3]
    exact q p _ (fresh_back e2 hp) (e2.trans (Ex.new hp)) upd_same⟩
/-- for over a new tuple -/
theorem s_forNT {xs : List V} (h : EvU tl σ H xs) (Pv : Addr → Nat → L2.St → Hp → Prop) (h0 : ∀ p H1, H p = none → Ex H H1 → H1 p = some (.tup xs) → Pv p 0 σ H1) (hl : ∀ p i σ' H', i ≤ xs.length → Pv p i σ' H' → SqT K H' p xs)
    (hs : ∀ p i x σ' H', xs[i]? = some x → Pv p i σ' H' → g x σ' H' fun σ2 H2 => tu { D with nx := Pv p (i + 1), ct := Pv p (i + 1), bk := D.nx } σ2 H2) (hd : ∀ p σ' H', Pv p xs.length σ' H' → D.nx σ' H') : tFor (iTup K tl) g tu D σ H :=
  h H (Ex.refl H) _ fun p H1 hp e h1 => ⟨p, rfl, ⟨xs, st_of h1⟩, for_tup (Pv p) (h0 p H1 hp e h1) (hl p) (hs p) (hd p)⟩
theorem q_forNT {xs : List V} (h : EvU tl σ H xs) (Pv : Addr → Nat → L2.St → Hp → Prop) (h0 : ∀ p H1, H p = none → Ex H H1 → H1 p = some (.tup xs) → Pv p 0 σ H1) (hl : ∀ p i σ' H', i ≤ xs.length → Pv p i σ' H' → SqT K H' p xs)
    (hs : ∀ p i x σ' H', xs[i]? = some x → Pv p i σ' H' → g x σ' H' fun σ2 H2 => tu { D with nx := Pv p (i + 1), ct := Pv p (i + 1), bk := tz D } σ2 H2) (hd : ∀ p σ' H', Pv p xs.length σ' H' → tz D σ' H') : tSeq (tFor (iTup K tl) g tu) tz D σ H :=
  s_forNT (D := { D with nx := tz D }) h Pv h0 hl hs hd
/-- for i, x in enumerate(t) -/
theorem q_forET {a : Addr} {xs : List V} {ta : TA} (h : EvA ta σ H [.ref a]) (hx : SqT K H a xs) (Pv : Nat → L2.St → Hp → Prop) (h0 : ∀ H1, Ex H H1 → Pv 0 σ H1) (hG : ∀ i σ' H', i ≤ xs.length → Pv i σ' H' → SqT K H' a xs)
    (hs : ∀ i x σ' H' T, xs[i]? = some x → Pv i σ' H' → H' T = none → g (.ref T) σ' (upd H' T (.tup [.int (i : Nat), x])) fun σ2 H2 => tu { D with nx := Pv (i + 1), ct := Pv (i + 1), bk := tz D } σ2 H2) (hd : ∀ σ' H', Pv xs.length σ' H' → tz D σ' H') :
    tSeq (tFor (iEnumT K ta) g tu) tz D σ H := h H (Ex.refl H) _ fun H1 e => by
  have wk : Walk (Iet K a) xs.length (fun H => SqT K H a xs) (YPair (fun i => some (.int (i : Nat))) (fun i => xs[i]?)) := by
    refine ⟨fun i _ hi q => ⟨xs, xs[i], q, by simp [hi]⟩, fun _ q => ⟨xs, q, Nat.le_refl _⟩, fun i H v H' _ q y => ?_⟩
    obtain ⟨T, x, h1, h2, h3, h4⟩ := y
    exact ⟨T, .int (i : Nat), x, h1, h2, h3, rfl, h4 xs q⟩
  refine ⟨a, xs, rfl, ex_t e hx, for_it (D := { D with nx := tz D }) wk Pv (h0 H1 e) hG (fun i x σ' H' H'' hi p y => ?_) hd⟩
  obtain ⟨T, x1, x2, rfl, hT, rfl, e1, e2⟩ := y
  cases Option.some.inj e1
  exact hs i x2 σ' H' T e2 p hT
/-- [e for x in a new tuple], e told -/
theorem el_mapNT {xs : List V} {j : Nat} {vs : List Nat} (fv : Nat → V) (h : EvU tl σ H xs) (hz : xs.length ≤ 40000) (hw : ∀ x, wipe ((wipe σ vs).set j (some x)) vs = wipe σ vs)
    (he : ∀ (i : Nat) (x : V) H1, Ex H H1 → xs[i]? = some x → Ev te ((wipe σ vs).set j (some x)) H1 (fv i)) :
    EvL (tLc (iTup K tl) (gName j) tYes te vs) σ H (given xs.length (fun _ => true) fv) := fun H0 e Q q => h H0 e _ fun a H1 ha e1 hx => ⟨a, rfl, ⟨xs, st_of hx⟩, fun Dl hD =>
  lc_tup (xs := xs) (Cw H1 (fun _ => true) fv Dl) ⟨hD, Ex.new hD, upd_same⟩ (fun i H' _ p => st_of (p.2.1 a _ hx)) (fun i x H' hi p => ⟨hw x, cw_turn p (by have := (List.getElem?_eq_some_iff.mp hi).1; omega) (fun H3 _ Q3 q3 => q3 H3 (Ex.refl H3)) (fun hf => he i x H1 (e.trans e1) hi)⟩)
    (fun H' p => q Dl H' (fresh_back e1 p.1) (e1.trans p.2.1) p.2.2)⟩
theorem given_all (n : Nat) (fv : Nat → V) : given n (fun _ => true) fv = (List.range n).map fv := by
  unfold given
  rw [List.filter_eq_self.mpr (fun _ _ => rfl)]
/-- a formula that grows in a list -/
structure FoAt (H H' : Hp) (l : Addr) (us : List V) (ss : List FStep) : Prop where
  ex : Ex H H'
  at_ : H' l = some (.lst us)
  st : StepsAt H' us ss
theorem FoAt.mono {H H1 H2 : Hp} {l : Addr} {us : List V} (F : FoAt H H1 l us ss) (e : Ex H1 H2) : FoAt H H2 l us ss := ⟨F.ex.trans e, e _ _ F.at_, F.st.mono e⟩
theorem steps_upd {l : Addr} {us zs : List V} {xs : List V} (hl : H l = some (.lst xs)) (h : StepsAt H us ss) : StepsAt (upd H l (.lst zs)) us ss := ⟨h.1, fun i v s a b => by
  obtain ⟨p, r1, r2⟩ := h.2 i v s a b
  refine ⟨p, r1, ?_⟩
  rw [upd_ne (fun z => by rw [z, hl] at r2; cases r2)]
  exact r2⟩
theorem step_upd {l : Addr} {zs : List V} {xs : List V} (hl : H l = some (.lst xs)) (h : StepAt H v s) : StepAt (upd H l (.lst zs)) v s := by
  obtain ⟨p, r1, r2⟩ := h
  refine ⟨p, r1, ?_⟩
  rw [upd_ne (fun z => by rw [z, hl] at r2; cases r2)]
  exact r2
theorem FoAt.push {H H1 H2 : Hp} {l : Addr} {us : List V} (hn : H l = none) (F : FoAt H H1 l us ss) (e : Ex H1 H2) (hs : StepAt H2 v s) : FoAt H (upd H2 l (.lst (us ++ [v]))) l (us ++ [v]) (ss ++ [s]) :=
  ⟨Ex.mut (F.ex.trans e) hn, upd_same, (steps_upd (e _ _ F.at_) (F.st.mono e)).snoc (step_upd (e _ _ F.at_) hs)⟩
/-- steps == [] -/
theorem ev_isEmpty {l : Addr} {us : List V} (hl : H l = some (.lst us)) (hs : StepsAt H us ss) (ho : ∀ s ∈ ss, OkS s) (ha : Ev ta σ H (.ref l)) : Ev (tOp (rEqD K) ta (tLst tNil)) σ H (.bl ss.isEmpty) :=
  ev_opL ha (el_lst ea_nil (show 0 ≤ 100000 by decide)) fun p H1 hp e H2 e2 Q q => ⟨.list (ss.map stD), .list [], .lst (sq_of ((e.trans e2) _ _ hl)) (hs.mono (e.trans e2)).dp, .lst (sq_of (e2 _ _ hp)) .nil, sh_list ho, rfl, by
    have e3 : PyData.eqv (.list (ss.map stD)) (.list []) = ss.isEmpty := by cases ss <;> rfl
    rw [e3]
    exact q H2 (Ex.refl _)⟩
theorem cut_take (xs : List V) (m : Nat) : cutV xs none (some (m : Int)) = xs.take m := by
  unfold cutV
  rw [HT.sIx_none, HT.sIx_nat, List.drop_zero, Nat.sub_zero]
  by_cases h : m ≤ xs.length
  · rw [Nat.min_eq_left h]
  · rw [Nat.min_eq_right (by omega), List.take_length, List.take_of_length_le (by omega)]
/-- f + (step,) -/
theorem ef_cat1 {a : Addr} {us : List V} {tt : TA} (ha : H a = some (.tup us)) (hs : StepsAt H us ss) (hne : ss ≠ []) (hl : ss.length ≤ 1000) (h : Ev ta σ H (.ref a)) (ht : EvA tt σ H (stV s)) (hz : s.2.length ≤ 100) : EvF (tOp (rCatT K) ta (tTup (tCons (tTup tt) tNil))) σ H (ss ++ [s]) := fun H1 e Q q =>
  h H1 e _ fun H2 e2 => ht H2 (e.trans e2) _ fun H3 e3 => ⟨by show (stV s).length ≤ sizeLine; exact sz_of (by simp [stV]; omega), fun p hp => ⟨by show 1 ≤ sizeLine; decide, fun r hr => by
    have e4 : Ex H3 (upd H3 p (.tup (stV s))) := Ex.new hp
    have e5 := e4.trans (Ex.new (o := .tup [V.ref p]) hr)
    have e6 := ((e.trans e2).trans e3).trans e5
    refine ⟨a, r, us, [.ref p], rfl, rfl, st_of (e6 _ _ ha), st_of upd_same, fun z => ?_, ?_, (fun z => nomatch z), fun _ c hc => ?_⟩
    · rw [z] at hs
      have := hs.1
      exact hne (List.eq_nil_of_length_eq_zero this.symm)
    · rw [hs.1]
      exact sz_of (by simp; omega)
    · refine q c _ _ (fresh_back ((e2.trans e3).trans e5) hc) (((e2.trans e3).trans e5).trans (Ex.new hc)) upd_same ?_
      exact ((hs.mono e6).snoc ⟨p, rfl, ex_app (Ex.new hr) upd_same⟩).mono (Ex.new hc)⟩⟩
/-- (step,) -/
theorem ef_one {tt : TA} (ht : EvA tt σ H (stV s)) (hz : s.2.length ≤ 100) : EvF (tTup (tCons (tTup tt) tNil)) σ H [s] := fun H1 e Q q =>
  ht H1 e _ fun H3 e3 => ⟨by show (stV s).length ≤ sizeLine; exact sz_of (by simp [stV]; omega), fun p hp => ⟨by show 1 ≤ sizeLine; decide, fun r hr => by
    have e4 : Ex H3 (upd H3 p (.tup (stV s))) := Ex.new hp
    exact q r _ _ (fresh_back (e3.trans e4) hr) ((e3.trans e4).trans (Ex.new hr)) upd_same (.one ⟨p, rfl, ex_app (Ex.new hr) upd_same⟩)⟩⟩
theorem ev_cbF {r : List V → Hp → VK → Prop} {tr : TA} {ws : List V} (h1 : EvF te σ H ss) (h2 : EvA tr σ H ws) (hr : ∀ p H1 us, H1 p = some (.tup us) → Ex H H1 → RC r (.ref p :: ws) H1 z) : Ev (tCB r (tCons te tr)) σ H z := fun H1 e Q q =>
  h1 H1 e _ fun p H2 us np e2 hp hu => h2 H2 (e.trans e2) _ fun H3 e3 => hr p H3 us (e3 _ _ hp) ((e.trans e2).trans e3) H3 (Ex.refl _) Q fun H4 e4 => q H4 ((e2.trans e3).trans e4)
theorem yes_go {A B : Hp → Prop} (h : A H) : tYes σ H fun b H3 => if b = true then A H3 else B H3 := by
  show (if true = true then A H else B H)
  rw [if_pos rfl]
  exact h
theorem at0 (st : FStep) : atI (stV st) 0 = some (.str st.1) := atI_nat (j := 0) rfl
end
end Fm

/-! Own rules: min and max of four ints, isqrt, // by any divisor. -/
namespace Mi
open PySem PySem.Spec PyProof.Rows L2 Evl Cm
theorem args_min4 (a b c d : Value) : argsOk "min" ⟨[a, b, c, d], []⟩ := by unfold argsOk; kernel_rfl
theorem args_max4 (a b c d : Value) : argsOk "max" ⟨[a, b, c, d], []⟩ := by unfold argsOk; kernel_rfl
section
variable {prog : Program} {w : World} {A : Around} {E : Value → Shared → Prop} {s : Shared}
theorem call_min_four {a b c d : Value} {Q : Value → Shared → Prop}
    (h : wpAny (model prog w) A.in1 (pyIter (.ref s.heap.objs.size)) (fun it s₂ => ∃ I fp wr n P St bt, it = .ref I ∧ Walks prog w A.in1 I fp wr n P St ∧ St 0 s₂.heap ∧ (∀ b ∈ fp, b < s₂.heap.objs.size) ∧ 0 < n ∧ CmpOf prog w A.in1 .Lt P bt ∧
      ∀ v h' tk, P (argBest bt (n - 1)) v → (∀ b o, b ∉ wr → s₂.heap.get? b = some o → h'.get? b = some o) → Q v { s₂ with heap := h', toks := tk }) E
      { s with heap := s.heap.push { cls := .type "tuple", data := .seq #[a, b, c, d] } }) :
    wpAny (model prog w) A (call (.builtin "min") [a, b, c, d]) Q E s := by
  have hname : (toString "min" ++ toString ".loop" : String) = "min.loop" := by decide
  refine call_function_tree F.kind_min F.plain_min F.entry_min (args_min4 _ _ _ _) ?_
  show wpAny _ A.in1 (Builtin.Builtins.bindParams "min" ["key", "default"] 0 ⟨[], []⟩ >>= _) _ _ s
  refine wpAny_bind (wpAny_of_eq (show Builtin.Builtins.bindParams "min" ["key", "default"] 0 ⟨[], []⟩ = pure [none, none] from rfl) ?_)
  show wpAny _ A.in1 (newTuple [a, b, c, d] >>= _) _ _ s
  refine wpAny_bind (wpAny_newObj_type ?_)
  refine wpAny_bind (wpAny_mono h (fun it s₂ h₂ => ?_) fun _ _ e => e)
  obtain ⟨I, fp, wr, n, P, St, bt, rfl, W, hst, hfp, hn, hcmp, hQ⟩ := h₂
  refine wpAny_bind (wpAny_newObj_type ?_)
  have hSf : s₂.heap.objs.size ∉ fp := fun hm => Nat.lt_irrefl _ (hfp _ hm)
  rw [hname]
  refine wpAny_pure ⟨plainId_quiet F.plain_min_loop _, codeAny_min_loop_first W bt hcmp s₂.heap.objs.size hSf hn (W.frame _ _ _ hst fun b _ o e => Heap.get?_push_of_some _ e) (Heap.get?_push_size _ rfl) fun v h' tk hP hk => ?_⟩
  exact hQ v h' tk hP fun b o hbw e => hk b o hbw (Nat.ne_of_lt (Heap.lt_size e)) (Heap.get?_push_of_some _ e)
theorem call_max_four {a b c d : Value} {Q : Value → Shared → Prop}
    (h : wpAny (model prog w) A.in1 (pyIter (.ref s.heap.objs.size)) (fun it s₂ => ∃ I fp wr n P St bt, it = .ref I ∧ Walks prog w A.in1 I fp wr n P St ∧ St 0 s₂.heap ∧ (∀ b ∈ fp, b < s₂.heap.objs.size) ∧ 0 < n ∧ CmpOf prog w A.in1 .Gt P bt ∧
      ∀ v h' tk, P (argBest bt (n - 1)) v → (∀ b o, b ∉ wr → s₂.heap.get? b = some o → h'.get? b = some o) → Q v { s₂ with heap := h', toks := tk }) E
      { s with heap := s.heap.push { cls := .type "tuple", data := .seq #[a, b, c, d] } }) :
    wpAny (model prog w) A (call (.builtin "max") [a, b, c, d]) Q E s := by
  have hname : (toString "max" ++ toString ".loop" : String) = "max.loop" := by decide
  refine call_function_tree F.kind_max F.plain_max F.entry_max (args_max4 _ _ _ _) ?_
  show wpAny _ A.in1 (Builtin.Builtins.bindParams "max" ["key", "default"] 0 ⟨[], []⟩ >>= _) _ _ s
  refine wpAny_bind (wpAny_of_eq (show Builtin.Builtins.bindParams "max" ["key", "default"] 0 ⟨[], []⟩ = pure [none, none] from rfl) ?_)
  show wpAny _ A.in1 (newTuple [a, b, c, d] >>= _) _ _ s
  refine wpAny_bind (wpAny_newObj_type ?_)
  refine wpAny_bind (wpAny_mono h (fun it s₂ h₂ => ?_) fun _ _ e => e)
  obtain ⟨I, fp, wr, n, P, St, bt, rfl, W, hst, hfp, hn, hcmp, hQ⟩ := h₂
  refine wpAny_bind (wpAny_newObj_type ?_)
  have hSf : s₂.heap.objs.size ∉ fp := fun hm => Nat.lt_irrefl _ (hfp _ hm)
  rw [hname]
  refine wpAny_pure ⟨plainId_quiet F.plain_max_loop _, codeAny_max_loop_first W bt hcmp s₂.heap.objs.size hSf hn (W.frame _ _ _ hst fun b _ o e => Heap.get?_push_of_some _ e) (Heap.get?_push_size _ rfl) fun v h' tk hP hk => ?_⟩
  exact hQ v h' tk hP fun b o hbw e => hk b o hbw (Nat.ne_of_lt (Heap.lt_size e)) (Heap.get?_push_of_some _ e)
theorem min4 {a b c d : Int} {t u x y : Tok} {Q : Value → Shared → Prop} (hh : A.handled = none)
    (h : ∀ h' tk t', (∀ z o, s.heap.get? z = some o → h'.get? z = some o) → Q (.int (min (min a b) (min c d)) t') { s with heap := h', toks := tk }) :
    wpAny (model prog w) A (call (.builtin "min") [.int a t, .int b u, .int c x, .int d y]) Q E s := by
  have hT : (s.heap.push { cls := .type "tuple", data := .seq #[.int a t, .int b u, .int c x, .int d y] }).IsTuple s.heap.objs.size (intItems #[(a, t), (b, u), (c, x), (d, y)]) := ⟨_, Heap.get?_push_size _ rfl, rfl, 0, by simp [intItems]⟩
  refine call_min_four (wpAny_pyIter_tuple hT ?_)
  have hsz : (s.heap.push { cls := .type "tuple", data := .seq #[.int a t, .int b u, .int c x, .int d y] }).objs.size = s.heap.objs.size + 1 := Heap.size_push ..
  refine ⟨_, [_, s.heap.objs.size], [_], _, _, _, _, rfl, Walks.tuple (A := A.in1) hh _ s.heap.objs.size (by rw [hsz]; exact Nat.ne_of_lt (Nat.lt_succ_self _)) (intItems #[(a, t), (b, u), (c, x), (d, y)]),
    ⟨⟨_, Heap.get?_push_size _ rfl, rfl, rfl⟩, hT.push _⟩, fun z hz => ?_, by simp [intItems], CmpOf.ints_lt (numAt #[(a, t), (b, u), (c, x), (d, y)]) (fun _ _ => intItems_at), fun v h' tk hP hk => ?_⟩
  · show z < ((s.heap.push _).push _).objs.size
    rw [Heap.size_push, hsz]
    rcases List.mem_cons.mp hz with rfl | hz
    · rw [hsz]; exact Nat.lt_succ_self _
    · rcases List.mem_cons.mp hz with rfl | hz
      · exact Nat.lt_succ_of_lt (Nat.lt_succ_self _)
      · cases hz
  · have hold : ∀ z o, s.heap.get? z = some o → h'.get? z = some o := fun z o e => by
      refine hk z o (fun hm => ?_) (Heap.get?_push_of_some _ (Heap.get?_push_of_some _ e))
      rcases List.mem_cons.mp hm with e1 | hm
      · have := Heap.lt_size e; rw [e1, hsz] at this; exact Nat.lt_irrefl _ (Nat.lt_of_succ_lt this)
      · cases hm
    have hs4 : (intItems #[(a, t), (b, u), (c, x), (d, y)]).size - 1 = 3 := by simp [intItems]
    rw [hs4] at hP
    obtain ⟨t', rfl⟩ := intItems_at hP
    obtain ⟨h1, h2⟩ := argBest_lt (numAt #[(a, t), (b, u), (c, x), (d, y)]) 3
    have n0 : numAt #[(a, t), (b, u), (c, x), (d, y)] 0 = a := rfl
    have n1 : numAt #[(a, t), (b, u), (c, x), (d, y)] 1 = b := rfl
    have n2 : numAt #[(a, t), (b, u), (c, x), (d, y)] 2 = c := rfl
    have n3 : numAt #[(a, t), (b, u), (c, x), (d, y)] 3 = d := rfl
    have m0 := h2 0 (by omega)
    have m1 := h2 1 (by omega)
    have m2 := h2 2 (by omega)
    have m3 := h2 3 (by omega)
    rw [n0] at m0
    rw [n1] at m1
    rw [n2] at m2
    rw [n3] at m3
    generalize hB : argBest (fun i j => decide (numAt #[(a, t), (b, u), (c, x), (d, y)] i < numAt #[(a, t), (b, u), (c, x), (d, y)] j)) 3 = B at *
    have hv : numAt #[(a, t), (b, u), (c, x), (d, y)] B = min (min a b) (min c d) := by
      have h4 : B = 0 ∨ B = 1 ∨ B = 2 ∨ B = 3 := by omega
      rcases h4 with z | z | z | z
      · rw [z, n0] at m0 m1 m2 m3 ⊢; omega
      · rw [z, n1] at m0 m1 m2 m3 ⊢; omega
      · rw [z, n2] at m0 m1 m2 m3 ⊢; omega
      · rw [z, n3] at m0 m1 m2 m3 ⊢; omega
    rw [hv]
    exact h h' tk t' hold
theorem max4 {a b c d : Int} {t u x y : Tok} {Q : Value → Shared → Prop} (hh : A.handled = none)
    (h : ∀ h' tk t', (∀ z o, s.heap.get? z = some o → h'.get? z = some o) → Q (.int (max (max a b) (max c d)) t') { s with heap := h', toks := tk }) :
    wpAny (model prog w) A (call (.builtin "max") [.int a t, .int b u, .int c x, .int d y]) Q E s := by
  have hT : (s.heap.push { cls := .type "tuple", data := .seq #[.int a t, .int b u, .int c x, .int d y] }).IsTuple s.heap.objs.size (intItems #[(a, t), (b, u), (c, x), (d, y)]) := ⟨_, Heap.get?_push_size _ rfl, rfl, 0, by simp [intItems]⟩
  refine call_max_four (wpAny_pyIter_tuple hT ?_)
  have hsz : (s.heap.push { cls := .type "tuple", data := .seq #[.int a t, .int b u, .int c x, .int d y] }).objs.size = s.heap.objs.size + 1 := Heap.size_push ..
  refine ⟨_, [_, s.heap.objs.size], [_], _, _, _, _, rfl, Walks.tuple (A := A.in1) hh _ s.heap.objs.size (by rw [hsz]; exact Nat.ne_of_lt (Nat.lt_succ_self _)) (intItems #[(a, t), (b, u), (c, x), (d, y)]),
    ⟨⟨_, Heap.get?_push_size _ rfl, rfl, rfl⟩, hT.push _⟩, fun z hz => ?_, by simp [intItems], CmpOf.ints_gt (numAt #[(a, t), (b, u), (c, x), (d, y)]) (fun _ _ => intItems_at), fun v h' tk hP hk => ?_⟩
  · show z < ((s.heap.push _).push _).objs.size
    rw [Heap.size_push, hsz]
    rcases List.mem_cons.mp hz with rfl | hz
    · rw [hsz]; exact Nat.lt_succ_self _
    · rcases List.mem_cons.mp hz with rfl | hz
      · exact Nat.lt_succ_of_lt (Nat.lt_succ_self _)
      · cases hz
  · have hold : ∀ z o, s.heap.get? z = some o → h'.get? z = some o := fun z o e => by
      refine hk z o (fun hm => ?_) (Heap.get?_push_of_some _ (Heap.get?_push_of_some _ e))
      rcases List.mem_cons.mp hm with e1 | hm
      · have := Heap.lt_size e; rw [e1, hsz] at this; exact Nat.lt_irrefl _ (Nat.lt_of_succ_lt this)
      · cases hm
    have hs4 : (intItems #[(a, t), (b, u), (c, x), (d, y)]).size - 1 = 3 := by simp [intItems]
    rw [hs4] at hP
    obtain ⟨t', rfl⟩ := intItems_at hP
    obtain ⟨h1, h2⟩ := argBest_gt (numAt #[(a, t), (b, u), (c, x), (d, y)]) 3
    have n0 : numAt #[(a, t), (b, u), (c, x), (d, y)] 0 = a := rfl
    have n1 : numAt #[(a, t), (b, u), (c, x), (d, y)] 1 = b := rfl
    have n2 : numAt #[(a, t), (b, u), (c, x), (d, y)] 2 = c := rfl
    have n3 : numAt #[(a, t), (b, u), (c, x), (d, y)] 3 = d := rfl
    have m0 := h2 0 (by omega)
    have m1 := h2 1 (by omega)
    have m2 := h2 2 (by omega)
    have m3 := h2 3 (by omega)
    rw [n0] at m0
    rw [n1] at m1
    rw [n2] at m2
    rw [n3] at m3
    generalize hB : argBest (fun i j => decide (numAt #[(a, t), (b, u), (c, x), (d, y)] i > numAt #[(a, t), (b, u), (c, x), (d, y)] j)) 3 = B at *
    have hv : numAt #[(a, t), (b, u), (c, x), (d, y)] B = max (max a b) (max c d) := by
      have h4 : B = 0 ∨ B = 1 ∨ B = 2 ∨ B = 3 := by omega
      rcases h4 with z | z | z | z
      · rw [z, n0] at m0 m1 m2 m3 ⊢; omega
      · rw [z, n1] at m0 m1 m2 m3 ⊢; omega
      · rw [z, n2] at m0 m1 m2 m3 ⊢; omega
      · rw [z, n3] at m0 m1 m2 m3 ⊢; omega
    rw [hv]
    exact h h' tk t' hold
end
theorem vals4 {x y z v : V} {us : List Value} (r : Vals [x, y, z, v] us) : ∃ u1 u2 u3 u4, us = [u1, u2, u3, u4] ∧ RelV x u1 ∧ RelV y u2 ∧ RelV z u3 ∧ RelV v u4 := by
  cases r with
  | cons r1 r =>
    cases r with
    | cons r2 r =>
      cases r with
      | cons r3 r =>
        cases r with
        | cons r4 r =>
          cases r
          exact ⟨_, _, _, _, rfl, r1, r2, r3, r4⟩
section
variable {X : Cx}
def rMin4 : List V → Hp → VK → Prop := fun xs H Q => ∃ i j k l, xs = [.int i, .int j, .int k, .int l] ∧ Q (.int (min (min i j) (min k l))) H
def rMax4 : List V → Hp → VK → Prop := fun xs H Q => ∃ i j k l, xs = [.int i, .int j, .int k, .int l] ∧ Q (.int (max (max i j) (max k l))) H
theorem call_min4 (hc : X.calm = true) : CallR X (.builtin "min") rMin4 := by
  intro pins s σ H xs us Q I r h
  obtain ⟨i, j, k, l, rfl, q⟩ := h
  obtain ⟨u1, u2, u3, u4, rfl, ⟨t1, rfl⟩, ⟨t2, rfl⟩, ⟨t3, rfl⟩, ⟨t4, rfl⟩⟩ := vals4 r
  exact min4 (I.ok.hd hc) fun h' tk t' k => ⟨.int _, H, I.kept k, ⟨_, rfl⟩, q⟩
theorem call_max4 (hc : X.calm = true) : CallR X (.builtin "max") rMax4 := by
  intro pins s σ H xs us Q I r h
  obtain ⟨i, j, k, l, rfl, q⟩ := h
  obtain ⟨u1, u2, u3, u4, rfl, ⟨t1, rfl⟩, ⟨t2, rfl⟩, ⟨t3, rfl⟩, ⟨t4, rfl⟩⟩ := vals4 r
  exact max4 (I.ok.hd hc) fun h' tk t' k => ⟨.int _, H, I.kept k, ⟨_, rfl⟩, q⟩
/-- isqrt of a number below 2 ^ 4000 -/
def rSqrt : List V → Hp → VK → Prop := fun xs H Q => ∃ i : Int, xs = [.int i] ∧ 0 ≤ i ∧ Bd 4000 i ∧ ∀ r : Nat, (r : Int) * r ≤ i → i < ((r : Int) + 1) * ((r : Int) + 1) → Q (.int (r : Int)) H
theorem call_sqrt : CallR X (.builtin "math.isqrt") rSqrt := by
  intro pins s σ H xs us Q I r h
  obtain ⟨i, rfl, h0, hb, q⟩ := h
  obtain ⟨u1, rfl, ⟨t1, rfl⟩⟩ := vals1 r
  obtain ⟨n, rfl⟩ := Int.eq_ofNat_of_zero_le h0
  have hl : n.log2 ≤ 3999 := PySem.W.mg_log (show n < 2 ^ (3999 + 1) from hb)
  have hs := PySem.Float64.isqrt_spec n
  have qq := q (Float64.isqrt n) (by have := hs.1; exact_mod_cast this) (by have := hs.2; exact_mod_cast this)
  exact call_function_meets PySem.W.MGF.kind_isqrt PySem.W.MGF.plain_isqrt PySem.W.MGF.entry_isqrt (PySem.W.MGF.args_isqrt _) (PySem.W.mg_run_isqrt (n : Int) t1 (by omega) (by rw [Int.toNat_natCast]; omega) (by rw [Int.toNat_natCast]; omega)).meets ⟨.int _, H, I.tok _, ⟨_, rfl⟩, qq⟩
/-- // by a divisor that is not 0 and below 2 ^ 9000 -/
def CDivA (_ j : Int) : Prop := j ≠ 0 ∧ j.natAbs.log2 < 9000
theorem op_fdivA : OpR X (binaryOp .FloorDiv) (rI CDivA fun i j => .int (i.fdiv j)) := opI fun i j _ _ _ _ _ hc q => floordiv_int hc.1 q (.inl (PyProof.noPylong_of_log2 hc.2))
end
section
variable {H : Hp} {K : PySem.W.Frag}
theorem rc_min4 {i j k l : Int} : RC rMin4 [.int i, .int j, .int k, .int l] H (.int (min (min i j) (min k l))) := fun H1 _ _ q => ⟨i, j, k, l, rfl, q H1 (Ex.refl _)⟩
theorem rc_max4 {i j k l : Int} : RC rMax4 [.int i, .int j, .int k, .int l] H (.int (max (max i j) (max k l))) := fun H1 _ _ q => ⟨i, j, k, l, rfl, q H1 (Ex.refl _)⟩
end
end Mi

/-! Own data: the digits of a number. -/
namespace Dg
open PySem PySem.Builtin PySem.Builtin.Str SX TL
/-- the last k digits -/
def pad : Nat → Nat → List Nat
  | 0, _ => []
  | k + 1, n => pad k (n / 10) ++ [48 + n % 10]
theorem pad_len : ∀ k n, (pad k n).length = k
  | 0, _ => rfl
  | k + 1, n => by
    show (pad k (n / 10) ++ [48 + n % 10]).length = k + 1
    rw [List.length_append, pad_len k]
    rfl
theorem pow_div (n k : Nat) : n / 10 / 10 ^ k = n / 10 ^ (k + 1) := by
  rw [Nat.div_div_eq_div_mul, Nat.pow_succ, Nat.mul_comm]
theorem lt_pow {n k : Nat} (h : n < 10 ^ (k + 1)) : n / 10 < 10 ^ k := by
  rw [Nat.pow_succ] at h
  exact Nat.div_lt_of_lt_mul (by rw [Nat.mul_comm]; exact h)
theorem num_split : ∀ k n, 10 ^ k ≤ n → numL n = numL (n / 10 ^ k) ++ pad k n
  | 0, n, _ => by
    show numL n = numL (n / 1) ++ []
    rw [Nat.div_one, List.append_nil]
  | k + 1, n, h => by
    have h1 : 10 ^ k * 10 ≤ n := by
      rw [← Nat.pow_succ]
      exact h
    have h0 : 0 < 10 ^ k := Nat.pow_pos (by decide)
    have h2 : 10 ^ k ≤ n / 10 := (Nat.le_div_iff_mul_le (by decide)).mpr h1
    rw [numL_step (by omega), num_split k (n / 10) h2, pow_div, List.append_assoc]
    rfl
theorem pad_zero : ∀ k, pad k 0 = List.replicate k 48
  | 0 => rfl
  | k + 1 => by
    show pad k 0 ++ [48] = _
    rw [pad_zero k, List.replicate_succ']
theorem num_len : ∀ k n, n < 10 ^ (k + 1) → (numL n).length ≤ k + 1
  | 0, n, h => by
    rw [numL_lt (by omega)]
    exact Nat.le_refl _
  | k + 1, n, h => by
    by_cases h1 : n < 10
    · rw [numL_lt h1]
      show 1 ≤ k + 1 + 1
      omega
    · rw [numL_step (by omega), List.length_append]
      have := num_len k (n / 10) (lt_pow h)
      show (numL (n / 10)).length + 1 ≤ k + 1 + 1
      omega
theorem num_pad : ∀ k n, n < 10 ^ (k + 1) → List.replicate (k + 1 - (numL n).length) 48 ++ numL n = pad (k + 1) n
  | 0, n, h => by
    have h1 : n < 10 := by omega
    rw [numL_lt h1]
    show [] ++ [48 + n] = [] ++ [48 + n % 10]
    rw [Nat.mod_eq_of_lt h1]
  | k + 1, n, h => by
    by_cases h1 : n < 10
    · rw [numL_lt h1]
      show List.replicate (k + 1) 48 ++ [48 + n] = pad (k + 1) (n / 10) ++ [48 + n % 10]
      rw [Nat.mod_eq_of_lt h1, Nat.div_eq_of_lt h1, pad_zero]
    · have ih := num_pad k (n / 10) (lt_pow h)
      rw [numL_step (by omega), List.length_append]
      show List.replicate (k + 1 + 1 - ((numL (n / 10)).length + 1)) 48 ++ (numL (n / 10) ++ [48 + n % 10]) = pad (k + 1) (n / 10) ++ [48 + n % 10]
      rw [← ih, ← List.append_assoc, show k + 1 + 1 - ((numL (n / 10)).length + 1) = k + 1 - (numL (n / 10)).length by omega]
theorem pad_cons : ∀ k n, n < 10 ^ k → pad (k + 1) n = 48 :: pad k n
  | 0, n, h => by
    have h1 : n = 0 := by
      have : (10 : Nat) ^ 0 = 1 := rfl
      omega
    subst h1
    rfl
  | k + 1, n, h => by
    show pad (k + 1) (n / 10) ++ [48 + n % 10] = 48 :: (pad k (n / 10) ++ [48 + n % 10])
    rw [pad_cons k (n / 10) (lt_pow h)]
    rfl
theorem pad_front : ∀ k n, pad (k + 1) n = (48 + n / 10 ^ k % 10) :: pad k n
  | 0, n => by
    show [] ++ [48 + n % 10] = [48 + n / 1 % 10]
    rw [Nat.div_one]
    rfl
  | k + 1, n => by
    show pad (k + 1) (n / 10) ++ [48 + n % 10] = _ :: (pad k (n / 10) ++ [48 + n % 10])
    rw [pad_front k (n / 10), pow_div]
    rfl
theorem pad_mod : ∀ k n, pad k (n % 10 ^ k) = pad k n
  | 0, _ => rfl
  | k + 1, n => by
    have e : n % 10 ^ (k + 1) = n % 10 + 10 * (n / 10 % 10 ^ k) := by
      rw [Nat.pow_succ, Nat.mul_comm, Nat.mod_mul]
    show pad k (n % 10 ^ (k + 1) / 10) ++ [48 + n % 10 ^ (k + 1) % 10] = pad k (n / 10) ++ [48 + n % 10]
    rw [e, show (n % 10 + 10 * (n / 10 % 10 ^ k)) / 10 = n / 10 % 10 ^ k by omega, show (n % 10 + 10 * (n / 10 % 10 ^ k)) % 10 = n % 10 by omega, pad_mod k]
theorem num_head (n : Nat) : ∃ c r, numL n = c :: r ∧ 48 ≤ c ∧ c ≤ 57 := by
  cases h : numL n with
  | nil => exact absurd h (numL_ne n)
  | cons c r =>
    have h2 := numL_digits n c (by rw [h]; exact List.mem_cons_self ..)
    exact ⟨c, r, rfl, h2⟩
theorem zfill_long {n m : Nat} (h : m ≤ (numL n).length) : Txt.zfill (S (numL n)) (m : Int) = S (numL n) := by
  unfold Txt.zfill
  rw [S_len, if_pos (by omega)]
theorem zfill_short {n m : Nat} (h : (numL n).length < m) : Txt.zfill (S (numL n)) (m : Int) = S (List.replicate (m - (numL n).length) 48 ++ numL n) := by
  unfold Txt.zfill
  rw [S_len, if_neg (by omega), Int.toNat_natCast]
  obtain ⟨c, r, hc, h1, h2⟩ := num_head n
  refine TL.ext_tl ?_
  have e : (S (numL n)).cps[0]? = some c := by
    show (numL n).toArray[0]? = some c
    rw [hc]
    rfl
  have e2 : zfilled (S (numL n)) (m - (numL n).length) = padded (S (numL n)) (m - (numL n).length) 0 48 := by
    unfold zfilled
    rw [e]
    split
    · rename_i z
      cases Option.some.inj z
      omega
    · rename_i z
      cases Option.some.inj z
      omega
    · rfl
  rw [e2]
  show (padded (S (numL n)) (m - (numL n).length) 0 48).cps.toList = _
  rw [PyProof.Rows.padded_list]
  simp
/-- a number with fewer than m digits, filled -/
theorem zfill_num {n m : Nat} (hm : 1 ≤ m) (h : n < 10 ^ m) : Txt.zfill (S (numL n)) (m : Int) = S (pad m n) := by
  obtain ⟨k, rfl⟩ : ∃ k, m = k + 1 := ⟨m - 1, by omega⟩
  rw [← num_pad k n h]
  by_cases hl : k + 1 ≤ (numL n).length
  · rw [zfill_long hl, show k + 1 - (numL n).length = 0 by omega]
    rfl
  · exact zfill_short (by omega)
/-- .. to one digit more than its places -/
theorem zfill_places (n p : Nat) : Txt.zfill (S (numL n)) ((p + 1 : Nat) : Int) = S (numL (n / 10 ^ p) ++ pad p n) := by
  by_cases h : 10 ^ p ≤ n
  · have e := num_split p n h
    have h1 : p + 1 ≤ (numL n).length := by
      rw [e, List.length_append, pad_len]
      have := List.length_pos_iff.mpr (numL_ne (n / 10 ^ p))
      omega
    rw [zfill_long h1, ← e]
  · have h0 : n < 10 ^ p := by omega
    have h1 : n < 10 ^ (p + 1) := by
      rw [Nat.pow_succ]
      omega
    rw [zfill_num (by omega) h1, pad_cons p n h0, Nat.div_eq_of_lt h0, numL_lt (by decide)]
    rfl
theorem joinL_nil : ∀ ps : List (List Nat), joinL [] ps = ps.flatten
  | [] => rfl
  | [p] => by
    show p = p ++ []
    rw [List.append_nil]
  | p :: q :: r => by
    show p ++ ([] ++ joinL [] (q :: r)) = p ++ (q :: r).flatten
    rw [joinL_nil (q :: r)]
    rfl
theorem join_nil (ps : List (List Nat)) : Txt.join (S []) (ps.map S) = S ps.flatten := by rw [join_S, joinL_nil]
theorem slice_to_neg {a b : List Nat} (h : 0 < b.length) : Txt.slice (S (a ++ b)) none (some (-(b.length : Int))) = S a := by
  have e := beq_iff_eq.mp (PyProof.Rows.slice_closes_to_neg (x := S (a ++ b)) (j := -(b.length : Int)) (k := (a.length : Int)) (by omega) (by rw [S_len, List.length_append]; omega) (by rw [S_len, List.length_append]; omega))
  refine e.trans (TL.ext_tl ?_)
  show ((a ++ b).drop (0 : Int).toNat).take ((a.length : Int) - 0).toNat = a
  rw [show (0 : Int).toNat = 0 from rfl, List.drop_zero, show ((a.length : Int) - 0).toNat = a.length by omega, List.take_left]
theorem slice_from_neg {a b : List Nat} (h : 0 < b.length) : Txt.slice (S (a ++ b)) (some (-(b.length : Int))) none = S b := by
  have e := beq_iff_eq.mp (PyProof.Rows.slice_closes_from_neg (x := S (a ++ b)) (i := -(b.length : Int)) (a := (a.length : Int)) (b := ((a ++ b).length : Int)) (by omega) (by rw [S_len, List.length_append]; omega) (by rw [S_len, List.length_append]; omega) (by rw [S_len]))
  refine e.trans (TL.ext_tl ?_)
  show ((a ++ b).drop (a.length : Int).toNat).take (((a ++ b).length : Int) - (a.length : Int)).toNat = b
  rw [Int.toNat_natCast, List.drop_left, List.take_of_length_le (by rw [List.length_append]; omega)]
end Dg

/-! Own data: whole numbers as texts, there and back. -/
namespace Tx
open PySem PySem.Builtin PySem.Builtin.Str SX TL Dg
/-- a whole number's signs -/
def intL (i : Int) : List Nat := if i < 0 then 45 :: numL i.natAbs else numL i.natAbs
theorem intL_neg (n : Nat) : intL (-((n + 1 : Nat) : Int)) = 45 :: numL (n + 1) := by
  unfold intL
  rw [if_pos (by omega), Int.natAbs_neg, Int.natAbs_natCast]
theorem intL_nat (n : Nat) : intL (n : Int) = numL n := by
  unfold intL
  rw [if_neg (by omega), Int.natAbs_natCast]
theorem str_cons (s : String) : Str.ofString ("-" ++ s) = S (45 :: (Str.ofString s).cps.toList) := by
  refine TL.ext_tl ?_
  show (Str.ofString ("-" ++ s)).cps.toList = _
  simp [Str.ofString_eq_toList]
theorem int_text (i : Int) : Str.ofString (toString i) = S (intL i) := by
  cases i with
  | ofNat n =>
    rw [show (Int.ofNat n) = (n : Int) from rfl, intL_nat]
    exact num_S n
  | negSucc n =>
    have h := num_S (n + 1)
    rw [show (Int.negSucc n) = -((n + 1 : Nat) : Int) from rfl, intL_neg]
    show Str.ofString ("-" ++ Nat.repr (n + 1)) = _
    rw [str_cons]
    have e : (Str.ofString (Nat.repr (n + 1))).cps.toList = numL (n + 1) := congrArg (fun x : Str => x.cps.toList) h
    rw [e]
theorem num_all (n : Nat) : ∀ c ∈ numL n, 48 ≤ c ∧ c ≤ 57 := numL_digits n
theorem ascii_num (n : Nat) : Txt.isascii (S (numL n)) = true := by
  show (numL n).toArray.all (· < 128) = true
  rw [← Array.all_toList]
  exact List.all_eq_true.mpr fun c hc => decide_eq_true (by have := num_all n c hc; omega)
theorem digit_num (n : Nat) : Txt.isdigit (S (numL n)) = true := by
  show (decide ((S (numL n)).length > 0) && (numL n).toArray.all Unicode.isDigit) = true
  rw [S_len, decide_eq_true (List.length_pos_iff.mpr (numL_ne n)), Bool.true_and, ← Array.all_toList]
  refine List.all_eq_true.mpr fun c hc => ?_
  have h := num_all n c hc
  have : ∀ c, c < 58 → 48 ≤ c → Unicode.isDigit c = true := by decide +kernel
  exact this c (by omega) h.1
theorem starts1 (c : Nat) (a : List Nat) (d : Nat) : Txt.startswith (S (d :: a)) (S [c]) = decide (d = c) := by
  unfold Txt.startswith
  rw [S_len, S_len, decide_eq_true (by simp), Bool.true_and]
  simp [subAt, S_len]
  exact Bool.eq_iff_iff.mpr (by simp)
theorem head_ge (n : Nat) (h : 0 < n) : ∃ d q, numL n = (49 + d) :: q := by
  induction n using Nat.strongRecOn with
  | ind n ih =>
    by_cases h10 : n < 10
    · exact ⟨n - 1, [], by rw [numL_lt h10]; exact congrArg (fun z => [z]) (by omega)⟩
    · obtain ⟨d, q, e⟩ := ih (n / 10) (by omega) (by omega)
      exact ⟨d, q ++ [48 + n % 10], by rw [numL_step (by omega), e]; rfl⟩
theorem head0 {n : Nat} {r : List Nat} {c : Nat} (h : numL n = c :: r) (h0 : c = 48) : n = 0 := by
  by_cases hn : 0 < n
  · obtain ⟨d, q, e⟩ := head_ge n hn
    rw [e] at h
    have := (List.cons.inj h).1
    omega
  · omega
/-- read back -/
theorem int_back {i : Int} (h : (intL i).length ≤ 4300) : intText? (S (intL i)) = some i := by
  by_cases hi : i < 0
  · have e : intL i = 45 :: numL i.natAbs := by
      unfold intL
      rw [if_pos hi]
    rw [e] at h ⊢
    have h2 := PySem.intText_neg (x := S (45 :: numL i.natAbs)) (cs := numL i.natAbs) rfl (numL_digits _) (numL_ne _) (by rw [S_len]; exact h)
    rw [h2]
    have h3 : NumText.digitsVal (numL i.natAbs) = i.natAbs := PySem.W.KIN.val_back i.natAbs
    rw [h3]
    exact congrArg some (by omega)
  · obtain ⟨n, rfl⟩ := Int.eq_ofNat_of_zero_le (show 0 ≤ i by omega)
    rw [intL_nat] at h ⊢
    rw [← num_S]
    exact int_num h
end Tx

/-! Own data: formulas tidied. -/
namespace Td
open PySem Fm
/-- the indexes of a step, and a step with its indexes changed -/
def ix (s : FStep) : List Nat := if s.1 = "number" then [] else s.2.map Int.toNat
def ren (f : Nat → Nat) (s : FStep) : FStep := if s.1 = "number" then s else (s.1, s.2.map fun i => ((f i.toNat : Nat) : Int))
theorem ren_word (f : Nat → Nat) (s : FStep) : (ren f s).1 = s.1 := by
  unfold ren
  split <;> rfl
theorem ix_ren (f : Nat → Nat) (s : FStep) : ix (ren f s) = (ix s).map f := by
  unfold ix
  rw [ren_word]
  by_cases h : s.1 = "number"
  · rw [if_pos h, if_pos h]
    rfl
  · rw [if_neg h, if_neg h]
    unfold ren
    rw [if_neg h, List.map_map, List.map_map]
    rfl
theorem ren_congr {f g : Nat → Nat} {s : FStep} (h : ∀ i ∈ ix s, f i = g i) : ren f s = ren g s := by
  unfold ren
  by_cases hn : s.1 = "number"
  · rw [if_pos hn, if_pos hn]
  · rw [if_neg hn, if_neg hn]
    refine congrArg _ (List.map_congr_left fun i hi => ?_)
    have : i.toNat ∈ ix s := by
      unfold ix
      rw [if_neg hn]
      exact List.mem_map_of_mem hi
    rw [h _ this]
theorem ok_pos {k : Nat} {s : FStep} (h : OkStep k s) (hn : s.1 ≠ "number") : ∀ i ∈ s.2, 0 ≤ i ∧ i < (k : Int) := by
  rcases h with ⟨p, q, rfl, _⟩ | rfl | ⟨x, i, j, _, rfl, h1, h2⟩ | ⟨x, i, _, rfl, h1⟩
  · exact absurd rfl hn
  · intro i hi
    simp at hi
  · intro y hy
    simp only [List.mem_cons, List.not_mem_nil, or_false] at hy
    rcases hy with rfl | rfl
    · exact h1
    · exact h2
  · intro y hy
    simp only [List.mem_cons, List.not_mem_nil, or_false] at hy
    subst hy
    exact h1
theorem ok_ix {k : Nat} {s : FStep} (h : OkStep k s) : ∀ i ∈ ix s, i < k := by
  intro i hi
  unfold ix at hi
  by_cases hn : s.1 = "number"
  · rw [if_pos hn] at hi
    exact absurd hi (by simp)
  · rw [if_neg hn] at hi
    obtain ⟨j, hj, rfl⟩ := List.mem_map.mp hi
    have := ok_pos h hn j hj
    omega
theorem ren_id {k : Nat} {s : FStep} (h : OkStep k s) {f : Nat → Nat} (hf : ∀ i ∈ ix s, f i = i) : ren f s = s := by
  unfold ren
  by_cases hn : s.1 = "number"
  · rw [if_pos hn]
  · rw [if_neg hn]
    have : (s.2.map fun i => ((f i.toNat : Nat) : Int)) = s.2 := by
      conv => rhs; rw [← List.map_id s.2]
      refine List.map_congr_left fun i hi => ?_
      have h1 := ok_pos h hn i hi
      have h2 : i.toNat ∈ ix s := by
        unfold ix
        rw [if_neg hn]
        exact List.mem_map_of_mem hi
      rw [hf _ h2]
      show ((i.toNat : Nat) : Int) = i
      omega
    rw [this]
theorem ok_ren {k m : Nat} {s : FStep} (h : OkStep k s) {f : Nat → Nat} (hf : ∀ i ∈ ix s, f i < m) : OkStep m (ren f s) := by
  rcases h with ⟨p, q, rfl, hq⟩ | rfl | ⟨x, i, j, hx, rfl, h1, h2⟩ | ⟨x, i, hx, rfl, h1⟩
  · exact .inl ⟨p, q, rfl, hq⟩
  · exact .inr (.inl rfl)
  · have hn : x ≠ "number" := fun z => absurd hx (by rw [z]; decide +kernel)
    have e : ix (x, [i, j]) = [i.toNat, j.toNat] := by
      unfold ix
      rw [if_neg hn]
      rfl
    rw [e] at hf
    have a1 := hf i.toNat (by simp)
    have a2 := hf j.toNat (by simp)
    refine .inr (.inr (.inl ⟨x, (f i.toNat : Nat), (f j.toNat : Nat), hx, ?_, ⟨by omega, by omega⟩, ⟨by omega, by omega⟩⟩))
    unfold ren
    rw [if_neg hn]
    rfl
  · have hn : x ≠ "number" := fun z => absurd hx (by rw [z]; decide +kernel)
    have e : ix (x, [i]) = [i.toNat] := by
      unfold ix
      rw [if_neg hn]
      rfl
    rw [e] at hf
    have a1 := hf i.toNat (by simp)
    refine .inr (.inr (.inr ⟨x, (f i.toNat : Nat), hx, ?_, ⟨by omega, by omega⟩⟩))
    unfold ren
    rw [if_neg hn]
    rfl
theorem map_inj_on {f : Nat → Nat} : ∀ {l m : List Int}, (∀ i ∈ l, 0 ≤ i) → (∀ i ∈ m, 0 ≤ i) → (∀ i ∈ l, ∀ j ∈ m, f i.toNat = f j.toNat → i.toNat = j.toNat) → (l.map fun i => ((f i.toNat : Nat) : Int)) = (m.map fun i => ((f i.toNat : Nat) : Int)) → l = m
  | [], [], _, _, _, _ => rfl
  | [], _ :: _, _, _, _, h => by simp at h
  | _ :: _, [], _, _, _, h => by simp at h
  | a :: l, b :: m, h1, h2, hf, h => by
    rw [List.map_cons, List.map_cons] at h
    have e1 := (List.cons.inj h).1
    have e2 := (List.cons.inj h).2
    have e3 := hf a (List.mem_cons_self ..) b (List.mem_cons_self ..) (by omega)
    have p1 := h1 a (List.mem_cons_self ..)
    have p2 := h2 b (List.mem_cons_self ..)
    rw [map_inj_on (fun i hi => h1 i (List.mem_cons_of_mem _ hi)) (fun i hi => h2 i (List.mem_cons_of_mem _ hi)) (fun i hi j hj => hf i (List.mem_cons_of_mem _ hi) j (List.mem_cons_of_mem _ hj)) e2, show a = b by omega]
theorem ren_inj {k m : Nat} {s t : FStep} (hs : OkStep k s) (ht : OkStep m t) {f : Nat → Nat} (hf : ∀ i ∈ ix s, ∀ j ∈ ix t, f i = f j → i = j) (h : ren f s = ren f t) : s = t := by
  have hw : s.1 = t.1 := by rw [← ren_word f s, ← ren_word f t, h]
  by_cases hn : s.1 = "number"
  · have hn2 : t.1 = "number" := hw ▸ hn
    unfold ren at h
    rw [if_pos hn, if_pos hn2] at h
    exact h
  · have hn2 : t.1 ≠ "number" := hw ▸ hn
    unfold ren at h
    rw [if_neg hn, if_neg hn2] at h
    have h2 := (Prod.mk.inj h).2
    have hx : ∀ {u : FStep}, u.1 ≠ "number" → ∀ i ∈ u.2, i.toNat ∈ ix u := fun hu i hi => by
      unfold ix
      rw [if_neg hu]
      exact List.mem_map_of_mem hi
    have h3 := map_inj_on (fun i hi => (ok_pos hs hn i hi).1) (fun i hi => (ok_pos ht hn2 i hi).1) (fun i hi j hj => hf _ (hx hn i hi) _ (hx hn2 j hj)) h2
    exact Prod.ext hw h3
/-! ### going through the steps: each one once -/
def mstep (acc : List FStep × List Nat) (s : FStep) : List FStep × List Nat :=
  if ren (fun i => acc.2.getD i 0) s ∈ acc.1 then (acc.1, acc.2 ++ [acc.1.idxOf (ren (fun i => acc.2.getD i 0) s)]) else (acc.1 ++ [ren (fun i => acc.2.getD i 0) s], acc.2 ++ [acc.1.length])
def merge (F : List FStep) : List FStep × List Nat := F.foldl mstep ([], [])
structure Mg (n : Nat) (acc : List FStep × List Nat) : Prop where
  len : acc.2.length = n
  lt : ∀ p ∈ acc.2, p < acc.1.length
  ok : OkForm acc.1
  nd : acc.1.Nodup
  le : acc.1.length ≤ n
theorem getD_mem {l : List Nat} {i : Nat} (h : i < l.length) : l.getD i 0 ∈ l := by
  rw [List.getD_eq_getElem?_getD, List.getElem?_eq_getElem h]
  exact List.getElem_mem h
theorem Mg.step {n : Nat} {acc : List FStep × List Nat} (g : Mg n acc) {s : FStep} (hs : OkStep n s) : OkStep acc.1.length (ren (fun i => acc.2.getD i 0) s) :=
  ok_ren hs fun i hi => g.lt _ (getD_mem (by rw [g.len]; exact ok_ix hs i hi))
theorem OkForm.snoc {F : List FStep} {s : FStep} (h : OkForm F) (hs : OkStep F.length s) : OkForm (F ++ [s]) := by
  intro k t hk
  by_cases hlt : k < F.length
  · rw [List.getElem?_append_left hlt] at hk
    exact h k t hk
  · rw [List.getElem?_append_right (by omega)] at hk
    have h0 : k - F.length = 0 := by
      have := (List.getElem?_eq_some_iff.mp hk).1
      simp at this
      omega
    rw [h0] at hk
    cases Option.some.inj hk
    have : k = F.length := by omega
    rw [this]
    exact hs
theorem Mg.next {n : Nat} {acc : List FStep × List Nat} (g : Mg n acc) {s : FStep} (hs : OkStep n s) : Mg (n + 1) (mstep acc s) := by
  have h1 := g.step hs
  unfold mstep
  split
  · rename_i hm
    refine ⟨by rw [List.length_append, g.len]; rfl, fun p hp => ?_, g.ok, g.nd, Nat.le_succ_of_le g.le⟩
    rcases List.mem_append.mp hp with h | h
    · exact g.lt p h
    · rw [List.mem_singleton] at h
      rw [h]
      exact List.idxOf_lt_length_of_mem hm
  · rename_i hm
    refine ⟨by rw [List.length_append, g.len]; rfl, fun p hp => ?_, OkForm.snoc g.ok h1, List.nodup_append.mpr ⟨g.nd, by simp, fun a ha b hb => ?_⟩, by rw [List.length_append]; exact Nat.succ_le_succ g.le⟩
    · rw [List.length_append, List.length_singleton]
      rcases List.mem_append.mp hp with h | h
      · exact Nat.lt_succ_of_lt (g.lt p h)
      · rw [List.mem_singleton] at h
        omega
    · rw [List.mem_singleton] at hb
      subst hb
      exact fun z => hm (z ▸ ha)
theorem Mg.nil : Mg 0 ([], []) := ⟨rfl, fun p hp => absurd hp (by simp), fun k s h => by simp at h, List.nodup_nil, Nat.le_refl _⟩
theorem mg_take {F : List FStep} (h : OkForm F) : ∀ i, i ≤ F.length → Mg i ((F.take i).foldl mstep ([], []))
  | 0, _ => Mg.nil
  | i + 1, hi => by
    have hlt : i < F.length := hi
    rw [List.take_add_one, List.getElem?_eq_getElem hlt]
    show Mg (i + 1) ((F.take i ++ [F[i]]).foldl mstep ([], []))
    rw [List.foldl_append]
    exact (mg_take h i (Nat.le_of_lt hlt)).next (h i _ (List.getElem?_eq_getElem hlt))
theorem mg_merge {F : List FStep} (h : OkForm F) : Mg F.length (merge F) := by
  have := mg_take h F.length (Nat.le_refl _)
  rw [List.take_length] at this
  exact this
/-! ### the steps that are used -/
def upass (T : List FStep) : Nat → List Nat → List Nat
  | 0, L => L
  | n + 1, L => upass T n (if n ∈ L then L ++ ix (T.getD n ("pi", [])) else L)
theorem up_sub (T : List FStep) : ∀ n L, ∀ x ∈ L, x ∈ upass T n L
  | 0, _, x, h => h
  | n + 1, L, x, h => by
    unfold upass
    refine up_sub T n _ x ?_
    split
    · exact List.mem_append_left _ h
    · exact h
theorem ok_getD {T : List FStep} (h : OkForm T) (n : Nat) : ∀ i ∈ ix (T.getD n ("pi", [])), i < n := by
  intro i hi
  rw [List.getD_eq_getElem?_getD] at hi
  cases e : T[n]? with
  | none =>
    rw [e] at hi
    have e1 : ix (("pi" : Str), ([] : List Int)) = [] := by decide +kernel
    rw [Option.getD_none, e1] at hi
    exact absurd hi (List.not_mem_nil)
  | some s =>
    rw [e] at hi
    exact ok_ix (h n s e) i hi
/-- what is in the end at a place or above stood there before -/
theorem up_high {T : List FStep} (h : OkForm T) : ∀ n L, ∀ x ∈ upass T n L, n ≤ x + 1 → x ∈ L ∨ x + 1 ≤ n
  | 0, L, x, hx, _ => .inl hx
  | n + 1, L, x, hx, hn => by
    by_cases e : x + 1 ≤ n + 1
    · exact .inr e
    · unfold upass at hx
      rcases up_high h n _ x hx (by omega) with h1 | h1
      · split at h1
        · rcases List.mem_append.mp h1 with h2 | h2
          · exact .inl h2
          · have := ok_getD h n x h2
            omega
        · exact .inl h1
      · omega
theorem up_back {T : List FStep} (h : OkForm T) : ∀ n L, ∀ x, n ≤ x → x ∈ upass T n L → x ∈ L
  | 0, L, x, _, hx => hx
  | n + 1, L, x, hn, hx => by
    unfold upass at hx
    have h1 := up_back h n _ x (by omega) hx
    split at h1
    · rcases List.mem_append.mp h1 with h2 | h2
      · exact h2
      · have := ok_getD h n x h2
        omega
    · exact h1
/-- used steps' indexes are used -/
theorem up_closed {T : List FStep} (h : OkForm T) : ∀ n L, ∀ x, x < n → x ∈ upass T n L → ∀ i ∈ ix (T.getD x ("pi", [])), i ∈ upass T n L
  | 0, L, x, hn, _, _, _ => absurd hn (Nat.not_lt_zero _)
  | n + 1, L, x, hn, hx, i, hi => by
    unfold upass at hx ⊢
    by_cases e : x = n
    · subst e
      have h1 := up_back h x _ x (Nat.le_refl _) hx
      by_cases hm : x ∈ L
      · rw [if_pos hm]
        exact up_sub T x _ i (List.mem_append_right _ hi)
      · rw [if_neg hm] at h1
        exact absurd h1 hm
    · exact up_closed h n _ x (by omega) hx i hi
/-- each used step but the first ones has a used step above it -/
theorem up_parent {T : List FStep} (h : OkForm T) : ∀ n L, ∀ x ∈ upass T n L, x ∈ L ∨ ∃ y ∈ upass T n L, x ∈ ix (T.getD y ("pi", []))
  | 0, L, x, hx => .inl hx
  | n + 1, L, x, hx => by
    unfold upass at hx ⊢
    rcases up_parent h n _ x hx with h1 | h1
    · by_cases hm : n ∈ L
      · rw [if_pos hm] at h1 ⊢
        rcases List.mem_append.mp h1 with h2 | h2
        · exact .inl h2
        · exact .inr ⟨n, up_sub T n _ n (List.mem_append_left _ hm), h2⟩
      · rw [if_neg hm] at h1
        exact .inl h1
    · exact .inr h1
theorem up_le {T : List FStep} (h : OkForm T) {m : Nat} : ∀ n L, (∀ x ∈ L, x ≤ m) → ∀ x ∈ upass T n L, x ≤ m
  | 0, L, hL, x, hx => hL x hx
  | n + 1, L, hL, x, hx => by
    unfold upass at hx
    refine up_le h n _ (fun y hy => ?_) x hx
    split at hy
    · rename_i hm
      rcases List.mem_append.mp hy with h2 | h2
      · exact hL y h2
      · have h3 := ok_getD h n y h2
        have h4 := hL n hm
        omega
    · exact hL y hy
/-- places above all that is used change nothing -/
theorem up_skip {T : List FStep} {m : Nat} : ∀ n L, (∀ x ∈ L, x ≤ m) → m + 1 ≤ n → upass T n L = upass T (m + 1) L
  | 0, L, _, hn => absurd hn (by omega)
  | n + 1, L, hL, hn => by
    by_cases e : n = m
    · rw [e]
    · have hm : n ∉ L := fun z => by
        have := hL n z
        omega
      show upass T n (if n ∈ L then _ else L) = _
      rw [if_neg hm]
      exact up_skip n L hL (by omega)
/-! ### the whole -/
def used (T : List FStep) (last : Nat) : List Nat := upass T (last + 1) [last]
def order (T : List FStep) (last : Nat) : List Nat := (List.range (last + 1)).filter fun x => decide (x ∈ used T last)
def rank (T : List FStep) (last : Nat) (x : Nat) : Nat := ((List.range x).filter fun y => decide (y ∈ used T last)).length
def picked (T : List FStep) (last : Nat) : List FStep := (order T last).map fun x => ren (rank T last) (T.getD x ("pi", []))
def tidy (F : List FStep) : List FStep := picked (merge F).1 ((merge F).2.getLastD 0)
theorem used_last (T : List FStep) (last : Nat) : last ∈ used T last := up_sub T _ _ _ (by simp)
theorem mem_order {T : List FStep} {last x : Nat} (h : OkForm T) : x ∈ order T last ↔ x ∈ used T last := by
  unfold order
  rw [List.mem_filter, List.mem_range]
  refine ⟨fun z => of_decide_eq_true z.2, fun z => ⟨?_, decide_eq_true z⟩⟩
  have := up_le h (m := last) (last + 1) [last] (fun y hy => by simp at hy; omega) x z
  omega
theorem rank_succ (T : List FStep) (last x : Nat) : rank T last (x + 1) = rank T last x + (if x ∈ used T last then 1 else 0) := by
  unfold rank
  rw [List.range_succ, List.filter_append, List.length_append, List.filter_cons]
  by_cases h : x ∈ used T last
  · rw [if_pos h, if_pos (decide_eq_true h)]
    rfl
  · rw [if_neg h, if_neg (by simpa using h)]
    rfl
theorem rank_mono (T : List FStep) (last : Nat) : ∀ {x y : Nat}, x ≤ y → rank T last x ≤ rank T last y := by
  intro x y h
  induction h with
  | refl => exact Nat.le_refl _
  | step _ ih =>
    rw [rank_succ]
    omega
theorem rank_lt {T : List FStep} {last x y : Nat} (h : x < y) (hx : x ∈ used T last) : rank T last x < rank T last y := by
  have h1 := rank_mono T last (show x + 1 ≤ y from h)
  rw [rank_succ, if_pos hx] at h1
  omega
theorem rank_inj {T : List FStep} {last x y : Nat} (hx : x ∈ used T last) (hy : y ∈ used T last) (h : rank T last x = rank T last y) : x = y := by
  rcases Nat.lt_trichotomy x y with z | z | z
  · have := rank_lt z hx
    omega
  · exact z
  · have := rank_lt z hy
    omega
theorem order_len (T : List FStep) (last : Nat) : (order T last).length = rank T last (last + 1) := rfl
/-! ### places in a filtered range -/
theorem filt_at (p : Nat → Bool) : ∀ n y, y < n → p y = true → ((List.range n).filter p)[((List.range y).filter p).length]? = some y
  | 0, y, h, _ => absurd h (Nat.not_lt_zero _)
  | n + 1, y, h, hp => by
    rw [List.range_succ, List.filter_append]
    by_cases e : y < n
    · have h1 := filt_at p n y e hp
      rw [List.getElem?_append_left (List.getElem?_eq_some_iff.mp h1).1]
      exact h1
    · have e2 : y = n := by omega
      subst e2
      rw [List.getElem?_append_right (Nat.le_refl _), Nat.sub_self, List.filter_cons, if_pos hp]
      rfl
theorem filt_of (p : Nat → Bool) : ∀ n x, x < ((List.range n).filter p).length → ∃ y, y < n ∧ p y = true ∧ ((List.range y).filter p).length = x
  | 0, x, h => absurd h (by simp)
  | n + 1, x, h => by
    rw [List.range_succ, List.filter_append, List.length_append] at h
    by_cases e : x < ((List.range n).filter p).length
    · obtain ⟨y, h1, h2, h3⟩ := filt_of p n x e
      exact ⟨y, by omega, h2, h3⟩
    · by_cases hp : p n = true
      · rw [List.filter_cons, if_pos hp] at h
        exact ⟨n, by omega, hp, by simp at h; omega⟩
      · rw [List.filter_cons, if_neg hp] at h
        simp at h
        omega
theorem order_at {T : List FStep} {last y : Nat} (h : OkForm T) (hy : y ∈ used T last) : (order T last)[rank T last y]? = some y := by
  have h1 : y < last + 1 := by
    have := (mem_order h).mpr hy
    unfold order at this
    rw [List.mem_filter, List.mem_range] at this
    exact this.1
  exact filt_at _ (last + 1) y h1 (decide_eq_true hy)
theorem order_of {T : List FStep} {last x : Nat} (hx : x < (order T last).length) : ∃ y, y < last + 1 ∧ y ∈ used T last ∧ rank T last y = x := by
  obtain ⟨y, h1, h2, h3⟩ := filt_of _ (last + 1) x hx
  exact ⟨y, h1, of_decide_eq_true h2, h3⟩
theorem picked_len (T : List FStep) (last : Nat) : (picked T last).length = (order T last).length := List.length_map ..
theorem picked_at {T : List FStep} {last y : Nat} (h : OkForm T) (hy : y ∈ used T last) : (picked T last)[rank T last y]? = some (ren (rank T last) (T.getD y ("pi", []))) := by
  unfold picked
  rw [List.getElem?_map, order_at h hy]
  rfl
theorem used_ix {T : List FStep} {last y i : Nat} (h : OkForm T) (hy : y ∈ used T last) (hi : i ∈ ix (T.getD y ("pi", []))) : i ∈ used T last := by
  have h1 : y < last + 1 := by
    have := (mem_order h).mpr hy
    unfold order at this
    rw [List.mem_filter, List.mem_range] at this
    exact this.1
  exact up_closed h (last + 1) [last] y h1 hy i hi
theorem getD_ok {T : List FStep} (h : OkForm T) {y : Nat} (hy : y < T.length) : OkStep y (T.getD y ("pi", [])) := by
  rw [List.getD_eq_getElem?_getD, List.getElem?_eq_getElem hy]
  exact h y _ (List.getElem?_eq_getElem hy)
theorem picked_ok {T : List FStep} {last : Nat} (h : OkForm T) (hl : last < T.length) : OkForm (picked T last) := by
  intro k s hk
  have hlt := (List.getElem?_eq_some_iff.mp hk).1
  rw [picked_len] at hlt
  obtain ⟨y, h1, h2, h3⟩ := order_of hlt
  rw [← h3, picked_at h h2] at hk
  cases Option.some.inj hk
  refine ok_ren (getD_ok h (by omega)) fun i hi => ?_
  rw [← h3]
  exact rank_lt (ok_getD h y i hi) (used_ix h h2 hi)
theorem picked_ne (T : List FStep) (last : Nat) : 0 < (picked T last).length := by
  rw [picked_len, order_len, rank_succ, if_pos (used_last T last)]
  omega
theorem picked_le (T : List FStep) (last : Nat) : (picked T last).length ≤ last + 1 := by
  rw [picked_len]
  unfold order
  have := List.length_filter_le (fun x => decide (x ∈ used T last)) (List.range (last + 1))
  rw [List.length_range] at this
  exact this
theorem picked_nd {T : List FStep} {last : Nat} (h : OkForm T) (hn : T.Nodup) (hl : last < T.length) : (picked T last).Nodup := by
  unfold picked
  refine List.pairwise_map.mpr ?_
  have hp : (order T last).Pairwise (fun a b => a < b) := by
    unfold order
    exact List.Pairwise.filter _ List.pairwise_lt_range
  refine List.Pairwise.imp_of_mem ?_ hp
  intro a b ha hb hab he
  have hb1 : b < T.length := by
    unfold order at hb
    rw [List.mem_filter, List.mem_range] at hb
    omega
  have ua := (mem_order h).mp ha
  have ub := (mem_order h).mp hb
  have e := ren_inj (getD_ok h (by omega)) (getD_ok h hb1) (fun i hi j hj z => rank_inj (used_ix h ua hi) (used_ix h ub hj) z) he
  rw [List.getD_eq_getElem?_getD, List.getD_eq_getElem?_getD, List.getElem?_eq_getElem (show a < T.length by omega), List.getElem?_eq_getElem hb1] at e
  have := (List.getElem_inj hn).mp (show T[a] = T[b] from e)
  omega
/-! ### a formula without equal steps, all used -/
theorem merge_nd {F : List FStep} (h : OkForm F) (hn : F.Nodup) : merge F = (F, List.range F.length) := by
  have key : ∀ i, i ≤ F.length → (F.take i).foldl mstep ([], []) = (F.take i, List.range i) := by
    intro i
    induction i with
    | zero => exact fun _ => rfl
    | succ i ih =>
      intro hi
      have hlt : i < F.length := hi
      rw [List.take_add_one, List.getElem?_eq_getElem hlt]
      show (F.take i ++ [F[i]]).foldl mstep ([], []) = (F.take i ++ [F[i]], _)
      rw [List.foldl_append, ih (Nat.le_of_lt hlt)]
      have hs := h i _ (List.getElem?_eq_getElem hlt)
      have e : ren (fun j => (List.range i).getD j 0) F[i] = F[i] := ren_id hs fun j hj => by
        have := ok_ix hs j hj
        rw [List.getD_eq_getElem?_getD, List.getElem?_range this]
        rfl
      have hm : F[i] ∉ F.take i := by
        intro z
        obtain ⟨j, hj, hz⟩ := List.getElem_of_mem z
        rw [List.getElem_take] at hz
        have := (List.getElem_inj hn).mp hz
        rw [List.length_take] at hj
        omega
      show mstep (F.take i, List.range i) F[i] = _
      unfold mstep
      rw [e, if_neg hm, List.range_succ, List.length_take, Nat.min_eq_left (Nat.le_of_lt hlt)]
  have := key F.length (Nat.le_refl _)
  rw [List.take_length] at this
  exact this
theorem picked_all {G : List FStep} {m : Nat} (h : OkForm G) (hm : G.length = m + 1) (ha : ∀ x, x < G.length → x ∈ used G m) : picked G m = G := by
  have hr : ∀ x, x ≤ m + 1 → rank G m x = x := by
    intro x hx
    unfold rank
    rw [List.filter_eq_self.mpr (fun y hy => decide_eq_true (ha y (by rw [List.mem_range] at hy; omega))), List.length_range]
  have ho : order G m = List.range (m + 1) := List.filter_eq_self.mpr fun y hy => decide_eq_true (ha y (by rw [List.mem_range] at hy; omega))
  unfold picked
  rw [ho]
  refine List.ext_getElem (by rw [List.length_map, List.length_range, hm]) fun k h1 h2 => ?_
  rw [List.getElem_map, List.getElem_range, List.getD_eq_getElem?_getD, List.getElem?_eq_getElem h2]
  have hs := h k _ (List.getElem?_eq_getElem h2)
  exact ren_id hs fun i hi => hr i (by have := ok_ix hs i hi; omega)
theorem picked_used {T : List FStep} {last : Nat} (h : OkForm T) (hl : last < T.length) : ∀ x, x < (picked T last).length → x ∈ used (picked T last) ((picked T last).length - 1) := by
  have hG := picked_ok h hl
  have hlen : (picked T last).length - 1 = rank T last last := by
    rw [picked_len, order_len, rank_succ, if_pos (used_last T last)]
    rfl
  have hp := picked_ne T last
  have key : ∀ d y, d + y = last → y ∈ used T last → rank T last y ∈ used (picked T last) ((picked T last).length - 1) := by
    intro d
    induction d using Nat.strongRecOn with
    | _ d ih =>
      intro y hd hy
      rcases up_parent h (last + 1) [last] y hy with h1 | ⟨z, hz, h1⟩
      · rw [List.mem_singleton] at h1
        rw [h1, ← hlen]
        exact used_last _ _
      · have hz1 : z < last + 1 := by
          have := (mem_order h).mpr (show z ∈ used T last from hz)
          unfold order at this
          rw [List.mem_filter, List.mem_range] at this
          exact this.1
        have hlt := ok_getD h z y h1
        have h2 := ih (last - z) (by omega) z (by omega) hz
        refine used_ix hG h2 ?_
        rw [List.getD_eq_getElem?_getD, picked_at h hz]
        show _ ∈ ix (ren _ _)
        rw [ix_ren]
        exact List.mem_map_of_mem h1
  intro x hx
  rw [picked_len] at hx
  obtain ⟨y, h1, h2, h3⟩ := order_of hx
  rw [← h3]
  exact key (last - y) y (by omega) h2
theorem range_last (n : Nat) : (List.range (n + 1)).getLastD 0 = n := by
  rw [List.range_succ, List.getLastD_concat]
theorem last_lt {F : List FStep} (h : OkForm F) (hne : F ≠ []) : (merge F).2.getLastD 0 < (merge F).1.length := by
  have g := mg_merge h
  have h1 : (merge F).2 ≠ [] := fun z => hne (List.length_eq_zero_iff.mp (by rw [← g.len, z]; rfl))
  rw [List.getLastD_eq_getLast?, List.getLast?_eq_some_getLast h1]
  exact g.lt _ (List.getLast_mem h1)
theorem tidy_ok {F : List FStep} (h : OkForm F) (hne : F ≠ []) : OkForm (tidy F) := picked_ok (mg_merge h).ok (last_lt h hne)
theorem tidy_ne (F : List FStep) : 0 < (tidy F).length := picked_ne _ _
theorem tidy_le {F : List FStep} (h : OkForm F) (hne : F ≠ []) : (tidy F).length ≤ F.length := by
  have h1 := picked_le (merge F).1 ((merge F).2.getLastD 0)
  have h2 := last_lt h hne
  have h3 := (mg_merge h).le
  unfold tidy
  omega
theorem tidy_tidy {F : List FStep} (h : OkForm F) (hne : F ≠ []) : tidy (tidy F) = tidy F := by
  have hG := tidy_ok h hne
  have g := mg_merge h
  have hl := last_lt h hne
  have hnd : (tidy F).Nodup := picked_nd g.ok g.nd hl
  have hp := tidy_ne F
  obtain ⟨m, hm⟩ : ∃ m, (tidy F).length = m + 1 := ⟨(tidy F).length - 1, by omega⟩
  show picked (merge (tidy F)).1 ((merge (tidy F)).2.getLastD 0) = _
  rw [merge_nd hG hnd]
  show picked (tidy F) ((List.range (tidy F).length).getLastD 0) = _
  rw [hm, range_last]
  refine picked_all hG hm fun x hx => ?_
  have := picked_used g.ok hl x hx
  show x ∈ used (tidy F) m
  have e : (picked (merge F).1 ((merge F).2.getLastD 0)).length - 1 = m := by
    show (tidy F).length - 1 = m
    omega
  rw [e] at this
  exact this
end Td

/-! Own: sums of arctan(1 / n) with floors (k41), no program in it. -/
namespace Lp
/-- the term k with w bits, its sign left out -/
def tm (n w k : Nat) : Nat := 2 ^ w / (n ^ (2 * k + 1) * (2 * k + 1))
def sg (k : Nat) : Int := if k % 2 = 0 then 1 else -1
/-- the sum of the first terms -/
def tsum (n w : Nat) : Nat → Int
  | 0 => 0
  | k + 1 => tsum n w k + sg k * (tm n w k : Int)
theorem tm_le (n w s k : Nat) : 2 ^ s * tm n w k ≤ tm n (w + s) k := by
  unfold tm
  generalize n ^ (2 * k + 1) * (2 * k + 1) = D
  rw [Nat.pow_add, Nat.mul_comm (2 ^ w)]
  exact Nat.mul_div_le_mul_div_assoc (2 ^ s) (2 ^ w) D
theorem tm_lt {n : Nat} (hn : 0 < n) (w s k : Nat) : tm n (w + s) k < 2 ^ s * tm n w k + 2 ^ s := by
  unfold tm
  have hD : 0 < n ^ (2 * k + 1) * (2 * k + 1) := Nat.mul_pos (Nat.pow_pos hn) (by omega)
  generalize n ^ (2 * k + 1) * (2 * k + 1) = D at hD
  rw [Nat.div_lt_iff_lt_mul hD, Nat.pow_add]
  have h1 := Nat.lt_mul_div_succ (2 ^ w) hD
  have h2 : 2 ^ w * 2 ^ s < D * (2 ^ w / D + 1) * 2 ^ s := Nat.mul_lt_mul_of_pos_right h1 (Nat.pow_pos (by decide))
  calc 2 ^ w * 2 ^ s < D * (2 ^ w / D + 1) * 2 ^ s := h2
    _ = (2 ^ s * (2 ^ w / D) + 2 ^ s) * D := by
      rw [Nat.mul_comm D, Nat.mul_right_comm, Nat.add_mul, Nat.one_mul, Nat.mul_comm (2 ^ w / D)]
/-- more bits: the sums agree but for one unit a term -/
theorem tsum_near {n : Nat} (hn : 0 < n) (w s : Nat) : ∀ k, (tsum n (w + s) k - 2 ^ s * tsum n w k).natAbs ≤ k * 2 ^ s
  | 0 => by simp [tsum]
  | k + 1 => by
    have ih := tsum_near hn w s k
    have h1 := tm_le n w s k
    have h2 := tm_lt hn w s k
    unfold tsum
    generalize tsum n (w + s) k = a at ih
    generalize tsum n w k = b at ih
    generalize tm n (w + s) k = x at h1 h2
    generalize tm n w k = y at h1 h2
    have h3 : ((2 ^ s * y : Nat) : Int) = 2 ^ s * (y : Int) := by push_cast; rfl
    have h4 : ((2 ^ s : Nat) : Int) = 2 ^ s := by push_cast; rfl
    rw [Nat.add_mul, Nat.one_mul]
    unfold sg
    have h5 : (2 : Int) ^ s * (b + 1 * (y : Int)) = 2 ^ s * b + 2 ^ s * (y : Int) := by rw [Int.one_mul, Int.mul_add]
    have h6 : (2 : Int) ^ s * (b + -1 * (y : Int)) = 2 ^ s * b - 2 ^ s * (y : Int) := by rw [Int.mul_add, Int.neg_mul, Int.one_mul, Int.mul_neg]; omega
    generalize hz : 2 ^ s * y = z at h1 h2 h3
    generalize hp : (2 : Nat) ^ s = p at h2 h4 ih ⊢
    generalize k * p = kp at ih ⊢
    split
    · rw [h5, ← h3]
      generalize (2 : Int) ^ s * b = c at ih ⊢
      omega
    · rw [h6, ← h3]
      generalize (2 : Int) ^ s * b = c at ih ⊢
      omega
/-- terms that are 0 -/
theorem tm_zero {n w k : Nat} (hk : 2 ^ w < n ^ (2 * k + 1)) : tm n w k = 0 := by
  unfold tm
  have h : n ^ (2 * k + 1) * 1 ≤ n ^ (2 * k + 1) * (2 * k + 1) := Nat.mul_le_mul_left _ (by omega)
  exact Nat.div_eq_of_lt (by omega)
theorem tsum_stays {n w k0 : Nat} (hn : 0 < n) (h : 2 ^ w < n ^ (2 * k0 + 1)) : ∀ j, tsum n w (k0 + j) = tsum n w k0
  | 0 => rfl
  | j + 1 => by
    show tsum n w (k0 + j) + sg (k0 + j) * (tm n w (k0 + j) : Int) = _
    have h2 : n ^ (2 * k0 + 1) ≤ n ^ (2 * (k0 + j) + 1) := Nat.pow_le_pow_right hn (by omega)
    rw [tm_zero (by omega), tsum_stays hn h j]
    simp
/-- what both programs reckon: power / divisor with floors, step by step -/
theorem pow_step (n w k : Nat) : 2 ^ w / n ^ (2 * k + 1) / (n * n) = 2 ^ w / n ^ (2 * (k + 1) + 1) := by
  rw [Nat.div_div_eq_div_mul]
  congr 1
  rw [show 2 * (k + 1) + 1 = (2 * k + 1) + 2 by omega, Nat.pow_add n (2 * k + 1) 2, Nat.pow_two]
theorem tm_of (n w k : Nat) : 2 ^ w / n ^ (2 * k + 1) / (2 * k + 1) = tm n w k := by
  unfold tm
  rw [Nat.div_div_eq_div_mul]
end Lp

/-! Own rules: an index into a list or a dict by one rule; set(a list of ints). -/
namespace Ld
open PySem PySem.Spec PyProof.Rows L2
theorem hu65 {A : Around} {k : Nat} (hr : Room k A) : A.units + 65 < cLine := by
  have := hr.un
  omega
def rDG : R2 := fun x y H Q => ∃ a v, x = .ref a ∧ DGet H a y (some v) ∧ Q v H
def rLD (K : PySem.W.Frag) : R2 := fun x y H Q => rIxL K x y H Q ∨ rDG x y H Q
section
variable {X : Cx}
theorem ix_dg (hu : X.A.units + 1 < cLine) : IxR X rDG := fun value slice pins s σ H x y v u Q I rx ry h hs => by
  obtain ⟨a, z, rfl, g, q⟩ := h
  cases (show v = Value.ref a from rx)
  exact tail_any (dict_typeIs I g) PySem.F.slot_dict_getitem.lookup (d_getItem hu I g ry fun r s1 I1 rr => ⟨z, H, I1, rr, q⟩) hs
theorem ix_ld (hu : X.A.units + 1 < cLine) : IxR X (rLD X.K) := IxR.or ix_list (ix_dg hu)
end
section
variable {P : Program} {w : World} {A : Around} {E : Value → Shared → Prop} {s : Shared}
abbrev bare (w : World) : Obj := { cls := .type "set", dict := none, data := .set #[] 0 (.fresh 0 0 (!w.params.followText "set-order")) }
abbrev withBare (w : World) (s : Shared) : Shared := { s with heap := s.heap.push (bare w) }
theorem bare_at (w : World) (h : Heap) : (h.push (bare w)).get? h.objs.size = some (bare w) := Heap.get?_push_size _ rfl
/-- what stands when the set is filled -/
def Filled (w : World) (s : Shared) (ns : List Int) (s2 : Shared) : Prop := ∃ h2 t2 c, s2 = { s with heap := h2, toks := t2 } ∧ SetR w h2 s.heap.objs.size (fun j => decide (j ∈ ns)) c ∧ c ≤ ns.length ∧ ∀ b o, s.heap.get? b = some o → h2.get? b = some o
theorem fill {l : Addr} {its : Array Value} (ns : List Int) (hh : A.handled = none) (hl : s.heap.IsList l its) (hi : IntsAre its.toList ns) (hb : ns.length + 1 < scanBound) :
    codeAny (model P w) A (.builtin "set.__init__" ⟨[.ref s.heap.objs.size, .ref l], []⟩) (wants (fun r s2 => r = .none ∧ Filled w s ns s2) E) (withBare w s) := by
  have sz : its.size = ns.length := by
    rw [← Array.length_toList]
    exact IntsAre.length hi
  have here := bare_at w s.heap
  have ty : Shared.TypeIs (withBare w s) (.ref s.heap.objs.size) "set" := ⟨_, here, rfl⟩
  obtain ⟨⟨cl, di, da, sl⟩, ho, hc, nl, hd⟩ := hl
  cases hc
  cases hd
  have lt : l < s.heap.objs.size := Heap.lt_size ho
  have ho2 := Heap.get?_push_of_some (bare w) ho
  have il : (s.heap.push (bare w)).IsList l its := ⟨_, ho2, rfl, nl, rfl⟩
  have n1 := F.sub_list_set
  have n2 := F.sub_list_frozenset
  have n3 : (Value.type "list" == Value.type "dict") = false := by decide
  refine codeAny_builtin F.entry_set_init ?_
  rw [Around.under_plainId (by first | exact F.plain_set_init | exact F.called_set.init.plain) _]
  unfold Builtin.«set.__init__» noKeywords
  unfold Builtin.Frozenset.updateFrom
  generalize gi : pyIter = PI
  wp_walk
  subst gi
  refine wpAny_pyIter_list il (wpAny_bind (wpAny_runValue ?_))
  have size2 : (s.heap.push (bare w)).objs.size = s.heap.objs.size + 1 := Heap.size_push ..
  have ne1 : l ≠ (s.heap.push (bare w)).objs.size := size2 ▸ Nat.ne_of_lt (Nat.lt_succ_of_lt lt)
  have out : s.heap.objs.size ∉ [(s.heap.push (bare w)).objs.size, l] := by
    intro z
    rcases List.mem_cons.mp z with z1 | z1
    · exact Nat.ne_of_lt (Nat.lt_succ_self _) (z1.trans size2)
    · exact Nat.ne_of_gt lt (List.mem_singleton.mp z1)
  have vals : ∀ (i : Nat) (v : Value), its[i]? = some v → ∃ k t, ns[i]? = some k ∧ v = .int k t := fun i v hv => by
    have lt2 : i < ns.length := by
      rw [← sz]
      exact (Array.getElem?_eq_some_iff.mp hv).1
    obtain ⟨t, e⟩ := IntsAre.int_at hi i v (by rw [Array.getElem?_toList]; exact hv)
    rw [List.getD_eq_getElem?_getD, List.getElem?_eq_getElem lt2, Option.getD_some] at e
    exact ⟨_, t, List.getElem?_eq_getElem lt2, e⟩
  have hn3 : A.in1.in1.handled = none := by simp [hh]
  refine set_update_ints ((Walks.list hn3 _ l ne1 its).toS) s.heap.objs.size out ns sz hb vals (its.size - 0) 0 _ (Nat.sub_zero _ ▸ rfl) (Nat.zero_le _) ⟨⟨_, Heap.get?_push_size _ rfl, rfl, rfl⟩, il.push _⟩ ?z1 ?z2
  case z1 => exact ⟨0, Nat.le_refl 0, setR_new_at (Heap.get?_push_of_some _ here)⟩
  intro s3 c3 mv R3a R3
  obtain ⟨h3, gs, dr, tk, os⟩ := s3
  cases (show gs = s.gens from mv.gens)
  cases (show dr = s.drawn from mv.drawn)
  cases (show os = s.os from mv.os)
  refine wpAny_pure (wpAny_pure ⟨rfl, h3, tk, c3, rfl, R3, sz ▸ R3a, fun b o e => mv.heap b o (fun z => ?_) (Heap.get?_push_of_some _ (Heap.get?_push_of_some _ e))⟩)
  have ltb : b < s.heap.objs.size := Heap.lt_size e
  rcases List.mem_cons.mp z with z1 | z1
  · exact Nat.ne_of_lt ltb z1
  · exact Nat.ne_of_lt (Nat.lt_succ_of_lt ltb) ((List.mem_singleton.mp z1).trans size2)
theorem set_of {l : Addr} {its : Array Value} (ns : List Int) {Q : Value → Shared → Prop} (hh : A.handled = none) (hl : s.heap.IsList l its) (hi : IntsAre its.toList ns) (hb : ns.length + 1 < scanBound)
    (k : ∀ s2, Filled w s ns s2 → Q (.ref s.heap.objs.size) s2) : wpAny (model P w) A (call (.type "set") [.ref l]) Q E s := by
  have ⟨cc, tt, mro⟩ := F.called_set.mro
  have made := F.called_set.made
  have sub := F.called_set.sub
  have ncls := F.called_set.notType
  have canC := F.called_set.canCreate
  have tc := F.typeCall_set_1 (.ref l)
  refine wpAny_call (codeAny_of_tree (show wpAny _ _ (callAny (.type "set") _) _ _ _ from wpAny_pure ⟨Code.quiet_builtin _ (by decide +kernel), codeAny_builtin F.entry_type_call ?_⟩))
  rw [Around.under_plain (weight_type_call_type "set" [.ref l] []) rfl]
  repeat (any_goals (first | assumption | wp_step))
  refine codeAny_mono (code_set_led1 (.ref l) (E := E) (Q₁ := fun x s1 => x = .ref s.heap.objs.size ∧ s1 = withBare w s) ⟨rfl, rfl⟩) fun r1 s1 g1 => ?_
  have lk := F.called_set.init.lookup
  have bd := F.called_set.init.bind (.ref s.heap.objs.size)
  cases r1 with
  | error e => exact g1
  | ok fl =>
    cases fl with
    | ret ob =>
      obtain ⟨rfl, rfl⟩ := g1
      have ty : Shared.TypeIs (withBare w s) (.ref s.heap.objs.size) "set" := ⟨_, bare_at w s.heap, rfl⟩
      repeat (any_goals (first | assumption | wp_step))
      refine codeAny_mono (codeAny_call_builtin_code (R := wants (fun r s2 => r = .none ∧ Filled w s ns s2) E) (plainId_quiet F.called_set.init.plain _) (check_set_init_1 ty (fill ns hh hl hi hb))) fun r2 s2 g2 => ?_
      cases r2 with
      | error e => exact g2
      | ok f2 =>
        cases f2 with
        | ret v =>
          obtain ⟨rfl, g3⟩ := g2
          repeat (any_goals (first | assumption | wp_step))
          exact k _ g3
        | _ => exact g2.elim
    | _ => exact g1.elim
end
def rSetI (K : PySem.W.Frag) (w : World) : List V → Hp → VK → Prop := fun xs H Q => ∃ (l : Addr) (ns : List Int), xs = [V.ref l] ∧ SqL K H l (ns.map V.int) ∧ ns.length ≤ 60 ∧ ∀ p n, H p = none → n ≤ ns.length → Q (.ref p) (upd H p (SetO w p (fun j => decide (j ∈ ns)) n))
theorem cr_setI {X : Cx} (hc : X.calm = true) : CallR X (.type "set") (rSetI X.K X.w) := fun pins s σ H xs us Q I r h => by
  obtain ⟨l, ns, rfl, hl, hz, q⟩ := h
  rw [Vals.ref1 r]
  obtain ⟨its, rv, pl, _⟩ := I.list hl
  refine set_of ns (I.ok.hd hc) pl.isList (by simpa using ints_of_vals rv) (by unfold scanBound; omega) fun s2 g => ?_
  obtain ⟨h2, t2, c, rfl, R, le, kp⟩ := g
  exact ⟨.ref s.heap.objs.size, upd H s.heap.objs.size (SetO X.w s.heap.objs.size (fun j => decide (j ∈ ns)) c), I.laid (t' := t2) kp (Nat.le_refl _) (setO_new R), rfl, q _ c (I.hok.fresh (Nat.le_refl _)) le⟩
end Ld

/-! Own data: areas of polygons by their corners, bits of tiles. -/
namespace Pg
abbrev Pt := Int × Int
def cr (p q : Pt) : Int := p.2 * q.1 - q.2 * p.1
theorem cr_anti (p q : Pt) : cr p q + cr q p = 0 := by
  unfold cr
  omega
def path : List Pt → Int
  | [] => 0
  | [_] => 0
  | a :: b :: r => cr a b + path (b :: r)
theorem path_join : ∀ (l : List Pt) (m : Pt) (r : List Pt), path (l ++ m :: r) = path (l ++ [m]) + path (m :: r)
  | [], m, r => by
    show path (m :: r) = path [m] + path (m :: r)
    show path (m :: r) = 0 + path (m :: r)
    omega
  | [a], m, r => by
    show cr a m + path (m :: r) = (cr a m + path [m]) + path (m :: r)
    show cr a m + path (m :: r) = (cr a m + 0) + path (m :: r)
    omega
  | a :: b :: l, m, r => by
    have := path_join (b :: l) m r
    show cr a b + path ((b :: l) ++ m :: r) = (cr a b + path ((b :: l) ++ [m])) + path (m :: r)
    omega
def area2 : List Pt → Int
  | [] => 0
  | a :: r => path (a :: r ++ [a])
theorem area_rot (l m : List Pt) : area2 (l ++ m) = area2 (m ++ l) := by
  cases l with
  | nil => rw [List.nil_append, List.append_nil]
  | cons a l =>
    cases m with
    | nil => rw [List.nil_append, List.append_nil]
    | cons b m =>
      have e1 : area2 ((a :: l) ++ b :: m) = path ((a :: l) ++ b :: (m ++ [a])) := by
        show path (((a :: l) ++ b :: m) ++ [a]) = _
        rw [List.append_assoc]
        rfl
      have e2 : area2 ((b :: m) ++ a :: l) = path ((b :: m) ++ a :: (l ++ [b])) := by
        show path (((b :: m) ++ a :: l) ++ [b]) = _
        rw [List.append_assoc]
        rfl
      rw [e1, e2, path_join, path_join (b :: m)]
      show path ((a :: l) ++ [b]) + path ((b :: m) ++ [a]) = path ((b :: m) ++ [a]) + path ((a :: l) ++ [b])
      omega
theorem area_two (A M Z : List Pt) (p q : Pt) : area2 (p :: M ++ [q]) + area2 (q :: (Z ++ A) ++ [p]) = area2 (A ++ (p :: M ++ q :: Z)) := by
  rw [area_rot A]
  have e1 : area2 (p :: M ++ [q]) = path (p :: M ++ [q]) + cr q p := by
    show path ((p :: M ++ [q]) ++ [p]) = _
    rw [List.append_assoc]
    show path (p :: M ++ q :: [p]) = _
    rw [path_join]
    show path (p :: M ++ [q]) + (cr q p + path [p]) = _
    show path (p :: M ++ [q]) + (cr q p + 0) = _
    omega
  have e2 : area2 (q :: (Z ++ A) ++ [p]) = path (q :: (Z ++ A) ++ [p]) + cr p q := by
    show path ((q :: (Z ++ A) ++ [p]) ++ [q]) = _
    rw [List.append_assoc]
    show path (q :: (Z ++ A) ++ p :: [q]) = _
    rw [path_join]
    show path (q :: (Z ++ A) ++ [p]) + (cr p q + path [q]) = _
    show path (q :: (Z ++ A) ++ [p]) + (cr p q + 0) = _
    omega
  have e3 : area2 ((p :: M ++ q :: Z) ++ A) = path (p :: M ++ [q]) + path (q :: (Z ++ A) ++ [p]) := by
    show path (((p :: M ++ q :: Z) ++ A) ++ [p]) = _
    rw [List.append_assoc, List.append_assoc]
    show path (p :: M ++ q :: (Z ++ (A ++ [p]))) = _
    rw [path_join, ← List.append_assoc]
    rfl
  rw [e1, e2, e3]
  have := cr_anti p q
  omega
/-- by the indexes of the two corners -/
theorem area_halves (c : List Pt) {i k : Nat} (h : i < k) (hk : k < c.length) : area2 ((c.drop i).take (k - i + 1)) + area2 (c.drop k ++ c.take (i + 1)) = area2 c := by
  have hi : i < c.length := by omega
  have hc : c = c.take i ++ (c[i] :: ((c.drop (i + 1)).take (k - i - 1)) ++ c[k] :: c.drop (k + 1)) := by
    have e1 : c.drop i = c[i] :: c.drop (i + 1) := List.drop_eq_getElem_cons hi
    have e2 : c.drop k = c[k] :: c.drop (k + 1) := List.drop_eq_getElem_cons hk
    have e3 : c.drop (i + 1) = (c.drop (i + 1)).take (k - i - 1) ++ c.drop k := by
      have := (List.take_append_drop (k - i - 1) (c.drop (i + 1))).symm
      rw [List.drop_drop, show i + 1 + (k - i - 1) = k by omega] at this
      exact this
    calc c = c.take i ++ c.drop i := (List.take_append_drop i c).symm
      _ = _ := by
        rw [e1]
        conv => lhs; rw [e3, e2]
        rfl
  have h1 : (c.drop i).take (k - i + 1) = c[i] :: ((c.drop (i + 1)).take (k - i - 1)) ++ [c[k]] := by
    rw [List.drop_eq_getElem_cons hi, List.take_succ_cons]
    have e : k - i = (k - i - 1) + 1 := by omega
    conv => lhs; rw [e]
    rw [List.take_add_one, List.getElem?_drop, show i + 1 + (k - i - 1) = k by omega, List.getElem?_eq_getElem hk]
    rfl
  have h2 : c.drop k ++ c.take (i + 1) = c[k] :: (c.drop (k + 1) ++ c.take i) ++ [c[i]] := by
    rw [List.drop_eq_getElem_cons hk, List.take_add_one, List.getElem?_eq_getElem hi]
    show c[k] :: c.drop (k + 1) ++ (c.take i ++ [c[i]]) = _
    rw [← List.append_assoc]
    rfl
  rw [h1, h2]
  conv => rhs; rw [hc]
  exact area_two _ _ _ _ _
def side (p q r : Pt) : Int := (q.2 - p.2) * (r.1 - p.1) - (q.1 - p.1) * (r.2 - p.2)
theorem side_cr (p q r : Pt) : side p q r = cr p q + cr q r + cr r p := by
  unfold side cr
  simp only [Int.sub_mul, Int.mul_sub]
  have a1 := Int.mul_comm q.1 r.2
  have a2 := Int.mul_comm q.1 p.2
  have a3 := Int.mul_comm p.1 r.2
  have a4 := Int.mul_comm p.1 p.2
  have a5 := Int.mul_comm r.1 p.2
  have a6 := Int.mul_comm r.1 q.2
  have a7 := Int.mul_comm p.1 q.2
  omega
def fan (a : Pt) : List Pt → Int
  | [] => 0
  | [_] => 0
  | b :: c :: r => side a b c + fan a (c :: r)
theorem fan_area (a : Pt) : ∀ (b : Pt) (r : List Pt), fan a (b :: r) = area2 (a :: b :: r)
  | b, [] => by
    have := cr_anti a b
    show 0 = cr a b + (cr b a + 0)
    omega
  | b, c :: r => by
    have e := fan_area a c r
    have e2 : area2 (a :: c :: r) = cr a c + path (c :: r ++ [a]) := rfl
    have e3 : area2 (a :: b :: c :: r) = cr a b + (cr b c + path (c :: r ++ [a])) := rfl
    have := cr_anti a c
    rw [e3]
    show side a b c + fan a (c :: r) = _
    rw [e, e2, side_cr]
    omega
/-! ### bits -/
def join (ds : List Nat) : Nat := ds.foldl (fun a d => 2 * a + d) 0
theorem join_from (a : Nat) : ∀ ds : List Nat, ds.foldl (fun a d => 2 * a + d) a = a * 2 ^ ds.length + join ds
  | [] => by simp [join]
  | d :: r => by
    show r.foldl _ (2 * a + d) = _
    rw [join_from (2 * a + d) r]
    have e : join (d :: r) = d * 2 ^ r.length + join r := by
      show r.foldl _ (2 * 0 + d) = _
      rw [Nat.mul_zero, Nat.zero_add]
      exact join_from d r
    rw [e, List.length_cons, Nat.pow_succ, Nat.add_mul, Nat.mul_comm 2 a, Nat.mul_assoc, Nat.mul_comm 2]
    omega
theorem join_snoc (ds : List Nat) (d : Nat) : join (ds ++ [d]) = 2 * join ds + d := by
  unfold join
  rw [List.foldl_append]
  rfl
theorem join_lt : ∀ {ds : List Nat}, (∀ d ∈ ds, d < 2) → join ds < 2 ^ ds.length := by
  intro ds
  induction ds with
  | nil => exact fun _ => by decide
  | cons d r ih =>
    intro h
    have e : join (d :: r) = d * 2 ^ r.length + join r := by
      show r.foldl _ (2 * 0 + d) = _
      rw [Nat.mul_zero, Nat.zero_add]
      exact join_from d r
    have h1 := ih fun x hx => h x (List.mem_cons_of_mem _ hx)
    have h2 := h d (List.mem_cons_self ..)
    rw [e, List.length_cons, Nat.pow_succ]
    have h3 : d = 0 ∨ d = 1 := by omega
    rcases h3 with rfl | rfl
    · omega
    · omega
/-- the z lowest bits, the highest first -/
def bits (x : Nat) : Nat → List Nat
  | 0 => []
  | z + 1 => bits (x / 2) z ++ [x % 2]
theorem bits_len : ∀ (z x : Nat), (bits x z).length = z
  | 0, x => rfl
  | z + 1, x => by
    show (bits (x / 2) z ++ [x % 2]).length = _
    rw [List.length_append, bits_len z]
    rfl
theorem bits_lt : ∀ (z x : Nat), ∀ d ∈ bits x z, d < 2
  | 0, x, d, h => absurd h (List.not_mem_nil)
  | z + 1, x, d, h => by
    rcases List.mem_append.mp h with h | h
    · exact bits_lt z _ d h
    · rw [List.mem_singleton] at h
      omega
theorem join_bits : ∀ (z x : Nat), x < 2 ^ z → join (bits x z) = x
  | 0, x, h => by
    have : x = 0 := by
      rw [Nat.pow_zero] at h
      omega
    rw [this]
    rfl
  | z + 1, x, h => by
    show join (bits (x / 2) z ++ [x % 2]) = x
    rw [Nat.pow_succ] at h
    rw [join_snoc, join_bits z (x / 2) (by omega)]
    omega
theorem bits_join : ∀ (z : Nat) (ds : List Nat), ds.length = z → (∀ d ∈ ds, d < 2) → bits (join ds) z = ds
  | 0, ds, h, _ => by
    rw [List.length_eq_zero_iff.mp h]
    rfl
  | z + 1, ds, h, hd => by
    have hne : ds ≠ [] := fun e => by rw [e] at h; cases h
    obtain ⟨l, d, rfl⟩ : ∃ l d, ds = l ++ [d] := ⟨ds.dropLast, ds.getLast hne, (List.dropLast_concat_getLast hne).symm⟩
    rw [List.length_append, List.length_singleton] at h
    have h1 := hd d (by simp)
    have h2 := bits_join z l (by omega) fun x hx => hd x (List.mem_append_left _ hx)
    rw [join_snoc]
    show bits ((2 * join l + d) / 2) z ++ [(2 * join l + d) % 2] = _
    rw [show (2 * join l + d) / 2 = join l by omega, show (2 * join l + d) % 2 = d by omega, h2]
theorem bits_at : ∀ (z x k : Nat), k < z → (bits x z)[k]? = some (x / 2 ^ (z - 1 - k) % 2)
  | 0, x, k, h => absurd h (Nat.not_lt_zero _)
  | z + 1, x, k, h => by
    show (bits (x / 2) z ++ [x % 2])[k]? = _
    by_cases e : k < z
    · rw [List.getElem?_append_left (by rw [bits_len]; exact e), bits_at z (x / 2) k e, Nat.div_div_eq_div_mul, ← Nat.pow_succ']
      rw [show (z - 1 - k).succ = z + 1 - 1 - k by omega]
    · have e2 : k = z := by omega
      subst e2
      rw [List.getElem?_append_right (by rw [bits_len]; exact Nat.le_refl _), bits_len, Nat.sub_self]
      rw [show k + 1 - 1 - k = 0 by omega, Nat.pow_zero, Nat.div_one]
      rfl
end Pg

/-! Own data layer: what slots hold as data, whatever the heap; expressions, statements and defs told by data alone. -/
namespace Ja
open PySem PySem.Spec PyProof.Rows L2 Evl Cm
mutual
/-- a value as data, its lists tracked -/
inductive Dt (K : PySem.W.Frag) (H : Hp) : V → PyData → Prop
  | non : Dt K H .non .none
  | bl (b : Bool) : Dt K H (.bl b) (.bool b)
  | int (i : Int) : Dt K H (.int i) (.int i)
  | str (x : Str) : Dt K H (.str x) (.str x)
  | lst {a : Addr} {xs : List V} {ds : List PyData} : H a = some (.lst xs) → DtAll K H xs ds → Dt K H (.ref a) (.list ds)
  | tup {a : Addr} {xs : List V} {ds : List PyData} : SqT K H a xs → DtAll K H xs ds → Dt K H (.ref a) (.tuple ds)
inductive DtAll (K : PySem.W.Frag) (H : Hp) : List V → List PyData → Prop
  | nil : DtAll K H [] []
  | cons {v : V} {vs : List V} {d : PyData} {ds : List PyData} : Dt K H v d → DtAll K H vs ds → DtAll K H (v :: vs) (d :: ds)
end
section
variable {K : PySem.W.Frag} {H H' : Hp}
mutual
theorem dt_mono (e : Ex H H') : ∀ (d : PyData) (v : V), Dt K H v d → Dt K H' v d
  | _, _, .non => .non
  | _, _, .bl b => .bl b
  | _, _, .int i => .int i
  | _, _, .str x => .str x
  | _, _, .lst h a => .lst (e _ _ h) (dts_mono e _ _ a)
  | _, _, .tup h a => .tup (ex_t e h) (dts_mono e _ _ a)
theorem dts_mono (e : Ex H H') : ∀ (ds : List PyData) (vs : List V), DtAll K H vs ds → DtAll K H' vs ds
  | _, _, .nil => .nil
  | _, _, .cons h t => .cons (dt_mono e _ _ h) (dts_mono e _ _ t)
end
mutual
theorem dt_dp : ∀ (d : PyData) (v : V), Dt K H v d → Dp K H v d
  | _, _, .non => .non
  | _, _, .bl b => .bl b
  | _, _, .int i => .int i
  | _, _, .str x => .str x
  | _, _, .lst h a => .lst (sq_of h) (dts_dp _ _ a)
  | _, _, .tup h a => .tup h (dts_dp _ _ a)
theorem dts_dp : ∀ (ds : List PyData) (vs : List V), DtAll K H vs ds → DpAll K H vs ds
  | _, _, .nil => .nil
  | _, _, .cons h t => .cons (dt_dp _ _ h) (dts_dp _ _ t)
end
theorem DtAll.len : ∀ {vs : List V} {ds : List PyData}, DtAll K H vs ds → vs.length = ds.length
  | _, _, .nil => rfl
  | _, _, .cons _ r => congrArg (· + 1) r.len
theorem DtAll.get : ∀ {vs : List V} {ds : List PyData}, DtAll K H vs ds → ∀ {i : Nat} {d : PyData}, ds[i]? = some d → ∃ v, vs[i]? = some v ∧ Dt K H v d
  | _, _, .cons h r, 0, d, e => by
    cases Option.some.inj e
    exact ⟨_, rfl, h⟩
  | _, _, .cons h r, i + 1, d, e => r.get (i := i) e
theorem DtAll.getV : ∀ {vs : List V} {ds : List PyData}, DtAll K H vs ds → ∀ {i : Nat} {v : V}, vs[i]? = some v → ∃ d, ds[i]? = some d ∧ Dt K H v d
  | _, _, .cons h r, 0, d, e => by
    cases Option.some.inj e
    exact ⟨_, rfl, h⟩
  | _, _, .cons h r, i + 1, d, e => r.getV (i := i) e
theorem DtAll.app : ∀ {vs ws : List V} {ds es : List PyData}, DtAll K H vs ds → DtAll K H ws es → DtAll K H (vs ++ ws) (ds ++ es)
  | _, _, _, _, .nil, h => h
  | _, _, _, _, .cons h r, h2 => .cons h (r.app h2)
theorem DtAll.one {v : V} {d : PyData} (h : Dt K H v d) : DtAll K H [v] [d] := .cons h .nil
theorem DtAll.take : ∀ {vs : List V} {ds : List PyData}, DtAll K H vs ds → ∀ n, DtAll K H (vs.take n) (ds.take n)
  | _, _, h, 0 => by
    rw [List.take_zero, List.take_zero]
    exact .nil
  | _, _, .nil, n + 1 => .nil
  | _, _, .cons h r, n + 1 => .cons h (r.take n)
theorem DtAll.drop : ∀ {vs : List V} {ds : List PyData}, DtAll K H vs ds → ∀ n, DtAll K H (vs.drop n) (ds.drop n)
  | _, _, h, 0 => h
  | _, _, .nil, n + 1 => .nil
  | _, _, .cons h r, n + 1 => r.drop n
theorem DtAll.of : ∀ {vs : List V} {ds : List PyData}, vs.length = ds.length → (∀ (i : Nat) v d, vs[i]? = some v → ds[i]? = some d → Dt K H v d) → DtAll K H vs ds
  | [], [], _, _ => .nil
  | [], _ :: _, h, _ => by simp at h
  | _ :: _, [], h, _ => by simp at h
  | v :: vs, d :: ds, h, g => .cons (g 0 v d rfl rfl) (DtAll.of (by simpa using h) fun i x y a b => g (i + 1) x y a b)
theorem DtAll.set : ∀ {vs : List V} {ds : List PyData}, DtAll K H vs ds → ∀ (i : Nat) {v : V} {d : PyData}, Dt K H v d → DtAll K H (vs.set i v) (ds.set i d)
  | _, _, .nil, _, _, _, _ => .nil
  | _, _, .cons h r, 0, _, _, g => .cons g r
  | _, _, .cons h r, i + 1, _, _, g => .cons h (r.set i g)
theorem DtAll.rev {vs : List V} {ds : List PyData} (h : DtAll K H vs ds) : DtAll K H vs.reverse ds.reverse := by
  have hl := h.len
  refine .of (by simpa using hl) fun i v d a b => ?_
  have hi : i < vs.length := by
    have := (List.getElem?_eq_some_iff.mp a).1
    simpa using this
  rw [List.getElem?_reverse hi] at a
  rw [List.getElem?_reverse (by omega)] at b
  obtain ⟨e, h1, h2⟩ := h.getV a
  rw [hl] at h1
  rw [h1] at b
  cases Option.some.inj b
  exact h2
theorem dt_ints : ∀ (ns : List Int), DtAll K H (ns.map V.int) (ns.map PyData.int)
  | [] => .nil
  | n :: r => .cons (.int n) (dt_ints r)
theorem dt_ints_inv : ∀ {vs : List V} (ns : List Int), DtAll K H vs (ns.map PyData.int) → vs = ns.map V.int
  | _, [], .nil => rfl
  | _, n :: r, .cons h t => by
    cases h
    rw [dt_ints_inv r t]
    rfl
theorem dt_strs_inv : ∀ {vs : List V} (ns : List Str), DtAll K H vs (ns.map PyData.str) → vs = ns.map V.str
  | _, [], .nil => rfl
  | _, n :: r, .cons h t => by
    cases h
    rw [dt_strs_inv r t]
    rfl
end
/-- what is true of a value, and stays so -/
structure MP where
  P : Hp → V → Prop
  mono : ∀ {B B' : Hp} {v : V}, Ex B B' → P B v → P B' v
inductive Sl where
  | no
  | raw (v : V)
  | dat (d : PyData)
  | own (ds : List PyData)
  | sem (m : MP)
abbrev nI (i : Int) : Sl := .dat (.int i)
abbrev nB (b : Bool) : Sl := .dat (.bool b)
abbrev nS (x : Str) : Sl := .dat (.str x)
/-- a list of ints that is only read -/
def scrP (K : PySem.W.Frag) (ns : List Int) : MP := ⟨fun B v => ∃ a, v = .ref a ∧ SqL K B a (ns.map V.int), fun e ⟨a, h1, h2⟩ => ⟨a, h1, ex_l e h2⟩⟩
/-- what a value is -/
def Is (K : PySem.W.Frag) (B : Hp) (v : V) : Sl → Prop
  | .raw w => v = w
  | .dat d => Dt K B v d
  | .sem m => m.P B v
  | _ => False
def Vl : Sl → Bool
  | .no => false
  | .own _ => false
  | _ => true
theorem Is.vl {K : PySem.W.Frag} {B : Hp} {v : V} : ∀ {s : Sl}, Is K B v s → Vl s = true
  | .raw _, _ => rfl
  | .dat _, _ => rfl
  | .sem _, _ => rfl
  | .no, h => h.elim
  | .own _, h => h.elim
inductive IsAll (K : PySem.W.Frag) (B : Hp) : List V → List Sl → Prop
  | nil : IsAll K B [] []
  | cons {v : V} {vs : List V} {s : Sl} {ss : List Sl} : Is K B v s → IsAll K B vs ss → IsAll K B (v :: vs) (s :: ss)
/-- no list at a -/
def NoL (H : Hp) (a : Addr) : Prop := ∀ xs, H a ≠ some (.lst xs)
theorem NoL.of {H : Hp} {a : Addr} (h : H a = none) : NoL H a := fun xs z => by
  rw [h] at z
  cases z
/-- from the base B and the heap H to B', H' -/
structure Stp (B H B' H' : Hp) : Prop where
  b : Ex B B'
  bh : Ex B' H'
  h : Ex H H'
  n : ∀ a, B' a ≠ none → B a ≠ none ∨ NoL H a
theorem Is.mono {K : PySem.W.Frag} {B B' : Hp} {v : V} (e : Ex B B') : ∀ {s : Sl}, Is K B v s → Is K B' v s
  | .raw _, h => h
  | .dat d, h => dt_mono e d v h
  | .sem m, h => m.mono e h
  | .no, h => h
  | .own _, h => h
theorem IsAll.mono {K : PySem.W.Frag} {B B' : Hp} (e : Ex B B') : ∀ {vs : List V} {ss : List Sl}, IsAll K B vs ss → IsAll K B' vs ss
  | _, _, .nil => .nil
  | _, _, .cons h r => .cons (h.mono e) (r.mono e)
theorem IsAll.len {K : PySem.W.Frag} {B : Hp} : ∀ {vs : List V} {ss : List Sl}, IsAll K B vs ss → vs.length = ss.length
  | _, _, .nil => rfl
  | _, _, .cons _ r => congrArg (· + 1) r.len
theorem Stp.refl {B H : Hp} (e : Ex B H) : Stp B H B H := ⟨.refl _, e, .refl _, fun a h => .inl h⟩
theorem none_of {H H' : Hp} {a : Addr} (e : Ex H H') (h : H' a = none) : H a = none := fresh_back e h
theorem Stp.trans {B H B1 H1 B2 H2 : Hp} (x : Stp B H B1 H1) (y : Stp B1 H1 B2 H2) : Stp B H B2 H2 := ⟨x.b.trans y.b, y.bh, x.h.trans y.h, fun a h => by
  rcases y.n a h with h | h
  · exact x.n a h
  · exact .inr fun xs z => h xs (x.h _ _ z)⟩
/-- a new object -/
theorem Stp.new {B H : Hp} {p : Addr} {o : HO} (e : Ex B H) (hp : H p = none) : Stp B H (upd B p o) (upd H p o) := by
  have hb : B p = none := none_of e hp
  refine ⟨Ex.new hb, fun a u h => ?_, Ex.new hp, fun a h => ?_⟩
  · by_cases z : a = p
    · subst z
      rw [upd_same] at h ⊢
      exact h
    · rw [upd_ne z] at h ⊢
      exact e a u h
  · by_cases z : a = p
    · subst z
      exact .inr (.of hp)
    · rw [upd_ne z] at h
      exact .inl h
/-- slots, as data over the base B; lists of its own beside it -/
structure Sc (K : PySem.W.Frag) (B0 H0 B H : Hp) (σ : L2.St) (δ : List Sl) : Prop where
  st : Stp B0 H0 B H
  len : σ.length = δ.length
  val : ∀ (i : Nat) (s : Sl), δ[i]? = some s → Vl s = true → ∃ v, σ[i]? = some (some v) ∧ Is K B v s
  own : ∀ (i : Nat) (ds : List PyData), δ[i]? = some (Sl.own ds) → ∃ l vs, σ[i]? = some (some (V.ref l)) ∧ H l = some (.lst vs) ∧ B l = none ∧ H0 l = none ∧ DtAll K B vs ds
  dis : ∀ (i j : Nat) (ds es : List PyData) (l : Addr), δ[i]? = some (Sl.own ds) → δ[j]? = some (Sl.own es) → σ[i]? = some (some (V.ref l)) → σ[j]? = some (some (V.ref l)) → i = j
section
variable {K : PySem.W.Frag} {B0 H0 B H B' H' : Hp} {σ : L2.St} {δ : List Sl}
/-- on to a later base and heap: nothing of its own has changed -/
theorem Sc.go (h : Sc K B0 H0 B H σ δ) (s : Stp B H B' H') : Sc K B0 H0 B' H' σ δ := by
  refine ⟨h.st.trans s, h.len, fun i t hi ht => ?_, fun i ds hi => ?_, h.dis⟩
  · obtain ⟨v, h1, h2⟩ := h.val i t hi ht
    exact ⟨v, h1, h2.mono s.b⟩
  · obtain ⟨l, vs, h1, h2, h3, h4, h5⟩ := h.own i ds hi
    refine ⟨l, vs, h1, s.h l _ h2, ?_, h4, dts_mono s.b ds vs h5⟩
    cases e : B' l with
    | none => rfl
    | some o =>
      rcases s.n l (by rw [e]; exact fun z => by cases z) with z | z
      · exact absurd h3 z
      · exact absurd h2 (z vs)
theorem get_set_cases {α : Type} {l : List α} {i j : Nat} {x y : α} (h : (l.set i x)[j]? = some y) : (i = j ∧ x = y ∧ i < l.length) ∨ (i ≠ j ∧ l[j]? = some y) := by
  by_cases e : i = j
  · subst e
    rw [List.getElem?_set_self'] at h
    cases hl : l[i]? with
    | none =>
      rw [hl] at h
      cases h
    | some z =>
      rw [hl] at h
      exact .inl ⟨rfl, Option.some.inj h, (List.getElem?_eq_some_iff.mp hl).1⟩
  · rw [List.getElem?_set_ne e] at h
    exact .inr ⟨e, h⟩
theorem get_set_ne {α : Type} {l : List α} {i j : Nat} {x y : α} (e : i ≠ j) (h : l[j]? = some y) : (l.set i x)[j]? = some y := by
  rw [List.getElem?_set_ne e]
  exact h
theorem get_set_eq {α : Type} {l : List α} {i : Nat} {x : α} (h : i < l.length) : (l.set i x)[i]? = some x := by
  rw [List.getElem?_set_self h]
/-- a slot takes a value of which s is true, or nothing is said of it any more -/
theorem Sc.set' (h : Sc K B0 H0 B H σ δ) {o : Option V} {s : Sl} (i : Nat) (hv : (∃ v, o = some v ∧ Is K B v s) ∨ s = .no) : Sc K B0 H0 B H (σ.set i o) (δ.set i s) := by
  have hn : ∀ {j : Nat} {ds : List PyData}, (δ.set i s)[j]? = some (Sl.own ds) → i ≠ j ∧ δ[j]? = some (Sl.own ds) := fun {j ds} hj => by
    rcases get_set_cases hj with ⟨e1, e2, e3⟩ | ⟨e1, e2⟩
    · rcases hv with ⟨v, _, hv⟩ | hv
      · rw [e2] at hv
        exact hv.elim
      · rw [hv] at e2
        cases e2
    · exact ⟨e1, e2⟩
  refine ⟨h.st, by rw [List.length_set, List.length_set, h.len], fun j t hj ht => ?_, fun j ds hj => ?_, fun j k ds es l hj hk h1 h2 => ?_⟩
  · rcases get_set_cases hj with ⟨rfl, e2, e3⟩ | ⟨e1, e2⟩
    · subst e2
      rcases hv with ⟨v, rfl, hv⟩ | hv
      · exact ⟨v, get_set_eq (by rw [h.len]; exact e3), hv⟩
      · rw [hv] at ht
        cases ht
    · obtain ⟨w, h1, h2⟩ := h.val j t e2 ht
      exact ⟨w, get_set_ne e1 h1, h2⟩
  · obtain ⟨e1, e2⟩ := hn hj
    obtain ⟨l, vs, h1, h2⟩ := h.own j ds e2
    exact ⟨l, vs, get_set_ne e1 h1, h2⟩
  · obtain ⟨e1, e2⟩ := hn hj
    obtain ⟨e3, e4⟩ := hn hk
    rw [List.getElem?_set_ne e1] at h1
    rw [List.getElem?_set_ne e3] at h2
    exact h.dis j k ds es l e2 e4 h1 h2
theorem Sc.set (h : Sc K B0 H0 B H σ δ) {v : V} {s : Sl} (i : Nat) (hv : Is K B v s) : Sc K B0 H0 B H (σ.set i (some v)) (δ.set i s) := h.set' i (.inl ⟨v, rfl, hv⟩)
/-- .. with any value in it -/
theorem Sc.put (h : Sc K B0 H0 B H σ δ) (i : Nat) (o : Option V) : Sc K B0 H0 B H (σ.set i o) (δ.set i Sl.no) := h.set' i (.inr rfl)
/-- a new list of its own -/
theorem Sc.setO (h : Sc K B0 H0 B H σ δ) {l : Addr} {vs : List V} {ds : List PyData} (i : Nat) (h1 : H l = some (.lst vs)) (h2 : B l = none) (h3 : H0 l = none) (h4 : DtAll K B vs ds) (h5 : ∀ (j : Nat) (es : List PyData), i ≠ j → δ[j]? = some (Sl.own es) → σ[j]? ≠ some (some (V.ref l))) : Sc K B0 H0 B H (σ.set i (some (V.ref l))) (δ.set i (Sl.own ds)) := by
  refine ⟨h.st, by rw [List.length_set, List.length_set, h.len], fun j t hj ht => ?_, fun j es hj => ?_, fun j k es fs m hj hk g1 g2 => ?_⟩
  · rcases get_set_cases hj with ⟨_, e2, _⟩ | ⟨e1, e2⟩
    · subst e2
      cases ht
    · obtain ⟨w, g1, g2⟩ := h.val j t e2 ht
      exact ⟨w, get_set_ne e1 g1, g2⟩
  · rcases get_set_cases hj with ⟨rfl, e2, e3⟩ | ⟨e1, e2⟩
    · cases e2
      exact ⟨l, vs, get_set_eq (by rw [h.len]; exact e3), h1, h2, h3, h4⟩
    · obtain ⟨m, ws, g1, g2⟩ := h.own j es e2
      exact ⟨m, ws, get_set_ne e1 g1, g2⟩
  · rcases get_set_cases hj with ⟨rfl, e2, e3⟩ | ⟨e1, e2⟩
    · rcases get_set_cases hk with ⟨rfl, _, _⟩ | ⟨f1, f2⟩
      · rfl
      · rw [get_set_eq (by rw [h.len]; exact e3)] at g1
        rw [List.getElem?_set_ne f1] at g2
        cases Option.some.inj (Option.some.inj g1)
        exact absurd g2 (h5 k fs f1 f2)
    · rcases get_set_cases hk with ⟨rfl, _, f3⟩ | ⟨f1, f2⟩
      · rw [get_set_eq (by rw [h.len]; exact f3)] at g2
        rw [List.getElem?_set_ne e1] at g1
        cases Option.some.inj (Option.some.inj g2)
        exact absurd g1 (h5 j es e1 e2)
      · rw [List.getElem?_set_ne e1] at g1
        rw [List.getElem?_set_ne f1] at g2
        exact h.dis j k es fs m e2 f2 g1 g2
/-- a list of its own that was changed -/
theorem Sc.mut (h : Sc K B0 H0 B H σ δ) {i : Nat} {ds es : List PyData} {l : Addr} {ws : List V} (hi : δ[i]? = some (Sl.own ds)) (hl : σ[i]? = some (some (V.ref l))) (hw : DtAll K B ws es) : Sc K B0 H0 B (upd H l (.lst ws)) σ (δ.set i (Sl.own es)) := by
  obtain ⟨l', vs, g1, g2, g3, g4, g5⟩ := h.own i ds hi
  rw [hl] at g1
  cases Option.some.inj (Option.some.inj g1)
  have hlt : i < δ.length := (List.getElem?_eq_some_iff.mp hi).1
  refine ⟨⟨h.st.b, fun a o ha => ?_, Ex.mut h.st.h g4, h.st.n⟩, by rw [List.length_set, h.len], fun j t hj ht => ?_, fun j fs hj => ?_, fun j k fs hs m hj hk k1 k2 => ?_⟩
  · rw [upd_ne (fun z => by rw [z, g3] at ha; cases ha)]
    exact h.st.bh a o ha
  · rcases get_set_cases hj with ⟨_, e2, _⟩ | ⟨e1, e2⟩
    · subst e2
      cases ht
    · exact h.val j t e2 ht
  · rcases get_set_cases hj with ⟨rfl, e2, e3⟩ | ⟨e1, e2⟩
    · cases e2
      exact ⟨l, ws, hl, upd_same, g3, g4, hw⟩
    · obtain ⟨m, us, q1, q2, q3⟩ := h.own j fs e2
      refine ⟨m, us, q1, ?_, q3⟩
      rw [upd_ne (fun z => by
        subst z
        exact e1 (h.dis i j ds fs m hi e2 hl q1))]
      exact q2
  · have same : ∀ {j : Nat} {fs : List PyData}, (δ.set i (Sl.own es))[j]? = some (Sl.own fs) → ∃ gs, δ[j]? = some (Sl.own gs) := fun {j fs} hj => by
      rcases get_set_cases hj with ⟨rfl, _, _⟩ | ⟨e1, e2⟩
      · exact ⟨ds, hi⟩
      · exact ⟨fs, e2⟩
    obtain ⟨_, s1⟩ := same hj
    obtain ⟨_, s2⟩ := same hk
    exact h.dis j k _ _ m s1 s2 k1 k2
/-- a list of its own, from now on data -/
theorem Sc.freeze (h : Sc K B0 H0 B H σ δ) {i : Nat} {ds : List PyData} (hi : δ[i]? = some (Sl.own ds)) : ∃ B', Ex B B' ∧ Sc K B0 H0 B' H σ (δ.set i (Sl.dat (.list ds))) := by
  obtain ⟨l, vs, g1, g2, g3, g4, g5⟩ := h.own i ds hi
  have eb : Ex B (upd B l (.lst vs)) := Ex.new g3
  have bh : Ex (upd B l (.lst vs)) H := fun a o ha => by
    by_cases z : a = l
    · subst z
      rw [upd_same] at ha
      rw [g2]
      exact ha
    · rw [upd_ne z] at ha
      exact h.st.bh a o ha
  refine ⟨upd B l (.lst vs), eb, ⟨h.st.b.trans eb, bh, h.st.h, fun a ha => ?_⟩, by rw [List.length_set, h.len], fun j t hj ht => ?_, fun j es hj => ?_, fun j k fs hs m hj hk k1 k2 => ?_⟩
  · by_cases z : a = l
    · subst z
      exact .inr (.of g4)
    · rw [upd_ne z] at ha
      exact h.st.n a ha
  · rcases get_set_cases hj with ⟨rfl, e2, e3⟩ | ⟨e1, e2⟩
    · subst e2
      exact ⟨V.ref l, g1, .lst upd_same (dts_mono eb ds vs g5)⟩
    · obtain ⟨w, q1, q2⟩ := h.val j t e2 ht
      exact ⟨w, q1, q2.mono eb⟩
  · rcases get_set_cases hj with ⟨_, e2, _⟩ | ⟨e1, e2⟩
    · cases e2
    · obtain ⟨m, us, q1, q2, q3, q4, q5⟩ := h.own j es e2
      refine ⟨m, us, q1, q2, ?_, q4, dts_mono eb es us q5⟩
      rw [upd_ne (fun z => by
        subst z
        exact e1 (h.dis i j ds es m hi e2 g1 q1))]
      exact q3
  · rcases get_set_cases hj with ⟨_, e2, _⟩ | ⟨e1, e2⟩
    · cases e2
    · rcases get_set_cases hk with ⟨_, f2, _⟩ | ⟨f1, f2⟩
      · cases f2
      · exact h.dis j k fs hs m e2 f2 k1 k2
/-- at the entry of a def -/
theorem sc_start {vs : List V} {ss : List Sl} (n : Nat) (e : Ex B H) (h : IsAll K B vs ss) : Sc K B H B H (vs.map some ++ List.replicate n none) (ss ++ List.replicate n Sl.no) := by
  have hl := h.len
  have key : ∀ {vs : List V} {ss : List Sl}, IsAll K B vs ss → ∀ (i : Nat) (s : Sl), ss[i]? = some s → ∃ v, vs[i]? = some v ∧ Is K B v s := by
    intro vs ss h
    induction h with
    | nil => intro i s hi; simp at hi
    | cons h r ih =>
      intro i s hi
      cases i with
      | zero =>
        cases Option.some.inj hi
        exact ⟨_, rfl, h⟩
      | succ i => exact ih i s hi
  have g : ∀ (i : Nat) (s : Sl), (ss ++ List.replicate n Sl.no)[i]? = some s → s ≠ .no → ∃ v, (vs.map some ++ List.replicate n none)[i]? = some (some v) ∧ Is K B v s := fun i s hi hs => by
    by_cases z : i < ss.length
    · rw [List.getElem?_append_left z] at hi
      obtain ⟨v, h1, h2⟩ := key h i s hi
      exact ⟨v, by rw [List.getElem?_append_left (by rw [List.length_map]; omega), List.getElem?_map, h1]; rfl, h2⟩
    · rw [List.getElem?_append_right (by omega)] at hi
      have := (List.mem_replicate.mp (List.mem_of_getElem? hi)).2
      exact absurd this hs
  refine ⟨.refl e, by simp [hl], fun i t hi ht => g i t hi (by intro z; rw [z] at ht; cases ht), fun i ds hi => ?_, fun i j ds es l hi hj h1 h2 => ?_⟩
  · obtain ⟨w, h1, h2⟩ := g i _ hi (by intro z; cases z)
    exact h2.elim
  · obtain ⟨w, _, h3⟩ := g i _ hi (by intro z; cases z)
    exact h3.elim
end
end Ja

/-! Own data layer: expressions. -/
namespace Ja
open PySem PySem.Spec PyProof.Rows L2 Evl Cm
/-- an expression gives a value of which s is true -/
def EvS (K : PySem.W.Frag) (B0 H0 : Hp) (te : TE) (δ : List Sl) (s : Sl) : Prop := ∀ B H σ, Sc K B0 H0 B H σ δ → ∀ Q : VK, (∀ v B' H', Stp B H B' H' → Is K B' v s → Q v H') → te σ H Q
/-- a new list of these -/
def EvN (K : PySem.W.Frag) (B0 H0 : Hp) (te : TE) (δ : List Sl) (ds : List PyData) : Prop := ∀ B H σ, Sc K B0 H0 B H σ δ → ∀ Q : VK, (∀ l vs B' H', Stp B H B' H' → H l = none → B' l = none → H' l = some (.lst vs) → DtAll K B' vs ds → Q (.ref l) H') → te σ H Q
/-- some data of which P is true -/
def EvR (K : PySem.W.Frag) (B0 H0 : Hp) (te : TE) (δ : List Sl) (P : PyData → Prop) : Prop := ∀ B H σ, Sc K B0 H0 B H σ δ → ∀ Q : VK, (∀ v d B' H', P d → Stp B H B' H' → Dt K B' v d → Q v H') → te σ H Q
def EvB (K : PySem.W.Frag) (B0 H0 : Hp) (tt : TT) (δ : List Sl) (b : Bool) : Prop := ∀ B H σ, Sc K B0 H0 B H σ δ → ∀ Q : Bool → Hp → Prop, (∀ B' H', Stp B H B' H' → Q b H') → tt σ H Q
def EvA (K : PySem.W.Frag) (B0 H0 : Hp) (ta : TA) (δ : List Sl) (ss : List Sl) : Prop := ∀ B H σ, Sc K B0 H0 B H σ δ → ∀ Q : List V → Hp → Prop, (∀ vs B' H', Stp B H B' H' → IsAll K B' vs ss → Q vs H') → ta σ H Q
/-- all of them data -/
def EvD (K : PySem.W.Frag) (B0 H0 : Hp) (ta : TA) (δ : List Sl) (ds : List PyData) : Prop := ∀ B H σ, Sc K B0 H0 B H σ δ → ∀ Q : List V → Hp → Prop, (∀ vs B' H', Stp B H B' H' → DtAll K B' vs ds → Q vs H') → ta σ H Q
def EvO (K : PySem.W.Frag) (B0 H0 : Hp) (to : TO) (δ : List Sl) (o : Option Int) : Prop := ∀ B H σ, Sc K B0 H0 B H σ δ → ∀ Q : Option Int → Hp → Prop, (∀ B' H', Stp B H B' H' → Q o H') → to σ H Q
/-- values that are the same in every heap -/
inductive Sv : V → PyData → Prop
  | non : Sv .non .none
  | bl (b : Bool) : Sv (.bl b) (.bool b)
  | int (i : Int) : Sv (.int i) (.int i)
  | str (x : Str) : Sv (.str x) (.str x)
section
variable {K : PySem.W.Frag} {B0 H0 B H B' H' : Hp} {σ : L2.St} {δ : List Sl} {ta tb tc td te : TE} {tt tu : TT} {r r' : R2} {s s' : Sl} {d e : PyData} {ds es : List PyData} {i j k : Int} {b c : Bool} {x y z : V}
theorem Sv.eq {v : V} (h : Sv x d) (g : Dt K B v d) : v = x := by
  cases h <;> cases g <;> rfl
theorem Sv.dt (h : Sv x d) : Dt K B x d := by
  cases h
  · exact .non
  · exact .bl _
  · exact .int _
  · exact .str _
theorem bh (h : Sc K B0 H0 B H σ δ) : Ex B H := h.st.bh
theorem Stp.same (e : Ex B H) (h : Ex H H') : Stp B H B H' := ⟨.refl _, e.trans h, h, fun a q => .inl q⟩
/-! ### leaves -/
theorem d_var {n : Nat} (h : δ[n]? = some s) (hv : Vl s = true := by rfl) : EvS K B0 H0 (tVar n) δ s := fun B H σ S Q q => by
  obtain ⟨v, h1, h2⟩ := S.val n s h hv
  exact ⟨v, h1, q v B H (.refl S.st.bh) h2⟩
theorem d_ci : EvS K B0 H0 (tC (.int i)) δ (nI i) := fun B H σ S Q q => q _ B H (.refl S.st.bh) (Dt.int i)
theorem d_cb : EvS K B0 H0 (tC (.bl b)) δ (nB b) := fun B H σ S Q q => q _ B H (.refl S.st.bh) (Dt.bl b)
theorem d_cs {x : Str} : EvS K B0 H0 (tC (.str x)) δ (nS x) := fun B H σ S Q q => q _ B H (.refl S.st.bh) (Dt.str x)
theorem d_cn : EvS K B0 H0 (tC .non) δ (.dat .none) := fun B H σ S Q q => q _ B H (.refl S.st.bh) Dt.non
theorem d_cr {v : V} : EvS K B0 H0 (tC v) δ (.raw v) := fun B H σ S Q q => q _ B H (.refl S.st.bh) rfl
theorem d_is (h : EvS K B0 H0 te δ s) (e : s = s') : EvS K B0 H0 te δ s' := e ▸ h
theorem d_isI (h : EvS K B0 H0 te δ (nI i)) (e : i = j) : EvS K B0 H0 te δ (nI j) := e ▸ h
theorem d_isB (h : EvS K B0 H0 te δ (nB b)) (e : b = c) : EvS K B0 H0 te δ (nB c) := e ▸ h
theorem b_is (h : EvB K B0 H0 tt δ b) (e : b = c) : EvB K B0 H0 tt δ c := e ▸ h
theorem r_of (h : EvS K B0 H0 te δ (.dat d)) {P : PyData → Prop} (hp : P d) : EvR K B0 H0 te δ P := fun B H σ S Q q => h B H σ S Q fun v B' H' st iv => q v d B' H' hp st iv
theorem r_imp {P P' : PyData → Prop} (h : EvR K B0 H0 te δ P) (hp : ∀ d, P d → P' d) : EvR K B0 H0 te δ P' := fun B H σ S Q q => h B H σ S Q fun v d B' H' p st iv => q v d B' H' (hp d p) st iv
/-! ### operators on values that are the same in every heap -/
theorem d_op (ha : EvS K B0 H0 ta δ (.dat d)) (hb : EvS K B0 H0 tb δ (.dat e)) (sx : Sv x d) (sy : Sv y e) (hr : ∀ H, RV r x y H z) {f : PyData} (sz : Sv z f) : EvS K B0 H0 (tOp r ta tb) δ (.dat f) := fun B H σ S Q q =>
  ha B H σ S _ fun v B1 H1 s1 i1 => hb B1 H1 σ (S.go s1) _ fun w B2 H2 s2 i2 => by
    rw [sx.eq i1, sy.eq i2]
    exact hr H2 H2 (.refl _) Q fun H3 e3 => q z B2 H3 ((s1.trans s2).trans (.same s2.bh e3)) sz.dt
theorem d_ii (ha : EvS K B0 H0 ta δ (nI i)) (hb : EvS K B0 H0 tb δ (nI j)) (hr : ∀ H, RV r (.int i) (.int j) H (.int k)) : EvS K B0 H0 (tOp r ta tb) δ (nI k) := d_op ha hb (.int i) (.int j) hr (.int k)
theorem d_iib (ha : EvS K B0 H0 ta δ (nI i)) (hb : EvS K B0 H0 tb δ (nI j)) (hr : ∀ H, RV r (.int i) (.int j) H (.bl b)) : EvS K B0 H0 (tOp r ta tb) δ (nB b) := d_op ha hb (.int i) (.int j) hr (.bl b)
theorem d_bbb {b1 b2 : Bool} (ha : EvS K B0 H0 ta δ (nB b1)) (hb : EvS K B0 H0 tb δ (nB b2)) (hr : ∀ H, RV r (.bl b1) (.bl b2) H (.bl b)) : EvS K B0 H0 (tOp r ta tb) δ (nB b) := d_op ha hb (.bl b1) (.bl b2) hr (.bl b)
theorem d_ssb {x y : Str} (ha : EvS K B0 H0 ta δ (nS x)) (hb : EvS K B0 H0 tb δ (nS y)) (hr : ∀ H, RV r (.str x) (.str y) H (.bl b)) : EvS K B0 H0 (tOp r ta tb) δ (nB b) := d_op ha hb (.str x) (.str y) hr (.bl b)
theorem d_sss {x y z : Str} (ha : EvS K B0 H0 ta δ (nS x)) (hb : EvS K B0 H0 tb δ (nS y)) (hr : ∀ H, RV r (.str x) (.str y) H (.str z)) : EvS K B0 H0 (tOp r ta tb) δ (nS z) := d_op ha hb (.str x) (.str y) hr (.str z)
theorem d_sis {x z : Str} (ha : EvS K B0 H0 ta δ (nS x)) (hb : EvS K B0 H0 tb δ (nI j)) (hr : ∀ H, RV r (.str x) (.int j) H (.str z)) : EvS K B0 H0 (tOp r ta tb) δ (nS z) := d_op ha hb (.str x) (.int j) hr (.str z)
/-- a sum, a difference, a test of two ints: nothing is asked -/
theorem d_i0 {g : Int → Int → Int} (ha : EvS K B0 H0 ta δ (nI i)) (hb : EvS K B0 H0 tb δ (nI j)) : EvS K B0 H0 (tOp (rI0 fun i j => .int (g i j)) ta tb) δ (nI (g i j)) := d_ii ha hb fun _ => rv_I0
theorem d_b0 {g : Int → Int → Bool} (ha : EvS K B0 H0 ta δ (nI i)) (hb : EvS K B0 H0 tb δ (nI j)) : EvS K B0 H0 (tOp (rI0 fun i j => .bl (g i j)) ta tb) δ (nB (g i j)) := d_iib ha hb fun _ => rv_I0
theorem d_iC {C : Int → Int → Prop} {g : Int → Int → Int} (ha : EvS K B0 H0 ta δ (nI i)) (hb : EvS K B0 H0 tb δ (nI j)) (hc : C i j) : EvS K B0 H0 (tOp (rI C fun i j => .int (g i j)) ta tb) δ (nI (g i j)) := d_ii ha hb fun _ => rv_I hc
theorem d_eqI (ha : EvS K B0 H0 ta δ (nI i)) (hb : EvS K B0 H0 tb δ (nI j)) : EvS K B0 H0 (tOp rEq ta tb) δ (nB (decide (i = j))) := d_iib ha hb fun _ H e Q q => rv_eq rfl H e Q fun H1 e1 => by
  have h := q H1 e1
  rw [show decide (V.int i = V.int j) = decide (i = j) from decide_eq_decide.mpr ⟨fun z => by cases z; rfl, fun z => by rw [z]⟩]
  exact h
theorem d_neI (ha : EvS K B0 H0 ta δ (nI i)) (hb : EvS K B0 H0 tb δ (nI j)) : EvS K B0 H0 (tOp rNe ta tb) δ (nB (!decide (i = j))) := d_iib ha hb fun _ H e Q q => rv_ne rfl H e Q fun H1 e1 => by
  have h := q H1 e1
  rw [show decide (V.int i = V.int j) = decide (i = j) from decide_eq_decide.mpr ⟨fun z => by cases z; rfl, fun z => by rw [z]⟩]
  exact h
theorem d_eqB {b1 b2 : Bool} (ha : EvS K B0 H0 ta δ (nB b1)) (hb : EvS K B0 H0 tb δ (nB b2)) : EvS K B0 H0 (tOp rEq ta tb) δ (nB (decide (b1 = b2))) := d_bbb ha hb fun _ H e Q q => rv_eq rfl H e Q fun H1 e1 => by
  have h := q H1 e1
  rw [show decide (V.bl b1 = V.bl b2) = decide (b1 = b2) from decide_eq_decide.mpr ⟨fun z => by cases z; rfl, fun z => by rw [z]⟩]
  exact h
theorem d_neB {b1 b2 : Bool} (ha : EvS K B0 H0 ta δ (nB b1)) (hb : EvS K B0 H0 tb δ (nB b2)) : EvS K B0 H0 (tOp rNe ta tb) δ (nB (!decide (b1 = b2))) := d_bbb ha hb fun _ H e Q q => rv_ne rfl H e Q fun H1 e1 => by
  have h := q H1 e1
  rw [show decide (V.bl b1 = V.bl b2) = decide (b1 = b2) from decide_eq_decide.mpr ⟨fun z => by cases z; rfl, fun z => by rw [z]⟩]
  exact h
theorem d_eqS {x y : Str} (ha : EvS K B0 H0 ta δ (nS x)) (hb : EvS K B0 H0 tb δ (nS y)) : EvS K B0 H0 (tOp rEq ta tb) δ (nB (decide (x = y))) := d_ssb ha hb fun _ H e Q q => rv_eq rfl H e Q fun H1 e1 => by
  have h := q H1 e1
  rw [show decide (V.str x = V.str y) = decide (x = y) from decide_eq_decide.mpr ⟨fun z => by cases z; rfl, fun z => by rw [z]⟩]
  exact h
theorem d_neS {x y : Str} (ha : EvS K B0 H0 ta δ (nS x)) (hb : EvS K B0 H0 tb δ (nS y)) : EvS K B0 H0 (tOp rNe ta tb) δ (nB (!decide (x = y))) := d_ssb ha hb fun _ H e Q q => rv_ne rfl H e Q fun H1 e1 => by
  have h := q H1 e1
  rw [show decide (V.str x = V.str y) = decide (x = y) from decide_eq_decide.mpr ⟨fun z => by cases z; rfl, fun z => by rw [z]⟩]
  exact h
theorem d_neg (ha : EvS K B0 H0 ta δ (nI i)) : EvS K B0 H0 (tUn (rU fun i => .int (-i)) ta) δ (nI (-i)) := fun B H σ S Q q => ha B H σ S _ fun v B1 H1 s1 i1 => by
  cases i1
  exact ⟨i, rfl, q _ B1 H1 s1 (Dt.int _)⟩
/-! ### tests -/
theorem b_test (h : EvS K B0 H0 te δ (nB b)) : EvB K B0 H0 (tTest te) δ b := fun B H σ S Q q => h B H σ S _ fun v B1 H1 s1 i1 => by
  cases i1
  exact ⟨b, rfl, q B1 H1 s1⟩
theorem b_val (h : EvS K B0 H0 te δ (nB b)) : EvB K B0 H0 (tB te) δ b := fun B H σ S Q q => h B H σ S _ fun v B1 H1 s1 i1 => by
  cases i1
  exact ⟨b, rfl, q B1 H1 s1⟩
theorem b_and (h1 : EvB K B0 H0 tt δ b) (h2 : b = true → EvB K B0 H0 tu δ c) : EvB K B0 H0 (tAnd tt tu) δ (b && c) := fun B H σ S Q q => h1 B H σ S _ fun B1 H1 s1 => by
  cases b with
  | true => exact h2 rfl B1 H1 σ (S.go s1) Q fun B2 H2 s2 => q B2 H2 (s1.trans s2)
  | false => exact q B1 H1 s1
theorem b_or (h1 : EvB K B0 H0 tt δ b) (h2 : b = false → EvB K B0 H0 tu δ c) : EvB K B0 H0 (tOr tt tu) δ (b || c) := fun B H σ S Q q => h1 B H σ S _ fun B1 H1 s1 => by
  cases b with
  | false => exact h2 rfl B1 H1 σ (S.go s1) Q fun B2 H2 s2 => q B2 H2 (s1.trans s2)
  | true => exact q B1 H1 s1
theorem b_not (h : EvB K B0 H0 tt δ b) : EvB K B0 H0 (tNot tt) δ (!b) := fun B H σ S Q q => h B H σ S _ fun B1 H1 s1 => q B1 H1 s1
theorem b_yes : EvB K B0 H0 tYes δ true := fun B H σ S Q q => q B H (.refl S.st.bh)
theorem d_andV (h1 : EvS K B0 H0 ta δ (nB b)) (h2 : b = true → EvS K B0 H0 tb δ (nB c)) : EvS K B0 H0 (tAndV ta tb) δ (nB (b && c)) := fun B H σ S Q q => h1 B H σ S _ fun v B1 H1 s1 i1 => by
  cases i1
  refine ⟨b, rfl, ?_⟩
  cases b with
  | true => exact h2 rfl B1 H1 σ (S.go s1) Q fun v B2 H2 s2 i2 => q v B2 H2 (s1.trans s2) i2
  | false => exact q _ B1 H1 s1 (Dt.bl _)
theorem d_orV (h1 : EvS K B0 H0 ta δ (nB b)) (h2 : b = false → EvS K B0 H0 tb δ (nB c)) : EvS K B0 H0 (tOrV ta tb) δ (nB (b || c)) := fun B H σ S Q q => h1 B H σ S _ fun v B1 H1 s1 i1 => by
  cases i1
  refine ⟨b, rfl, ?_⟩
  cases b with
  | false => exact h2 rfl B1 H1 σ (S.go s1) Q fun v B2 H2 s2 i2 => q v B2 H2 (s1.trans s2) i2
  | true => exact q _ B1 H1 s1 (Dt.bl _)
theorem d_notV (h : EvS K B0 H0 ta δ (nB b)) : EvS K B0 H0 (tNotV ta) δ (nB (!b)) := fun B H σ S Q q => h B H σ S _ fun v B1 H1 s1 i1 => by
  cases i1
  exact ⟨b, rfl, q _ B1 H1 s1 (Dt.bl _)⟩
theorem d_if (h : EvB K B0 H0 tt δ b) (h1 : b = true → EvS K B0 H0 ta δ s) (h2 : b = false → EvS K B0 H0 tb δ s) : EvS K B0 H0 (tIf tt ta tb) δ s := fun B H σ S Q q => h B H σ S _ fun B1 H1 s1 => by
  cases b with
  | true => exact h1 rfl B1 H1 σ (S.go s1) Q fun v B2 H2 s2 i2 => q v B2 H2 (s1.trans s2) i2
  | false => exact h2 rfl B1 H1 σ (S.go s1) Q fun v B2 H2 s2 i2 => q v B2 H2 (s1.trans s2) i2
/-- a < b < c of ints -/
theorem d_chain (ha : EvS K B0 H0 ta δ (nI i)) (hb : EvS K B0 H0 tb δ (nI j)) (hc : EvS K B0 H0 tc δ (nI k)) (h1 : ∀ H, RV r (.int i) (.int j) H (.bl b)) (h2 : ∀ H, RV r' (.int j) (.int k) H (.bl c)) : EvS K B0 H0 (tChain r r' ta tb tc) δ (nB (b && c)) := fun B H σ S Q q => by
  refine ha B H σ S _ fun v B1 H1 s1 i1 => hb B1 H1 σ (S.go s1) _ fun w B2 H2 s2 i2 => ?_
  cases i1
  cases i2
  refine h1 H2 H2 (.refl _) _ fun H3 e3 => ⟨b, rfl, ?_⟩
  have s3 := (s1.trans s2).trans (.same s2.bh e3)
  cases b with
  | true =>
    refine hc B2 H3 σ (S.go s3) _ fun u B4 H4 s4 i4 => ?_
    cases i4
    exact h2 H4 H4 (.refl _) Q fun H5 e5 => q _ B4 H5 ((s3.trans s4).trans (.same s4.bh e5)) (Dt.bl _)
  | false => exact q _ B2 H3 s3 (Dt.bl _)
/-! ### arguments, displays -/
theorem a_nil : EvA K B0 H0 tNil δ [] := fun B H σ S Q q => q [] B H (.refl S.st.bh) .nil
theorem a_cons {tr : TA} {ss : List Sl} (h : EvS K B0 H0 ta δ s) (hr : EvA K B0 H0 tr δ ss) : EvA K B0 H0 (tCons ta tr) δ (s :: ss) := fun B H σ S Q q =>
  h B H σ S _ fun v B1 H1 s1 i1 => hr B1 H1 σ (S.go s1) _ fun vs B2 H2 s2 i2 => q _ B2 H2 (s1.trans s2) (.cons (i1.mono s2.b) i2)
theorem ds_nil : EvD K B0 H0 tNil δ [] := fun B H σ S Q q => q [] B H (.refl S.st.bh) .nil
theorem ds_cons {tr : TA} (h : EvS K B0 H0 ta δ (.dat d)) (hr : EvD K B0 H0 tr δ ds) : EvD K B0 H0 (tCons ta tr) δ (d :: ds) := fun B H σ S Q q =>
  h B H σ S _ fun v B1 H1 s1 i1 => hr B1 H1 σ (S.go s1) _ fun vs B2 H2 s2 i2 => q _ B2 H2 (s1.trans s2) (.cons (dt_mono s2.b _ _ i1) i2)
theorem d_tup {ta : TA} (h : EvD K B0 H0 ta δ ds) (hl : ds.length ≤ 100000 := by exact of_decide_eq_true rfl) : EvS K B0 H0 (tTup ta) δ (.dat (.tuple ds)) := fun B H σ S Q q =>
  h B H σ S _ fun vs B1 H1 s1 i1 => ⟨by rw [i1.len]; exact sz_of hl, fun p hp => q _ _ _ (s1.trans (.new (o := .tup vs) s1.bh hp)) (.tup (st_of upd_same) (dts_mono (Ex.new (none_of s1.bh hp)) _ _ i1))⟩
theorem n_lst {ta : TA} (h : EvD K B0 H0 ta δ ds) (hl : ds.length ≤ 100000 := by exact of_decide_eq_true rfl) : EvN K B0 H0 (tLst ta) δ ds := fun B H σ S Q q =>
  h B H σ S _ fun vs B1 H1 s1 i1 => ⟨by rw [i1.len]; exact sz_of hl, fun p hp => q p vs B1 _ (s1.trans (.same s1.bh (.new hp))) (none_of s1.h hp) (none_of s1.bh hp) upd_same i1⟩
/-- a new list, as data -/
theorem d_new (h : EvN K B0 H0 te δ ds) : EvS K B0 H0 te δ (.dat (.list ds)) := fun B H σ S Q q => h B H σ S Q fun l vs B1 H1 s1 f1 f2 f3 f4 => by
  have eb : Ex B1 (upd B1 l (.lst vs)) := Ex.new f2
  refine q _ (upd B1 l (.lst vs)) H1 ⟨s1.b.trans eb, fun a o ha => ?_, s1.h, fun a ha => ?_⟩ (.lst upd_same (dts_mono eb _ _ f4))
  · by_cases z : a = l
    · subst z
      rw [upd_same] at ha
      rw [f3]
      exact ha
    · rw [upd_ne z] at ha
      exact s1.bh a o ha
  · by_cases z : a = l
    · subst z
      exact .inr (.of f1)
    · rw [upd_ne z] at ha
      exact s1.n a ha
/-! ### data compared -/
theorem d_eqD (ha : EvS K B0 H0 ta δ (.dat d)) (hb : EvS K B0 H0 tb δ (.dat e)) (h1 : SeqAt.shaped d = true) (h2 : SeqAt.shaped e = true) : EvS K B0 H0 (tOp (rEqD K) ta tb) δ (nB (PyData.eqv d e)) := fun B H σ S Q q =>
  ha B H σ S _ fun v B1 H1 s1 i1 => hb B1 H1 σ (S.go s1) _ fun w B2 H2 s2 i2 => ⟨d, e, dp_mono s2.bh _ _ (dp_mono s2.b _ _ (dt_dp _ _ i1)), dp_mono s2.bh _ _ (dt_dp _ _ i2), h1, h2, q _ B2 H2 (s1.trans s2) (Dt.bl _)⟩
theorem d_neD (ha : EvS K B0 H0 ta δ (.dat d)) (hb : EvS K B0 H0 tb δ (.dat e)) (h1 : SeqAt.shaped d = true) (h2 : SeqAt.shaped e = true) : EvS K B0 H0 (tOp (rNeD K) ta tb) δ (nB (!PyData.eqv d e)) := fun B H σ S Q q =>
  ha B H σ S _ fun v B1 H1 s1 i1 => hb B1 H1 σ (S.go s1) _ fun w B2 H2 s2 i2 => ⟨d, e, dp_mono s2.bh _ _ (dp_mono s2.b _ _ (dt_dp _ _ i1)), dp_mono s2.bh _ _ (dt_dp _ _ i2), h1, h2, q _ B2 H2 (s1.trans s2) (Dt.bl _)⟩
theorem d_inD (ha : EvS K B0 H0 ta δ (.dat d)) (hb : EvS K B0 H0 tb δ (.dat (.list ds))) (h1 : SeqAt.shaped d = true) (h2 : SeqAt.shaped (.list ds) = true) : EvS K B0 H0 (tOp (rInD K) ta tb) δ (nB (ds.any fun z => PyData.eqv z d)) := fun B H σ S Q q =>
  ha B H σ S _ fun v B1 H1 s1 i1 => hb B1 H1 σ (S.go s1) _ fun w B2 H2 s2 i2 => ⟨d, ds, dp_mono s2.bh _ _ (dp_mono s2.b _ _ (dt_dp _ _ i1)), dp_mono s2.bh _ _ (dt_dp _ _ i2), h1, h2, q _ B2 H2 (s1.trans s2) (Dt.bl _)⟩
theorem d_niD (ha : EvS K B0 H0 ta δ (.dat d)) (hb : EvS K B0 H0 tb δ (.dat (.list ds))) (h1 : SeqAt.shaped d = true) (h2 : SeqAt.shaped (.list ds) = true) : EvS K B0 H0 (tOp (rNotInD K) ta tb) δ (nB (!ds.any fun z => PyData.eqv z d)) := fun B H σ S Q q =>
  ha B H σ S _ fun v B1 H1 s1 i1 => hb B1 H1 σ (S.go s1) _ fun w B2 H2 s2 i2 => ⟨d, ds, dp_mono s2.bh _ _ (dp_mono s2.b _ _ (dt_dp _ _ i1)), dp_mono s2.bh _ _ (dt_dp _ _ i2), h1, h2, q _ B2 H2 (s1.trans s2) (Dt.bl _)⟩
/-! ### items -/
theorem at_get {vs : List V} (h : DtAll K B vs ds) (e : atI ds i = some d) : ∃ v, atI vs i = some v ∧ Dt K B v d := by
  unfold atI at e ⊢
  rw [h.len]
  cases hx : ixN ds.length i with
  | none =>
    rw [hx] at e
    cases e
  | some n =>
    rw [hx] at e
    exact h.get e
theorem d_ixT (ha : EvS K B0 H0 ta δ (.dat (.tuple ds))) (hb : EvS K B0 H0 tb δ (nI i)) (h : atI ds i = some d) : EvS K B0 H0 (tOp (rIxT K) ta tb) δ (.dat d) := fun B H σ S Q q =>
  ha B H σ S _ fun v B1 H1 s1 i1 => hb B1 H1 σ (S.go s1) _ fun w B2 H2 s2 i2 => by
    cases i2
    cases i1 with
    | tup h1 h2 =>
      obtain ⟨x, hx, dx⟩ := at_get (dts_mono s2.b _ _ h2) h
      exact ⟨_, _, i, x, rfl, rfl, ex_t (s2.b.trans s2.bh) h1, hx, q x B2 H2 (s1.trans s2) dx⟩
theorem d_ixL (ha : EvS K B0 H0 ta δ (.dat (.list ds))) (hb : EvS K B0 H0 tb δ (nI i)) (h : atI ds i = some d) : EvS K B0 H0 (tOp (rIxL K) ta tb) δ (.dat d) := fun B H σ S Q q =>
  ha B H σ S _ fun v B1 H1 s1 i1 => hb B1 H1 σ (S.go s1) _ fun w B2 H2 s2 i2 => by
    cases i2
    cases i1 with
    | lst h1 h2 =>
      obtain ⟨x, hx, dx⟩ := at_get (dts_mono s2.b _ _ h2) h
      exact ⟨_, _, i, x, rfl, rfl, sq_of ((s2.b.trans s2.bh) _ _ h1), hx, q x B2 H2 (s1.trans s2) dx⟩
/-- of a list of its own -/
theorem d_ixO {n : Nat} (ho : δ[n]? = some (Sl.own ds)) (hb : EvS K B0 H0 tb δ (nI i)) (h : atI ds i = some d) : EvS K B0 H0 (tOp (rIxL K) (tVar n) tb) δ (.dat d) := fun B H σ S Q q => by
  obtain ⟨l, vs, h1, _⟩ := S.own n ds ho
  refine ⟨.ref l, h1, hb B H σ S _ fun w B2 H2 s2 i2 => ?_⟩
  cases i2
  obtain ⟨l', ws, g1, g2, g3, g4, g5⟩ := (S.go s2).own n ds ho
  rw [h1] at g1
  cases Option.some.inj (Option.some.inj g1)
  obtain ⟨x, hx, dx⟩ := at_get g5 h
  exact ⟨_, _, i, x, rfl, rfl, sq_of g2, hx, q x B2 H2 s2 dx⟩
/-- of the script -/
theorem d_ixS {ns : List Int} (ha : EvS K B0 H0 ta δ (.sem (scrP K ns))) (hb : EvS K B0 H0 tb δ (nI i)) (h : atI ns i = some j) : EvS K B0 H0 (tOp (rIxL K) ta tb) δ (nI j) := fun B H σ S Q q =>
  ha B H σ S _ fun v B1 H1 s1 i1 => hb B1 H1 σ (S.go s1) _ fun w B2 H2 s2 i2 => by
    cases i2
    obtain ⟨a, rfl, ha⟩ := i1
    have hx : atI (ns.map V.int) i = some (.int j) := by
      unfold atI at h ⊢
      rw [List.length_map]
      cases hx : ixN ns.length i with
      | none =>
        rw [hx] at h
        cases h
      | some n =>
        rw [hx] at h
        show (ns.map V.int)[n]? = _
        rw [List.getElem?_map, show ns[n]? = some j from h]
        rfl
    exact ⟨_, _, i, _, rfl, rfl, ex_l (s2.b.trans s2.bh) ha, hx, q _ B2 H2 (s1.trans s2) (Dt.int j)⟩
/-! ### len -/
theorem d_lenL {ta : TE} (h : EvS K B0 H0 ta δ (.dat (.list ds))) : EvS K B0 H0 (tCB (fun xs H Q => ∃ x n, xs = [x] ∧ LenV K x H n ∧ Q (.int n) H) (tCons ta tNil)) δ (nI ds.length) := fun B H σ S Q q =>
  h B H σ S _ fun v B1 H1 s1 i1 => by
    cases i1 with
    | lst h1 h2 => exact ⟨_, ds.length, rfl, .inl ⟨_, sq_of (s1.bh _ _ h1), h2.len.symm⟩, q _ B1 H1 s1 (Dt.int _)⟩
theorem d_lenT {ta : TE} (h : EvS K B0 H0 ta δ (.dat (.tuple ds))) : EvS K B0 H0 (tCB (fun xs H Q => ∃ x n, xs = [x] ∧ LenV K x H n ∧ Q (.int n) H) (tCons ta tNil)) δ (nI ds.length) := fun B H σ S Q q =>
  h B H σ S _ fun v B1 H1 s1 i1 => by
    cases i1 with
    | tup h1 h2 => exact ⟨_, ds.length, rfl, .inr ⟨_, ex_t s1.bh h1, h2.len.symm⟩, q _ B1 H1 s1 (Dt.int _)⟩
theorem d_lenS {ta : TE} {x : Str} (h : EvS K B0 H0 ta δ (nS x)) (hl : x.length ≤ 100000) : EvS K B0 H0 (tCB (fun xs H Q => ∃ x n, xs = [x] ∧ LenV K x H n ∧ Q (.int n) H) (tCons ta tNil)) δ (nI x.length) := fun B H σ S Q q =>
  h B H σ S _ fun v B1 H1 s1 i1 => by
    cases i1
    exact ⟨_, x.length, rfl, ⟨sz_of hl, rfl⟩, q _ B1 H1 s1 (Dt.int _)⟩
theorem d_lenO {n : Nat} (ho : δ[n]? = some (Sl.own ds)) : EvS K B0 H0 (tCB (fun xs H Q => ∃ x n, xs = [x] ∧ LenV K x H n ∧ Q (.int n) H) (tCons (tVar n) tNil)) δ (nI ds.length) := fun B H σ S Q q => by
  obtain ⟨l, vs, h1, h2, h3, h4, h5⟩ := S.own n ds ho
  exact ⟨.ref l, h1, _, ds.length, rfl, .inl ⟨_, sq_of h2, h5.len.symm⟩, q _ B H (.refl S.st.bh) (Dt.int _)⟩
theorem d_lenSc {ns : List Int} (h : EvS K B0 H0 ta δ (.sem (scrP K ns))) : EvS K B0 H0 (tCB (fun xs H Q => ∃ x n, xs = [x] ∧ LenV K x H n ∧ Q (.int n) H) (tCons ta tNil)) δ (nI ns.length) := fun B H σ S Q q =>
  h B H σ S _ fun v B1 H1 s1 ⟨a, e, h1⟩ => by
    subst e
    exact ⟨_, ns.length, rfl, .inl ⟨_, ex_l s1.bh h1, by rw [List.length_map]⟩, q _ B1 H1 s1 (Dt.int _)⟩
/-! ### built-ins on values that are the same in every heap -/
theorem d_cb1 {rr : List V → Hp → VK → Prop} (h : EvS K B0 H0 ta δ (.dat d)) (sx : Sv x d) (hr : ∀ H, RC rr [x] H z) {f : PyData} (sz : Sv z f) : EvS K B0 H0 (tCB rr (tCons ta tNil)) δ (.dat f) := fun B H σ S Q q =>
  h B H σ S _ fun v B1 H1 s1 i1 => by
    rw [sx.eq i1]
    exact hr H1 H1 (.refl _) Q fun H2 e2 => q z B1 H2 (s1.trans (.same s1.bh e2)) sz.dt
theorem d_cb2 {rr : List V → Hp → VK → Prop} (h : EvS K B0 H0 ta δ (.dat d)) (h2 : EvS K B0 H0 tb δ (.dat e)) (sx : Sv x d) (sy : Sv y e) (hr : ∀ H, RC rr [x, y] H z) {f : PyData} (sz : Sv z f) : EvS K B0 H0 (tCB rr (tCons ta (tCons tb tNil))) δ (.dat f) := fun B H σ S Q q =>
  h B H σ S _ fun v B1 H1 s1 i1 => h2 B1 H1 σ (S.go s1) _ fun w B2 H2 s2 i2 => by
    rw [sx.eq i1, sy.eq i2]
    exact hr H2 H2 (.refl _) Q fun H3 e3 => q z B2 H3 ((s1.trans s2).trans (.same s2.bh e3)) sz.dt
theorem d_abs (h : EvS K B0 H0 ta δ (nI i)) : EvS K B0 H0 (tCB (fun xs H Q => ∃ i, xs = [.int i] ∧ Q (.int (if i < 0 then -i else i)) H) (tCons ta tNil)) δ (nI i.natAbs) := d_cb1 h (.int i) (fun _ => rc_abs) (.int _)
theorem d_int (h : EvS K B0 H0 ta δ (nI i)) : EvS K B0 H0 (tCB (fun xs H Q => (∃ i, xs = [.int i] ∧ Q (.int i) H) ∨ ∃ k, xs = [.bl k] ∧ Q (.int (if k then 1 else 0)) H) (tCons ta tNil)) δ (nI i) := d_cb1 h (.int i) (fun _ => rc_intI) (.int _)
theorem d_min (h : EvS K B0 H0 ta δ (nI i)) (h2 : EvS K B0 H0 tb δ (nI j)) : EvS K B0 H0 (tCB (fun xs H Q => ∃ i j, xs = [.int i, .int j] ∧ Q (.int (if j < i then j else i)) H) (tCons ta (tCons tb tNil))) δ (nI (min i j)) := d_cb2 h h2 (.int i) (.int j) (fun _ => rc_min2) (.int _)
theorem d_max (h : EvS K B0 H0 ta δ (nI i)) (h2 : EvS K B0 H0 tb δ (nI j)) : EvS K B0 H0 (tCB (fun xs H Q => ∃ i j, xs = [.int i, .int j] ∧ Q (.int (if j > i then j else i)) H) (tCons ta (tCons tb tNil))) δ (nI (max i j)) := d_cb2 h h2 (.int i) (.int j) (fun _ => rc_max2) (.int _)
/-! ### slices, sums of lists -/
def cutD (xs : List PyData) (lo hi : Option Int) : List PyData := (xs.drop (HT.sIx xs.length 0 lo)).take (HT.sIx xs.length xs.length hi - HT.sIx xs.length 0 lo)
theorem cut_dt {vs : List V} (h : DtAll K B vs ds) (lo hi : Option Int) : DtAll K B (cutV vs lo hi) (cutD ds lo hi) := by
  unfold cutV cutD
  rw [h.len]
  exact (h.drop _).take _
theorem o_none : EvO K B0 H0 tNoPart δ none := fun B H σ S Q q => q B H (.refl S.st.bh)
theorem o_some (h : EvS K B0 H0 te δ (nI i)) : EvO K B0 H0 (tPart te) δ (some i) := fun B H σ S Q q => h B H σ S _ fun v B1 H1 s1 i1 => by
  cases i1
  exact ⟨i, rfl, q B1 H1 s1⟩
theorem n_sl {tl th : TO} {lo hi : Option Int} (h : EvS K B0 H0 te δ (.dat (.list ds))) (h1 : EvO K B0 H0 tl δ lo) (h2 : EvO K B0 H0 th δ hi) : EvN K B0 H0 (tSl (rSlL K) te tl th) δ (cutD ds lo hi) := fun B H σ S Q q =>
  h B H σ S _ fun v B1 H1 s1 i1 => h1 B1 H1 σ (S.go s1) _ fun B2 H2 s2 => h2 B2 H2 σ (S.go (s1.trans s2)) _ fun B3 H3 s3 => by
    have s := (s1.trans s2).trans s3
    cases i1 with
    | lst g1 g2 =>
      refine ⟨_, _, rfl, sq_of (s3.bh _ _ (s3.b _ _ (s2.b _ _ g1))), fun p hp => ?_⟩
      exact q p _ B3 _ (s.trans (.same s.bh (.new hp))) (none_of s.h hp) (none_of s.bh hp) upd_same (cut_dt (dts_mono (s2.b.trans s3.b) _ _ g2) lo hi)
theorem n_cat (ha : EvS K B0 H0 ta δ (.dat (.list ds))) (hb : EvS K B0 H0 tb δ (.dat (.list es))) (hz : ds.length + es.length ≤ 100000) : EvN K B0 H0 (tOp rCat ta tb) δ (ds ++ es) := fun B H σ S Q q =>
  ha B H σ S _ fun v B1 H1 s1 i1 => hb B1 H1 σ (S.go s1) _ fun w B2 H2 s2 i2 => by
    have s := s1.trans s2
    cases i1 with
    | lst g1 g2 =>
      cases i2 with
      | lst k1 k2 =>
        refine ⟨_, _, _, _, rfl, rfl, s2.bh _ _ (s2.b _ _ g1), s2.bh _ _ k1, by rw [g2.len, k2.len]; exact sz_of hz, fun p hp => ?_⟩
        exact q p _ B2 _ (s.trans (.same s.bh (.new hp))) (none_of s.h hp) (none_of s.bh hp) upd_same ((dts_mono s2.b _ _ g2).app k2)
theorem n_list {ta : TE} (h : EvS K B0 H0 ta δ (.dat (.list ds))) : EvN K B0 H0 (tCB (rListS K) (tCons ta tNil)) δ ds := fun B H σ S Q q =>
  h B H σ S _ fun v B1 H1 s1 i1 => by
    cases i1 with
    | lst g1 g2 => exact ⟨_, _, rfl, .inl (sq_of (s1.bh _ _ g1)), fun p hp => q p _ B1 _ (s1.trans (.same s1.bh (.new hp))) (none_of s1.h hp) (none_of s1.bh hp) upd_same g2⟩
theorem d_sum {ta : TE} {ns : List Int} (h : EvS K B0 H0 ta δ (.dat (.list (ns.map PyData.int)))) : EvS K B0 H0 (tCB (rSum K) (tCons ta tNil)) δ (nI ns.sum) := fun B H σ S Q q =>
  h B H σ S _ fun v B1 H1 s1 i1 => by
    cases i1 with
    | lst g1 g2 => exact ⟨_, ns, rfl, sq_of (by rw [← dt_ints_inv ns g2]; exact s1.bh _ _ g1), q _ B1 H1 s1 (Dt.int _)⟩
/-! ### calls of defs -/
/-- a def by data: for an argument a, told by the slots enc a, it gives some data of which post is true -/
def SpA (K : PySem.W.Frag) {A : Type} (enc : A → List Sl) (pre : A → Prop) (post : A → PyData → Prop) : Sp := fun vs H Q _ => ∃ B a, Ex B H ∧ IsAll K B vs (enc a) ∧ pre a ∧ ∀ v d B' H', post a d → Stp B H B' H' → Dt K B' v d → Q v H'
/-- .. or raises the class that bad tells -/
def SpX (K : PySem.W.Frag) {A : Type} (enc : A → List Sl) (pre : A → Prop) (bad : A → Option Addr) (post : A → PyData → Prop) : Sp := fun vs H Q E => ∃ B a, Ex B H ∧ IsAll K B vs (enc a) ∧ pre a ∧ (∀ C, bad a = some C → ∀ H', Ex H H' → E (.ref C) none H') ∧ (bad a = none → ∀ v d B' H', post a d → Stp B H B' H' → Dt K B' v d → Q v H')
theorem r_call {A : Type} {enc : A → List Sl} {pre : A → Prop} {post : A → PyData → Prop} {E : XK} {tr : TA} (a : A) (h : EvA K B0 H0 tr δ (enc a)) (hp : pre a) : EvR K B0 H0 (tCall (SpA K enc pre post) [] E tr) δ (post a) := fun B H σ S Q q =>
  h B H σ S _ fun vs B1 H1 s1 i1 => ⟨B1, a, s1.bh, by rw [List.append_nil]; exact i1, hp, fun v d B2 H2 p st dv => q v d B2 H2 p (s1.trans st) dv⟩
theorem d_call {A : Type} {enc : A → List Sl} {pre : A → Prop} {post : A → PyData → Prop} {E : XK} {tr : TA} (a : A) (h : EvA K B0 H0 tr δ (enc a)) (hp : pre a) (hf : ∀ e, post a e → e = d) : EvS K B0 H0 (tCall (SpA K enc pre post) [] E tr) δ (.dat d) := fun B H σ S Q q =>
  r_call a h hp B H σ S Q fun v e B' H' p st iv => by
    cases hf e p
    exact q v B' H' st iv
/-- the usual form: a function of data -/
abbrev SpF (K : PySem.W.Frag) {A : Type} (enc : A → List Sl) (pre : A → Prop) (f : A → PyData) : Sp := SpA K enc pre fun a d => d = f a
theorem d_callF {A : Type} {enc : A → List Sl} {pre : A → Prop} {f : A → PyData} {E : XK} {tr : TA} (a : A) (h : EvA K B0 H0 tr δ (enc a)) (hp : pre a) : EvS K B0 H0 (tCall (SpF K enc pre f) [] E tr) δ (.dat (f a)) := d_call a h hp fun _ h => h
/-- where nothing is raised -/
theorem r_callX {A : Type} {enc : A → List Sl} {pre : A → Prop} {bad : A → Option Addr} {post : A → PyData → Prop} {E : XK} {tr : TA} (a : A) (h : EvA K B0 H0 tr δ (enc a)) (hp : pre a) (hb : bad a = none) : EvR K B0 H0 (tCall (SpX K enc pre bad post) [] E tr) δ (post a) := fun B H σ S Q q =>
  h B H σ S _ fun vs B1 H1 s1 i1 => ⟨B1, a, s1.bh, by rw [List.append_nil]; exact i1, hp, (fun C e => by rw [hb] at e; cases e), fun _ v d B2 H2 p st dv => q v d B2 H2 p (s1.trans st) dv⟩
theorem d_callX {A : Type} {enc : A → List Sl} {pre : A → Prop} {bad : A → Option Addr} {post : A → PyData → Prop} {E : XK} {tr : TA} (a : A) (h : EvA K B0 H0 tr δ (enc a)) (hp : pre a) (hb : bad a = none) (hf : ∀ e, post a e → e = d) : EvS K B0 H0 (tCall (SpX K enc pre bad post) [] E tr) δ (.dat d) := fun B H σ S Q q =>
  r_callX a h hp hb B H σ S Q fun v e B' H' p st iv => by
    cases hf e p
    exact q v B' H' st iv
end
end Ja

/-! Own data layer: targets, what is walked, comprehensions, statements, defs. -/
namespace Ja
open PySem PySem.Spec PyProof.Rows L2 Evl Cm
def wipeD (δ : List Sl) : List Nat → List Sl
  | [] => δ
  | v :: vs => (wipeD δ vs).set v Sl.no
/-- a target takes data; ix: the slots that it stores to -/
def TGd (K : PySem.W.Frag) (B0 H0 : Hp) (g : TG) (ix : List Nat) (δ : List Sl) (d : PyData) (δ' : List Sl) : Prop := ∀ B H σ v, Sc K B0 H0 B H σ δ → Dt K B v d → ∀ Q : L2.St → Hp → Prop, (∀ σ', Sc K B0 H0 B H σ' δ' → (∀ vs : List Nat, (∀ i ∈ ix, i ∈ vs) → wipe σ' vs = wipe σ vs) → Q σ' H) → g v σ H Q
def TGs (K : PySem.W.Frag) (B0 H0 : Hp) (g : L2.TGs) (ix : List Nat) (δ : List Sl) (ds : List PyData) (δ' : List Sl) : Prop := ∀ B H σ vs, Sc K B0 H0 B H σ δ → DtAll K B vs ds → ∀ Q : L2.St → Hp → Prop, (∀ σ', Sc K B0 H0 B H σ' δ' → (∀ vs : List Nat, (∀ i ∈ ix, i ∈ vs) → wipe σ' vs = wipe σ vs) → Q σ' H) → g vs σ H Q
theorem wipe_set {σ : L2.St} {i : Nat} {o : Option V} : ∀ {vs : List Nat}, i ∈ vs → wipe (σ.set i o) vs = wipe σ vs
  | v :: vs, h => by
    show (wipe (σ.set i o) vs).set v none = (wipe σ vs).set v none
    by_cases e : i ∈ vs
    · rw [wipe_set e]
    · have e1 : v = i := by
        rcases List.mem_cons.mp h with h | h
        · exact h.symm
        · exact absurd h e
      subst e1
      have key : ∀ {vs : List Nat}, v ∉ vs → wipe (σ.set v o) vs = (wipe σ vs).set v o := by
        intro vs
        induction vs with
        | nil => intro _; rfl
        | cons w ws ih =>
          intro hn
          show (wipe (σ.set v o) ws).set w none = ((wipe σ ws).set w none).set v o
          rw [ih fun z => hn (List.mem_cons_of_mem _ z)]
          exact List.set_comm _ _ fun z => hn (by rw [z]; exact List.mem_cons_self ..)
      rw [key e, List.set_set]
theorem wipe_id {σ : L2.St} : ∀ {vs ws : List Nat}, (∀ i ∈ vs, i ∈ ws) → wipe (wipe σ vs) ws = wipe σ ws
  | [], ws, _ => rfl
  | v :: vs, ws, h => by
    show wipe ((wipe σ vs).set v none) ws = _
    rw [wipe_set (h v (List.mem_cons_self ..)), wipe_id fun i hi => h i (List.mem_cons_of_mem _ hi)]
section
variable {K : PySem.W.Frag} {B0 H0 B H B' H' : Hp} {σ : L2.St} {δ δ1 δ2 : List Sl} {ta tb tc td te : TE} {tt : TT} {s s' : Sl} {d e : PyData} {ds es : List PyData} {i j k : Int} {b c : Bool} {x y z : V}
theorem Sc.wipe (h : Sc K B0 H0 B H σ δ) : ∀ vs : List Nat, Sc K B0 H0 B H (wipe σ vs) (wipeD δ vs)
  | [] => h
  | v :: vs => (Sc.wipe h vs).put v none
theorem g_name {n : Nat} : TGd K B0 H0 (gName n) [n] δ d (δ.set n (.dat d)) := fun B H σ v S iv Q q => q _ (S.set (s := .dat d) n iv) fun vs hv => wipe_set (hv n (List.mem_singleton.mpr rfl))
theorem g_nil : TGs K B0 H0 gNil [] δ [] δ := fun B H σ vs S iv Q q => by
  cases iv
  exact ⟨rfl, q σ S fun _ _ => rfl⟩
theorem g_cons {g : TG} {u : L2.TGs} {ix iy : List Nat} (h : TGd K B0 H0 g ix δ d δ1) (hr : TGs K B0 H0 u iy δ1 ds δ2) : TGs K B0 H0 (gCons g u) (ix ++ iy) δ (d :: ds) δ2 := fun B H σ vs S iv Q q => by
  cases iv with
  | cons h1 h2 => exact ⟨_, _, rfl, h B H σ _ S h1 _ fun σ1 S1 w1 => hr B H σ1 _ S1 h2 Q fun σ2 S2 w2 => q σ2 S2 fun ws hw => by
      rw [w2 ws fun i hi => hw i (List.mem_append.mpr (.inr hi)), w1 ws fun i hi => hw i (List.mem_append.mpr (.inl hi))]⟩
theorem g_tup {n : Nat} {u : L2.TGs} {ix : List Nat} (h : TGs K B0 H0 u ix δ ds δ1) (hn : ds.length = n := by rfl) : TGd K B0 H0 (gTup K n u) ix δ (.tuple ds) δ1 := fun B H σ v S iv Q q => by
  cases iv with
  | tup h1 h2 => exact ⟨_, _, rfl, ex_t S.st.bh h1, by rw [h2.len, hn], h B H σ _ S h2 Q q⟩
/-! ### what is walked -/
def EvW (K : PySem.W.Frag) (B0 H0 : Hp) (wi : TI) (δ : List Sl) (ds : List PyData) : Prop := ∀ B H σ, Sc K B0 H0 B H σ δ → ∀ R : It → Hp → Prop,
  (∀ J G Y B1 H1, Stp B H B1 H1 → Walk J ds.length G Y → (∀ B2 H2, Ex B1 B2 → Ex B2 H2 → G H2) → (∀ (i : Nat) H2 x H3 B2 (d : PyData), ds[i]? = some d → Ex B1 B2 → Ex B2 H2 → Y i H2 x H3 → ∃ B3, Stp B2 H2 B3 H3 ∧ Dt K B3 x d) → R J H1) → wi σ H R
theorem w_list {tl : TE} (h : EvS K B0 H0 tl δ (.dat (.list ds))) : EvW K B0 H0 (iList K tl) δ ds := fun B H σ S R q => h B H σ S _ fun v B1 H1 s1 i1 => by
  cases i1 with
  | @lst a xs _ h1 h2 =>
    refine ⟨a, rfl, ⟨xs, sq_of (s1.bh _ _ h1)⟩, q _ (fun H => SqL K H a xs) (YAt xs) B1 H1 s1 (by rw [← h2.len]; exact walk_list) (fun B2 H2 e1 e2 => sq_of (e2 _ _ (e1 _ _ h1))) fun i H2 x H3 B2 d hd e1 e2 y => ?_⟩
    obtain ⟨rfl, hx⟩ := y
    obtain ⟨v, hv, dv⟩ := h2.get hd
    rw [hx] at hv
    cases Option.some.inj hv
    exact ⟨B2, .refl e2, dt_mono e1 _ _ dv⟩
theorem w_tup {tl : TE} (h : EvS K B0 H0 tl δ (.dat (.tuple ds))) : EvW K B0 H0 (iTup K tl) δ ds := fun B H σ S R q => h B H σ S _ fun v B1 H1 s1 i1 => by
  cases i1 with
  | @tup a xs _ h1 h2 =>
    refine ⟨a, rfl, ⟨xs, ex_t s1.bh h1⟩, q _ (fun H => SqT K H a xs) (YAt xs) B1 H1 s1 (by rw [← h2.len]; exact walk_tup) (fun B2 H2 e1 e2 => ex_t (e1.trans e2) h1) fun i H2 x H3 B2 d hd e1 e2 y => ?_⟩
    obtain ⟨rfl, hx⟩ := y
    obtain ⟨v, hv, dv⟩ := h2.get hd
    rw [hx] at hv
    cases Option.some.inj hv
    exact ⟨B2, .refl e2, dt_mono e1 _ _ dv⟩
/-- lo, lo + 1, .. -/
def upto (lo : Int) (n : Nat) : List PyData := (List.range n).map fun i : Nat => PyData.int (lo + (i : Int))
theorem upto_len (lo : Int) (n : Nat) : (upto lo n).length = n := by
  unfold upto
  rw [List.length_map, List.length_range]
theorem upto_get {lo : Int} {n i : Nat} {d : PyData} (h : (upto lo n)[i]? = some d) : i < n ∧ d = .int (lo + (i : Int)) := by
  have hi : i < n := by
    have := (List.getElem?_eq_some_iff.mp h).1
    rwa [upto_len] at this
  unfold upto at h
  rw [List.getElem?_map, List.getElem?_range hi] at h
  exact ⟨hi, (Option.some.inj h).symm⟩
theorem w_rng1 {ta : TA} {n : Int} (h : EvD K B0 H0 ta δ [.int n]) (h1 : n ≤ 100000) (h2 : -100000 ≤ n) : EvW K B0 H0 (iRng1 ta) δ (upto 0 n.toNat) := fun B H σ S R q => h B H σ S _ fun vs B1 H1 s1 i1 => by
  cases i1 with
  | cons g1 g2 =>
    cases g1
    cases g2
    refine ⟨n, rfl, by omega, by omega, q _ _ _ B1 H1 s1 (by rw [upto_len]; exact walk_range) (fun _ _ _ _ => trivial) fun i H2 x H3 B2 d hd e1 e2 y => ?_⟩
    obtain ⟨rfl, rfl⟩ := y
    obtain ⟨_, rfl⟩ := upto_get hd
    exact ⟨B2, .refl e2, .int _⟩
theorem w_rng2 {ta : TA} {lo n : Int} (h : EvD K B0 H0 ta δ [.int lo, .int n]) (h1 : n ≤ 10000000000 ∧ -10000000000 ≤ n ∧ lo ≤ 10000000000 ∧ -10000000000 ≤ lo) : EvW K B0 H0 (iRng2 ta) δ (upto lo (n - lo).toNat) := fun B H σ S R q => h B H σ S _ fun vs B1 H1 s1 i1 => by
  cases i1 with
  | cons g1 g2 =>
    cases g1
    cases g2 with
    | cons g3 g4 =>
      cases g3
      cases g4
      refine ⟨lo, n, rfl, by omega, q _ _ _ B1 H1 s1 (by rw [upto_len]; exact walk_range) (fun _ _ _ _ => trivial) fun i H2 x H3 B2 d hd e1 e2 y => ?_⟩
      obtain ⟨rfl, rfl⟩ := y
      obtain ⟨_, rfl⟩ := upto_get hd
      exact ⟨B2, .refl e2, .int _⟩
/-- 0, 1, .. -/
def nats (n : Nat) : List PyData := (List.range n).map fun i : Nat => PyData.int (i : Int)
theorem upto_nats (n : Nat) : upto 0 n = nats n := by
  unfold upto nats
  exact List.map_congr_left fun i _ => by rw [Int.zero_add]
theorem nats_len (n : Nat) : (nats n).length = n := by
  unfold nats
  rw [List.length_map, List.length_range]
theorem nats_get {n i : Nat} {d : PyData} (h : (nats n)[i]? = some d) : i < n ∧ d = .int (i : Int) := by
  rw [← upto_nats] at h
  have := upto_get h
  rwa [Int.zero_add] at this
theorem w_nat {ta : TA} {n : Nat} (h : EvD K B0 H0 ta δ [.int (n : Int)]) (h1 : n ≤ 100000) : EvW K B0 H0 (iRng1 ta) δ (nats n) := by
  have := w_rng1 h (by omega) (by omega)
  rwa [upto_nats, Int.toNat_natCast] at this
/-- a text, sign by sign -/
def signs (x : Str) : List PyData := x.cps.toList.map fun c => PyData.str ⟨#[c]⟩
theorem w_str {x : Str} (h : EvS K B0 H0 te δ (nS x)) : EvW K B0 H0 (iStr te) δ (signs x) := fun B H σ S R q => h B H σ S _ fun v B1 H1 s1 i1 => by
  cases i1
  refine ⟨x, rfl, q _ _ _ B1 H1 s1 (by unfold signs; rw [List.length_map, Array.length_toList]; exact walk_str) (fun _ _ _ _ => trivial) fun i H2 v H3 B2 d hd e1 e2 y => ?_⟩
  obtain ⟨rfl, c, hc, rfl⟩ := y
  have e : d = .str ⟨#[c]⟩ := by
    unfold signs at hd
    rw [List.getElem?_map, Array.getElem?_toList, hc] at hd
    exact (Option.some.inj hd).symm
  rw [e]
  exact ⟨B2, .refl e2, .str _⟩
/-- pairs of an index and an item -/
def enumD (ds : List PyData) : List PyData := ds.zipIdx.map fun p => .tuple [.int (p.2 : Int), p.1]
theorem w_enum {ta : TA} (h : EvD K B0 H0 ta δ [.list ds]) : EvW K B0 H0 (iEnum K ta) δ (enumD ds) := fun B H σ S R q => h B H σ S _ fun vs B1 H1 s1 i1 => by
  cases i1 with
  | cons g1 g2 =>
    cases g2
    cases g1 with
    | @lst a xs _ h1 h2 =>
      refine ⟨a, xs, rfl, sq_of (s1.bh _ _ h1), q _ _ _ B1 H1 s1 (by unfold enumD; rw [List.length_map, List.length_zipIdx, ← h2.len]; exact walk_enum) (fun B2 H2 e1 e2 => sq_of (e2 _ _ (e1 _ _ h1))) fun i H2 v H3 B2 d hd e1 e2 y => ?_⟩
      obtain ⟨T, u, w, rfl, hT, rfl, hu, hw⟩ := y
      cases Option.some.inj hu
      obtain ⟨f, hf, df⟩ := h2.getV hw
      have e : d = .tuple [.int (i : Int), f] := by
        unfold enumD at hd
        rw [List.getElem?_map, List.getElem?_zipIdx, hf] at hd
        have := Option.some.inj hd
        simpa using this.symm
      rw [e]
      exact ⟨_, .new e2 hT, .tup (st_of upd_same) (.cons (.int _) (.cons (dt_mono (e1.trans (Ex.new (none_of e2 hT))) _ _ df) .nil))⟩
def zipD (ds es : List PyData) : List PyData := (ds.zip es).map fun p => .tuple [p.1, p.2]
theorem w_zip {ta : TA} (h : EvD K B0 H0 ta δ [.list ds, .list es]) : EvW K B0 H0 (RZ.iZipA K ta) δ (zipD ds es) := fun B H σ S R q => h B H σ S _ fun vs B1 H1 s1 i1 => by
  cases i1 with
  | cons g1 g2 =>
    cases g2 with
    | cons g3 g4 =>
      cases g4
      cases g1 with
      | @lst a xs _ h1 h2 =>
        cases g3 with
        | @lst b ys _ k1 k2 =>
          refine ⟨a, b, xs, ys, rfl, .inl ⟨sq_of (s1.bh _ _ h1), sq_of (s1.bh _ _ k1), q _ _ _ B1 H1 s1 (walk_zip (by unfold zipD; rw [List.length_map, List.length_zip, ← h2.len, ← k2.len])) (fun B2 H2 e1 e2 => ⟨sq_of (e2 _ _ (e1 _ _ h1)), sq_of (e2 _ _ (e1 _ _ k1))⟩) fun i H2 v H3 B2 d hd e1 e2 y => ?_⟩⟩
          obtain ⟨T, u, w, rfl, hT, rfl, hu, hw⟩ := y
          obtain ⟨f, hf, df⟩ := h2.getV hu
          obtain ⟨g, hg, dg⟩ := k2.getV hw
          have e : d = .tuple [f, g] := by
            unfold zipD at hd
            rw [List.getElem?_map, show (ds.zip es)[i]? = some (f, g) from List.getElem?_zip_eq_some.mpr ⟨hf, hg⟩] at hd
            exact (Option.some.inj hd).symm
          rw [e]
          have eT : Ex B1 (upd B2 T (.tup [u, w])) := e1.trans (Ex.new (none_of e2 hT))
          exact ⟨_, .new e2 hT, .tup (st_of upd_same) (.cons (dt_mono eT _ _ df) (.cons (dt_mono eT _ _ dg) .nil))⟩
/-- reversed(range(n)) -/
theorem w_rev1 {n : Int} (h : EvS K B0 H0 ta δ (nI n)) (h1 : n ≤ 100000 ∧ -100000 ≤ n) : EvW K B0 H0 (iRevR (tRg1 ta)) δ (upto 0 n.toNat).reverse := fun B H σ S R q => h B H σ S _ fun v B1 H1 s1 i1 => by
  cases i1
  refine ⟨n, rfl, by omega, by omega, by omega, by omega, q _ _ _ B1 H1 s1 (by rw [List.length_reverse, upto_len, Int.sub_zero]; exact walk_rangeC) (fun _ _ _ _ => trivial) fun i H2 x H3 B2 d hd e1 e2 y => ?_⟩
  obtain ⟨rfl, rfl⟩ := y
  have hi : i < n.toNat := by
    have := (List.getElem?_eq_some_iff.mp hd).1
    rwa [List.length_reverse, upto_len] at this
  rw [List.getElem?_reverse (by rw [upto_len]; exact hi), upto_len] at hd
  obtain ⟨_, rfl⟩ := upto_get hd
  show ∃ B3, Stp B2 _ B3 _ ∧ Dt K B3 (V.int (0 + (n.toNat : Int) - 1 + (i : Int) * -1)) _
  rw [show (0 : Int) + (n.toNat : Int) - 1 + (i : Int) * -1 = 0 + ((n.toNat - 1 - i : Nat) : Int) by omega]
  exact ⟨B2, .refl e2, .int _⟩
theorem w_revN {n : Nat} (h : EvS K B0 H0 ta δ (nI (n : Int))) (h1 : n ≤ 100000) : EvW K B0 H0 (iRevR (tRg1 ta)) δ ((List.range n).reverse.map fun i : Nat => PyData.int (i : Int)) := by
  have := w_rev1 h ⟨by omega, by omega⟩
  rw [upto_nats, Int.toNat_natCast] at this
  rwa [List.map_reverse]
/-! ### comprehensions -/
theorem n_lc {A : Type} {wi : TI} {g : TG} {vs ix : List Nat} (xs : List A) (enc : A → PyData) (δt : A → List Sl) (f : A → Bool) (v : A → PyData) (hw : EvW K B0 H0 wi δ (xs.map enc)) (hix : ∀ i ∈ ix, i ∈ vs) (hz : xs.length ≤ 40000)
    (hg : ∀ x ∈ xs, TGd K B0 H0 g ix (wipeD δ vs) (enc x) (δt x)) (ht : ∀ x ∈ xs, EvB K B0 H0 tt (δt x) (f x)) (he : ∀ x ∈ xs, f x = true → EvS K B0 H0 te (δt x) (.dat (v x))) : EvN K B0 H0 (tLc wi g tt te vs) δ ((xs.filter f).map v) := fun B H σ S Q q => by
  refine hw B H σ S _ fun J G Y B1 H1 s1 W hG hY => ?_
  intro D hD
  have hBD : B1 D = none := none_of s1.bh hD
  refine lc_it W (fun i H' => ∃ B' ws, Ex B1 B' ∧ Ex B' H' ∧ Ex H1 H' ∧ (∀ a, B' a ≠ none → B1 a ≠ none ∨ NoL H1 a) ∧ B' D = none ∧ H' D = some (.lst ws) ∧ DtAll K B' ws (((xs.take i).filter f).map v)) ?_ (fun i H' hi ⟨B', ws, e1, e2, e3, hn, e4, e5, e6⟩ => hG B' H' e1 e2) ?_ fun H' ⟨B', ws, e1, e2, e3, hn, e4, e5, e6⟩ => ?_
  · exact ⟨B1, [], .refl _, Ex.mut s1.bh hBD, Ex.new hD, fun a h => .inl h, hBD, upd_same, by rw [List.take_zero]; exact .nil⟩
  · intro i x H2 H3 hi ⟨B2, ws, e1, e2, e3, hn, e4, e5, e6⟩ y
    rw [List.length_map] at hi
    have hx : (xs.map enc)[i]? = some (enc xs[i]) := by rw [List.getElem?_map, List.getElem?_eq_getElem hi]; rfl
    obtain ⟨B3, s3, dx⟩ := hY i H2 x H3 B2 _ hx e1 e2 y
    have hmem : xs[i] ∈ xs := List.getElem_mem hi
    have hDn : H2 D ≠ none := by rw [e5]; exact fun z => by cases z
    have b3 : B3 D = none := by
      cases e : B3 D with
      | none => rfl
      | some o =>
        rcases s3.n D (by rw [e]; exact fun z => by cases z) with z | z
        · exact absurd e4 z
        · exact absurd e5 (z _)
    have st12 : Stp B1 H1 B2 H2 := ⟨e1, e2, e3, hn⟩
    have S3 : Sc K B0 H0 B3 H3 σ δ := (S.go s1).go (st12.trans s3)
    have tk : ∀ {n : Nat}, xs.take (n + 1) = xs.take n ++ (xs[n]?).toList := fun {n} => List.take_succ
    refine hg _ hmem B3 H3 (wipe σ vs) x (S3.wipe vs) dx _ fun σ2 S2 w2 => ⟨?_, ?_⟩
    · rw [w2 vs hix]
      exact wipe_id fun _ h => h
    · refine ht _ hmem B3 H3 σ2 S2 _ fun B4 H4 s4 => ?_
      have b4 : ∀ {B5 H5 : Hp}, Stp B3 H3 B5 H5 → B5 D = none := fun {B5 H5} s5 => by
        cases e : B5 D with
        | none => rfl
        | some o =>
          rcases s5.n D (by rw [e]; exact fun z => by cases z) with z | z
          · exact absurd b3 z
          · exact absurd (s3.h _ _ e5) (z _)
      cases hf : f xs[i] with
      | true =>
        rw [if_pos rfl]
        refine he _ hmem hf B4 H4 σ2 (S2.go s4) _ fun u B5 H5 s5 i5 => ?_
        have s35 := s4.trans s5
        have sAll := (st12.trans s3).trans s35
        have h5 : H5 D = some (.lst ws) := s35.h _ _ (s3.h _ _ e5)
        refine ⟨ws, h5, ?_, B5, ws ++ [u], sAll.b, ?_, Ex.mut sAll.h hD, sAll.n, b4 s35, upd_same, ?_⟩
        · rw [e6.len, List.length_map]
          have h1 := List.length_filter_le f (xs.take i)
          rw [List.length_take] at h1
          exact sz_lt (by omega)
        · exact Ex.mut sAll.bh (b4 s35)
        · rw [tk, List.getElem?_eq_getElem hi, List.filter_append, List.map_append]
          refine (dts_mono (s3.b.trans s35.b) _ _ e6).app ?_
          show DtAll K B5 [u] (([xs[i]].filter f).map v)
          rw [List.filter_cons, hf, if_pos rfl]
          exact .cons i5 .nil
      | false =>
        rw [if_neg (by decide)]
        have sAll := (st12.trans s3).trans s4
        refine ⟨B4, ws, sAll.b, sAll.bh, sAll.h, sAll.n, b4 s4, s4.h _ _ (s3.h _ _ e5), ?_⟩
        rw [tk, List.getElem?_eq_getElem hi, List.filter_append]
        have : [xs[i]].filter f = [] := by rw [List.filter_cons, hf]; rfl
        show DtAll K B4 ws ((List.filter f (List.take i xs) ++ [xs[i]].filter f).map v)
        rw [this, List.append_nil]
        exact dts_mono (s3.b.trans s4.b) _ _ e6
  · have sAll := s1.trans (⟨e1, e2, e3, hn⟩ : Stp B1 H1 B' H')
    refine q D ws B' H' sAll (none_of s1.h hD) e4 e5 ?_
    rw [List.length_map, List.take_length] at e6
    exact e6
/-- every item, without a test -/
theorem n_lc1 {A : Type} {wi : TI} {g : TG} {vs ix : List Nat} (xs : List A) (enc : A → PyData) (δt : A → List Sl) (v : A → PyData) (hw : EvW K B0 H0 wi δ (xs.map enc)) (hix : ∀ i ∈ ix, i ∈ vs) (hz : xs.length ≤ 40000)
    (hg : ∀ x ∈ xs, TGd K B0 H0 g ix (wipeD δ vs) (enc x) (δt x)) (he : ∀ x ∈ xs, EvS K B0 H0 te (δt x) (.dat (v x))) : EvN K B0 H0 (tLc wi g tYes te vs) δ (xs.map v) := by
  have h := n_lc (tt := tYes) xs enc δt (fun _ => true) v hw hix hz hg (fun x _ => b_yes) (fun x hx _ => he x hx)
  have e : xs.filter (fun _ => true) = xs := by simp
  rw [e] at h
  exact h
end
/-! ### statements -/
structure DE where
  nx : List Sl → Prop
  rt : PyData → Prop
  bk : List Sl → Prop := fun _ => False
  ct : List Sl → Prop := fun _ => False
  ex : Addr → List Sl → Prop := fun _ _ => False
  ro : List PyData → Prop := fun _ => False
structure Lift (K : PySem.W.Frag) (B0 H0 B : Hp) (W : WX) (E : DE) (D : Ends) : Prop where
  nx : ∀ B' H' σ' δ', Ex B B' → Sc K B0 H0 B' H' σ' δ' → E.nx δ' → D.nx σ' H'
  rt : ∀ v d B' H', Ex B B' → Stp B0 H0 B' H' → Dt K B' v d → E.rt d → D.rt v H'
  bk : ∀ B' H' σ' δ', Ex B B' → Sc K B0 H0 B' H' σ' δ' → E.bk δ' → D.bk σ' H'
  ct : ∀ B' H' σ' δ', Ex B B' → Sc K B0 H0 B' H' σ' δ' → E.ct δ' → D.ct σ' H'
  ex : ∀ C B' H' σ' δ', Ex B B' → Sc K B0 H0 B' H' σ' δ' → E.ex C δ' → W (.ref C) none σ' H'
  ro : ∀ l vs ds B' H', Ex B B' → Stp B0 H0 B' H' → H0 l = none → B' l = none → H' l = some (.lst vs) → DtAll K B' vs ds → E.ro ds → D.rt (.ref l) H'
theorem Lift.mono {K : PySem.W.Frag} {B0 H0 B B' : Hp} {W : WX} {E : DE} {D : Ends} (e : Ex B B') (h : Lift K B0 H0 B W E D) : Lift K B0 H0 B' W E D :=
  ⟨fun B2 H2 σ δ e2 => h.nx B2 H2 σ δ (e.trans e2), fun v d B2 H2 e2 => h.rt v d B2 H2 (e.trans e2), fun B2 H2 σ δ e2 => h.bk B2 H2 σ δ (e.trans e2), fun B2 H2 σ δ e2 => h.ct B2 H2 σ δ (e.trans e2), fun C B2 H2 σ δ e2 => h.ex C B2 H2 σ δ (e.trans e2), fun l vs ds B2 H2 e2 => h.ro l vs ds B2 H2 (e.trans e2)⟩
def SD (K : PySem.W.Frag) (B0 H0 : Hp) (W : WX) (ts : TS) (δ : List Sl) (E : DE) : Prop := ∀ D B H σ, Sc K B0 H0 B H σ δ → Lift K B0 H0 B W E D → ts D σ H
/-- an expression that gives data of which P is true, or raises one of ex -/
def EvX (K : PySem.W.Frag) (B0 H0 : Hp) (W : WX) (te : TE) (δ : List Sl) (P : PyData → Prop) (ex : Addr → Prop) : Prop := ∀ B H σ, Sc K B0 H0 B H σ δ → (∀ C B' H', Stp B H B' H' → ex C → W (.ref C) none σ H') → ∀ Q : VK, (∀ v d B' H', P d → Stp B H B' H' → Dt K B' v d → Q v H') → te σ H Q
section
variable {K : PySem.W.Frag} {B0 H0 B H B' H' : Hp} {W : WX} {σ : L2.St} {δ δ1 δ2 : List Sl} {ta tb tc td te : TE} {tt : TT} {t u : TS} {E : DE} {s s' : Sl} {d e : PyData} {ds es : List PyData} {i j k : Int} {b c : Bool}
theorem sd_next (h : E.nx δ) : SD K B0 H0 W tNext δ E := fun D B H σ S L => L.nx B H σ δ (.refl _) S h
theorem sd_break (h : E.bk δ) : SD K B0 H0 W tBreak δ E := fun D B H σ S L => L.bk B H σ δ (.refl _) S h
theorem sd_cont (h : E.ct δ) : SD K B0 H0 W tCont δ E := fun D B H σ S L => L.ct B H σ δ (.refl _) S h
theorem sd_seq (h : SD K B0 H0 W t δ { E with nx := fun δ' => SD K B0 H0 W u δ' E }) : SD K B0 H0 W (tSeq t u) δ E := fun D B H σ S L =>
  h { D with nx := u D } B H σ S ⟨fun B' H' σ' δ' e S' h' => h' D B' H' σ' S' (L.mono e), L.rt, L.bk, L.ct, L.ex, L.ro⟩
theorem sd_cut {M : List Sl → Prop} (h : SD K B0 H0 W t δ { E with nx := M }) (k : ∀ δ', M δ' → SD K B0 H0 W u δ' E) : SD K B0 H0 W (tCut t u) δ E := fun D B H σ S L =>
  ⟨fun σ' H' => ∃ B' δ', Ex B B' ∧ Sc K B0 H0 B' H' σ' δ' ∧ M δ', h _ B H σ S ⟨fun B' H' σ' δ' e S' m => ⟨B', δ', e, S', m⟩, L.rt, L.bk, L.ct, L.ex, L.ro⟩, fun σ' H' ⟨B', δ', e, S', m⟩ => k δ' m D B' H' σ' S' (L.mono e)⟩
theorem sd_asg {n : Nat} (h : EvS K B0 H0 te δ s) (k : E.nx (δ.set n s)) : SD K B0 H0 W (tAsg te (gName n)) δ E := fun D B H σ S L => h B H σ S _ fun v B1 H1 s1 i1 => L.nx B1 H1 _ _ s1.b ((S.go s1).set n i1) k
theorem sd_asgR {n : Nat} {P : PyData → Prop} (h : EvR K B0 H0 te δ P) (k : ∀ d, P d → E.nx (δ.set n (.dat d))) : SD K B0 H0 W (tAsg te (gName n)) δ E := fun D B H σ S L => h B H σ S _ fun v d B1 H1 p s1 i1 => L.nx B1 H1 _ _ s1.b ((S.go s1).set (s := .dat d) n i1) (k d p)
theorem sd_asgO {n : Nat} (h : EvN K B0 H0 te δ ds) (k : E.nx (δ.set n (.own ds))) : SD K B0 H0 W (tAsg te (gName n)) δ E := fun D B H σ S L => h B H σ S _ fun l vs B1 H1 s1 f1 f2 f3 f4 => by
  refine L.nx B1 H1 _ _ s1.b ((S.go s1).setO n f3 f2 (none_of S.st.h f1) f4 fun j es _ hj hl => ?_) k
  obtain ⟨m, ws, g1, g2, _⟩ := S.own j es hj
  rw [hl] at g1
  cases Option.some.inj (Option.some.inj g1)
  rw [f1] at g2
  cases g2
theorem sd_unp {g : TG} {ix : List Nat} (h : EvS K B0 H0 te δ (.dat d)) (hg : TGd K B0 H0 g ix δ d δ1) (k : E.nx δ1) : SD K B0 H0 W (tAsg te g) δ E := fun D B H σ S L => h B H σ S _ fun v B1 H1 s1 i1 => hg B1 H1 σ v (S.go s1) i1 _ fun σ' S' _ => L.nx B1 H1 σ' _ s1.b S' k
theorem sd_ret (h : EvS K B0 H0 te δ (.dat d)) (k : E.rt d) : SD K B0 H0 W (tRet te) δ E := fun D B H σ S L => h B H σ S _ fun v B1 H1 s1 i1 => L.rt v d B1 H1 s1.b (S.st.trans s1) i1 k
theorem sd_retR {P : PyData → Prop} (h : EvR K B0 H0 te δ P) (k : ∀ d, P d → E.rt d) : SD K B0 H0 W (tRet te) δ E := fun D B H σ S L => h B H σ S _ fun v d B1 H1 p s1 i1 => L.rt v d B1 H1 s1.b (S.st.trans s1) i1 (k d p)
theorem sd_retN (k : E.rt .none) : SD K B0 H0 W tRetN δ E := fun D B H σ S L => L.rt .non .none B H (.refl _) S.st .non k
/-- a list of its own is given back -/
theorem sd_retO {n : Nat} (hn : δ[n]? = some (Sl.own ds)) (k : E.ro ds) : SD K B0 H0 W (tRet (tVar n)) δ E := fun D B H σ S L => by
  obtain ⟨l, vs, h1, h2, h3, h4, h5⟩ := S.own n ds hn
  exact ⟨.ref l, h1, L.ro l vs ds B H (.refl _) S.st h4 h3 h2 h5 k⟩
theorem sd_retE (h : EvN K B0 H0 te δ ds) (k : E.ro ds) : SD K B0 H0 W (tRet te) δ E := fun D B H σ S L => h B H σ S _ fun l vs B1 H1 s1 f1 f2 f3 f4 => L.ro l vs ds B1 H1 s1.b (S.st.trans s1) (none_of S.st.h f1) f2 f3 f4 k
/-- a new list of which P is true -/
def EvNR (K : PySem.W.Frag) (B0 H0 : Hp) (te : TE) (δ : List Sl) (P : List PyData → Prop) : Prop := ∀ B H σ, Sc K B0 H0 B H σ δ → ∀ Q : VK, (∀ l vs ds B' H', P ds → Stp B H B' H' → H l = none → B' l = none → H' l = some (.lst vs) → DtAll K B' vs ds → Q (.ref l) H') → te σ H Q
theorem n_of (h : EvNR K B0 H0 te δ fun es => es = ds) : EvN K B0 H0 te δ ds := fun B H σ S Q q => h B H σ S Q fun l vs es B' H' p => by
  subst p
  exact q l vs B' H'
theorem nr_of {P : List PyData → Prop} (h : EvN K B0 H0 te δ ds) (p : P ds) : EvNR K B0 H0 te δ P := fun B H σ S Q q => h B H σ S Q fun l vs B' H' => q l vs ds B' H' p
theorem sd_asgN {n : Nat} {P : List PyData → Prop} (h : EvNR K B0 H0 te δ P) (k : ∀ ds, P ds → E.nx (δ.set n (.own ds))) : SD K B0 H0 W (tAsg te (gName n)) δ E := fun D B H σ S L => h B H σ S _ fun l vs ds B1 H1 p s1 f1 f2 f3 f4 => by
  refine L.nx B1 H1 _ _ s1.b ((S.go s1).setO n f3 f2 (none_of S.st.h f1) f4 fun j es _ hj hl => ?_) (k ds p)
  obtain ⟨m, ws, g1, g2, _⟩ := S.own j es hj
  rw [hl] at g1
  cases Option.some.inj (Option.some.inj g1)
  rw [f1] at g2
  cases g2
theorem q_asgN {n : Nat} {P : List PyData → Prop} (h : EvNR K B0 H0 te δ P) (k : ∀ ds, P ds → SD K B0 H0 W u (δ.set n (.own ds)) E) : SD K B0 H0 W (tSeq (tAsg te (gName n)) u) δ E := sd_seq (sd_asgN h k)
theorem sd_drop (h : EvS K B0 H0 te δ s) (k : E.nx δ) : SD K B0 H0 W (tDrop te) δ E := fun D B H σ S L => h B H σ S _ fun v B1 H1 s1 i1 => L.nx B1 H1 σ δ s1.b (S.go s1) k
theorem sd_if (h : EvB K B0 H0 tt δ b) (h1 : b = true → SD K B0 H0 W t δ E) (h2 : b = false → SD K B0 H0 W u δ E) : SD K B0 H0 W (tIfS tt t u) δ E := fun D B H σ S L => h B H σ S _ fun B1 H1 s1 => by
  cases b with
  | true => exact h1 rfl D B1 H1 σ (S.go s1) (L.mono s1.b)
  | false => exact h2 rfl D B1 H1 σ (S.go s1) (L.mono s1.b)
theorem sd_freeze {n : Nat} (hn : δ[n]? = some (Sl.own ds)) (h : SD K B0 H0 W t (δ.set n (.dat (.list ds))) E) : SD K B0 H0 W t δ E := fun D B H σ S L => by
  obtain ⟨B', e, S'⟩ := S.freeze hn
  exact h D B' H σ S' (L.mono e)
theorem sd_env (e : δ = δ1) (h : SD K B0 H0 W t δ1 E) : SD K B0 H0 W t δ E := e ▸ h
theorem sd_forget (n : Nat) (h : SD K B0 H0 W t (δ.set n Sl.no) E) : SD K B0 H0 W t δ E := fun D B H σ S L => h D B H σ (by
  by_cases hn : n < σ.length
  · have := S.put n (σ[n])
    rw [List.set_getElem_self hn] at this
    exact this
  · have e : δ.set n Sl.no = δ := List.set_eq_of_length_le (by rw [← S.len]; omega)
    rw [e]
    exact S) L
/-- xs.append(e), xs of its own -/
theorem sd_app {n : Nat} (hn : δ[n]? = some (Sl.own ds)) (h : EvS K B0 H0 te δ (.dat d)) (hz : ds.length < 100000) (k : E.nx (δ.set n (.own (ds ++ [d])))) : SD K B0 H0 W (tDrop (tBM K "list" rAppend (tVar n) (tCons te tNil))) δ E := fun D B H σ S L => by
  obtain ⟨l, vs, h1, h2, h3, h4, h5⟩ := S.own n ds hn
  refine ⟨.ref l, h1, .inl ⟨rfl, _, sq_of h2⟩, h B H σ S _ fun v B1 H1 s1 i1 => ?_⟩
  obtain ⟨l', ws, g1, g2, g3, g4, g5⟩ := (S.go s1).own n ds hn
  rw [h1] at g1
  cases Option.some.inj (Option.some.inj g1)
  exact ⟨l, ws, v, rfl, rfl, g2, by rw [g5.len]; exact sz_lt hz, L.nx B1 _ σ _ s1.b ((S.go s1).mut hn h1 (g5.app (.cons i1 .nil))) k⟩
/-- xs[j] = e, xs of its own -/
theorem sd_put {n j : Nat} (hn : δ[n]? = some (Sl.own ds)) (h : EvS K B0 H0 te δ (.dat d)) (hj : EvS K B0 H0 tb δ (nI (j : Int))) (hl : j < ds.length) (k : E.nx (δ.set n (.own (ds.set j d)))) : SD K B0 H0 W (tAsg te (gSub (tVar n) tb rSetL)) δ E := fun D B H σ S L =>
  h B H σ S _ fun v B1 H1 s1 i1 => by
    have S1 := S.go s1
    obtain ⟨l, vs, h1, h2, h3, h4, h5⟩ := S1.own n ds hn
    refine ⟨.ref l, h1, hj B1 H1 σ S1 _ fun w B2 H2 s2 i2 => ?_⟩
    cases i2
    obtain ⟨l', ws, g1, g2, g3, g4, g5⟩ := (S1.go s2).own n ds hn
    rw [h1] at g1
    cases Option.some.inj (Option.some.inj g1)
    exact ⟨l, ws, (j : Int), j, rfl, rfl, g2, ixN_nat (by rw [g5.len]; exact hl), L.nx B2 _ σ _ (s1.b.trans s2.b) ((S1.go s2).mut hn h1 (g5.set j (dt_mono s2.b _ _ i1))) k⟩
/-! loops -/
theorem sd_for {wi : TI} {g : TG} {tb : TS} (hw : EvW K B0 H0 wi δ ds) (P : Nat → List Sl → Prop) (h0 : P 0 δ)
    (hs : ∀ (i : Nat) (d : PyData) (δ' : List Sl), ds[i]? = some d → P i δ' → ∃ ix δ2, TGd K B0 H0 g ix δ' d δ2 ∧ SD K B0 H0 W tb δ2 { E with nx := P (i + 1), ct := P (i + 1), bk := E.nx }) (hd : ∀ δ', P ds.length δ' → E.nx δ') : SD K B0 H0 W (tFor wi g tb) δ E := fun D B H σ S L =>
  hw B H σ S _ fun J G Y B1 H1 s1 Wk hG hY => for_it Wk (fun i σ' H' => ∃ B' δ', Ex B1 B' ∧ Sc K B0 H0 B' H' σ' δ' ∧ P i δ') ⟨B1, δ, .refl _, S.go s1, h0⟩ (fun i σ' H' hi ⟨B', δ', e, S', _⟩ => hG B' H' e S'.st.bh) (fun i x σ' H2 H3 hi ⟨B', δ', e, S', p⟩ y => by
    obtain ⟨B3, s3, dx⟩ := hY i H2 x H3 B' _ (List.getElem?_eq_getElem hi) e S'.st.bh y
    obtain ⟨ix, δ2, hg, hb⟩ := hs i _ δ' (List.getElem?_eq_getElem hi) p
    refine hg B3 H3 σ' x (S'.go s3) dx _ fun σ2 S2 _ => ?_
    have L3 := L.mono ((s1.b.trans e).trans s3.b)
    exact hb _ B3 H3 σ2 S2 ⟨fun B4 H4 σ4 δ4 e4 S4 p4 => ⟨B4, δ4, (e.trans s3.b).trans e4, S4, p4⟩, L3.rt, L3.nx, fun B4 H4 σ4 δ4 e4 S4 p4 => ⟨B4, δ4, (e.trans s3.b).trans e4, S4, p4⟩, L3.ex, L3.ro⟩) fun σ' H' ⟨B', δ', e, S', p⟩ => L.nx B' H' σ' δ' (s1.b.trans e) S' (hd δ' p)
theorem sd_while {tb : TS} (P : Nat → List Sl → Prop) (m0 : Nat) (h0 : P m0 δ)
    (hs : ∀ (m : Nat) (δ' : List Sl), P m δ' → ∃ b, EvB K B0 H0 tt δ' b ∧ (b = true → SD K B0 H0 W tb δ' { E with nx := fun δ2 => ∃ m', m' < m ∧ P m' δ2, ct := fun δ2 => ∃ m', m' < m ∧ P m' δ2, bk := E.nx }) ∧ (b = false → E.nx δ')) : SD K B0 H0 W (tWhile tt tb) δ E := fun D B H σ S L =>
  ⟨fun m σ' H' => ∃ B' δ', Ex B B' ∧ Sc K B0 H0 B' H' σ' δ' ∧ P m δ', ⟨m0, B, δ, .refl _, S, h0⟩, fun m σ' H' ⟨B', δ', e, S', p⟩ => by
    obtain ⟨b, hb, h1, h2⟩ := hs m δ' p
    refine hb B' H' σ' S' _ fun B2 H2 s2 => ?_
    have L2 := L.mono (e.trans s2.b)
    cases b with
    | true =>
      rw [if_pos rfl]
      refine ⟨fun σ3 H3 => ∃ m', m' < m ∧ ∃ B3 δ3, Ex B B3 ∧ Sc K B0 H0 B3 H3 σ3 δ3 ∧ P m' δ3, fun σ3 H3 ⟨m', hm, q⟩ => ⟨m', hm, q⟩, h1 rfl _ B2 H2 σ' (S'.go s2) ⟨fun B4 H4 σ4 δ4 e4 S4 ⟨m', hm, p4⟩ => ⟨m', hm, B4, δ4, (e.trans s2.b).trans e4, S4, p4⟩, L2.rt, L2.nx, fun B4 H4 σ4 δ4 e4 S4 ⟨m', hm, p4⟩ => ⟨m', hm, B4, δ4, (e.trans s2.b).trans e4, S4, p4⟩, L2.ex, L2.ro⟩⟩
    | false =>
      rw [if_neg (by decide)]
      exact L2.nx B2 H2 σ' δ' (.refl _) (S'.go s2) (h2 rfl)⟩
/-! raising -/
theorem sd_raise {C : Addr} (h : E.ex C δ) : SD K B0 H0 W (fun _ σ H => W (.ref C) none σ H) δ E := fun D B H σ S L => L.ex C B H σ δ (.refl _) S h
theorem x_of {P : PyData → Prop} {ex : Addr → Prop} (h : EvR K B0 H0 te δ P) : EvX K B0 H0 W te δ P ex := fun B H σ S _ Q q => h B H σ S Q q
theorem x_call {A : Type} {enc : A → List Sl} {pre : A → Prop} {bad : A → Option Addr} {post : A → PyData → Prop} {R : XK} {tr : TA} (a : A) (h : EvA K B0 H0 tr δ (enc a)) (hp : pre a) : EvX K B0 H0 (fun cls d _ H => R cls d H) (tCall (SpX K enc pre bad post) [] R tr) δ (fun d => bad a = none ∧ post a d) (fun C => bad a = some C) := fun B H σ S hx Q q =>
  h B H σ S _ fun vs B1 H1 s1 i1 => ⟨B1, a, s1.bh, by rw [List.append_nil]; exact i1, hp, fun C hC H' e => hx C B1 H' (s1.trans (.same s1.bh e)) hC, fun hb v d B2 H2 p st dv => q v d B2 H2 ⟨hb, p⟩ (s1.trans st) dv⟩
theorem x_callS {A : Type} {enc : A → List Sl} {pre : A → Prop} {bad : A → Option Addr} {post : A → PyData → Prop} {tr : TA} (a : A) (h : EvA K B0 H0 tr δ (enc a)) (hp : pre a) : EvX K B0 H0 W (tCallS (SpX K enc pre bad post) (WE W) tr) δ (fun d => bad a = none ∧ post a d) (fun C => bad a = some C) := fun B H σ S hx Q q =>
  h B H σ S _ fun vs B1 H1 s1 i1 => ⟨B1, a, s1.bh, i1, hp, fun C hC H' e => hx C B1 H' (s1.trans (.same s1.bh e)) hC, fun hb v d B2 H2 p st dv => q v d B2 H2 ⟨hb, p⟩ (s1.trans st) dv⟩
theorem sd_asgX {n : Nat} {P : PyData → Prop} {ex : Addr → Prop} (h : EvX K B0 H0 W te δ P ex) (hx : ∀ C, ex C → E.ex C δ) (k : ∀ d, P d → E.nx (δ.set n (.dat d))) : SD K B0 H0 W (tAsg te (gName n)) δ E := fun D B H σ S L =>
  h B H σ S (fun C B' H' st hC => L.ex C B' H' σ δ st.b (S.go st) (hx C hC)) _ fun v d B1 H1 p s1 i1 => L.nx B1 H1 _ _ s1.b ((S.go s1).set (s := .dat d) n i1) (k d p)
theorem sd_retX {P : PyData → Prop} {ex : Addr → Prop} (h : EvX K B0 H0 W te δ P ex) (hx : ∀ C, ex C → E.ex C δ) (k : ∀ d, P d → E.rt d) : SD K B0 H0 W (tRet te) δ E := fun D B H σ S L =>
  h B H σ S (fun C B' H' st hC => L.ex C B' H' σ δ st.b (S.go st) (hx C hC)) _ fun v d B1 H1 p s1 i1 => L.rt v d B1 H1 s1.b (S.st.trans s1) i1 (k d p)
/-- try: .. except X as e: a suite -/
def tTry (K : PySem.W.Frag) (c : Value) (n : Nat) (tb : WX → TS) (ts : Addr → Value → Option Addr → TS) (W : WX) : TS := fun D σ H => tb (wAs K c n ts W D) D σ H
theorem ps_tryD {X : Cx} {x nm : Str} {c : Value} {i : Nat} {body suite : List Stmt} {b₀ : Stmt} {np pos pos' : Pos} {tb : WX → TS} {ts : Addr → Value → Option Addr → TS} {Wout : WX} (hs : X.stack = X.env :: X.outer) (hf : X.env.frame = some X.env.locals) (hN : X.N.Nodup) (hi : X.N[i]? = some nm) (hln : X.env.kindOf nm = some .local) (hc : Names X x c) (tk : Takes X Wout)
    (hb : ∀ (W : WX) (pn : List (Addr × Obj)) (xe : Value → Shared → Prop), Takes (X.tr pn xe) W → PassesOwn (model X.prog X.w) X.A X.env xe → PSs (X.tr pn xe) body (tb W))
    (hsu : ∀ (a : Addr) (oe : Obj) (cls : Value) (d : Option Addr) (pn : List (Addr × Obj)), Zc cls d oe → (∃ vs, oe.data = .fields vs) → PSs (X.suite a ((a, oe) :: pn)) (b₀ :: suite) (ts a cls d)) :
    PS X (.Try body [.ExceptHandler (some (.Name x np)) (some nm) (b₀ :: suite) pos'] [] [] pos) (tTry X.K c i tb ts Wout) := ps_try_as hs hf hN hi hln hc tk hb hsu
theorem sd_try {n : Nat} {c : Value} {tb : WX → TS} {ts : Addr → Value → Option Addr → TS} (xs : Addr → List Sl → Prop) (h : ∀ W', SD K B0 H0 W' (tb W') δ { E with ex := xs })
    (hx : ∀ C δ', xs C δ' → PySem.W.exmOne K (.ref C) c = some true ∧ ∀ a, SD K B0 H0 W (ts a (.ref C) none) (δ'.set n (.raw (.ref a))) { E with nx := fun δ2 => E.nx (δ2.set n Sl.no), bk := fun δ2 => E.bk (δ2.set n Sl.no), ct := fun δ2 => E.ct (δ2.set n Sl.no) }) :
    SD K B0 H0 W (tTry K c n tb ts W) δ E := fun D B H σ S L =>
  h _ D B H σ S ⟨L.nx, L.rt, L.bk, L.ct, fun C B' H' σ' δ' e S' hC => by
    obtain ⟨h1, h2⟩ := hx C δ' hC
    refine ⟨true, h1, fun _ a ha => ?_, fun z => by cases z⟩
    have L' := L.mono e
    exact h2 a _ B' H' _ (S'.set (s := .raw (.ref a)) n rfl) ⟨fun B2 H2 σ2 δ2 e2 S2 p => L'.nx B2 H2 _ _ e2 (S2.put n none) p, L'.rt, fun B2 H2 σ2 δ2 e2 S2 p => L'.bk B2 H2 _ _ e2 (S2.put n none) p, fun B2 H2 σ2 δ2 e2 S2 p => L'.ct B2 H2 _ _ e2 (S2.put n none) p, L'.ex, L'.ro⟩, L.ro⟩
/-! ### a statement, then the rest -/
theorem q_asg {n : Nat} (δ1 : List Sl) (h : EvS K B0 H0 te δ s) (k : SD K B0 H0 W u δ1 E) (he : δ.set n s = δ1 := by rfl) : SD K B0 H0 W (tSeq (tAsg te (gName n)) u) δ E := sd_seq (sd_asg h (by subst he; exact k))
theorem q_asgO {n : Nat} (δ1 : List Sl) (h : EvN K B0 H0 te δ ds) (k : SD K B0 H0 W u δ1 E) (he : δ.set n (.own ds) = δ1 := by rfl) : SD K B0 H0 W (tSeq (tAsg te (gName n)) u) δ E := sd_seq (sd_asgO h (by subst he; exact k))
theorem q_asgR {n : Nat} {P : PyData → Prop} (h : EvR K B0 H0 te δ P) (k : ∀ d, P d → SD K B0 H0 W u (δ.set n (.dat d)) E) : SD K B0 H0 W (tSeq (tAsg te (gName n)) u) δ E := sd_seq (sd_asgR h k)
theorem q_asgX {n : Nat} {P : PyData → Prop} {ex : Addr → Prop} (h : EvX K B0 H0 W te δ P ex) (hx : ∀ C, ex C → E.ex C δ) (k : ∀ d, P d → SD K B0 H0 W u (δ.set n (.dat d)) E) : SD K B0 H0 W (tSeq (tAsg te (gName n)) u) δ E := sd_seq (sd_asgX h hx k)
theorem q_unp {g : TG} {ix : List Nat} (δ1 : List Sl) (h : EvS K B0 H0 te δ (.dat d)) (hg : TGd K B0 H0 g ix δ d δ1) (k : SD K B0 H0 W u δ1 E) : SD K B0 H0 W (tSeq (tAsg te g) u) δ E := sd_seq (sd_unp h hg k)
/-- an if that leaves, or goes on -/
theorem q_when (h : EvB K B0 H0 tt δ b) (h1 : b = true → SD K B0 H0 W t δ { E with nx := fun δ' => SD K B0 H0 W u δ' E }) (h2 : b = false → SD K B0 H0 W u δ E) : SD K B0 H0 W (tSeq (tIfS tt t tNext) u) δ E := sd_seq (sd_if h h1 fun hb => sd_next (h2 hb))
theorem q_if {t' : TS} (h : EvB K B0 H0 tt δ b) (h1 : b = true → SD K B0 H0 W t δ { E with nx := fun δ' => SD K B0 H0 W u δ' E }) (h2 : b = false → SD K B0 H0 W t' δ { E with nx := fun δ' => SD K B0 H0 W u δ' E }) : SD K B0 H0 W (tSeq (tIfS tt t t') u) δ E := sd_seq (sd_if h h1 h2)
theorem sd_when (h : EvB K B0 H0 tt δ b) (h1 : b = true → SD K B0 H0 W t δ E) (h2 : b = false → E.nx δ) : SD K B0 H0 W (tIfS tt t tNext) δ E := sd_if h h1 fun hb => sd_next (h2 hb)
theorem q_drop (h : EvS K B0 H0 te δ s) (k : SD K B0 H0 W u δ E) : SD K B0 H0 W (tSeq (tDrop te) u) δ E := sd_seq (sd_drop h k)
theorem q_app {n : Nat} (δ1 : List Sl) (hn : δ[n]? = some (Sl.own ds)) (h : EvS K B0 H0 te δ (.dat d)) (hz : ds.length < 100000) (k : SD K B0 H0 W u δ1 E) (he : δ.set n (.own (ds ++ [d])) = δ1 := by rfl) : SD K B0 H0 W (tSeq (tDrop (tBM K "list" rAppend (tVar n) (tCons te tNil))) u) δ E := sd_seq (sd_app hn h hz (by subst he; exact k))
theorem q_put {n j : Nat} (δ1 : List Sl) (hn : δ[n]? = some (Sl.own ds)) (h : EvS K B0 H0 te δ (.dat d)) (hj : EvS K B0 H0 tb δ (nI (j : Int))) (hl : j < ds.length) (k : SD K B0 H0 W u δ1 E) (he : δ.set n (.own (ds.set j d)) = δ1 := by rfl) : SD K B0 H0 W (tSeq (tAsg te (gSub (tVar n) tb rSetL)) u) δ E := sd_seq (sd_put hn h hj hl (by subst he; exact k))
theorem q_for {wi : TI} {g : TG} {tb : TS} (hw : EvW K B0 H0 wi δ ds) (P : Nat → List Sl → Prop) (h0 : P 0 δ)
    (hs : ∀ (i : Nat) (d : PyData) (δ' : List Sl), ds[i]? = some d → P i δ' → ∃ ix δ2, TGd K B0 H0 g ix δ' d δ2 ∧ SD K B0 H0 W tb δ2 { E with nx := P (i + 1), ct := P (i + 1), bk := fun δ' => SD K B0 H0 W u δ' E }) (hd : ∀ δ', P ds.length δ' → SD K B0 H0 W u δ' E) : SD K B0 H0 W (tSeq (tFor wi g tb) u) δ E := sd_seq (sd_for hw P h0 hs hd)
theorem q_while {tb : TS} (P : Nat → List Sl → Prop) (m0 : Nat) (h0 : P m0 δ)
    (hs : ∀ (m : Nat) (δ' : List Sl), P m δ' → ∃ b, EvB K B0 H0 tt δ' b ∧ (b = true → SD K B0 H0 W tb δ' { E with nx := fun δ2 => ∃ m', m' < m ∧ P m' δ2, ct := fun δ2 => ∃ m', m' < m ∧ P m' δ2, bk := fun δ' => SD K B0 H0 W u δ' E }) ∧ (b = false → SD K B0 H0 W u δ' E)) : SD K B0 H0 W (tSeq (tWhile tt tb) u) δ E := sd_seq (sd_while P m0 h0 hs)
/-! ### a def's body -/
/-- from the promise to the body by data -/
theorem run_body {A : Type} {enc : A → List Sl} {pre : A → Prop} {post : A → PyData → Prop} {N : List Str} {vs : List V} {Q : VK} {R : XK} {ts : TS} (h : SpA K enc pre post vs H Q R)
    (hb : ∀ a B, pre a → SD K B H (fun _ _ _ _ => False) ts (enc a ++ List.replicate (N.length - (enc a).length) Sl.no) { nx := fun _ => post a .none, rt := post a }) : ts { nx := fun _ H' => Q .non H', rt := Q } (L2.start N vs) H := by
  obtain ⟨B, a, e, iv, hp, q⟩ := h
  have S := sc_start (N.length - vs.length) e iv
  have hl := iv.len
  have hb' := hb a B hp
  rw [← hl] at hb'
  exact hb' _ B H _ S ⟨fun B' H' σ' δ' _ S' hp => q .non .none B' H' hp S'.st .non, fun v d B' H' _ st dv hp => q v d B' H' hp st dv, fun _ _ _ _ _ _ z => z.elim, fun _ _ _ _ _ _ z => z.elim, fun _ _ _ _ _ _ _ z => z.elim, fun _ _ _ _ _ _ _ _ _ _ _ z => z.elim⟩
/-- a def that gives a new list -/
def SpN (K : PySem.W.Frag) {A : Type} (enc : A → List Sl) (pre : A → Prop) (post : A → List PyData → Prop) : Sp := fun vs H Q _ => ∃ B a, Ex B H ∧ IsAll K B vs (enc a) ∧ pre a ∧ ∀ l ws ds B' H', post a ds → Stp B H B' H' → H l = none → B' l = none → H' l = some (.lst ws) → DtAll K B' ws ds → Q (.ref l) H'
theorem nr_call {A : Type} {enc : A → List Sl} {pre : A → Prop} {post : A → List PyData → Prop} {R : XK} {tr : TA} (a : A) (h : EvA K B0 H0 tr δ (enc a)) (hp : pre a) : EvNR K B0 H0 (tCall (SpN K enc pre post) [] R tr) δ (post a) := fun B H σ S Q q =>
  h B H σ S _ fun vs B1 H1 s1 i1 => ⟨B1, a, s1.bh, by rw [List.append_nil]; exact i1, hp, fun l ws ds B2 H2 p st f1 f2 f3 f4 => q l ws ds B2 H2 p (s1.trans st) (none_of s1.h f1) f2 f3 f4⟩
theorem n_call {A : Type} {enc : A → List Sl} {pre : A → Prop} {f : A → List PyData} {R : XK} {tr : TA} (a : A) (h : EvA K B0 H0 tr δ (enc a)) (hp : pre a) : EvN K B0 H0 (tCall (SpN K enc pre fun a ds => ds = f a) [] R tr) δ (f a) := n_of (nr_call a h hp)
theorem run_bodyN {A : Type} {enc : A → List Sl} {pre : A → Prop} {post : A → List PyData → Prop} {N : List Str} {vs : List V} {Q : VK} {R : XK} {ts : TS} (h : SpN K enc pre post vs H Q R)
    (hb : ∀ a B, pre a → SD K B H (fun _ _ _ _ => False) ts (enc a ++ List.replicate (N.length - (enc a).length) Sl.no) { nx := fun _ => False, rt := fun _ => False, ro := post a }) : ts { nx := fun _ H' => Q .non H', rt := Q } (L2.start N vs) H := by
  obtain ⟨B, a, e, iv, hp, q⟩ := h
  have S := sc_start (N.length - vs.length) e iv
  have hl := iv.len
  have hb' := hb a B hp
  rw [← hl] at hb'
  exact hb' _ B H _ S ⟨fun B' H' σ' δ' _ S' hp => hp.elim, fun v d B' H' _ st dv hp => hp.elim, fun _ _ _ _ _ _ z => z.elim, fun _ _ _ _ _ _ z => z.elim, fun _ _ _ _ _ _ _ z => z.elim, fun l vs ds B' H' _ st f1 f2 f3 f4 p => q l vs ds B' H' p st f1 f2 f3 f4⟩
/-- .. of a def that may raise -/
theorem run_bodyX {A : Type} {enc : A → List Sl} {pre : A → Prop} {bad : A → Option Addr} {post : A → PyData → Prop} {N : List Str} {vs : List V} {Q : VK} {R : XK} {ts : TS} (h : SpX K enc pre bad post vs H Q R)
    (hb : ∀ a B, pre a → SD K B H (fun cls d _ H => R cls d H) ts (enc a ++ List.replicate (N.length - (enc a).length) Sl.no) { nx := fun _ => bad a = none ∧ post a .none, rt := fun d => bad a = none ∧ post a d, ex := fun C _ => bad a = some C }) : ts { nx := fun _ H' => Q .non H', rt := Q } (L2.start N vs) H := by
  obtain ⟨B, a, e, iv, hp, qx, q⟩ := h
  have S := sc_start (N.length - vs.length) e iv
  have hl := iv.len
  have hb' := hb a B hp
  rw [← hl] at hb'
  exact hb' _ B H _ S ⟨fun B' H' σ' δ' _ S' hp => q hp.1 .non .none B' H' hp.2 S'.st .non, fun v d B' H' _ st dv hp => q hp.1 v d B' H' hp.2 st dv, fun _ _ _ _ _ _ z => z.elim, fun _ _ _ _ _ _ z => z.elim, fun C B' H' σ' δ' _ S' hC => qx C hC H' S'.st.h, fun _ _ _ _ _ _ _ _ _ _ _ z => z.elim⟩
/-- the law's body: the script at an address -/
theorem run_law {N : List Str} {ns : List Int} {sa : Addr} {Q : VK} {ts : TS} (hS : SqL K H sa (ns.map V.int)) (q : ∀ H', Q (.bl true) H') (hn : N.length = n + 1)
    (hb : ∀ B, SD K B H (fun _ _ _ _ => False) ts (.sem (scrP K ns) :: List.replicate n Sl.no) { nx := fun _ => False, rt := fun d => d = .bool true }) : ts { nx := fun _ H' => Q .non H', rt := Q } (L2.start N [.ref sa]) H := by
  have iv : IsAll K H [V.ref sa] [Sl.sem (scrP K ns)] := .cons ⟨sa, rfl, hS⟩ .nil
  have S := sc_start n (.refl H) iv
  have e : L2.start N [.ref sa] = [V.ref sa].map some ++ List.replicate n none := by
    unfold L2.start
    rw [hn]
    rfl
  rw [e]
  exact hb H _ H H _ S ⟨fun B' H' σ' δ' _ S' hp => hp.elim, fun v d B' H' _ st dv hp => by
    subst hp
    cases dv
    exact q H', fun _ _ _ _ _ _ z => z.elim, fun _ _ _ _ _ _ z => z.elim, fun _ _ _ _ _ _ _ z => z.elim, fun _ _ _ _ _ _ _ _ _ _ _ z => z.elim⟩
end
end Ja

/-! Own data layer: texts, bits, comparisons of ints' tuples. -/
namespace Ja
open PySem PySem.Spec PyProof.Rows L2 Evl Cm Dg Tx
open SX (S S_cat S_len num_S)
open TL (numL numL_lt)
def Sm (n : Nat) : Prop := n < 10 ^ 300
theorem sm_le {n m : Nat} (h : Sm n) (hm : m ≤ n) : Sm m := Nat.lt_of_le_of_lt hm h
theorem sm_of {n k : Nat} (h : n ≤ k) (hk : k < 10 ^ 300) : Sm n := Nat.lt_of_le_of_lt h hk
theorem lg {n k : Nat} (h : n < 2 ^ k) (hk : 0 < k) : n.log2 < k := by
  by_cases h0 : n = 0
  · subst h0
    exact hk
  · exact (Nat.log2_lt h0).mpr h
theorem sm_lg {n : Nat} (h : Sm n) : n.log2 < 1920 := lg (Nat.lt_of_lt_of_le h (by decide +kernel)) (by decide)
theorem sm_len {n : Nat} (h : Sm n) : (numL n).length ≤ 300 := num_len 299 n h
section
variable {K : PySem.W.Frag} {B0 H0 : Hp} {σ : L2.St} {δ : List Sl} {ta tb te to : TE} {a b : List Nat} {i j : Int} {H : Hp}
/-! ### bits -/
theorem rv_and1 : RV (fun x y H Q => ∃ (i : Int) (k : Nat), x = .int i ∧ y = .int (2 ^ k - 1) ∧ Q (.int (i % 2 ^ k)) H) (.int i) (.int 1) H (.int (i % 2)) := fun H1 _ _ q => ⟨i, 1, rfl, rfl, q H1 (Ex.refl H1)⟩
theorem d_and1 (ha : EvS K B0 H0 ta δ (nI i)) (hb : EvS K B0 H0 tb δ (nI 1)) : EvS K B0 H0 (tOp (fun x y H Q => ∃ (i : Int) (k : Nat), x = .int i ∧ y = .int (2 ^ k - 1) ∧ Q (.int (i % 2 ^ k)) H) ta tb) δ (nI (i % 2)) := d_ii ha hb fun _ => rv_and1
theorem d_shr {k : Nat} (ha : EvS K B0 H0 ta δ (nI i)) (hb : EvS K B0 H0 tb δ (nI (k : Int))) : EvS K B0 H0 (tOp (fun x y H Q => ∃ (i : Int) (k : Nat), x = .int i ∧ y = .int (k : Int) ∧ Q (.int (i / 2 ^ k)) H) ta tb) δ (nI (i / 2 ^ k)) := d_ii ha hb fun _ => rv_shr
theorem d_shl {k : Nat} (ha : EvS K B0 H0 ta δ (nI i)) (hb : EvS K B0 H0 tb δ (nI (k : Int))) (h : CShl i (k : Int)) : EvS K B0 H0 (tOp (fun x y H Q => ∃ (i : Int) (k : Nat), x = .int i ∧ y = .int (k : Int) ∧ CShl i (k : Int) ∧ Q (.int (i * 2 ^ k)) H) ta tb) δ (nI (i * 2 ^ k)) := d_ii ha hb fun _ => rv_shl h
theorem d_one {k : Nat} (ha : EvS K B0 H0 ta δ (nI 1)) (hb : EvS K B0 H0 tb δ (nI (k : Int))) (h : k ≤ 100000) : EvS K B0 H0 (tOp (fun x y H Q => ∃ k : Nat, x = .int 1 ∧ y = .int (k : Int) ∧ k ≤ 134217727 ∧ Q (.int (2 ^ k)) H) ta tb) δ (nI (2 ^ k)) := d_ii ha hb fun _ H1 _ Q q => ⟨k, rfl, rfl, by omega, q H1 (Ex.refl H1)⟩
theorem d_fdivA (ha : EvS K B0 H0 ta δ (nI i)) (hb : EvS K B0 H0 tb δ (nI j)) (h : 0 < j) (h2 : j.natAbs.log2 < 9000) : EvS K B0 H0 (tOp (rI Mi.CDivA fun i j => .int (i.fdiv j)) ta tb) δ (nI (i / j)) := d_isI (d_iC ha hb ⟨by omega, h2⟩) (Int.fdiv_eq_ediv_of_nonneg i (Int.le_of_lt h))
/-! ### texts -/
theorem d_cat (ha : EvS K B0 H0 ta δ (nS (S a))) (hb : EvS K B0 H0 tb δ (nS (S b))) (h : a.length + b.length ≤ 100000) : EvS K B0 H0 (tOp (fun x y H Q => ∃ i j, x = .str i ∧ y = .str j ∧ i.length + j.length ≤ sizeLine ∧ Q (.str (i ++ j)) H) ta tb) δ (nS (S (a ++ b))) := d_sss ha hb fun _ H1 _ Q q => ⟨S a, S b, rfl, rfl, by
  rw [S_len, S_len]
  exact sz_of h, by
  rw [S_cat]
  exact q H1 (Ex.refl H1)⟩
theorem d_strN {n : Nat} (h : EvS K B0 H0 te δ (nI (n : Int))) (hs : Sm n) : EvS K B0 H0 (tCB (fun xs H Q => ∃ i, xs = [.int i] ∧ i.natAbs.log2 < 1920 ∧ Q (.str (toString i)) H) (tCons te tNil)) δ (nS (S (numL n))) := d_cb1 h (.int _) (fun _ H1 _ Q q => ⟨(n : Int), rfl, sm_lg hs, by
  have e := num_S n
  show Q (.str (Str.ofString (toString (n : Int)))) H1
  rw [e]
  exact q H1 (Ex.refl H1)⟩) (.str _)
theorem d_join {ys : List (List Nat)} (ho : EvS K B0 H0 to δ (nS (S a))) (h : EvS K B0 H0 te δ (.dat (.list (ys.map fun y => PyData.str (S y))))) (hz : (ys.map (·.length)).sum + ys.length * a.length ≤ 100000) : EvS K B0 H0 (tM1 (fun x xs H Q => ∃ a p, ∃ ys : List Str, x = .str a ∧ xs = [.ref p] ∧ (SqL K H p (ys.map V.str) ∨ SqT K H p (ys.map V.str)) ∧
    (ys.map (·.length)).sum + ys.length * a.length ≤ 16777216 ∧ Q (.str (Txt.join a ys)) H) to te) δ (nS (S (TL.joinL a ys))) := fun B H σ Z Q q => ho B H σ Z _ fun v B1 H1 s1 i1 => by
  cases i1
  refine ⟨⟨_, rfl⟩, h B1 H1 σ (Z.go s1) _ fun w B2 H2 s2 i2 => ?_⟩
  cases i2 with
  | lst g1 g2 =>
    have e : ys.map (fun y => PyData.str (S y)) = (ys.map S).map PyData.str := by rw [List.map_map]; rfl
    rw [e] at g2
    rw [dt_strs_inv _ g2] at g1
    refine ⟨S a, _, ys.map S, rfl, rfl, .inl (sq_of (s2.bh _ _ g1)), ?_, ?_⟩
    · rw [SX.lens, List.length_map, S_len]
      omega
    · rw [SX.join_S]
      exact q _ B2 H2 (s1.trans s2) (Dt.str _)
theorem d_ixStr {c : Nat} (ha : EvS K B0 H0 ta δ (nS (S a))) (hb : EvS K B0 H0 tb δ (nI i)) (hz : a.length ≤ 100000) (h : atI a i = some c) : EvS K B0 H0 (tOp rIxS ta tb) δ (nS (S [c])) := d_sis ha hb fun _ H1 _ Q q => ⟨S a, i, c, rfl, rfl, by rw [S_len]; exact sz_of hz, by simpa using h, q H1 (Ex.refl H1)⟩
theorem signs_S (a : List Nat) : signs (S a) = a.map fun c => PyData.str (S [c]) := by
  unfold signs
  simp
theorem d_notInS {c : Nat} (ha : EvS K B0 H0 ta δ (nS (S [c]))) (hb : EvS K B0 H0 tb δ (nS (S a))) : EvS K B0 H0 (tOp (fun x y H Q => ∃ (c : Nat) (z : Str), x = .str ⟨#[c]⟩ ∧ y = .str z ∧ Q (.bl (!decide (c ∈ z.cps.toList))) H) ta tb) δ (nB (!decide (c ∈ a))) := d_ssb ha hb fun _ H1 _ Q q => ⟨c, S a, rfl, rfl, by simpa using q H1 (Ex.refl H1)⟩
theorem d_intS {n : Int} (h : EvS K B0 H0 te δ (nS (S a))) (hn : PySem.intText? (S a) = some n) (hz : a.length ≤ 640) : EvS K B0 H0 (tCB (fun xs H Q => ∃ a n, xs = [.str a] ∧ PySem.intText? a = some n ∧ a.length ≤ 640 ∧ Q (.int n) H) (tCons te tNil)) δ (nI n) := d_cb1 h (.str _) (fun _ H1 _ Q q => ⟨S a, n, rfl, hn, by rw [S_len]; exact hz, q H1 (Ex.refl H1)⟩) (.int _)
theorem d_lenSS {ta : TE} (h : EvS K B0 H0 ta δ (nS (S a))) (hl : a.length ≤ 100000) : EvS K B0 H0 (tCB (fun xs H Q => ∃ x n, xs = [x] ∧ LenV K x H n ∧ Q (.int n) H) (tCons ta tNil)) δ (nI a.length) := by
  have := d_lenS (K := K) (B0 := B0) (H0 := H0) h (by rw [S_len]; exact hl)
  rwa [S_len] at this
theorem d_eqSS (ha : EvS K B0 H0 ta δ (nS (S a))) (hb : EvS K B0 H0 tb δ (nS (S b))) : EvS K B0 H0 (tOp rEq ta tb) δ (nB (decide (a = b))) := d_isB (d_eqS ha hb) (decide_eq_decide.mpr ⟨SX.S_inj, fun z => by rw [z]⟩)
theorem d_neSS (ha : EvS K B0 H0 ta δ (nS (S a))) (hb : EvS K B0 H0 tb δ (nS (S b))) : EvS K B0 H0 (tOp rNe ta tb) δ (nB (!decide (a = b))) := d_isB (d_neS ha hb) (congrArg _ (decide_eq_decide.mpr ⟨SX.S_inj, fun z => by rw [z]⟩))
end
/-! ### data without dicts, not deep: shaped -/
theorem lay_ints : ∀ (is : List Int), PyData.canLayAll0 (is.map PyData.int) = true
  | [] => rfl
  | i :: r => by
    show (PyData.canLay0 (.int i) && PyData.canLayAll0 (r.map PyData.int)) = true
    rw [lay_ints r]
    rfl
theorem dep_ints : ∀ (is : List Int), PyData.depthAll (is.map PyData.int) = 0
  | [] => rfl
  | i :: r => by
    show max 0 (PyData.depthAll (r.map PyData.int)) = 0
    rw [dep_ints r]
    rfl
/-- laid, and at most n deep -/
def Shp (n : Nat) (d : PyData) : Prop := PyData.canLay0 d = true ∧ PyData.depth d ≤ n
def ShpAll (n : Nat) (ds : List PyData) : Prop := PyData.canLayAll0 ds = true ∧ PyData.depthAll ds ≤ n
theorem Shp.ok {n : Nat} {d : PyData} (h : Shp n d) (hn : n ≤ 64 := by decide) : SeqAt.shaped d = true := by
  unfold SeqAt.shaped
  rw [h.1, Bool.true_and]
  exact decide_eq_true (Nat.le_trans h.2 hn)
theorem shp_int {n : Nat} (i : Int) : Shp n (.int i) := ⟨rfl, Nat.zero_le _⟩
theorem shp_str {n : Nat} (i : Str) (h : PyData.canLay0 (.str i) = true := by decide) : Shp n (.str i) := ⟨h, Nat.zero_le _⟩
theorem shp_bool {n : Nat} (b : Bool) : Shp n (.bool b) := ⟨rfl, Nat.zero_le _⟩
theorem shp_none {n : Nat} : Shp n .none := ⟨rfl, Nat.zero_le _⟩
theorem shp_nil {n : Nat} : ShpAll n [] := ⟨rfl, Nat.zero_le _⟩
theorem shp_cons {n : Nat} {d : PyData} {ds : List PyData} (h : Shp n d) (g : ShpAll n ds) : ShpAll n (d :: ds) := ⟨by
  show (PyData.canLay0 d && PyData.canLayAll0 ds) = true
  rw [h.1, g.1]
  rfl, by
  show max (PyData.depth d) (PyData.depthAll ds) ≤ n
  have := h.2
  have := g.2
  omega⟩
theorem shp_tup {n : Nat} {ds : List PyData} (h : ShpAll n ds) : Shp (n + 1) (.tuple ds) := ⟨h.1, Nat.succ_le_succ h.2⟩
theorem shp_lst {n : Nat} {ds : List PyData} (h : ShpAll n ds) : Shp (n + 1) (.list ds) := ⟨h.1, Nat.succ_le_succ h.2⟩
theorem shp_map {A : Type} {n : Nat} {f : A → PyData} (h : ∀ x, Shp n (f x)) : ∀ xs : List A, ShpAll n (xs.map f)
  | [] => shp_nil
  | x :: r => shp_cons (h x) (shp_map h r)
theorem eqv_self {d : PyData} (h : SeqAt.shaped d = true) : PyData.eqv d d = true := eqvS h
/-- a function to data by which equal data come from equal things -/
structure Enc {A : Type} [DecidableEq A] (f : A → PyData) : Prop where
  eq : ∀ x y, PyData.eqv (f x) (f y) = decide (x = y)
  sh : ∃ n, n ≤ 30 ∧ ∀ x, Shp n (f x)
theorem eqv_map {A : Type} [DecidableEq A] {f : A → PyData} (h : ∀ x y, PyData.eqv (f x) (f y) = decide (x = y)) : ∀ l m : List A, PyData.eqvAll (l.map f) (m.map f) = decide (l = m)
  | [], [] => rfl
  | [], _ :: _ => rfl
  | _ :: _, [] => rfl
  | a :: l, b :: m => by
    have e : PyData.eqvAll ((a :: l).map f) ((b :: m).map f) = (PyData.eqv (f a) (f b) && PyData.eqvAll (l.map f) (m.map f)) := by simp only [List.map_cons, PyData.eqvAll]
    rw [e, h, eqv_map h l m]
    by_cases h1 : a = b
    · by_cases h2 : l = m
      · simp [h1, h2]
      · simp [h1, h2]
    · simp [h1]
theorem any_map {A : Type} [DecidableEq A] {f : A → PyData} (h : ∀ x y, PyData.eqv (f x) (f y) = decide (x = y)) (x : A) : ∀ l : List A, ((l.map f).any fun z => PyData.eqv z (f x)) = decide (x ∈ l)
  | [] => rfl
  | a :: l => by
    rw [List.map_cons, List.any_cons, any_map h x l, h]
    by_cases h1 : a = x
    · simp [h1]
    · have h2 : ¬ x = a := fun z => h1 z.symm
      simp [h1, h2]
section
variable {K : PySem.W.Frag} {B0 H0 : Hp} {δ : List Sl} {ta tb : TE} {A : Type} [DecidableEq A] {f : A → PyData} {x y : A} {l m : List A}
theorem Enc.shx (h : Enc f) (x : A) : SeqAt.shaped (f x) = true := by
  obtain ⟨n, h1, h2⟩ := h.sh
  exact (h2 x).ok (by omega)
theorem Enc.shl (h : Enc f) (l : List A) : SeqAt.shaped (.list (l.map f)) = true := by
  obtain ⟨n, h1, h2⟩ := h.sh
  exact (shp_lst (shp_map h2 l)).ok (by omega)
theorem d_eqE (h : Enc f) (ha : EvS K B0 H0 ta δ (.dat (f x))) (hb : EvS K B0 H0 tb δ (.dat (f y))) : EvS K B0 H0 (tOp (rEqD K) ta tb) δ (nB (decide (x = y))) := d_isB (d_eqD ha hb (h.shx x) (h.shx y)) (h.eq x y)
theorem d_neE (h : Enc f) (ha : EvS K B0 H0 ta δ (.dat (f x))) (hb : EvS K B0 H0 tb δ (.dat (f y))) : EvS K B0 H0 (tOp (rNeD K) ta tb) δ (nB (!decide (x = y))) := d_isB (d_neD ha hb (h.shx x) (h.shx y)) (by rw [h.eq x y])
theorem d_eqEL (h : Enc f) (ha : EvS K B0 H0 ta δ (.dat (.list (l.map f)))) (hb : EvS K B0 H0 tb δ (.dat (.list (m.map f)))) : EvS K B0 H0 (tOp (rEqD K) ta tb) δ (nB (decide (l = m))) := d_isB (d_eqD ha hb (h.shl l) (h.shl m)) (by
  have e : PyData.eqv (.list (l.map f)) (.list (m.map f)) = PyData.eqvAll (l.map f) (m.map f) := by simp only [PyData.eqv]
  rw [e, eqv_map h.eq])
theorem d_neEL (h : Enc f) (ha : EvS K B0 H0 ta δ (.dat (.list (l.map f)))) (hb : EvS K B0 H0 tb δ (.dat (.list (m.map f)))) : EvS K B0 H0 (tOp (rNeD K) ta tb) δ (nB (!decide (l = m))) := d_isB (d_neD ha hb (h.shl l) (h.shl m)) (by
  have e : PyData.eqv (.list (l.map f)) (.list (m.map f)) = PyData.eqvAll (l.map f) (m.map f) := by simp only [PyData.eqv]
  rw [e, eqv_map h.eq])
theorem d_inE (h : Enc f) (ha : EvS K B0 H0 ta δ (.dat (f x))) (hb : EvS K B0 H0 tb δ (.dat (.list (l.map f)))) : EvS K B0 H0 (tOp (rInD K) ta tb) δ (nB (decide (x ∈ l))) := d_isB (d_inD ha hb (h.shx x) (h.shl l)) (any_map h.eq x l)
theorem d_niE (h : Enc f) (ha : EvS K B0 H0 ta δ (.dat (f x))) (hb : EvS K B0 H0 tb δ (.dat (.list (l.map f)))) : EvS K B0 H0 (tOp (rNotInD K) ta tb) δ (nB (!decide (x ∈ l))) := d_isB (d_niD ha hb (h.shx x) (h.shl l)) (by rw [any_map h.eq x l])
/-- the same data on both sides -/
theorem d_neSame {d : PyData} (ha : EvS K B0 H0 ta δ (.dat d)) (hb : EvS K B0 H0 tb δ (.dat d)) (h : SeqAt.shaped d = true) : EvS K B0 H0 (tOp (rNeD K) ta tb) δ (nB false) := d_isB (d_neD ha hb h h) (by rw [eqv_self h]; rfl)
theorem d_eqSame {d : PyData} (ha : EvS K B0 H0 ta δ (.dat d)) (hb : EvS K B0 H0 tb δ (.dat d)) (h : SeqAt.shaped d = true) : EvS K B0 H0 (tOp (rEqD K) ta tb) δ (nB true) := d_isB (d_eqD ha hb h h) (eqv_self h)
end
theorem enc_ints : Enc (fun l : List Int => PyData.tuple (l.map PyData.int)) := by
  refine ⟨fun x y => ?_, ⟨1, by decide, fun x => ⟨lay_ints x, by
    show PyData.depthAll (x.map PyData.int) + 1 ≤ 1
    rw [dep_ints]
    omega⟩⟩⟩
  have e : PyData.eqv (.tuple (x.map PyData.int)) (.tuple (y.map PyData.int)) = PyData.eqvAll (x.map PyData.int) (y.map PyData.int) := by simp only [PyData.eqv]
  rw [e, eqv_map fun a b => ?_]
  show (a == b) = _
  rfl
end Ja

/-! Own data layer: comprehensions of two clauses. -/
namespace Ja
open PySem PySem.Spec PyProof.Rows L2 Evl Cm
def noOwn : List Sl → Bool
  | [] => true
  | .own _ :: _ => false
  | _ :: r => noOwn r
theorem noOwn_at : ∀ {δ : List Sl}, noOwn δ = true → ∀ {n : Nat} {ds : List PyData}, δ[n]? ≠ some (Sl.own ds)
  | [], _, n, ds, e => by simp at e
  | .no :: r, h, 0, ds, e => by cases e
  | .raw _ :: r, h, 0, ds, e => by cases e
  | .dat _ :: r, h, 0, ds, e => by cases e
  | .sem _ :: r, h, 0, ds, e => by cases e
  | .own _ :: r, h, _, ds, e => by cases h
  | .no :: r, h, n + 1, ds, e => noOwn_at (δ := r) h (n := n) e
  | .raw _ :: r, h, n + 1, ds, e => noOwn_at (δ := r) h (n := n) e
  | .dat _ :: r, h, n + 1, ds, e => noOwn_at (δ := r) h (n := n) e
  | .sem _ :: r, h, n + 1, ds, e => noOwn_at (δ := r) h (n := n) e
/-- a list at D that grows, over the base B1 and the heap H1 -/
def Grow (K : PySem.W.Frag) (B1 H1 : Hp) (D : Addr) (H : Hp) (ds : List PyData) : Prop := ∃ B' ws, Ex B1 B' ∧ Ex B' H ∧ Ex H1 H ∧ (∀ a, B' a ≠ none → B1 a ≠ none ∨ NoL H1 a) ∧ B' D = none ∧ H D = some (.lst ws) ∧ DtAll K B' ws ds
section
variable {K : PySem.W.Frag} {B0 H0 B H B' H' B1 H1 : Hp} {σ : L2.St} {δ δ1 δ2 : List Sl} {ta tb tc td te : TE} {tt : TT} {d e : PyData} {ds es : List PyData} {D : Addr}
theorem Grow.start (hb : Ex B1 H1) (hD : H1 D = none) : Grow K B1 H1 D (upd H1 D (.lst [])) [] :=
  ⟨B1, [], .refl _, Ex.mut hb (none_of hb hD), Ex.new hD, fun a h => .inl h, none_of hb hD, upd_same, .nil⟩
theorem n_lc2 {A A1 : Type} {wi wi1 : TI} {g g1 : TG} {vs vs1 ix ix1 : List Nat} (xs : List A) (enc : A → PyData) (δt : A → List Sl) (ys : A → List A1) (enc1 : A → A1 → PyData) (δu : A → A1 → List Sl) (v : A → A1 → PyData) (hw : EvW K B0 H0 wi δ (xs.map enc)) (hix : ∀ i ∈ ix, i ∈ vs) (hix1 : ∀ i ∈ ix1, i ∈ vs1) (hz : (xs.flatMap fun x => (ys x).map (v x)).length ≤ 40000) (hno : ∀ x ∈ xs, noOwn (δt x) = true)
    (hg : ∀ x ∈ xs, TGd K B0 H0 g ix (wipeD δ vs) (enc x) (δt x)) (hw1 : ∀ x ∈ xs, EvW K B0 H0 wi1 (δt x) ((ys x).map (enc1 x))) (hg1 : ∀ x ∈ xs, ∀ y ∈ ys x, TGd K B0 H0 g1 ix1 (wipeD (δt x) vs1) (enc1 x y) (δu x y)) (he : ∀ x ∈ xs, ∀ y ∈ ys x, EvS K B0 H0 te (δu x y) (.dat (v x y))) :
    EvN K B0 H0 (tLc2 wi g tYes wi1 g1 tYes te vs vs1) δ (xs.flatMap fun x => (ys x).map (v x)) := fun B H σ S Q q => by
  refine hw B H σ S _ fun J G Y B1 H1 s1 W hG hY => ?_
  intro D hD
  have hBD : B1 D = none := none_of s1.bh hD
  have S1 : Sc K B0 H0 B1 H1 σ δ := S.go s1
  let P : Nat → Hp → Prop := fun i H' => Grow K B1 H1 D H' ((xs.take i).flatMap fun x => (ys x).map (v x))
  have hlen : (xs.map enc).length = xs.length := List.length_map ..
  have p0 : P 0 (upd H1 D (.lst [])) := by
    show Grow K B1 H1 D (upd H1 D (.lst [])) ((xs.take 0).flatMap fun x => (ys x).map (v x))
    rw [List.take_zero]
    exact Grow.start s1.bh hD
  refine ⟨fun i m H' => m = xs.length - i ∧ i ≤ xs.length ∧ P i H', ⟨xs.length, by simp, Nat.zero_le _, p0⟩, ?_⟩
  rintro i m H2 ⟨rfl, hi, B2, ws, e1, e2, e3, hn, e4, e5, e6⟩
  have gH := hG B2 H2 e1 e2
  by_cases hlt : i < xs.length
  · refine .inr ⟨W.goes i H2 (by rw [hlen]; exact hlt) gH, P (i + 1), fun H' p' => ⟨xs.length - (i + 1), by omega, rfl, hlt, p'⟩, fun x H3 yl => ?_⟩
    have y := W.yields i H2 x H3 (by rw [hlen]; exact hlt) gH yl
    have hx : (xs.map enc)[i]? = some (enc xs[i]) := by rw [List.getElem?_map, List.getElem?_eq_getElem hlt]; rfl
    obtain ⟨B3, s3, dx⟩ := hY i H2 x H3 B2 _ hx e1 e2 y
    have hmem : xs[i] ∈ xs := List.getElem_mem hlt
    have hDn : H2 D ≠ none := by rw [e5]; exact fun z => by cases z
    have keepD : ∀ {B5 H5 : Hp}, Stp B2 H2 B5 H5 → B5 D = none := fun {B5 H5} s5 => by
      cases e : B5 D with
      | none => rfl
      | some o =>
        rcases s5.n D (by rw [e]; exact fun z => by cases z) with z | z
        · exact absurd e4 z
        · exact absurd e5 (z _)
    have st12 : Stp B1 H1 B2 H2 := ⟨e1, e2, e3, hn⟩
    have S3 : Sc K B0 H0 B3 H3 σ δ := (S1.go st12).go s3
    refine hg _ hmem B3 H3 (wipe σ vs) x (S3.wipe vs) dx _ fun σ2 S2 w2 => ⟨?_, ?_⟩
    · rw [w2 vs hix]
      exact wipe_id fun _ h => h
    · simp only [tYes, if_true]
      refine hw1 _ hmem B3 H3 σ2 S2 _ fun J1 G1 Y1 B4 H4 s4 W1 hG1 hY1 => ?_
      have s24 := s3.trans s4
      have hlen1 : ((ys xs[i]).map (enc1 xs[i])).length = (ys xs[i]).length := List.length_map ..
      let pre := (xs.take i).flatMap fun x => (ys x).map (v x)
      -- the inner loop: over the base B4 all the while
      let P1 : Nat → Hp → Prop := fun j H' => ∃ B' ws, Ex B4 B' ∧ Ex B' H' ∧ Ex H1 H' ∧ (∀ a, B' a ≠ none → B1 a ≠ none ∨ NoL H1 a) ∧ B' D = none ∧ H' D = some (.lst ws) ∧ DtAll K B' ws (pre ++ ((ys xs[i]).take j).map (v xs[i]))
      have tk : xs.take (i + 1) = xs.take i ++ [xs[i]] := by rw [List.take_succ, List.getElem?_eq_getElem hlt]; rfl
      refine ⟨fun j k H' => k = (ys xs[i]).length - j ∧ j ≤ (ys xs[i]).length ∧ P1 j H', ⟨_, rfl, Nat.zero_le _, ?_⟩, ?_⟩
      · refine ⟨B4, ws, .refl _, s24.bh, e3.trans s24.h, (st12.trans s24).n, keepD s24, s24.h _ _ e5, ?_⟩
        rw [List.take_zero, List.map_nil, List.append_nil]
        exact dts_mono s24.b _ _ e6
      · rintro j k H5 ⟨rfl, hj, B5, us, f1, f2, f3, fn, f4, f5, f6⟩
        have gH1 := hG1 B5 H5 f1 f2
        by_cases hjl : j < (ys xs[i]).length
        · refine .inr ⟨W1.goes j H5 (by rw [hlen1]; exact hjl) gH1, P1 (j + 1), fun H' p' => ⟨(ys xs[i]).length - (j + 1), by omega, rfl, hjl, p'⟩, fun z H6 zl => ?_⟩
          have yz := W1.yields j H5 z H6 (by rw [hlen1]; exact hjl) gH1 zl
          have hz1 : ((ys xs[i]).map (enc1 xs[i]))[j]? = some (enc1 xs[i] (ys xs[i])[j]) := by rw [List.getElem?_map, List.getElem?_eq_getElem hjl]; rfl
          obtain ⟨B6, s6, dz⟩ := hY1 j H5 z H6 B5 _ hz1 f1 f2 yz
          have hm1 : (ys xs[i])[j] ∈ ys xs[i] := List.getElem_mem hjl
          have hDn5 : H5 D ≠ none := by rw [f5]; exact fun z => by cases z
          have keep5 : ∀ {B7 H7 : Hp}, Stp B5 H5 B7 H7 → B7 D = none := fun {B7 H7} s7 => by
            cases e : B7 D with
            | none => rfl
            | some o =>
              rcases s7.n D (by rw [e]; exact fun z => by cases z) with z | z
              · exact absurd f4 z
              · exact absurd f5 (z _)
          have st15 : Stp B1 H1 B5 H5 := ⟨(st12.trans s24).b.trans f1, f2, f3, fn⟩
          -- the slots within: σ2 over δt
          have S5 : Sc K B0 H0 B5 H5 σ2 (δt xs[i]) := by
            have S4 := S2.go s4
            refine ⟨S1.st.trans st15, S4.len, fun n t ht hv => ?_, fun n ds hd => ?_, S4.dis⟩
            · obtain ⟨w, q1, q2⟩ := S4.val n t ht hv
              exact ⟨w, q1, q2.mono f1⟩
            · exact absurd hd (noOwn_at (hno _ hmem))
          have S6 := S5.go s6
          refine hg1 _ hmem _ hm1 B6 H6 (wipe σ2 vs1) z (S6.wipe vs1) dz _ fun σ3 T3 w3 => ⟨?_, ?_⟩
          · rw [w3 vs1 hix1]
            exact wipe_id fun _ h => h
          · refine he _ hmem _ hm1 B6 H6 σ3 T3 _ fun u B7 H7 s7 i7 => ?_
            have s57 := s6.trans s7
            have sAll := st15.trans s57
            refine ⟨us, s57.h _ _ f5, ?_, B7, us ++ [u], f1.trans s57.b, Ex.mut s57.bh (keep5 s57), Ex.mut sAll.h hD, sAll.n, keep5 s57, upd_same, ?_⟩
            · rw [f6.len]
              have h1 : (pre ++ ((ys xs[i]).take j).map (v xs[i])).length ≤ (xs.flatMap fun x => (ys x).map (v x)).length := by
                have e : xs = xs.take i ++ xs[i] :: xs.drop (i + 1) := by rw [← List.drop_eq_getElem_cons hlt, List.take_append_drop]
                have hp : pre.length = ((xs.take i).flatMap fun x => (ys x).map (v x)).length := rfl
                conv => rhs; rw [e]
                rw [List.flatMap_append, List.flatMap_cons, List.length_append, List.length_append, List.length_append, List.length_map, List.length_map, List.length_take]
                omega
              exact sz_lt (by omega)
            · have tk1 : (ys xs[i]).take (j + 1) = (ys xs[i]).take j ++ [(ys xs[i])[j]] := by rw [List.take_succ, List.getElem?_eq_getElem hjl]; rfl
              rw [tk1, List.map_append, ← List.append_assoc]
              exact (dts_mono s57.b _ _ f6).app (.cons i7 .nil)
        · have e : j = (ys xs[i]).length := by omega
          subst e
          refine .inl ⟨by have := W1.stops H5 gH1; rwa [hlen1] at this, ?_⟩
          refine ⟨B5, us, (st12.trans s24).b.trans f1, f2, f3, fn, f4, f5, ?_⟩
          rw [List.take_length] at f6
          rw [tk, List.flatMap_append]
          show DtAll K B5 us (pre ++ ((ys xs[i]).map (v xs[i]) ++ []))
          rw [List.append_nil]
          exact f6
  · have e : i = xs.length := by omega
    subst e
    refine .inl ⟨by have := W.stops H2 gH; rwa [hlen] at this, ?_⟩
    rw [List.take_length] at e6
    exact q D ws B2 H2 (s1.trans ⟨e1, e2, e3, hn⟩) (none_of s1.h hD) e4 e5 e6
end
end Ja

/-! Own data layer: list(zip(xs, ys)) of two lists. -/
namespace Ja
open PySem PySem.Spec PyProof.Rows L2 Evl Cm
theorem zl_nolen : typeLookup (.type "zip") "__len__" = pure none := by rw [typeLookup_type, builtinLookup_eq_fast]; kernel_rfl
theorem zl_nohint : typeLookup (.type "zip") "__length_hint__" = pure none := by rw [typeLookup_type, builtinLookup_eq_fast]; kernel_rfl
/-- the zip at its turn i, whether its tuple was given out or not -/
def ZSt (z TI TO i1 i2 l1 l2 : Addr) (us ws : Array Value) (S : Addr) (i : Nat) (h : Heap) : Prop :=
  IsPair h TI (.ref i1) (.ref i2) ∧ h.IsListIter i1 l1 i ∧ h.IsListIter i2 l2 i ∧ h.IsList l1 us ∧ h.IsList l2 ws ∧
    ((IsZip h z TI TO .none ∧ ∃ a b, IsPair h TO a b) ∨ ∃ T f oT, IsZipHeld h z TI TO T f ∧ h.get? T = some oT ∧ T ≠ z ∧ T ≠ i1 ∧ T ≠ i2 ∧ T ≠ S)
section
variable {z TI TO i1 i2 l1 l2 S : Addr} {us ws : Array Value} {i : Nat} {h h' : Heap}
theorem ZSt.at (st : ZSt z TI TO i1 i2 l1 l2 us ws S i h) (hS : S ∉ [z, TI, TO, i1, i2, l1, l2]) (k : ∀ b o, b ≠ S → h.get? b = some o → h'.get? b = some o) : ZSt z TI TO i1 i2 l1 l2 us ws S i h' := by
  simp only [List.mem_cons, List.not_mem_nil, or_false, not_or] at hS
  obtain ⟨dz, dTI, dTO, di1, di2, dl1, dl2⟩ := hS
  obtain ⟨hTI, h1, h2, hl1, hl2, hz⟩ := st
  refine ⟨k _ _ (Ne.symm dTI) hTI, h1.at fun o e => k _ o (Ne.symm di1) e, h2.at fun o e => k _ o (Ne.symm di2) e, hl1.at fun o e => k _ o (Ne.symm dl1) e, hl2.at fun o e => k _ o (Ne.symm dl2) e, ?_⟩
  rcases hz with ⟨hz, a, b, hTO⟩ | ⟨T, f, oT, hz, hT, r1, r2, r3, r4⟩
  · exact .inl ⟨k _ _ (Ne.symm dz) hz, a, b, k _ _ (Ne.symm dTO) hTO⟩
  · exact .inr ⟨T, f, oT, k _ _ (Ne.symm dz) hz, k _ _ r4 hT, r1, r2, r3, r4⟩
theorem ZSt.ty {s : Shared} (st : ZSt z TI TO i1 i2 l1 l2 us ws S i s.heap) : s.TypeIs (.ref z) "zip" := by
  obtain ⟨_, _, _, _, _, hz⟩ := st
  rcases hz with ⟨hz, _⟩ | ⟨T, f, oT, hz, _⟩
  · exact ⟨_, hz, rfl⟩
  · exact ⟨_, hz, rfl⟩
theorem ZSt.self {prog : Program} {w : World} {A : Around} {s : Shared} {Q : Value → Shared → Prop} {E : Value → Shared → Prop} (st : ZSt z TI TO i1 i2 l1 l2 us ws S i s.heap) (h : Q (.ref z) s) : wpAny (model prog w) A (pyIter (.ref z)) Q E s := by
  have hT := st.ty
  obtain ⟨_, _, _, _, _, hz⟩ := st
  refine wpAny_pyIter_slot hT F.slot_zip_iter (wpAny_call_entry F.slot_zip_iter hT F.entry_zip_iter ?_ (F.args_zip_iter_1 _))
  show wpAny _ _ (ret (.ref z)) _ _ s
  exact wpAny_pure ⟨_, rfl, "zip", _, hT, F.slot_zip_next.lookup, h⟩
/-- the next pair -/
theorem ZSt.item {prog : Program} {w : World} {A : Around} {s : Shared} {x y : Value} {Q : Option Value → Shared → Prop} {E : Value → Shared → Prop} (D : ZipApart z TI TO i1 i2 l1 l2) (st : ZSt z TI TO i1 i2 l1 l2 us ws S i s.heap) (hS : S < s.heap.objs.size) (hx : us[i]? = some x) (hy : ws[i]? = some y)
    (q : ∀ h', ZSt z TI TO i1 i2 l1 l2 us ws S (i + 1) h' → IsPair h' s.heap.objs.size x y → h'.objs.size = s.heap.objs.size + 1 → (∀ b o, b ∉ [z, TI, TO, i1, i2] → s.heap.get? b = some o → h'.get? b = some o) → Q (some (.ref s.heap.objs.size)) { s with heap := h' }) :
    wpAny (model prog w) A (pyNext (.ref z)) Q E s := by
  obtain ⟨hTI, h1, h2, hl1, hl2, hz⟩ := st
  have lt : ∀ {c o}, s.heap.get? c = some o → s.heap.objs.size ≠ c := fun e => Nat.ne_of_gt (Heap.lt_size e)
  have n1 : s.heap.objs.size ≠ i1 := let ⟨_, e, _⟩ := h1; lt e
  have n2 : s.heap.objs.size ≠ i2 := let ⟨_, e, _⟩ := h2; lt e
  rcases hz with ⟨hz, a, b, hTO⟩ | ⟨T, f, oT, hz, hT, r1, r2, r3, r4⟩
  · refine wpAny_pyNext_zip_item D hz hTI hTO h1 h2 hl1 hl2 hx hy fun h' a1 a2 a3 a4 a5 a6 hk => ?_
    exact q h' ⟨hk _ _ D.TIz D.TITO D.TIi1 D.TIi2 hTI, a3, a4, hl1.at fun o e => hk _ o D.l1z D.l1TO D.l1i1 D.l1i2 e, hl2.at fun o e => hk _ o D.l2z D.l2TO D.l2i1 D.l2i2 e,
      .inr ⟨s.heap.objs.size, false, _, a1, a5, lt hz, n1, n2, Nat.ne_of_gt hS⟩⟩ a5 a6 fun c o hc e => hk c o (fun x => hc (by simp [x])) (fun x => hc (by simp [x])) (fun x => hc (by simp [x])) (fun x => hc (by simp [x])) e
  · refine wpAny_pyNext_zip_item_held D hz hT hTI h1 h2 hl1 hl2 hx hy fun h' a1 a3 a4 a5 a6 hk => ?_
    exact q h' ⟨hk _ _ D.TIz D.TIi1 D.TIi2 hTI, a3, a4, hl1.at fun o e => hk _ o D.l1z D.l1i1 D.l1i2 e, hl2.at fun o e => hk _ o D.l2z D.l2i1 D.l2i2 e,
      .inr ⟨T, true, oT, a1, hk _ _ r1 r2 r3 hT, r1, r2, r3, r4⟩⟩ a5 a6 fun c o hc e => hk c o (fun x => hc (by simp [x])) (fun x => hc (by simp [x])) (fun x => hc (by simp [x])) e
theorem ZSt.done {prog : Program} {w : World} {A : Around} {s : Shared} {Q : Option Value → Shared → Prop} {E : Value → Shared → Prop} (hh : A.handled = none) (D : ZipApart z TI TO i1 i2 l1 l2) (st : ZSt z TI TO i1 i2 l1 l2 us ws S i s.heap) (hend : us[i]? = none ∨ ws[i]? = none)
    (q : ∀ h', (∀ b o, b ∉ [z, TI, TO, i1, i2] → s.heap.get? b = some o → h'.get? b = some o) → Q none { s with heap := h' }) : wpAny (model prog w) A (pyNext (.ref z)) Q E s := by
  obtain ⟨hTI, h1, h2, hl1, hl2, hz⟩ := st
  rcases hz with ⟨hz, a, b, hTO⟩ | ⟨T, f, oT, hz, hT, r1, r2, r3, r4⟩
  · exact wpAny_pyNext_zip_end hh D hz hTI hTO h1 h2 hl1 hl2 hend fun h' hk => q h' fun c o hc e => hk c o (fun x => hc (by simp [x])) (fun x => hc (by simp [x])) (fun x => hc (by simp [x])) (fun x => hc (by simp [x])) e
  · exact wpAny_pyNext_zip_end_held hh D hz hT hTI h1 h2 hl1 hl2 hend fun h' hk => q h' fun c o hc e => hk c o (fun x => hc (by simp [x])) (fun x => hc (by simp [x])) (fun x => hc (by simp [x])) e
end
/-- vs: references to new pairs of xs and ys -/
def Prs (H1 H : Hp) (xs ys vs : List V) : Prop := ∀ j, j < vs.length → ∃ T x y, vs[j]? = some (.ref T) ∧ xs[j]? = some x ∧ ys[j]? = some y ∧ H T = some (.tup [x, y]) ∧ H1 T = none
section
variable {X : Cx} {pins : List (Addr × Obj)} {σ : L2.St} {z TI TO i1 i2 l1 l2 S : Addr} {xs ys : List V} {us ws : List Value} {H1 : Hp}
theorem loop_zip {A : Around} {R : Result → Shared → Prop} (hh : A.in1.handled = none) (D : ZipApart z TI TO i1 i2 l1 l2) (hS : S ∉ [z, TI, TO, i1, i2, l1, l2]) (rv : Vals xs us) (rv2 : Vals ys ws) (hl : xs.length = ys.length) (hz : xs.length ≤ 40000) (res : Value) (hS1 : H1 S = none)
    (hR : ∀ s' H' vs', Inv X pins σ H' s' → Ex H1 H' → H' S = some (.lst vs') → vs'.length = xs.length → Prs H1 H' xs ys vs' → R (.ok (.ret res)) s') :
    ∀ (k i : Nat) (s : Shared) (H : Hp) (vs : List V), xs.length - i = k → i ≤ xs.length → ZSt z TI TO i1 i2 l1 l2 us.toArray ws.toArray S i s.heap → Inv X pins σ H s → (∀ b ∈ [z, TI, TO, i1, i2], FpOk X pins H b) → (∀ b ∈ [z, TI, TO, i1, i2], b < s.heap.objs.size) → Ex H1 H → H S = some (.lst vs) → vs.length = i → Prs H1 H xs ys vs →
      codeAny (model X.prog X.w) A (.builtin "list.extend.loop" ⟨[.ref S, .ref z, res], []⟩) R s := by
  intro k
  induction k with
  | zero =>
    intro i s H vs hk hi st I hf hb0 e1 e2 e3 e4
    refine codeAny_builtin F.entry_extend_loop ?_
    rw [Around.under_plainId F.plain_extend_loop _]
    show wpAny _ A.in1 (pyNext (.ref z) >>= _) _ _ s
    have hend : us.toArray[i]? = none ∨ ws.toArray[i]? = none := .inl (by
      have := rv.length
      simp
      omega)
    refine wpAny_bind (st.done hh D hend fun h' hkp => wpAny_pure ?_)
    exact hR _ H vs (I.turnedL (t' := s.toks) hkp hf) e1 e2 (by omega) e4
  | succ k ih =>
    intro i s H vs hk hi st I hf hb0 e1 e2 e3 e4
    have hlt : i < xs.length := by omega
    have hlt2 : i < ys.length := by omega
    obtain ⟨u, hu, ru⟩ := rv.get (List.getElem?_eq_getElem hlt)
    obtain ⟨u2, hu2, ru2⟩ := rv2.get (List.getElem?_eq_getElem hlt2)
    refine codeAny_builtin F.entry_extend_loop ?_
    rw [Around.under_plainId F.plain_extend_loop _]
    show wpAny _ A.in1 (pyNext (.ref z) >>= _) _ _ s
    obtain ⟨hz1, its, n, r, hlen, hSo⟩ := I.lstM e2
    refine wpAny_bind (st.item D (Heap.lt_size hSo) (x := u) (y := u2) (by simpa using hu) (by simpa using hu2) fun h' st' hT hsz hkp => ?_)
    have new : ObjOk X.prog X.w (upd H s.heap.objs.size (.tup [xs[i], ys[i]])) h' s.heap.objs.size (.tup [xs[i], ys[i]]) :=
      ⟨by show 2 ≤ sizeLine; decide, [u, u2], .cons ru (.cons ru2 .nil), ⟨_, hT, rfl, _, rfl⟩⟩
    have hfr : H s.heap.objs.size = none := I.hok.fresh (Nat.le_refl _)
    have I1 : Inv X pins σ (upd H s.heap.objs.size (.tup [xs[i], ys[i]])) { s with heap := h' } := I.turnedNew (t' := s.toks) hkp hf (Nat.le_refl _) new
    have hST : S ≠ s.heap.objs.size := Nat.ne_of_lt (Heap.lt_size hSo)
    have e2' : upd H s.heap.objs.size (.tup [xs[i], ys[i]]) S = some (.lst vs) := by rw [upd_ne hST]; exact e2
    obtain ⟨_, its', n', r', hlen', hSo'⟩ := I1.lstM e2'
    show wpAny _ A.in1 (updateSeq S (·.push (.ref s.heap.objs.size)) >>= _) _ _ _
    refine wpAny_bind ?_
    refine wpAny_updateSeq (s := { s with heap := h' }) hSo' rfl (wpAny_pure ⟨plainId_quiet F.plain_extend_loop _, ?_⟩) (by
      rw [List.size_toArray]
      exact sz_of (by omega)) (by
      show (its'.toArray.push (.ref s.heap.objs.size)).size ≤ sizeLine + 1
      rw [Array.size_push, List.size_toArray]
      have : its'.length ≤ sizeLine := sz_of (by omega)
      omega)
    have I2 := I1.lset (its' := its' ++ [.ref s.heap.objs.size]) (f := (·.push (.ref s.heap.objs.size))) (ys := vs ++ [V.ref s.heap.objs.size]) (t' := s.toks) e2' hSo' (by simp) (r'.append (.cons (show L2.RelV (V.ref s.heap.objs.size) (.ref s.heap.objs.size) from rfl) .nil)) (by
      rw [List.length_append, List.length_singleton]
      exact sz_of (by omega))
    have ex1 : Ex H (upd H s.heap.objs.size (.tup [xs[i], ys[i]])) := Ex.new hfr
    have h1T : H1 s.heap.objs.size = none := none_of e1 hfr
    refine ih (i + 1) _ _ (vs ++ [V.ref s.heap.objs.size]) (by omega) hlt ?_ I2 (fun b hb => ?_) (fun b hb => ?_) (Ex.mut (e1.trans ex1) hS1) upd_same (by rw [List.length_append, e3]; rfl) fun j hj => ?_
    · exact st'.at hS fun b o hb e => (Heap.get?_update_other _ _ (Ne.symm hb)).trans e
    · obtain ⟨g0, g⟩ := hf b hb
      refine ⟨?_, g⟩
      have b1 : b ≠ S := fun q => hS (by
        rw [← q]
        simp only [List.mem_cons, List.not_mem_nil, or_false] at hb ⊢
        rcases hb with hb | hb | hb | hb | hb <;> simp [hb])
      have b2 : b ≠ s.heap.objs.size := Nat.ne_of_lt (hb0 b hb)
      rw [upd_ne b1, upd_ne b2]
      exact g0
    · have h1 := hb0 b hb
      show b < (h'.update S _).objs.size
      rw [Heap.size_update, hsz]
      exact Nat.lt_succ_of_lt h1
    · rw [List.length_append, e3] at hj
      by_cases hj2 : j < vs.length
      · obtain ⟨T, x, y, f1, f2, f3, f4, f5⟩ := e4 j hj2
        refine ⟨T, x, y, by rw [List.getElem?_append_left hj2]; exact f1, f2, f3, ?_, f5⟩
        have hTS : T ≠ S := fun q => by
          rw [q, e2] at f4
          cases f4
        rw [upd_ne hTS]
        exact ex1 _ _ f4
      · have ej : j = i := by
          simp at hj
          omega
        subst ej
        refine ⟨s.heap.objs.size, xs[j], ys[j], by rw [List.getElem?_append_right (by omega), e3]; simp, List.getElem?_eq_getElem hlt, List.getElem?_eq_getElem hlt2, ?_, h1T⟩
        rw [upd_ne (Ne.symm hST)]
        exact upd_same

/-- list(z), z a new zip -/
theorem call_list_zip {s : Shared} {Q : Value → Shared → Prop} {E : Value → Shared → Prop} (hh : X.A.in1.in1.handled = none) (D : ZipApart z TI TO i1 i2 l1 l2) (rv : Vals xs us) (rv2 : Vals ys ws) (hl : xs.length = ys.length) (hz : xs.length ≤ 40000) (I : Inv X pins σ H1 s) (hf : ∀ b ∈ [z, TI, TO, i1, i2], FpOk X pins H1 b) (hb0 : ∀ b ∈ [z, TI, TO, i1, i2, l1, l2], b < s.heap.objs.size)
    (st : ∀ S, S ∉ [z, TI, TO, i1, i2, l1, l2] → ZSt z TI TO i1 i2 l1 l2 us.toArray ws.toArray S 0 s.heap)
    (hQ : ∀ s' H' vs', Inv X pins σ H' s' → Ex H1 H' → H1 s.heap.objs.size = none → H' s.heap.objs.size = some (.lst vs') → vs'.length = xs.length → Prs H1 H' xs ys vs' → Q (.ref s.heap.objs.size) s') :
    wpAny (model X.prog X.w) X.A (call (.type "list") [.ref z]) Q E s := by
  have hfr : H1 s.heap.objs.size = none := I.hok.fresh (Nat.le_refl _)
  have hS : s.heap.objs.size ∉ [z, TI, TO, i1, i2, l1, l2] := fun hm => Nat.lt_irrefl _ (hb0 _ hm)
  have hSz : s.heap.objs.size ≠ z := fun e => hS (by rw [e]; simp)
  refine callType_codes (Q₁ := fun obj s₁ => obj = .ref s.heap.objs.size ∧ s₁ = { s with heap := s.heap.push { cls := .type "list", data := .seq #[] } }) F.called_list (F.typeCall_list_1 _) F.entry_list_init
    (code_list_new _ ⟨rfl, rfl⟩) fun obj s₁ h₁ => ?_
  obtain ⟨rfl, rfl⟩ := h₁
  have I1 : Inv X pins σ (upd H1 s.heap.objs.size (.lst [])) { s with heap := s.heap.push { cls := .type "list", data := .seq #[] } } := I.lnew (its := []) (t' := s.toks) .nil (Nat.zero_le _)
  have hS1 : (s.heap.push { cls := .type "list", data := .seq #[] }).get? s.heap.objs.size = some { cls := .type "list", data := .seq #[] } := Heap.get?_push_size _ rfl
  refine ⟨⟨_, hS1, rfl⟩, F.args_list_init_2 _ _, ?_⟩
  show wpAny _ X.A.in1.in1 (do let old ← Builtin.List.listItems (.ref s.heap.objs.size); Builtin.List.listUpdate (.ref s.heap.objs.size) (fun _ => #[]); letGo old.toList.reverse; Builtin.List.listExtendWith (.ref s.heap.objs.size) (.ref z) .none) _ _ _
  refine wpAny_bind ?_
  unfold Builtin.List.listItems
  refine wpAny_bind (wpAny_seqItems hS1 rfl (wpAny_pure ?_))
  show wpAny _ X.A.in1.in1 (updateSeq s.heap.objs.size (fun _ => #[]) >>= fun _ => letGo (#[] : Array Value).toList.reverse >>= fun _ => Builtin.List.listExtendWith (.ref s.heap.objs.size) (.ref z) .none) _ _ _
  refine wpAny_bind (wpAny_updateSeq (s := { s with heap := s.heap.push { cls := .type "list", data := .seq #[] } }) hS1 rfl ?_)
  have I2 := I1.lset (its := []) (its' := []) (f := fun _ => #[]) (ys := []) (t' := s.toks) upd_same hS1 rfl .nil (Nat.zero_le _)
  refine wpAny_bind (wpAny_letGo ?_)
  have hS2 := Heap.get?_update_self (Obj.mapSeq (fun _ => (#[] : Array Value))) hS1 rfl
  have k1 : ∀ b o, b ≠ s.heap.objs.size → s.heap.get? b = some o → ((s.heap.push { cls := .type "list", data := .seq #[] }).update s.heap.objs.size (Obj.mapSeq (fun _ => (#[] : Array Value)))).get? b = some o := fun b o hb e => (Heap.get?_update_other _ _ (Ne.symm hb)).trans (Heap.get?_push_of_some _ e)
  have st2 := (st _ hS).at hS k1
  unfold Builtin.List.listExtendWith
  refine wpAny_bind (wpAny_typeOf (T := "zip") (ZSt.ty (s := { s with heap := (s.heap.push { cls := .type "list", data := .seq #[] }).update s.heap.objs.size (Obj.mapSeq (fun _ => (#[] : Array Value))) }) st2) ?_)
  have h1 : Builtin.List.listSameRef (.ref s.heap.objs.size) (.ref z) = false := by simp [Builtin.List.listSameRef, hSz]
  have h2 : (Value.type "zip" == Value.type "list") = false := by decide
  have h3 : (Value.type "zip" == Value.type "tuple") = false := by decide
  simp only [h1, h2, h3, Bool.or_false, Bool.false_eq_true, if_false]
  refine wpAny_bind (ZSt.self (s := { s with heap := (s.heap.push { cls := .type "list", data := .seq #[] }).update s.heap.objs.size (Obj.mapSeq (fun _ => (#[] : Array Value))) }) st2 ?_)
  refine wpAny_bind (wpAny_holding ?_)
  unfold Builtin.List.listLengthHint
  refine wpAny_bind (wpAny_specialOf (ZSt.ty (s := { s with heap := (s.heap.push { cls := .type "list", data := .seq #[] }).update s.heap.objs.size (Obj.mapSeq (fun _ => (#[] : Array Value))) }) st2) zl_nolen ?_)
  show wpAny _ X.A.in1.in1 (specialOf (Value.ref z) (Str.ofString "__length_hint__") >>= _) _ _ _
  refine wpAny_bind (wpAny_specialOf (ZSt.ty (s := { s with heap := (s.heap.push { cls := .type "list", data := .seq #[] }).update s.heap.objs.size (Obj.mapSeq (fun _ => (#[] : Array Value))) }) st2) zl_nohint ?_)
  refine wpAny_pure ?_
  show wpAny _ X.A.in1.in1 (rule "list.extend.makes-room" >>= fun _ => Builtin.List.listTouch (.ref s.heap.objs.size) >>= fun _ =>
    again (.builtin "list.extend.loop" ⟨[.ref s.heap.objs.size, .ref z, .none], []⟩)) _ _ _
  refine wpAny_bind (wpAny_rule ?_)
  refine wpAny_bind ?_
  show wpAny _ X.A.in1.in1 (updateSeq s.heap.objs.size (·.push .none) >>= fun _ => updateSeq s.heap.objs.size (·.pop)) _ _ _
  refine wpAny_bind (wpAny_updateSeq (s := { s with heap := (s.heap.push { cls := .type "list", data := .seq #[] }).update s.heap.objs.size (Obj.mapSeq (fun _ => (#[] : Array Value))) }) hS2 rfl ?_)
  have I3 := I2.lset (its := []) (its' := [.none]) (f := (·.push Value.none)) (ys := [V.non]) (t' := s.toks) upd_same hS2 rfl (.cons rfl .nil) (by show 1 ≤ sizeLine; decide)
  have hS3 := Heap.get?_update_self (Obj.mapSeq (·.push Value.none)) hS2 rfl
  refine wpAny_updateSeq (s := { s with heap := ((s.heap.push { cls := .type "list", data := .seq #[] }).update s.heap.objs.size (Obj.mapSeq (fun _ => (#[] : Array Value)))).update s.heap.objs.size (Obj.mapSeq (·.push Value.none)) }) hS3 rfl ?_
  have I4 := I3.lset (its := [.none]) (its' := []) (f := (·.pop)) (ys := []) (t' := s.toks) upd_same hS3 rfl .nil (Nat.zero_le _)
  have st4 := (st2.at hS fun b o hb e => (Heap.get?_update_other _ (Obj.mapSeq (·.push Value.none)) (Ne.symm hb)).trans e).at hS fun b o hb e => (Heap.get?_update_other _ (Obj.mapSeq (·.pop)) (Ne.symm hb)).trans e
  refine wpAny_pure ⟨plainId_quiet F.plain_extend_loop _, loop_zip (A := X.A.in1) (H1 := H1) hh D hS rv rv2 hl hz _ hfr (fun s' H' vs' g1 g2 g3 g4 g5 => ?_) _ 0 _ _ [] rfl (Nat.zero_le _) st4 I4 (fun b hb => ?_) (fun b hb => ?_) (Ex.mut (Ex.mut (Ex.mut (Ex.new hfr) hfr) hfr) hfr) upd_same rfl fun j hj => absurd hj (Nat.not_lt_zero j)⟩
  · exact ⟨rfl, hQ s' H' vs' g1 g2 hfr g3 g4 g5⟩
  · obtain ⟨g0, g⟩ := hf b hb
    have b1 : b ≠ s.heap.objs.size := fun q => hS (by
      rw [← q]
      simp only [List.mem_cons, List.not_mem_nil, or_false] at hb ⊢
      rcases hb with hb | hb | hb | hb | hb <;> simp [hb])
    refine ⟨?_, g⟩
    rw [upd_ne b1, upd_ne b1, upd_ne b1, upd_ne b1]
    exact g0
  · have h1 : b < s.heap.objs.size := hb0 b (by
      simp only [List.mem_cons, List.not_mem_nil, or_false] at hb ⊢
      rcases hb with hb | hb | hb | hb | hb <;> simp [hb])
    show b < (((((s.heap.push _).update _ _).update _ _).update _ _)).objs.size
    rw [Heap.size_update, Heap.size_update, Heap.size_update, Heap.size_push]
    exact Nat.lt_succ_of_lt h1
end
/-- list(zip(xs, ys)) -/
def tLZ (K : PySem.W.Frag) (ta : TA) : TE := fun σ H Q => ta σ H fun vs H1 => ∃ a b xs ys, vs = [.ref a, .ref b] ∧ SqL K H1 a xs ∧ SqL K H1 b ys ∧ xs.length = ys.length ∧ xs.length ≤ 40000 ∧ ∀ l vs' H', Ex H1 H' → H1 l = none → H' l = some (.lst vs') → vs'.length = xs.length → Prs H1 H' xs ys vs' → Q (.ref l) H'
theorem pe_listZip {X : Cx} {e e2 : Expr} {ta : TA} {p0 p pos pos2 : Pos} (hc : X.calm = true) (hg0 : Gl X "list") (hm0 : X.mg "list" = none) (hg : Gl X "zip") (hm : X.mg "zip" = none) (ha : PA X [e, e2] ta)
    (hs1 : starEach [.Call (.Name "zip" p) [e, e2] [] pos2] X.env = [(false, eval (.Call (.Name "zip" p) [e, e2] [] pos2) X.env)] := by rfl)
    (hs : starEach [e, e2] X.env = (false, eval e X.env) :: starEach [e2] X.env := by rfl) (hpl : (backTo pos2 (starEach [e2] X.env)).any (·.1) = false := by rfl) :
    PE X (.Call (.Name "list" p0) [.Call (.Name "zip" p) [e, e2] [] pos2] [] pos) (tLZ X.K ta) := by
  refine ⟨fun pins s σ H Q I h => ?_⟩
  refine wpAny_Call_Name_kw (ld_blt I hg0 hm0 rfl ?_)
  refine PyProof.Rows.callWith_type1 ?_ hs1 rfl
  rw [hs1]
  refine Calls.spliced_cons (Call_ (ld_blt I hg hm PyProof.Rows.boot_zip (PyProof.Rows.callWith_type1 (thn (ha.run pos2 pins s σ H _ I h) fun us s1 ⟨vs, H1, I1, r1, q1⟩ => ?_) hs hpl)))
  obtain ⟨a, b, xs, ys, ex, hqx, hqy, hl, hz, q1⟩ := q1
  subst ex
  cases r1 with
  | cons r rr =>
    cases rr with
    | cons r' rr =>
      cases rr
      cases r
      cases r'
      have fresh5 : ∀ c, c ∈ [s1.heap.objs.size + 4, s1.heap.objs.size + 2, s1.heap.objs.size + 3, s1.heap.objs.size, s1.heap.objs.size + 1] → FpOk X pins H1 c := fun c hcm => by
        have hle : s1.heap.objs.size ≤ c := by
          simp only [List.mem_cons, List.not_mem_nil, or_false] at hcm
          omega
        exact I1.fpOk hle (I1.hok.fresh hle)
      obtain ⟨its, rv, p1, _⟩ := I1.list hqx
      obtain ⟨its2, rv2, p2, _⟩ := I1.list hqy
      refine call_zip_2 p1.isList p2.isList fun h' hzz hTI hTO h1 h2 hsz hk => Calls.spliced_nil ?_
      have I2 : Inv X pins σ H1 { s1 with heap := h' } := I1.kept (t' := s1.toks) hk
      obtain ⟨its', rv', p1', _⟩ := I2.list hqx
      obtain ⟨its2', rv2', p2', _⟩ := I2.list hqy
      refine call_list_zip (s := { s1 with heap := h' }) (I1.ok.hd hc) (PySem.W.ktu_apart s1.heap.objs.size a b p1.lt p2.lt) rv' rv2' hl hz I2 fresh5 (fun c hcm => ?_) (fun S hS => ⟨hTI, h1, h2, p1'.isList, p2'.isList, .inl ⟨hzz, _, _, hTO⟩⟩) fun s' H' vs' g1 g2 g3 g4 g5 g6 => ?_
      · show c < h'.objs.size
        rw [hsz]
        simp only [List.mem_cons, List.not_mem_nil, or_false] at hcm
        rcases hcm with q | q | q | q | q | q | q
        · rw [q]; exact Nat.add_lt_add_left (by decide) _
        · rw [q]; exact Nat.add_lt_add_left (by decide) _
        · rw [q]; exact Nat.add_lt_add_left (by decide) _
        · rw [q]; exact Nat.lt_add_of_pos_right (by decide)
        · rw [q]; exact Nat.add_lt_add_left (by decide) _
        · rw [q]; exact Nat.lt_of_lt_of_le p1.lt (Nat.le_add_right _ _)
        · rw [q]; exact Nat.lt_of_lt_of_le p2.lt (Nat.le_add_right _ _)
      · exact ⟨.ref _, H', g1, rfl, q1 _ vs' H' g2 g3 g4 g5 g6⟩
section
variable {K : PySem.W.Frag} {B0 H0 : Hp} {δ : List Sl} {ds es : List PyData} {ta : TA}
theorem n_listZip (h : EvD K B0 H0 ta δ [.list ds, .list es]) (hl : ds.length = es.length) (hz : ds.length ≤ 40000) : EvN K B0 H0 (tLZ K ta) δ (zipD ds es) := fun B H σ S Q q => h B H σ S _ fun vs B1 H1 s1 i1 => by
  cases i1 with
  | cons g1 g2 =>
    cases g2 with
    | cons g3 g4 =>
      cases g4
      cases g1 with
      | @lst a xs _ h1 h2 =>
        cases g3 with
        | @lst b ys _ k1 k2 =>
          refine ⟨a, b, xs, ys, rfl, sq_of (s1.bh _ _ h1), sq_of (s1.bh _ _ k1), by rw [h2.len, k2.len, hl], by rw [h2.len]; exact hz, fun l vs' H' e1 f1 f2 f3 f4 => ?_⟩
          -- the base: B1 with the new pairs in it
          let B2 : Hp := fun c => if H1 c = none ∧ c ≠ l then H' c else B1 c
          have b2l : B2 l = none := by
            show (if H1 l = none ∧ l ≠ l then H' l else B1 l) = none
            rw [if_neg (fun z => z.2 rfl)]
            exact none_of s1.bh f1
          have eb : Ex B1 B2 := fun c u hc => by
            show (if H1 c = none ∧ c ≠ l then H' c else B1 c) = some u
            rw [if_neg (fun z => by
              have := s1.bh _ _ hc
              rw [z.1] at this
              cases this)]
            exact hc
          have bh : Ex B2 H' := fun c u hc => by
            have hc' : (if H1 c = none ∧ c ≠ l then H' c else B1 c) = some u := hc
            split at hc'
            · exact hc'
            · exact e1 _ _ (s1.bh _ _ hc')
          have n2 : ∀ c, B2 c ≠ none → B1 c ≠ none ∨ NoL H1 c := fun c hc => by
            by_cases z : H1 c = none
            · exact .inr (.of z)
            · left
              intro z2
              apply hc
              show (if H1 c = none ∧ c ≠ l then H' c else B1 c) = none
              rw [if_neg (fun y => z y.1)]
              exact z2
          refine q l vs' B2 H' (s1.trans ⟨eb, bh, e1, n2⟩) (none_of s1.h f1) b2l f2 ?_
          have hlen : (zipD ds es).length = ds.length := by
            unfold zipD
            rw [List.length_map, List.length_zip, ← hl, Nat.min_self]
          refine DtAll.of (by rw [f3, h2.len, hlen]) fun i v d hv hd => ?_
          obtain ⟨T, x, y, y1, y2, y3, y4, y5⟩ := f4 i (List.getElem?_eq_some_iff.mp hv).1
          rw [y1] at hv
          cases Option.some.inj hv
          obtain ⟨f, hf, df⟩ := h2.getV y2
          obtain ⟨g, hg, dg⟩ := k2.getV y3
          have e : d = .tuple [f, g] := by
            unfold zipD at hd
            rw [List.getElem?_map, show (ds.zip es)[i]? = some (f, g) from List.getElem?_zip_eq_some.mpr ⟨hf, hg⟩] at hd
            exact (Option.some.inj hd).symm
          rw [e]
          have hTl : T ≠ l := fun z => by
            rw [z, f2] at y4
            cases y4
          have bT : B2 T = some (.tup [x, y]) := by
            show (if H1 T = none ∧ T ≠ l then H' T else B1 T) = _
            rw [if_pos ⟨y5, hTl⟩]
            exact y4
          exact .tup (st_of bT) (.cons (dt_mono eb _ _ df) (.cons (dt_mono eb _ _ dg) .nil))
end
end Ja

/-! Own data layer: isinstance, x in (a, b, c) of ints, ranges with a step. -/
namespace Ja
open PySem PySem.Spec PyProof.Rows L2 Evl Cm
def tyD : PyData → Option String
  | .bool _ => some "bool"
  | .int _ => some "int"
  | .str _ => some "str"
  | .list _ => some "list"
  | .tuple _ => some "tuple"
  | _ => none
section
variable {K : PySem.W.Frag} {B0 H0 : Hp} {δ : List Sl} {te ta tb : TE} {d : PyData} {i : Int}
theorem ty_rd_l {H : Hp} {a : Addr} {xs : List V} (h : SqL K H a xs) : TyX K H (.ref a) (.type "list") := by
  rcases h with (h | ⟨o, h⟩) | ⟨o, its, n, h, hc, _⟩
  · exact .base (.lst h)
  · exact .base (.frz h)
  · exact .kList h hc
theorem ty_rd_t {H : Hp} {a : Addr} {xs : List V} (h : SqT K H a xs) : TyX K H (.ref a) (.type "tuple") := by
  rcases h with (h | ⟨o, h⟩) | ⟨o, its, n, h, hc, _⟩
  · exact .base (.tup h)
  · exact .fTuple h
  · exact .kTuple h hc
theorem ty_of {B : Hp} {v : V} {t : String} (h : Dt K B v d) (ht : tyD d = some t) : TyX K B v (.type t) := by
  cases h with
  | non => cases ht
  | bl b => cases ht; exact .base (.bl _)
  | int i => cases ht; exact .base (.int _)
  | str x => cases ht; exact .base (.str _)
  | lst h1 h2 => cases ht; exact ty_rd_l (sq_of h1)
  | tup h1 h2 => cases ht; exact ty_rd_t h1
theorem d_isi {T t : String} {b : Bool} (h : EvS K B0 H0 te δ (.dat d)) (ht : tyD d = some t) (hk : kitB t T = some b) : EvS K B0 H0 (tCB (rIsi K) (tCons te (tCons (tC (.ty T)) tNil))) δ (nB b) := fun B H σ S Q q => h B H σ S _ fun v B1 H1 s1 i1 => by
  have hty := ty_of (dt_mono s1.bh _ _ i1) ht
  exact ⟨v, .ty T, .type t, .type T, b, rfl, .ty T, hty, kit_ty hk, q _ B1 H1 s1 (Dt.bl _)⟩
theorem inV_ints (i : Int) : ∀ ns : List Int, inV (.int i) (ns.map V.int) = decide (i ∈ ns)
  | [] => rfl
  | n :: r => by
    have h := inV_ints i r
    unfold inV at h ⊢
    rw [List.map_cons, List.any_cons, h]
    show ((n == i) || decide (i ∈ r)) = _
    by_cases e : n = i
    · subst e
      simp
    · have e2 : ¬ i = n := fun z => e z.symm
      simp [e, e2]
theorem flat_ints : ∀ ns : List Int, (ns.map V.int).all flatV = true
  | [] => rfl
  | n :: r => flat_ints r
theorem d_inT {ns : List Int} (ha : EvS K B0 H0 ta δ (nI i)) (hb : EvS K B0 H0 tb δ (.dat (.tuple (ns.map PyData.int)))) : EvS K B0 H0 (tOp (rIn K false) ta tb) δ (nB (decide (i ∈ ns))) := fun B H σ S Q q => ha B H σ S _ fun v B1 H1 s1 i1 => hb B1 H1 σ (S.go s1) _ fun w B2 H2 s2 i2 => by
  cases i1
  cases i2 with
  | tup g1 g2 =>
    rw [dt_ints_inv ns g2] at g1
    refine ⟨_, ns.map V.int, rfl, .inr (ex_t s2.bh g1), rfl, flat_ints ns, ?_⟩
    rw [if_neg (by decide), inV_ints]
    exact q _ B2 H2 (s1.trans s2) (Dt.bl _)
/-- lo, lo + c, .. -/
def stepD (lo c : Int) (n : Nat) : List PyData := (List.range n).map fun i : Nat => PyData.int (lo + (i : Int) * c)
theorem stepD_len (lo c : Int) (n : Nat) : (stepD lo c n).length = n := by
  unfold stepD
  rw [List.length_map, List.length_range]
theorem stepD_get {lo c : Int} {n i : Nat} {d : PyData} (h : (stepD lo c n)[i]? = some d) : i < n ∧ d = .int (lo + (i : Int) * c) := by
  have hi : i < n := by
    have := (List.getElem?_eq_some_iff.mp h).1
    rwa [stepD_len] at this
  unfold stepD at h
  rw [List.getElem?_map, List.getElem?_range hi] at h
  exact ⟨hi, (Option.some.inj h).symm⟩
theorem w_rng3 {ta : TA} {lo hi c : Int} {n : Nat} (h : EvD K B0 H0 ta δ [.int lo, .int hi, .int c]) (h1 : RgC lo hi c n) : EvW K B0 H0 (iRng3 ta) δ (stepD lo c n) := fun B H σ S R q => h B H σ S _ fun vs B1 H1 s1 i1 => by
  cases i1 with
  | cons g1 g2 =>
    cases g1
    cases g2 with
    | cons g3 g4 =>
      cases g3
      cases g4 with
      | cons g5 g6 =>
        cases g5
        cases g6
        refine ⟨lo, hi, c, n, rfl, h1, q _ _ _ B1 H1 s1 (by rw [stepD_len]; exact walk_rangeC) (fun _ _ _ _ => trivial) fun i H2 x H3 B2 d hd e1 e2 y => ?_⟩
        obtain ⟨rfl, rfl⟩ := y
        obtain ⟨_, rfl⟩ := stepD_get hd
        exact ⟨B2, .refl e2, .int _⟩
end
/-- range(1, m - 1, 2) -/
theorem rg_odd : ∀ m : Nat, m ≤ 40 → RgC 1 ((m : Int) - 1) 2 ((m - 1) / 2) := by
  have h : ∀ m : Fin 41, RgC 1 ((m.val : Int) - 1) 2 ((m.val - 1) / 2) := by
    unfold RgC
    decide +kernel
  exact fun m hm => h ⟨m, by omega⟩
end Ja

/-! Own data layer: calls that read own lists; None, truth of ints, bits, min and max, words in tuples. -/
namespace Ja
open PySem PySem.Spec PyProof.Rows L2 Evl Cm
/-- the base with all tuples of the heap in it -/
def wT (B H : Hp) : Hp := fun c => match H c with
  | some (.tup xs) => some (.tup xs)
  | some (.frz o u) => some (.frz o u)
  | _ => B c
theorem wT_tup {B H : Hp} {a : Addr} {xs : List V} (h : H a = some (.tup xs)) : wT B H a = some (.tup xs) := by
  unfold wT
  rw [h]
theorem wT_frz {B H : Hp} {a : Addr} {o : Obj} {u : HO} (h : H a = some (.frz o u)) : wT B H a = some (.frz o u) := by
  unfold wT
  rw [h]
theorem wT_b {B H : Hp} (e : Ex B H) : Ex B (wT B H) := fun a u h => by
  have g := e a u h
  unfold wT
  rw [g]
  split
  · next h2 => exact h2.symm
  · next h2 => exact h2.symm
  · exact h
theorem wT_h {B H : Hp} (e : Ex B H) : Ex (wT B H) H := fun a u h => by
  unfold wT at h
  split at h
  · next h2 => rw [h2]; exact h
  · next h2 => rw [h2]; exact h
  · exact e a u h
theorem wT_n {B H H1 : Hp} (e : Ex H1 H) : ∀ a, wT B H a ≠ none → B a ≠ none ∨ NoL H1 a := fun a h => by
  unfold wT at h
  split at h
  · next h2 => exact .inr fun xs z => by rw [e _ _ z] at h2; cases h2
  · next h2 => exact .inr fun xs z => by rw [e _ _ z] at h2; cases h2
  · exact .inl h
mutual
/-- no lists in it -/
def noL : PyData → Bool
  | .none => true
  | .bool _ => true
  | .int _ => true
  | .str _ => true
  | .tuple ds => noLs ds
  | _ => false
def noLs : List PyData → Bool
  | [] => true
  | d :: r => noL d && noLs r
end
section
variable {K : PySem.W.Frag} {B H : Hp}
theorem wT_sq {a : Addr} {xs : List V} (h : SqT K H a xs) : SqT K (wT B H) a xs := by
  rcases h with h | h
  · rcases h with h | ⟨o, h⟩
    · exact .inl (.inl (wT_tup h))
    · exact .inl (.inr ⟨o, wT_frz h⟩)
  · exact .inr h
mutual
theorem wT_dt : ∀ (d : PyData) (v : V), noL d = true → Dt K H v d → Dt K (wT B H) v d
  | _, _, _, .non => .non
  | _, _, _, .bl b => .bl b
  | _, _, _, .int i => .int i
  | _, _, _, .str x => .str x
  | .tuple ds, _, h, .tup g a => .tup (wT_sq g) (wT_dts ds _ (by simpa only [noL] using h) a)
  | .list ds, _, h, .lst g a => by simp only [noL] at h; exact absurd h (by decide)
theorem wT_dts : ∀ (ds : List PyData) (vs : List V), noLs ds = true → DtAll K H vs ds → DtAll K (wT B H) vs ds
  | _, _, _, .nil => .nil
  | d :: ds, _, h, .cons g t => by
    simp only [noLs, Bool.and_eq_true] at h
    exact .cons (wT_dt d _ h.1 g) (wT_dts ds _ h.2 t)
end
end
/-- arguments, told over the whole heap: own lists too -/
def EvAH (K : PySem.W.Frag) (B0 H0 : Hp) (ta : TA) (δ : List Sl) (ss : List Sl) : Prop := ∀ B H σ, Sc K B0 H0 B H σ δ → ∀ Q : List V → Hp → Prop, (∀ vs B' H', Stp B H B' H' → IsAll K H' vs ss → Q vs H') → ta σ H Q
section
variable {K : PySem.W.Frag} {B0 H0 : Hp} {δ : List Sl} {ta tb te tc td : TE} {tt : TT} {tr : TA} {s : Sl} {ss : List Sl} {ds : List PyData} {d e : PyData} {i j k l : Int} {b : Bool} {W : WX} {E : DE} {t u : TS}
theorem ah_nil : EvAH K B0 H0 tNil δ [] := fun B H σ S Q q => q [] B H (.refl S.st.bh) .nil
theorem ah_cons (h : EvS K B0 H0 ta δ s) (hr : EvAH K B0 H0 tr δ ss) : EvAH K B0 H0 (tCons ta tr) δ (s :: ss) := fun B H σ S Q q =>
  h B H σ S _ fun v B1 H1 s1 i1 => hr B1 H1 σ (S.go s1) _ fun vs B2 H2 s2 i2 => q _ B2 H2 (s1.trans s2) (.cons (i1.mono (s2.b.trans s2.bh)) i2)
theorem ah_own {n : Nat} (ho : δ[n]? = some (Sl.own ds)) (hr : EvAH K B0 H0 tr δ ss) : EvAH K B0 H0 (tCons (tVar n) tr) δ (.dat (.list ds) :: ss) := fun B H σ S Q q => by
  obtain ⟨l, vs, h1, h2, h3, h4, h5⟩ := S.own n ds ho
  refine ⟨.ref l, h1, hr B H σ S _ fun ws B2 H2 s2 i2 => q _ B2 H2 s2 (.cons (.lst (s2.h _ _ h2) (dts_mono (s2.b.trans s2.bh) _ _ h5)) i2)⟩
/-- a call that reads own lists and gives data without lists -/
theorem r_callO {A : Type} {enc : A → List Sl} {pre : A → Prop} {post : A → PyData → Prop} {X : XK} (a : A) (h : EvAH K B0 H0 tr δ (enc a)) (hp : pre a) (hn : ∀ d, post a d → noL d = true) : EvR K B0 H0 (tCall (SpA K enc pre post) [] X tr) δ (post a) := fun B H σ S Q q =>
  h B H σ S _ fun vs B1 H1 s1 i1 => ⟨H1, a, .refl H1, by rw [List.append_nil]; exact i1, hp, fun v d B2 H2 p st dv => by
    have e2 : Ex B1 H2 := s1.bh.trans st.h
    exact q v d (wT B1 H2) H2 p (s1.trans ⟨wT_b e2, wT_h e2, st.h, wT_n st.h⟩) (wT_dt d v (hn d p) (dt_mono st.bh d v dv))⟩
theorem d_callO {A : Type} {enc : A → List Sl} {pre : A → Prop} {f : A → PyData} {X : XK} (a : A) (h : EvAH K B0 H0 tr δ (enc a)) (hp : pre a) (hn : noL (f a) = true) : EvS K B0 H0 (tCall (SpF K enc pre f) [] X tr) δ (.dat (f a)) := fun B H σ S Q q =>
  r_callO a h hp (fun d e => by subst e; exact hn) B H σ S Q fun v e B' H' p st iv => by
    subst p
    exact q v B' H' st iv
/-! None -/
def isNo : PyData → Bool
  | .none => true
  | _ => false
theorem dt_non {B : Hp} {v : V} (h : Dt K B v d) : decide (v = .non) = isNo d := by
  cases h <;> rfl
theorem d_isND (ha : EvS K B0 H0 ta δ (.dat d)) : EvS K B0 H0 (tOp (fun x y H Q => y = .non ∧ Q (.bl (decide (x = .non))) H) ta (tC .non)) δ (nB (isNo d)) := fun B H σ S Q q =>
  ha B H σ S _ fun v B1 H1 s1 i1 => ⟨rfl, by
    rw [dt_non i1]
    exact q _ B1 H1 s1 (Dt.bl _)⟩
theorem d_notND (ha : EvS K B0 H0 ta δ (.dat d)) : EvS K B0 H0 (tOp (fun x y H Q => y = .non ∧ Q (.bl (!decide (x = .non))) H) ta (tC .non)) δ (nB (!isNo d)) := fun B H σ S Q q =>
  ha B H σ S _ fun v B1 H1 s1 i1 => ⟨rfl, by
    rw [dt_non i1]
    exact q _ B1 H1 s1 (Dt.bl _)⟩
/-! truth of an int -/
theorem b_truth (h : EvS K B0 H0 te δ (nI i)) : EvB K B0 H0 (fun σ H Q => te σ H fun x H' => ∃ k, TruV K x H' k ∧ Q k H') δ (i != 0) := fun B H σ S Q q => h B H σ S _ fun v B1 H1 s1 i1 => by
  cases i1
  exact ⟨_, rfl, q B1 H1 s1⟩
/-! bits, min and max -/
theorem d_bits (h : EvS K B0 H0 te δ (nI i)) : EvS K B0 H0 (tBits te) δ (nI ((Builtin.Int.intBits i : Nat) : Int)) := fun B H σ S Q q => h B H σ S _ fun v B1 H1 s1 i1 => by
  cases i1
  exact ⟨i, rfl, q _ B1 H1 s1 (Dt.int _)⟩
theorem d_min4 (h1 : EvS K B0 H0 ta δ (nI i)) (h2 : EvS K B0 H0 tb δ (nI j)) (h3 : EvS K B0 H0 tc δ (nI k)) (h4 : EvS K B0 H0 td δ (nI l)) : EvS K B0 H0 (tCB Mi.rMin4 (tCons ta (tCons tb (tCons tc (tCons td tNil))))) δ (nI (min (min i j) (min k l))) := fun B H σ S Q q =>
  h1 B H σ S _ fun v1 B1 H1 s1 i1 => h2 B1 H1 σ (S.go s1) _ fun v2 B2 H2 s2 i2 => h3 B2 H2 σ (S.go (s1.trans s2)) _ fun v3 B3 H3 s3 i3 => h4 B3 H3 σ (S.go ((s1.trans s2).trans s3)) _ fun v4 B4 H4 s4 i4 => by
    cases i1
    cases i2
    cases i3
    cases i4
    exact ⟨i, j, k, l, rfl, q _ B4 H4 (((s1.trans s2).trans s3).trans s4) (Dt.int _)⟩
theorem d_max4 (h1 : EvS K B0 H0 ta δ (nI i)) (h2 : EvS K B0 H0 tb δ (nI j)) (h3 : EvS K B0 H0 tc δ (nI k)) (h4 : EvS K B0 H0 td δ (nI l)) : EvS K B0 H0 (tCB Mi.rMax4 (tCons ta (tCons tb (tCons tc (tCons td tNil))))) δ (nI (max (max i j) (max k l))) := fun B H σ S Q q =>
  h1 B H σ S _ fun v1 B1 H1 s1 i1 => h2 B1 H1 σ (S.go s1) _ fun v2 B2 H2 s2 i2 => h3 B2 H2 σ (S.go (s1.trans s2)) _ fun v3 B3 H3 s3 i3 => h4 B3 H3 σ (S.go ((s1.trans s2).trans s3)) _ fun v4 B4 H4 s4 i4 => by
    cases i1
    cases i2
    cases i3
    cases i4
    exact ⟨i, j, k, l, rfl, q _ B4 H4 (((s1.trans s2).trans s3).trans s4) (Dt.int _)⟩
/-- min and max of a list of its own -/
theorem d_minO {n : Nat} {ns : List Int} {m : Int} (ho : δ[n]? = some (Sl.own (ns.map PyData.int))) (hm : m ∈ ns) (hl : ∀ y ∈ ns, m ≤ y) : EvS K B0 H0 (tCB (L2.rMin K) (tCons (tVar n) tNil)) δ (nI m) := fun B H σ S Q q => by
  obtain ⟨p, vs, h1, h2, h3, h4, h5⟩ := S.own n _ ho
  rw [dt_ints_inv ns h5] at h2
  refine ⟨.ref p, h1, p, ns, rfl, sq_of h2, List.length_pos_of_mem hm, fun m' hm' hl' => ?_⟩
  have e : m' = m := Int.le_antisymm (hl' m hm) (hl m' hm')
  subst e
  exact q _ B H (.refl S.st.bh) (Dt.int _)
theorem d_maxO {n : Nat} {ns : List Int} {m : Int} (ho : δ[n]? = some (Sl.own (ns.map PyData.int))) (hm : m ∈ ns) (hl : ∀ y ∈ ns, y ≤ m) : EvS K B0 H0 (tCB (L2.rMax K) (tCons (tVar n) tNil)) δ (nI m) := fun B H σ S Q q => by
  obtain ⟨p, vs, h1, h2, h3, h4, h5⟩ := S.own n _ ho
  rw [dt_ints_inv ns h5] at h2
  refine ⟨.ref p, h1, p, ns, rfl, sq_of h2, List.length_pos_of_mem hm, fun m' hm' hl' => ?_⟩
  have e : m' = m := Int.le_antisymm (hl m' hm') (hl' m hm)
  subst e
  exact q _ B H (.refl S.st.bh) (Dt.int _)
/-! words in tuples of words -/
theorem inV_strs (x : Str) : ∀ xs : List Str, inV (.str x) (xs.map V.str) = decide (x ∈ xs)
  | [] => rfl
  | y :: r => by
    have ih := inV_strs x r
    unfold inV at ih ⊢
    rw [List.map_cons, List.any_cons, ih]
    by_cases h : x = y
    · subst h
      simp [eqV]
    · have h2 : ¬ y = x := fun z => h z.symm
      simp [eqV, h, h2]
theorem flat_strs : ∀ xs : List Str, (xs.map V.str).all flatV = true
  | [] => rfl
  | y :: r => by
    rw [List.map_cons, List.all_cons, flat_strs r]
    rfl
theorem d_inTS {x : Str} {xs : List Str} (ha : EvS K B0 H0 ta δ (nS x)) (hb : EvS K B0 H0 tb δ (.dat (.tuple (xs.map PyData.str)))) : EvS K B0 H0 (tOp (rIn K false) ta tb) δ (nB (decide (x ∈ xs))) := fun B H σ S Q q => ha B H σ S _ fun v B1 H1 s1 i1 => hb B1 H1 σ (S.go s1) _ fun w B2 H2 s2 i2 => by
  cases i1
  cases i2 with
  | tup g1 g2 =>
    rw [dt_strs_inv xs g2] at g1
    refine ⟨_, xs.map V.str, rfl, .inr (ex_t s2.bh g1), rfl, flat_strs xs, ?_⟩
    rw [if_neg (by decide), inV_strs]
    exact q _ B2 H2 (s1.trans s2) (Dt.bl _)
theorem d_niTS {x : Str} {xs : List Str} (ha : EvS K B0 H0 ta δ (nS x)) (hb : EvS K B0 H0 tb δ (.dat (.tuple (xs.map PyData.str)))) : EvS K B0 H0 (tOp (rIn K true) ta tb) δ (nB (!decide (x ∈ xs))) := fun B H σ S Q q => ha B H σ S _ fun v B1 H1 s1 i1 => hb B1 H1 σ (S.go s1) _ fun w B2 H2 s2 i2 => by
  cases i1
  cases i2 with
  | tup g1 g2 =>
    rw [dt_strs_inv xs g2] at g1
    refine ⟨_, xs.map V.str, rfl, .inr (ex_t s2.bh g1), rfl, flat_strs xs, ?_⟩
    rw [if_pos rfl, inV_strs]
    exact q _ B2 H2 (s1.trans s2) (Dt.bl _)
/-- a tuple that the top has made -/
theorem d_ktD {a : Addr} {ds : List PyData} (h : ∀ H, Dt K H (.ref a) (.tuple ds)) : EvS K B0 H0 (tC (.ref a)) δ (.dat (.tuple ds)) := fun B H σ S Q q => q _ B H (.refl S.st.bh) (h B)
end
end Ja

/-! Own data layer: slices of mapped lists, points. -/
namespace Ja
open PySem PySem.Spec PyProof.Rows L2 Evl Cm
section
variable {A : Type}
def cutL (xs : List A) (lo hi : Option Int) : List A := (xs.drop (HT.sIx xs.length 0 lo)).take (HT.sIx xs.length xs.length hi - HT.sIx xs.length 0 lo)
theorem cutD_map (f : A → PyData) (xs : List A) (lo hi : Option Int) : cutD (xs.map f) lo hi = (cutL xs lo hi).map f := by
  unfold cutD cutL
  rw [List.length_map, ← List.map_drop, ← List.map_take]
theorem drop_min (xs : List A) (n : Nat) : xs.drop (min n xs.length) = xs.drop n := by
  by_cases h : n ≤ xs.length
  · rw [Nat.min_eq_left h]
  · rw [Nat.min_eq_right (by omega), List.drop_length, List.drop_eq_nil_of_le (by omega)]
theorem cut_from (xs : List A) (n : Nat) : cutL xs (some (n : Int)) none = xs.drop n := by
  unfold cutL
  rw [HT.sIx_none, HT.sIx_nat, drop_min, List.take_of_length_le]
  rw [List.length_drop]
  omega
theorem cut_to (xs : List A) (n : Nat) : cutL xs none (some (n : Int)) = xs.take n := by
  unfold cutL
  rw [HT.sIx_none, HT.sIx_nat, List.drop_zero, Nat.sub_zero]
  refine List.take_eq_take_iff.mpr ?_
  omega
theorem cut_mid (xs : List A) (a b : Nat) : cutL xs (some (a : Int)) (some (b : Int)) = (xs.drop a).take (b - a) := by
  unfold cutL
  rw [HT.sIx_nat, HT.sIx_nat, drop_min]
  refine List.take_eq_take_iff.mpr ?_
  rw [List.length_drop]
  omega
end
section
variable {K : PySem.W.Frag} {B0 H0 : Hp} {δ : List Sl} {te tb : TE} {A : Type} {f : A → PyData} {xs ys : List A}
theorem n_slF {tl th : TO} {lo hi : Option Int} (h : EvS K B0 H0 te δ (.dat (.list (xs.map f)))) (h1 : EvO K B0 H0 tl δ lo) (h2 : EvO K B0 H0 th δ hi) (e : cutL xs lo hi = ys) : EvN K B0 H0 (tSl (rSlL K) te tl th) δ (ys.map f) := by
  have := n_sl h h1 h2
  rwa [cutD_map, e] at this
theorem n_catF (ha : EvS K B0 H0 te δ (.dat (.list (xs.map f)))) (hb : EvS K B0 H0 tb δ (.dat (.list (ys.map f)))) (hz : xs.length + ys.length ≤ 100000) : EvN K B0 H0 (tOp rCat te tb) δ ((xs ++ ys).map f) := by
  have := n_cat ha hb (by rw [List.length_map, List.length_map]; exact hz)
  rwa [← List.map_append] at this
theorem n_zipF {B : Type} {g : B → PyData} {zs : List B} (h1 : EvS K B0 H0 te δ (.dat (.list (xs.map f)))) (h2 : EvS K B0 H0 tb δ (.dat (.list (zs.map g)))) (hl : xs.length = zs.length) (hz : xs.length ≤ 40000) : EvN K B0 H0 (tLZ K (tCons te (tCons tb tNil))) δ ((xs.zip zs).map fun p => .tuple [f p.1, g p.2]) := by
  have := n_listZip (ds_cons h1 (ds_cons h2 ds_nil)) (by rw [List.length_map, List.length_map]; exact hl) (by rw [List.length_map]; exact hz)
  unfold zipD at this
  rw [List.zip_map, List.map_map] at this
  exact this
theorem d_sumF {xs : List A} {g : A → Int} (h : EvN K B0 H0 te δ (xs.map fun x => .int (g x))) : EvS K B0 H0 (tCB (rSum K) (tCons te tNil)) δ (nI (xs.map g).sum) := by
  have e : (xs.map fun x => PyData.int (g x)) = (xs.map g).map PyData.int := by
    rw [List.map_map]
    rfl
  rw [e] at h
  exact d_sum (d_new h)
end
theorem enc_int : Enc PyData.int := ⟨fun x y => rfl, ⟨1, by decide, fun x => shp_int x⟩⟩
/-! ### points -/
open Pg
abbrev encP (p : Pt) : PyData := .tuple [.int p.1, .int p.2]
theorem shp_P (p : Pt) : Shp 1 (encP p) := shp_tup (shp_cons (n := 0) (shp_int _) (shp_cons (shp_int _) shp_nil))
theorem enc_P : Enc encP := by
  refine ⟨fun x y => ?_, ⟨1, by decide, shp_P⟩⟩
  have e : PyData.eqv (encP x) (encP y) = ((x.1 == y.1) && ((x.2 == y.2) && true)) := by simp only [encP, PyData.eqv, PyData.eqvAll]
  rw [e]
  obtain ⟨a, b⟩ := x
  obtain ⟨d, f⟩ := y
  by_cases h : (a, b) = (d, f)
  · rw [decide_eq_true h]
    cases h
    simp
  · rw [decide_eq_false h]
    have h2 : ¬ (a = d ∧ b = f) := fun ⟨h1, h2⟩ => h (by rw [h1, h2])
    simp only [Bool.and_true, Bool.and_eq_false_iff, beq_eq_false_iff_ne]
    omega
/-- the sides, as pairs -/
def sidesL (ps : List Pt) : List (Pt × Pt) := ps.zip (ps.drop 1 ++ ps.take 1)
abbrev encS (s : Pt × Pt) : PyData := .tuple [encP s.1, encP s.2]
theorem sides_len (ps : List Pt) : (sidesL ps).length = ps.length := by
  unfold sidesL
  cases ps <;> simp
theorem path_zip (q : Pt) : ∀ (p : Pt) (r : List Pt), (((p :: r).zip (r ++ [q])).map fun s => cr s.1 s.2).sum = path (p :: r ++ [q])
  | p, [] => by simp [path]
  | p, b :: r => by
    have h := path_zip q b r
    show cr p b + (((b :: r).zip (r ++ [q])).map fun s => cr s.1 s.2).sum = cr p b + path (b :: (r ++ [q]))
    rw [h]
    rfl
theorem sum_sides : ∀ ps : List Pt, ((sidesL ps).map fun s => cr s.1 s.2).sum = area2 ps
  | [] => rfl
  | p :: r => path_zip p p r
/-- both numbers are small -/
def Pb (k : Nat) (p : Pt) : Prop := p.1.natAbs < 2 ^ k ∧ p.2.natAbs < 2 ^ k
theorem sides_mem {ps : List Pt} {s : Pt × Pt} (h : s ∈ sidesL ps) : s.1 ∈ ps ∧ s.2 ∈ ps := by
  unfold sidesL at h
  have := List.of_mem_zip h
  refine ⟨this.1, ?_⟩
  rcases List.mem_append.mp this.2 with z | z
  · exact List.mem_of_mem_drop z
  · exact List.mem_of_mem_take z
end Ja

/-! Own data layer: max of three, insert, pop, items of mapped lists. -/
namespace Ja
open PySem PySem.Spec PyProof.Rows L2 Evl Cm
theorem hu65 {A : Around} {k : Nat} (hr : Room k A) : A.units + 65 < cLine := by
  have := hr.un
  omega
section
variable {K : PySem.W.Frag} {B0 H0 : Hp} {W : WX} {δ δ1 : List Sl} {E : DE} {ta tb tc te : TE} {u : TS} {d : PyData} {ds : List PyData} {i j k : Int} {A : Type} {f : A → PyData} {xs : List A} {x : A}
theorem at_map (h : atI xs i = some x) : atI (xs.map f) i = some (f x) := by
  unfold atI at h ⊢
  rw [List.length_map]
  cases hx : ixN xs.length i with
  | none =>
    rw [hx] at h
    cases h
  | some n =>
    rw [hx] at h
    show (xs.map f)[n]? = _
    rw [List.getElem?_map, show xs[n]? = some x from h]
    rfl
theorem d_ixM (ha : EvS K B0 H0 ta δ (.dat (.list (xs.map f)))) (hb : EvS K B0 H0 tb δ (nI i)) (h : atI xs i = some x) : EvS K B0 H0 (tOp (rIxL K) ta tb) δ (.dat (f x)) := d_ixL ha hb (at_map h)
theorem d_ixOM {n : Nat} (ho : δ[n]? = some (Sl.own (xs.map f))) (hb : EvS K B0 H0 tb δ (nI i)) (h : atI xs i = some x) : EvS K B0 H0 (tOp (rIxL K) (tVar n) tb) δ (.dat (f x)) := d_ixO ho hb (at_map h)
theorem d_max3 (h : EvS K B0 H0 ta δ (nI i)) (h2 : EvS K B0 H0 tb δ (nI j)) (h3 : EvS K B0 H0 tc δ (nI k)) : EvS K B0 H0 (tCB (rNuC3 nuMax3) (tCons ta (tCons tb (tCons tc tNil)))) δ (nI (max (max i j) k)) := fun B H σ S Q q =>
  h B H σ S _ fun v B1 H1 s1 i1 => h2 B1 H1 σ (S.go s1) _ fun w B2 H2 s2 i2 => h3 B2 H2 σ (S.go (s1.trans s2)) _ fun z B3 H3 s3 i3 => by
    cases i1
    cases i2
    cases i3
    refine ⟨.int i, .int j, .int k, .int (max (max i j) k), rfl, ?_, q _ B3 H3 ((s1.trans s2).trans s3) (Dt.int _)⟩
    by_cases a : i < j
    · have e1 : max i j = j := by omega
      rw [e1]
      have e2 : (nuMax2 (.int i) (.int j)) = some (.int j) := by
        show some (if decide (i < j) = true then V.int j else V.int i) = _
        rw [decide_eq_true a]
        rfl
      show (nuMax2 (.int i) (.int j)).bind _ = _
      rw [e2]
      show some (if decide (j < k) = true then V.int k else V.int j) = _
      by_cases b : j < k
      · rw [decide_eq_true b, show max j k = k by omega]
        rfl
      · rw [decide_eq_false b, show max j k = j by omega]
        rfl
    · have e1 : max i j = i := by omega
      rw [e1]
      have e2 : (nuMax2 (.int i) (.int j)) = some (.int i) := by
        show some (if decide (i < j) = true then V.int j else V.int i) = _
        rw [decide_eq_false a]
        rfl
      show (nuMax2 (.int i) (.int j)).bind _ = _
      rw [e2]
      show some (if decide (i < k) = true then V.int k else V.int i) = _
      by_cases b : i < k
      · rw [decide_eq_true b, show max i k = k by omega]
        rfl
      · rw [decide_eq_false b, show max i k = i by omega]
        rfl
/-- x not in xs, xs of its own -/
theorem d_niO {n : Nat} (ha : EvS K B0 H0 ta δ (.dat d)) (ho : δ[n]? = some (Sl.own ds)) (h1 : SeqAt.shaped d = true) (h2 : SeqAt.shaped (.list ds) = true) : EvS K B0 H0 (tOp (rNotInD K) ta (tVar n)) δ (nB (!ds.any fun z => PyData.eqv z d)) := fun B H σ S Q q =>
  ha B H σ S _ fun v B1 H1 s1 i1 => by
    obtain ⟨l, vs, g1, g2, g3, g4, g5⟩ := (S.go s1).own n ds ho
    have eb : Ex B1 (upd B1 l (.lst vs)) := Ex.new g3
    have bh : Ex (upd B1 l (.lst vs)) H1 := fun a o ha => by
      by_cases z : a = l
      · subst z
        rw [upd_same] at ha
        rw [g2]
        exact ha
      · rw [upd_ne z] at ha
        exact s1.bh a o ha
    exact ⟨.ref l, g1, d, ds, dp_mono s1.bh _ _ (dt_dp _ _ i1), dp_mono bh _ _ (dt_dp _ _ (Dt.lst upd_same (dts_mono eb _ _ g5))), h1, h2, q _ B1 H1 s1 (Dt.bl _)⟩
theorem d_niEO {A : Type} [DecidableEq A] {f : A → PyData} {x : A} {l : List A} {n : Nat} (h : Enc f) (ha : EvS K B0 H0 ta δ (.dat (f x))) (ho : δ[n]? = some (Sl.own (l.map f))) : EvS K B0 H0 (tOp (rNotInD K) ta (tVar n)) δ (nB (!decide (x ∈ l))) := d_isB (d_niO ha ho (h.shx x) (h.shl l)) (by rw [any_map h.eq x l])
theorem atI_prev {A : Type} {xs : List A} {z : A} (hz : xs.getLast? = some z) {k : Nat} (hk : k < xs.length) : atI xs ((k : Int) - 1) = (z :: xs)[k]? := by
  cases k with
  | zero =>
    show atI xs (-1) = some z
    rw [← hz, List.getLast?_eq_getElem?]
    have h1 : ixN xs.length (-1) = some (xs.length - 1) := by
      unfold ixN
      rw [if_neg (by omega)]
      first | rw [if_pos (by omega)] | skip
      congr 1
      omega
    unfold atI
    rw [h1]
    rfl
  | succ k =>
    show atI xs (((k + 1 : Nat) : Int) - 1) = xs[k]?
    rw [show ((k + 1 : Nat) : Int) - 1 = (k : Int) by omega]
    rw [List.getElem?_eq_getElem (show k < xs.length by omega)]
    exact atI_nat (List.getElem?_eq_getElem (show k < xs.length by omega))
/-- the item behind, going around -/
theorem atI_next {A : Type} {xs : List A} {k : Nat} (hk : k < xs.length) : ∃ x, x ∈ xs ∧ atI xs ((k : Int) + 1 - (xs.length : Int) * (((k : Int) + 1) / (xs.length : Int))) = some x := by
  have h0 : 0 < xs.length := by omega
  have h1 : (k + 1) % xs.length < xs.length := Nat.mod_lt _ h0
  have e : (k : Int) + 1 - (xs.length : Int) * (((k : Int) + 1) / (xs.length : Int)) = (((k + 1) % xs.length : Nat) : Int) := by
    rw [Int.natCast_emod, Int.emod_def, Int.natCast_add]
    rfl
  rw [e]
  exact ⟨xs[(k + 1) % xs.length], List.getElem_mem h1, atI_nat (List.getElem?_eq_getElem h1)⟩
theorem mul_div_ok {k n : Nat} (hn : n ≤ 1000) (hk : k ≤ 1000) : CMulX (n : Int) (((k : Int) + 1) / (n : Int)) := by
  have h1 : (((k : Int) + 1) / (n : Int)) = (((k + 1) / n : Nat) : Int) := by
    rw [Int.natCast_ediv, Int.natCast_add]
    rfl
  rw [h1]
  have h2 : (k + 1) / n ≤ k + 1 := Nat.div_le_self _ _
  generalize (k + 1) / n = m at h2 ⊢
  exact mulx_ok (a := 20) (b := 20) (by omega) (by omega) (by decide)
theorem r_newR {P : List PyData → Prop} (h : EvNR K B0 H0 te δ P) : EvR K B0 H0 te δ fun d => ∃ ds, P ds ∧ d = .list ds := fun B H σ S Q q => h B H σ S Q fun l vs ds B1 H1 p s1 f1 f2 f3 f4 => by
  have eb : Ex B1 (upd B1 l (.lst vs)) := Ex.new f2
  refine q _ _ (upd B1 l (.lst vs)) H1 ⟨ds, p, rfl⟩ ⟨s1.b.trans eb, fun a o ha => ?_, s1.h, fun a ha => ?_⟩ (.lst upd_same (dts_mono eb _ _ f4))
  · by_cases z : a = l
    · subst z
      rw [upd_same] at ha
      rw [f3]
      exact ha
    · rw [upd_ne z] at ha
      exact s1.bh a o ha
  · by_cases z : a = l
    · subst z
      exact .inr (.of f1)
    · rw [upd_ne z] at ha
      exact s1.n a ha
/-- a def called with one thing of which something is told -/
theorem r_call1 {A : Type} {enc : A → List Sl} {pre : A → Prop} {post : A → PyData → Prop} {R : XK} {P : PyData → Prop} (h : EvR K B0 H0 te δ P) (hh : ∀ d, P d → ∃ a, enc a = [.dat d] ∧ pre a) : EvR K B0 H0 (tCall (SpA K enc pre post) [] R (tCons te tNil)) δ fun d => ∃ a, pre a ∧ post a d := fun B H σ S Q q => h B H σ S _ fun v d B1 H1 p s1 i1 => by
  obtain ⟨a, e, hp⟩ := hh d p
  exact ⟨B1, a, s1.bh, by rw [List.append_nil, e]; exact .cons i1 .nil, hp, fun v2 d2 B2 H2 p2 st dv => q v2 d2 B2 H2 ⟨a, hp, p2⟩ (s1.trans st) dv⟩
/-- some answer -/
def EvBR (K : PySem.W.Frag) (B0 H0 : Hp) (tt : TT) (δ : List Sl) : Prop := ∀ B H σ, Sc K B0 H0 B H σ δ → ∀ Q : Bool → Hp → Prop, (∀ b B' H', Stp B H B' H' → Q b H') → tt σ H Q
theorem br_val (h : EvR K B0 H0 te δ fun d => ∃ b, d = .bool b) : EvBR K B0 H0 (tB te) δ := fun B H σ S Q q => h B H σ S _ fun v d B1 H1 ⟨b, e⟩ s1 i1 => by
  subst e
  cases i1
  exact ⟨b, rfl, q b B1 H1 s1⟩
theorem br_not {tt : TT} (h : EvBR K B0 H0 tt δ) : EvBR K B0 H0 (tNot tt) δ := fun B H σ S Q q => h B H σ S _ fun b B1 H1 s1 => q _ B1 H1 s1
theorem sd_ifBR {tt : TT} {t u : TS} (h : EvBR K B0 H0 tt δ) (h1 : SD K B0 H0 W t δ E) (h2 : SD K B0 H0 W u δ E) : SD K B0 H0 W (tIfS tt t u) δ E := fun D B H σ S L => h B H σ S _ fun b B1 H1 s1 => by
  cases b with
  | true => exact h1 D B1 H1 σ (S.go s1) (L.mono s1.b)
  | false => exact h2 D B1 H1 σ (S.go s1) (L.mono s1.b)
def rInsD : V → List V → Hp → VK → Prop := fun x vs H Q => ∃ (l : Addr) (xs : List V) (i : Int) (y : V), x = .ref l ∧ vs = [.int i, y] ∧ H l = some (.lst xs) ∧ xs.length < sizeLine ∧ 0 ≤ i ∧ i < 2 ^ 63 ∧ Q .non (upd H l (.lst (xs.take i.toNat ++ [y] ++ xs.drop i.toNat)))
theorem mt_insD {X : Cx} : MtR X "list.insert" rInsD := mt_insert
/-- xs.insert(m, e), xs of its own -/
theorem sd_ins {n m : Nat} (hn : δ[n]? = some (Sl.own ds)) (hi : EvS K B0 H0 tb δ (nI (m : Int))) (h : EvS K B0 H0 te δ (.dat d)) (hz : ds.length < 100000) (hm : m ≤ 100000) (k : E.nx (δ.set n (.own (ds.take m ++ [d] ++ ds.drop m)))) : SD K B0 H0 W (tDrop (tBM K "list" rInsD (tVar n) (tCons tb (tCons te tNil)))) δ E := fun D B H σ S L => by
  obtain ⟨l, vs, h1, h2, h3, h4, h5⟩ := S.own n ds hn
  refine ⟨.ref l, h1, .inl ⟨rfl, _, sq_of h2⟩, hi B H σ S _ fun w B1 H1 s1 i1 => h B1 H1 σ (S.go s1) _ fun v B2 H2 s2 i2 => ?_⟩
  cases i1
  have s := s1.trans s2
  obtain ⟨l', ws, g1, g2, g3, g4, g5⟩ := (S.go s).own n ds hn
  rw [h1] at g1
  cases Option.some.inj (Option.some.inj g1)
  refine ⟨l, ws, (m : Int), v, rfl, rfl, g2, by rw [g5.len]; exact sz_lt hz, by omega, by have : (100000 : Int) < 2 ^ 63 := by decide
                                                                                          omega, ?_⟩
  refine L.nx B2 _ σ _ s.b ((S.go s).mut hn h1 ?_) k
  rw [Int.toNat_natCast]
  exact ((g5.take m).app (.cons i2 .nil)).app (g5.drop m)
/-- xs.pop(), xs of its own -/
theorem sd_pop {n : Nat} {e : PyData} (hn : δ[n]? = some (Sl.own (ds ++ [e]))) (k : E.nx (δ.set n (.own ds))) : SD K B0 H0 W (tDrop (tBM0 K "list" rPop (tVar n))) δ E := fun D B H σ S L => by
  obtain ⟨l, vs, h1, h2, h3, h4, h5⟩ := S.own n _ hn
  have hl := h5.len
  rw [List.length_append] at hl
  have hlt : vs.length - 1 < vs.length := by
    have : [e].length = 1 := rfl
    omega
  refine ⟨.ref l, h1, .inl ⟨rfl, _, sq_of h2⟩, l, vs, vs[vs.length - 1], rfl, rfl, h2, List.getElem?_eq_getElem hlt, ?_⟩
  refine L.nx B _ σ _ (.refl _) (S.mut hn h1 ?_) k
  have h6 := h5.take (vs.length - 1)
  rw [List.dropLast_eq_take]
  have e1 : (ds ++ [e]).take (vs.length - 1) = ds := by
    have : [e].length = 1 := rfl
    rw [show vs.length - 1 = ds.length by omega, List.take_left]
  rwa [e1] at h6
end
end Ja

/-! Own rule: a list comprehension whose element may raise. -/
namespace Lx
open PySem PySem.Spec PyProof.Rows L2
/-- what is wanted of an exception that leaves a comprehension's block, its own variables let go -/
def errX (M : Model) (A : Around) (E : Value → Shared → Prop) (ce : Env) (x : Value) (t : Shared) : Prop :=
  ∃ m, t.heap.Ns ce.locals m ∧ ∀ g, Heap.SameBut ce.locals t.heap g → wpAny M A (PySem.passOn "comprehension.variables-let-go" x ce : Sem Value) (fun _ _ => False) E { t with heap := g }
def postX (M : Model) (A : Around) (E : Value → Shared → Prop) (use : Option (Value → Sem Unit)) (Q : Value → Shared → Prop) (acc : Value) (ce : Env) (r : Result) (t : Shared) : Prop :=
  match r with
  | .ok _ => compPost M A E use Q acc ce.locals (.ok .next) t
  | .error x => errX M A E ce x t
section
variable {M : Model} {A : Around} {E : Value → Shared → Prop} {s : Shared} {env : Env}
theorem comp_freeX {e : Expr} {scope : Scope} {pos : Pos} {newAcc first : Sem Value} {g : Comprehension} {gs : List Comprehension} {cl : List (Str × Addr)} {use : Option (Value → Sem Unit)} {Q : Value → Shared → Prop} (hcl : clausesOf e = g :: gs) (hs : ∀ x, foldedSetIterable g.iter env x = pure x) (hclos : closureFor scope env = pure cl) (hkind : scope.kind = .function) (hnames : ∀ x ∈ scope.names, x.2 = .local → scope.names.lookup x.1 = some .local)
    (h : wpAny M A first (fun x t1 => wpAny M A (pyIter x) (fun it t2 => wpAny M A newAcc (fun acc t3 => wpAny M A (newFunctionEnv scope env.globals cl [] env.qual none .none (some env)) (fun ce t4 => codeAny M A (.compStart e 0 it acc { ce with scope := relabel scope env }) (postX M A E use Q acc { ce with scope := relabel scope env }) t4) E t3) E t2) E t1) E s) : wpAny M A (comprehension e scope env pos newAcc false first use) Q E s := by
  unfold comprehension
  rw [hclos, hcl]
  refine wpAny_bind (wpAny_mono h (fun x t1 k1 => wpAny_bind (wpAny_standAt (wpAny_bind (wpAny_of_eq (hs x) (wpAny_bind (wpAny_holding (wpAny_mono k1 (fun it t2 k2 => wpAny_standIf (wpAny_bind (wpAny_mono k2 (fun acc t3 k3 => wpAny_bind (wpAny_pure (wpAny_bind (wpAny_mono k3 (fun ce t4 k4 => ?_) fun _ _ z => z)))) fun _ _ z => z))) fun _ _ z => z))))))) fun _ _ z => z)
  dsimp only
  have hv : ∀ x ∈ (scope.names.filter fun x => (x.2 == .local || x.2 == .cell) && x.1 != (".0" : Str)).reverse, x.2 = .local → Env.kindOf { ce with scope := relabel scope env } x.1 = some .local := fun x hx hl => lookup_relabel_local (hnames x (List.mem_filter.mp (List.mem_reverse.mp hx)).1 hl)
  have hv2 : ∀ x ∈ (scope.names.filter fun x => (x.2 == .local || x.2 == .cell) && x.1 != (".0" : Str)).reverse.drop 1 ++ (scope.names.filter fun x => (x.2 == .local || x.2 == .cell) && x.1 != (".0" : Str)).reverse.take 1, x.2 = .local → Env.kindOf { ce with scope := relabel scope env } x.1 = some .local := fun x hx hl => (List.mem_append.mp hx).elim (fun z => hv x (List.mem_of_mem_drop z) hl) fun z => hv x (List.mem_of_mem_take z) hl
  refine wpAny_holding (wpAny_bind (wpAny_attempt (wpAny_holding (wpAny_run (codeAny_mono k4 fun r t hr => ?_)))))
  cases r with
  | ok f =>
    cases use with
    | none =>
      obtain ⟨m, hn, hr⟩ := hr
      exact wpAny_bind (wpAny_holding (wpAny_comp_letGo (cenv := { ce with scope := relabel scope env }) hkind _ t m hv hn fun g m' _ z => wpAny_pure (hr g z)))
    | some u =>
      refine wpAny_bind (wpAny_rule (wpAny_bind (wpAny_holding (wpAny_mono hr (fun _ t5 k5 => ?_) fun _ _ z => z))))
      obtain ⟨m, hn, k6⟩ := k5
      exact wpAny_bind (wpAny_comp_letGo (cenv := { ce with scope := relabel scope env }) hkind _ t5 m hv2 hn fun g m' _ z => wpAny_pure (k6 g z))
  | error x =>
    obtain ⟨m, hn, hr⟩ := hr
    exact wpAny_bind (wpAny_holding (wpAny_comp_letGo (cenv := { ce with scope := relabel scope env }) hkind _ t m hv hn fun g m' _ z => wpAny_mono (hr g z) (fun _ _ f => f.elim) fun _ _ y => y))
theorem note_env {x : Value} {e1 e2 : Env} (h : e1.frame = e2.frame) : noteFrame x e1 = noteFrame x e2 := by
  unfold noteFrame PySem.frameOf
  rw [h]
theorem pass_env {α : Type} {w : String} {x : Value} {e1 e2 : Env} (h : e1.frame = e2.frame) : (PySem.passOn w x e1 : Sem α) = passOn w x e2 := by
  unfold PySem.passOn
  rw [h]
theorem frames_but {C : Addr} {h g B B' : Heap} (k : ∀ b, b ≠ C → g.get? b = h.get? b) (kb : ∀ b, B.get? b = none → B'.get? b = none) : ∀ {l : List Env}, C ∉ frs l → h.FunFrames B l → g.FunFrames B' l
  | [], _, _ => trivial
  | e :: l, hC, hl => by
    obtain ⟨hk, ⟨L, o, hf, hn, ho, hd⟩, hr⟩ := hl
    have hm : L ∈ frs (e :: l) := List.mem_filterMap.mpr ⟨e, List.mem_cons_self, hf⟩
    refine ⟨hk, ⟨L, o, hf, kb L hn, (k L fun z => hC (z ▸ hm)).trans ho, hd⟩, frames_but k kb (fun z => hC ?_) hr⟩
    obtain ⟨e2, he, q⟩ := List.mem_filterMap.mp z
    exact List.mem_filterMap.mpr ⟨e2, List.mem_cons_of_mem _ he, q⟩
end
section
variable {X : Cx} {pins pins' : List (Addr × Obj)} {σ σ' : L2.St} {H H' : Hp} {s s' : Shared} {W : WX} {E : XK}
/-- a call's exception is in our air, and flies -/
theorem air_of_call (I : Inv X pins σ H s) {u : Value} (c : L2.CX X.prog X.w X.stack H s E u s') : ∃ (a : Addr) (B : Heap) (sI : Shared) (pins : List (Addr × Obj)) (σ2 : L2.St) (H2 : Hp) (cls : Value) (d : Option Addr),
    u = .ref a ∧ Inv X pins σ2 H2 sI ∧ (∀ b o, sI.heap.get? b = some o → b ∉ frs X.stack → B.get? b = some o) ∧ sI.heap.UpToSlots s'.heap ∧ HandSPX.FlyingZ B X.stack a (Zc cls d) s'.heap ∧ H2 a = none ∧ s'.os = sI.os ∧ AllBare s'.gens ∧ E cls d H2 := by
  obtain ⟨a0, B0, H0, cls0, d0, e0, fl0, _⟩ := id c
  obtain ⟨a, B, sI, p2, σ2, H2, cls, d, e1, I2, nb, up, sky, na, os, ag, w⟩ := XE.of_call (W := fun cls d _ H => E cls d H) I (fun _ _ _ h => h) c
  rw [e0] at e1
  cases e1
  obtain ⟨_, _, _, oe, vs, T, oT, ts, he, _, hd, h1, _, _, hT, hdT, h3⟩ := fl0
  refine ⟨a0, B, sI, p2, σ2, H2, cls, d, e0, I2, nb, up, ?_, na, os, ag, w⟩
  rcases sky with ⟨_, _, _, oe2, vs2, he2, _, hd2, h12⟩ | fl | ⟨_, _, _, oe2, vs2, T2, oT2, ts2, he2, _, hd2, h12, _, _, hT2, hdT2, h32⟩
  · rw [he] at he2
    cases he2
    rw [hd] at hd2
    cases hd2
    rw [h1] at h12
    cases h12
  · exact fl
  · rw [he] at he2
    cases he2
    rw [hd] at hd2
    cases hd2
    rw [h1] at h12
    cases h12
    rw [hT] at hT2
    cases hT2
    rw [hdT] at hdT2
    cases hdT2
    rw [h3] at h32
    cases h32
abbrev blkX (X : Cx) (s : Shared) (H : Hp) (scope : Scope) (ce : Env) (fp : List Addr) (xe : Value → Shared → Prop) : Cx := (X.blk s H scope ce fp).wish xe
theorem passes_comp {ce : Env} {fp : List Addr} {s3 : Shared} {H3 : Hp} {scope : Scope} {σ2 : L2.St} (hs : X.stack = X.env :: X.outer) (hf : X.env.frame = some X.env.locals) (hcf : ce.frame = X.env.frame) (hC : ce.locals = s3.heap.objs.size) (I3 : Inv X pins σ H3 s3)
    (hfp : ∀ b ∈ fp, (b ∈ X.ex ∨ X.s_0.heap.objs.size ≤ b) ∧ b ≠ X.env.locals ∧ (∀ x c, X.env.cells.lookup x = some c → c ≠ b) ∧ ∀ p ∈ X.pn ++ pins, p.1 ≠ b) (tk : Takes X W) : PassesAt (L2.CX X.prog X.w) (blkX X s3 H3 scope ce fp (notedBy (model X.prog X.w) X.A ce (errX (model X.prog X.w) X.A X.xe ce))) σ2 (fun cls d H => W cls d σ H) := by
  intro p1 H1 s1 u s2 I1 c
  obtain ⟨a, B, sI, p2, σ3, H2, cls, d, rfl, I2, nb, up, fl, na, os, ag, w⟩ := air_of_call I1 c
  have hfr : X.A.frames = some (X.env :: X.outer) := by rw [I3.ok.frames, hs]
  have fl : HandSPX.FlyingZ B X.stack a (Zc cls d) s2.heap := fl
  have hCs : ce.locals ∉ frs X.stack := by
    have f := I3.fpOk (H' := fun _ => none) (b := s3.heap.objs.size) (Nat.le_refl _) rfl
    rw [hC, hs]
    intro hm
    obtain ⟨e2, he, q⟩ := List.mem_filterMap.mp hm
    rcases List.mem_cons.mp he with z | z
    · rw [z, hf] at q
      exact f.2.1 (Option.some.inj q).symm
    · exact f.2.2.1 (List.mem_filterMap.mpr ⟨e2, z, q⟩)
  show notedBy _ _ ce _ (.ref a) s2
  unfold notedBy
  rw [note_env hcf]
  rw [hs] at fl
  refine HandSPX.looks_onZ Zc.steady hfr hf fl fun h1 hh1 up1 => ?_
  rw [← hs] at hh1
  obtain ⟨m, hm, _⟩ := I2.loc
  have hm : sI.heap.Ns ce.locals m := hm
  refine ⟨m, hm.at' fun o eo => hh1.1 _ o (nb _ o eo hCs), fun g sb => ?_⟩
  rw [pass_env hcf]
  have hold : HandSPX.HeldZ (PySem.W.hideAll B [ce.locals]) X.stack a (Zc cls d) X.env.locals g := by
    obtain ⟨k1, k2, k3, oe, vs, T, oT, ts, he, hz, hd, q1, hnT, hTe, hT, hdT, q3⟩ := hh1
    have off : ∀ b, B.get? b = none → (PySem.W.hideAll B [ce.locals]).get? b = none := fun b e => by
      cases q : (PySem.W.hideAll B [ce.locals]).get? b with
      | none => rfl
      | some o =>
        have z := PySem.W.of_hideAll _ q
        rw [e] at z
        cases z
    have hB : ∃ o, B.get? ce.locals = some o := by
      obtain ⟨o, es, ep, ho, _⟩ := hm
      exact ⟨o, nb _ o ho hCs⟩
    obtain ⟨oC, hBC⟩ := hB
    refine ⟨fun b o e => ?_, off a k2, frames_but sb.2 off hCs k3, oe, vs, T, oT, ts, (sb.2 a fun z => ?_).trans he, hz, hd, q1, off T hnT, hTe, (sb.2 T fun z => ?_).trans hT, hdT, q3⟩
    · have hb : b ≠ ce.locals := fun z => by
        rw [z, PySem.W.hideAll_none _ (List.mem_singleton.mpr rfl)] at e
        cases e
      exact (sb.2 b hb).trans (k1 b o (PySem.W.of_hideAll _ e))
    · rw [z, hBC] at k2
      cases k2
    · rw [z, hBC] at hnT
      cases hnT
  obtain ⟨k1, k2, k3, oe, vs, T, oT, ts, he, hz, hd, q1, hnT, hTe, hT, hdT, q3⟩ := id hold
  unfold PySem.passOn
  refine wpAny_bind (wpAny_field he hd q1 ?_)
  rw [if_neg (show ¬ ((Value.ref T == Value.none) = true) from by simp)]
  have fin : wpAny (model X.prog X.w) X.A (setFlight (.ref a) X.env.frame) (fun _ s4 => wpAny (model X.prog X.w) X.A (throw (.ref a) : Sem Value) (fun _ _ => False) X.xe s4) X.xe { s2 with heap := g } := by
    rw [hf]
    refine HandSPX.setFlight_onZ hold fun h4 hh4 up4 => wpAny_throw (tk _ _ ?_)
    have hid : ∀ b o, (PySem.W.hideAll sI.heap [ce.locals]).get? b = some o → sI.heap.get? b = some o ∧ b ≠ ce.locals := fun b o e => ⟨PySem.W.of_hideAll _ e, fun z => by
      rw [z, PySem.W.hideAll_none _ (List.mem_singleton.mpr rfl)] at e
      cases e⟩
    have keep : ∀ b o, sI.heap.get? b = some o → b ≠ ce.locals → (PySem.W.hideAll sI.heap [ce.locals]).get? b = some o := fun b o e n => PySem.W.hideAll_get _ e fun z => n (List.mem_singleton.mp z)
    have old : ∀ b o, s3.heap.get? b = some o → b ≠ ce.locals := fun b o e z => by
      have := Heap.lt_size e
      rw [z, hC] at this
      exact Nat.lt_irrefl _ this
    have fC : H2 ce.locals = none := I2.free
    have u2 : Un (frs X.stack) fp H3 H2 s3.heap (PySem.W.hideAll sI.heap [ce.locals]) := ⟨fun b o e n nf nx => keep b o (I2.base.keep b o e n nf nx) (old b o e), fun b o e n hb nx => by
        obtain ⟨sl, q⟩ := I2.base.slot b o e n hb nx
        exact ⟨sl, keep b _ q (old b o e)⟩, fun b o e n nx => I2.base.free b o e n nx, fun b o e nx => by
        obtain ⟨o', q⟩ := I2.base.there b o e nx
        exact ⟨o', keep b o' q (old b o e)⟩, I2.base.tups, I2.base.frzs, I2.base.tbls⟩
    have hok2 : HOk X.prog X.w H2 (PySem.W.hideAll sI.heap [ce.locals]) := fun b o q => (I2.hok b o q).stay (fun c v hc r => keep c v r fun z => by
      rcases hc with y | y
      · rw [z] at y
        rw [y, q] at fC
        cases fC
      · rw [z, fC] at y
        cases y) (fun _ r => r) fun _ _ r => r
    have J : Inv X pins σ H2 { sI with heap := PySem.W.hideAll sI.heap [ce.locals] } := I3.call' (ch := fp) I2.os u2 hok2 I2.bare hfp
    refine ⟨a, PySem.W.hideAll B [ce.locals], { sI with heap := PySem.W.hideAll sI.heap [ce.locals] }, pins, σ, H2, cls, d, rfl, J, fun b o e nf => ?_, fun b o e nfl => ?_, .inr (.inr hh4), na, os, ag, w⟩
    · obtain ⟨e1, n1⟩ := hid b o e
      exact PySem.W.hideAll_get _ (nb b o e1 nf) fun z => n1 (List.mem_singleton.mp z)
    · obtain ⟨e1, n1⟩ := hid b o e
      obtain ⟨sl1, r1⟩ := up b o e1 nfl
      obtain ⟨sl2, r2⟩ := up1 b _ r1 nfl
      obtain ⟨sl3, r3⟩ := up4 b _ ((sb.2 b n1).trans r2) nfl
      exact ⟨sl3, r3⟩
  first
    | exact wpAny_bind (wpAny_pure (wpAny_bind fin))
    | exact wpAny_bind fin
end
/-- [elt for target in iter if ..], the element may raise what W takes -/
def tLcX (W : WX) (wi : TI) (g : TG) (tt : TT) (te : XK → TE) (vs : List Nat) : TE := fun σ H Q => tLc wi g tt (te fun cls d H' => W cls d σ H') vs σ H Q
theorem lc_coreX {X : Cx} {W : WX} {pins : List (Addr × Obj)} {s : Shared} {σ : L2.St} {H : Hp} {Q : VK} {elt tg iter : Expr} {ifs : List Expr} {scope : Scope} {own : List (Str × Nat)} {pos pos' : Pos} {wi : TI} {g : TG} {tt : TT} {te : XK → TE} {use : Option (Value → Sem Unit)} {Qf : Value → Shared → Prop}
    (hs1 : X.stack = X.env :: X.outer) (hf : X.env.frame = some X.env.locals) (tk : Takes X W) (hc : X.calm = true) (hN : X.N.Nodup) (I : Inv X pins σ H s) (hi : PI X tg iter wi) (ok : BlkOk X.N X.env.scope scope own)
    (hg : ∀ (s : Shared) (H : Hp) (C : Addr) (cl : List (Str × Addr)) (fp : List Addr) (xe : Value → Shared → Prop), PG (blkX X s H scope (compEnvC scope cl C X.env) fp xe) tg g) (ht : ∀ (s : Shared) (H : Hp) (C : Addr) (cl : List (Str × Addr)) (fp : List Addr) (xe : Value → Shared → Prop), PTs (blkX X s H scope (compEnvC scope cl C X.env) fp xe) ifs tt)
    (he : ∀ (s : Shared) (H : Hp) (C : Addr) (cl : List (Str × Addr)) (fp : List Addr) (xe : Value → Shared → Prop) (E0 : XK), (∀ σ', PassesAt (L2.CX X.prog X.w) (blkX X s H scope (compEnvC scope cl C X.env) fp xe) σ' E0) → PE (blkX X s H scope (compEnvC scope cl C X.env) fp xe) elt (te E0)) (hs : ∀ x, foldedSetIterable iter X.env x = pure x)
    (h : tLcX W wi g tt te (own.map (·.2)) σ H Q)
    (hRR : ∀ D C s' m H', Inv X pins σ H' s' → Q (.ref D) H' → s'.heap.Ns C m → FpOk X pins H' C → compPost (model X.prog X.w) X.A X.xe use Qf (.ref D) C (.ok .next) s') :
    wpAny (model X.prog X.w) X.A (comprehension (.ListComp elt [⟨tg, iter, ifs, 0⟩] scope pos) scope X.env pos' (newList []) false (eval iter X.env) use) Qf X.xe s := by
  have hfree : ∀ y ∈ scope.names, y.2 = .free → ∃ c, X.env.cells.lookup y.1 = some c := fun y hy e => by
    rcases ok.free y hy e with k | k
    · exact I.ok.has _ (.inl k)
    · exact I.ok.has _ (.inr k)
  refine comp_freeX (use := use) rfl hs (closure_ok hfree) ok.kind (fun y hy e => by rw [ok.uniq y hy, e])
    (thn (hi.run pins s σ H _ I h) fun xv z1 hx => thn hx fun itv z2 h2 => ?_)
  obtain ⟨it, fp, tn, J, G2, e, v2, T, kt2, ff2, q⟩ := h2
  subst e
  refine wpAny_newObj_type (newEnv_comp ?_) (by show 0 ≤ sizeLine; decide)
  generalize hD : z2.heap.objs.size = D
  have hDn : G2 D = none := v2.hok.fresh (Nat.le_of_eq hD)
  obtain ⟨Ms, ⟨m0, ms0⟩, turn⟩ := q D hDn
  generalize hs3 : ({ z2 with heap := z2.heap.push { cls := .type "list", data := .seq ([] : List Value).toArray } } : Shared) = z3
  have v3 : Inv X pins σ (upd G2 D (.lst [])) z3 := by
    rw [← hs3]
    refine v2.laid (t' := z2.toks) (fun b o e => Heap.get?_push_of_some _ e) (Nat.le_of_eq hD) ⟨Nat.zero_le _, [], 0, .nil, ?_⟩
    rw [← hD]
    exact Heap.get?_push_size _ rfl
  have h3 : z3.heap = z2.heap.push { cls := .type "list", data := .seq ([] : List Value).toArray } := by rw [← hs3]
  have sz : ∀ b ∈ fp, b < z2.heap.objs.size := fun b hb => by
    obtain ⟨o, e, _⟩ := T.obj _ _ kt2 b hb
    exact Heap.lt_size e
  have ff3 : ∀ b ∈ fp, FpOk X pins (upd G2 D (.lst [])) b ∧ b < z3.heap.objs.size := fun b hb => by
    have hlt := sz b hb
    refine ⟨⟨?_, (ff2 b hb).2⟩, by rw [h3, Heap.size_push]; exact Nat.lt_succ_of_lt hlt⟩
    rw [upd_ne (by rw [← hD]; exact Nat.ne_of_lt hlt)]
    exact (ff2 b hb).1
  have kt3 : tn 0 z3.heap := T.keep _ _ _ kt2 fun b _ o e => by rw [h3]; exact Heap.get?_push_of_some _ e
  have v4 := block_start v3 ok hN ff3
  have pg := hg z3 (upd G2 D (.lst [])) z3.heap.objs.size (cellsFrom (z3.heap.objs.size + 1) scope.names (cloFrom X.env.cells scope.names [])) fp
  have pt := ht z3 (upd G2 D (.lst [])) z3.heap.objs.size (cellsFrom (z3.heap.objs.size + 1) scope.names (cloFrom X.env.cells scope.names [])) fp
  have pe := he z3 (upd G2 D (.lst [])) z3.heap.objs.size (cellsFrom (z3.heap.objs.size + 1) scope.names (cloFrom X.env.cells scope.names [])) fp
  show codeAny _ _ (.compStart (.ListComp elt [⟨tg, iter, ifs, 0⟩] scope pos) 0 (.ref it) (.ref D) (compEnvC scope (cellsFrom (z3.heap.objs.size + 1) scope.names (cloFrom X.env.cells scope.names [])) z3.heap.objs.size X.env)) (postX (model X.prog X.w) X.A X.xe use Qf (.ref D) (compEnvC scope (cellsFrom (z3.heap.objs.size + 1) scope.names (cloFrom X.env.cells scope.names [])) z3.heap.objs.size X.env)) { z3 with heap := pushCells (z3.heap.push { cls := .type "dict", data := .dict #[] }) scope.names }
  have nfp : ∀ b ∈ fp, (upd G2 D (.lst [])) b = none := fun b hb => (ff3 b hb).1.1
  generalize hce : compEnvC scope (cellsFrom (z3.heap.objs.size + 1) scope.names (cloFrom X.env.cells scope.names [])) z3.heap.objs.size X.env = ce at v4 pg pt pe ⊢
  have cL : ce.locals = z3.heap.objs.size := by subst hce; rfl
  have cF : ce.frame = X.env.frame := by subst hce; rfl
  generalize hH3 : upd G2 D (.lst []) = G3 at v3 v4 pg pt pe ms0 nfp ff3
  have hps : ∀ σ2, PassesAt (L2.CX X.prog X.w) (blkX X z3 G3 scope ce fp (notedBy (model X.prog X.w) X.A ce (errX (model X.prog X.w) X.A X.xe ce))) σ2 (fun cls d H => W cls d σ H) := fun σ2 => passes_comp hs1 hf cF cL v3 (fun b hb => ⟨(ff3 b hb).1.2.2.2.1, (ff3 b hb).1.2.1, (ff3 b hb).1.2.2.2.2.1, (ff3 b hb).1.2.2.2.2.2⟩) tk
  generalize hs4 : ({ z3 with heap := pushCells (z3.heap.push { cls := .type "dict", data := .dict #[] }) scope.names } : Shared) = z4 at v4 ⊢
  have kt4 : tn 0 z4.heap := T.keep _ _ _ kt3 fun b _ o e => by rw [← hs4]; exact pushCells_keeps _ _ _ _ (Heap.get?_push_of_some _ e)
  replace pg := pg (notedBy (model X.prog X.w) X.A ce (errX (model X.prog X.w) X.A X.xe ce))
  replace pt := pt (notedBy (model X.prog X.w) X.A ce (errX (model X.prog X.w) X.A X.xe ce))
  replace pe := pe _ _ hps
  replace v4 := v4.wish (notedBy (model X.prog X.w) X.A ce (errX (model X.prog X.w) X.A X.xe ce))
  generalize hxe : notedBy (model X.prog X.w) X.A ce (errX (model X.prog X.w) X.A X.xe ce) = xe at pg pt pe v4
  have stat : ∀ {σ' : L2.St} {H' : Hp} {s' : Shared}, Inv (blkX X z3 G3 scope ce fp xe) [] σ' H' s' → (∀ b ∈ fp, H' b = none) → ∀ b ∈ fp, FpOk (blkX X z3 G3 scope ce fp xe) [] H' b := fun {σ' H' s'} I' hn b hb =>
    ⟨hn b hb, (I'.ok.exf b hb).1, I'.ok.exfs b hb, .inl hb, fun x c e => (I'.ok.exf b hb).2 x c e, fun p hp => absurd (show p ∈ ([] : List (Addr × Obj)) ++ [] from hp) (by simp)⟩
  have loop : codeAny (model X.prog X.w) X.A (.compLoop (.ListComp elt [⟨tg, iter, ifs, 0⟩] scope pos) 0 (.ref it) (.ref D) ce) (postX (model X.prog X.w) X.A X.xe use Qf (.ref D) ce) z4 := by
    have hxe2 : notedBy (model X.prog X.w) X.A ce (fun e s' => postX (model X.prog X.w) X.A X.xe use Qf (.ref D) ce (.error e) s') = xe := hxe
    refine compLoop_any (fun n s' => ∃ i H', Inv (blkX X z3 G3 scope ce fp xe) [] (wipe σ (own.map (·.2))) H' s' ∧ tn i s'.heap ∧ (∀ b ∈ fp, H' b = none) ∧ Ms i n H') ?_ m0 ⟨0, G3, v4, kt4, nfp, ms0⟩
    rintro n z5 ⟨i, G5, v5, kt5, nn5, ms5⟩
    rw [hxe2]
    rcases turn i n G5 ms5 with ⟨stop, qq⟩ | ⟨go, Nx, hNx, step⟩
    · have td := T.done (blkX X z3 G3 scope ce fp xe) rfl rfl rfl hc i [] z5 _ G5 xe v5 (stat v5 nn5) kt5 stop
      refine thn td fun r z6 ⟨hr, v6⟩ => ?_
      subst hr
      have v7 : Inv X pins σ G5 z6 := v3.call' (ch := fp) v6.os v6.base v6.hok v6.bare fun b hb => ⟨(ff3 b hb).1.2.2.2.1, (ff3 b hb).1.2.1, (ff3 b hb).1.2.2.2.2.1, (ff3 b hb).1.2.2.2.2.2⟩
      have nC : G5 z3.heap.objs.size = none := by
        have z : G5 ce.locals = none := v6.free
        rw [cL] at z
        exact z
      obtain ⟨m, hn, _⟩ := v6.loc
      have hn : z6.heap.Ns ce.locals m := hn
      rw [cL] at hn
      have fin1 := hRR D z3.heap.objs.size z6 m G5 v7 qq hn (v3.fpOk (Nat.le_refl _) nC)
      rw [← cL] at fin1
      exact fin1
    · have ti := T.item (blkX X z3 G3 scope ce fp xe) rfl rfl rfl hc i [] z5 _ G5 xe v5 (stat v5 nn5) kt5 go
      refine thn ti fun r z6 ⟨u, hr, h6⟩ => ?_
      subst hr
      refine thn h6 fun _ z7 ⟨x, G7, v7, rv7, y7, kt7, nn7⟩ => ?_
      have v7' := v7.pinned (stat v7 nn7) (T.obj _ _ kt7)
      refine thn (pg.run _ z7 _ G7 x u _ v7' rv7 (step x G7 y7)) fun _ z8 ⟨σ8, G8, v8, hw8, qu8⟩ => ?_
      refine thn (pt.run _ z8 σ8 G8 _ v8 qu8) fun b z9 ⟨G9, v9, qu9⟩ => ?_
      have fin : ∀ {s' : Shared} {H' : Hp}, Inv (blkX X z3 G3 scope ce fp xe) ([] ++ pinsAt fp z7.heap) σ8 H' s' → Nx H' → ∃ m, m < n ∧ ∃ i H', Inv (blkX X z3 G3 scope ce fp xe) [] (wipe σ (own.map (·.2))) H' s' ∧ tn i s'.heap ∧ (∀ b ∈ fp, H' b = none) ∧ Ms i m H' := fun {s' H'} I' nx => by
        obtain ⟨m', hm, w'⟩ := hNx H' nx
        have pin' : ∀ b ∈ fp, ∀ o, z7.heap.get? b = some o → s'.heap.get? b = some o ∧ H' b = none := fun b hb o e =>
          let z := I'.pin (b, o) (List.mem_append_right _ (List.mem_append_right _ (mem_pinsAt hb e)))
          ⟨z.1, z.2.1⟩
        have hl : (wipe σ (own.map (·.2))).length = σ8.length := by rw [← hw8, wipe_length]
        refine ⟨m', hm, i + 1, H', (I'.unpinned (pins := [])).weak hl (fun j v e => ?_), T.keep _ _ _ kt7 fun b hb o e => (pin' b hb o e).1, fun b hb => ?_, w'⟩
        · rw [← hw8] at e
          exact (wipe_some e).1
        · obtain ⟨o, e, _⟩ := T.obj _ _ kt7 b hb
          exact (pin' b hb o e).2
      cases b with
      | false =>
        simp only [Bool.false_eq_true, if_false] at qu9 ⊢
        exact fin v9 qu9
      | true =>
        simp only [if_true] at qu9 ⊢
        refine thn (pe.run _ z9 σ8 G9 _ v9 qu9) fun z z10 ⟨yv, G10, v10, rv10, acc, hD10, hz10, nx⟩ => ?_
        exact app_ok (X := blkX X z3 G3 scope ce fp xe) v10 hD10 hz10 rv10 fun z11 v11 => fin v11 nx
  exact codeAny_compStart_list loop (T.self X.A 0 _ _ _ kt4 loop)
/-- as a value -/
theorem pe_lcX {X : Cx} {W : WX} {elt tg iter : Expr} {ifs : List Expr} {scope : Scope} {own : List (Str × Nat)} {pos : Pos} {wi : TI} {g : TG} {tt : TT} {te : XK → TE} (hs1 : X.stack = X.env :: X.outer) (hf : X.env.frame = some X.env.locals) (tk : Takes X W) (hc : X.calm = true) (hN : X.N.Nodup) (hi : PI X tg iter wi) (ok : BlkOk X.N X.env.scope scope own)
    (hg : ∀ (s : Shared) (H : Hp) (C : Addr) (cl : List (Str × Addr)) (fp : List Addr) (xe : Value → Shared → Prop), PG (blkX X s H scope (compEnvC scope cl C X.env) fp xe) tg g) (ht : ∀ (s : Shared) (H : Hp) (C : Addr) (cl : List (Str × Addr)) (fp : List Addr) (xe : Value → Shared → Prop), PTs (blkX X s H scope (compEnvC scope cl C X.env) fp xe) ifs tt)
    (he : ∀ (s : Shared) (H : Hp) (C : Addr) (cl : List (Str × Addr)) (fp : List Addr) (xe : Value → Shared → Prop) (E0 : XK), (∀ σ', PassesAt (L2.CX X.prog X.w) (blkX X s H scope (compEnvC scope cl C X.env) fp xe) σ' E0) → PE (blkX X s H scope (compEnvC scope cl C X.env) fp xe) elt (te E0)) (hs : ∀ x, foldedSetIterable iter X.env x = pure x := by intro _; rfl) :
    PE X (.ListComp elt [⟨tg, iter, ifs, 0⟩] scope pos) (tLcX W wi g tt te (own.map (·.2))) := by
  refine ⟨fun pins s σ H Q I h => ?_⟩
  rw [eval_ListComp]
  refine lc_coreX hs1 hf tk hc hN I hi ok hg ht he hs h fun D C t m G I2 q hn f => ⟨m, hn, fun g2 sb => ?_⟩
  exact ⟨.ref D, G, I2.turned (t' := t.toks) (fun b o hb e => (sb.2 b hb).trans e) f.1 f.2.1 f.2.2.2.1 f.2.2.2.2.1 f.2.2.2.2.2, rfl, q⟩
/-- name = [..] on one line, the name a local -/
theorem ps_setLcX {X : Cx} {W : WX} {i : Nat} {y : Str} {py : Pos} {elt tg iter : Expr} {ifs : List Expr} {scope : Scope} {own : List (Str × Nat)} {pos spos : Pos} {wi : TI} {g : TG} {tt : TT} {te : XK → TE} (hs1 : X.stack = X.env :: X.outer) (hf : X.env.frame = some X.env.locals) (tk : Takes X W) (hc : X.calm = true) (hN : X.N.Nodup) (hy : X.N[i]? = some y) (hyl : X.env.scope.names.lookup y = some .local)
    (hsw : swapsWith (.ListComp elt [⟨tg, iter, ifs, 0⟩] scope pos) (some (.Name y py)) spos.line X.env = pure true) (hi : PI X tg iter wi) (ok : BlkOk X.N X.env.scope scope own)
    (hg : ∀ (s : Shared) (H : Hp) (C : Addr) (cl : List (Str × Addr)) (fp : List Addr) (xe : Value → Shared → Prop), PG (blkX X s H scope (compEnvC scope cl C X.env) fp xe) tg g) (ht : ∀ (s : Shared) (H : Hp) (C : Addr) (cl : List (Str × Addr)) (fp : List Addr) (xe : Value → Shared → Prop), PTs (blkX X s H scope (compEnvC scope cl C X.env) fp xe) ifs tt)
    (he : ∀ (s : Shared) (H : Hp) (C : Addr) (cl : List (Str × Addr)) (fp : List Addr) (xe : Value → Shared → Prop) (E0 : XK), (∀ σ', PassesAt (L2.CX X.prog X.w) (blkX X s H scope (compEnvC scope cl C X.env) fp xe) σ' E0) → PE (blkX X s H scope (compEnvC scope cl C X.env) fp xe) elt (te E0)) (hs : ∀ x, foldedSetIterable iter X.env x = pure x := by intro _; rfl) :
    PS X (.Assign [.Name y py] (.ListComp elt [⟨tg, iter, ifs, 0⟩] scope pos) spos) (tAsg (tLcX W wi g tt te (own.map (·.2))) (gName i)) := by
  refine ⟨fun pins s σ H D I h => ?_⟩
  rw [exec_Assign_Name_used _ _ _ _ hsw]
  refine wpAny_bind (wpAny_standAt (wpAny_bind ?_))
  have k : tLcX W wi g tt te (own.map (·.2)) σ H (fun x H1 => gName i x σ H1 D.nx) := h
  refine (show wpAny _ X.A (do let _ ← comprehension (.ListComp elt [⟨tg, iter, ifs, 0⟩] scope pos) scope X.env (firstIterPos [⟨tg, iter, ifs, 0⟩] pos) (newList []) false (eval iter X.env) (some (assign (.Name y py) X.env))) _ _ s from wpAny_bind (thn (lc_coreX (Qf := fun _ t => SP X pins D .next t) hs1 hf tk hc hN I hi ok hg ht he hs k fun L C t m G I2 q hn f => ?_) fun _ t hq => wpAny_pure (wpAny_pure hq)))
  refine (show wpAny _ _ (assign (.Name y py) X.env (.ref L)) _ _ _ from wpAny_assign_Name (store_ok2 (v := V.ref L) I2 hN hy (.inl hyl) rfl (fun t2 J2 ⟨a, sb, ha⟩ => ?_) (.inr hyl)))
  have haC : C ≠ a := fun z => by
    rcases ha with y2 | y2
    · exact f.2.1 (z.trans y2)
    · exact f.2.2.2.2.1 _ _ y2 z.symm
  exact ⟨m, hn.sameBut sb haC, fun g3 sb3 => ⟨_, G, J2.turned (t' := t2.toks) (fun b o hb e => (sb3.2 b hb).trans e) f.1 f.2.1 f.2.2.2.1 f.2.2.2.2.1 f.2.2.2.2.2, q⟩⟩
end Lx

/-! Own data layer: a list comprehension whose element may raise. -/
namespace Ja
open PySem PySem.Spec PyProof.Rows L2 Evl Cm
/-- every item, if there is one for each -/
def mapO {A B : Type} (v : A → Option B) : List A → Option (List B)
  | [] => some []
  | x :: r => (v x).bind fun y => (mapO v r).map fun ys => y :: ys
theorem mapO_snoc {A B : Type} (v : A → Option B) (x : A) : ∀ l : List A, mapO v (l ++ [x]) = (mapO v l).bind fun ys => (v x).map fun y => ys ++ [y]
  | [] => by
    show (v x).bind _ = (v x).map _
    cases v x <;> rfl
  | z :: l => by
    show (v z).bind (fun y => (mapO v (l ++ [x])).map fun ys => y :: ys) = ((v z).bind fun y => (mapO v l).map fun ys => y :: ys).bind _
    rw [mapO_snoc v x l]
    cases v z with
    | none => rfl
    | some y =>
      cases mapO v l with
      | none => rfl
      | some ys =>
        cases v x <;> rfl
theorem mapO_none {A B : Type} {v : A → Option B} {x : A} (h : v x = none) : ∀ {l : List A}, x ∈ l → mapO v l = none
  | z :: l, hm => by
    show (v z).bind (fun y => (mapO v l).map fun ys => y :: ys) = none
    rcases List.mem_cons.mp hm with e | e
    · rw [← e, h]
      rfl
    · rw [mapO_none h e]
      cases v z <;> rfl
theorem mapO_some {A B : Type} {v : A → Option B} {f : A → B} : ∀ {l : List A}, (∀ x ∈ l, v x = some (f x)) → mapO v l = some (l.map f)
  | [], _ => rfl
  | z :: l, h => by
    show (v z).bind (fun y => (mapO v l).map fun ys => y :: ys) = _
    rw [h z (List.mem_cons_self ..), mapO_some fun x hx => h x (List.mem_cons_of_mem _ hx)]
    rfl
theorem mapO_len {A B : Type} {v : A → Option B} : ∀ {l : List A} {ys : List B}, mapO v l = some ys → ys.length = l.length
  | [], ys, h => by
    cases h
    rfl
  | z :: l, ys, h => by
    have h : (v z).bind (fun y => (mapO v l).map fun ys => y :: ys) = some ys := h
    cases hz : v z with
    | none =>
      rw [hz] at h
      cases h
    | some y =>
      rw [hz] at h
      cases hl : mapO v l with
      | none =>
        rw [hl] at h
        cases h
      | some zs =>
        rw [hl] at h
        cases h
        rw [List.length_cons, mapO_len hl]
        rfl
/-- a new list of which P is true, or one of ex is raised -/
def EvNX (K : PySem.W.Frag) (B0 H0 : Hp) (W : WX) (te : TE) (δ : List Sl) (P : List PyData → Prop) (ex : Addr → Prop) : Prop := ∀ B H σ, Sc K B0 H0 B H σ δ → (∀ C B' H', Stp B H B' H' → ex C → W (.ref C) none σ H') → ∀ Q : VK, (∀ l vs ds B' H', P ds → Stp B H B' H' → H l = none → B' l = none → H' l = some (.lst vs) → DtAll K B' vs ds → Q (.ref l) H') → te σ H Q
section
variable {K : PySem.W.Frag} {B0 H0 B H B' H' : Hp} {W : WX} {σ : L2.St} {δ δ1 δ2 : List Sl} {te : TE} {t u : TS} {E : DE}
theorem nx_lc {A : Type} {wi : TI} {g : TG} {vs ix : List Nat} {te : XK → TE} (xs : List A) (enc : A → PyData) (δt : A → List Sl) (v : A → Option PyData) (bad : Addr) (hw : EvW K B0 H0 wi δ (xs.map enc)) (hix : ∀ i ∈ ix, i ∈ vs) (hz : xs.length ≤ 40000)
    (hg : ∀ x ∈ xs, TGd K B0 H0 g ix (wipeD δ vs) (enc x) (δt x)) (he : ∀ x ∈ xs, ∀ E0 : XK, EvX K B0 H0 (fun cls d _ H => E0 cls d H) (te E0) (δt x) (fun d => v x = some d) (fun C => C = bad ∧ v x = none)) : EvNX K B0 H0 W (Lx.tLcX W wi g tYes te vs) δ (fun ds => mapO v xs = some ds) (fun C => C = bad ∧ mapO v xs = none) := fun B H σ S qx Q q => by
  refine hw B H σ S _ fun J G Y B1 H1 s1 Wk hG hY => ?_
  intro D hD
  have hBD : B1 D = none := none_of s1.bh hD
  refine lc_it Wk (fun i H' => ∃ B' ws ds, mapO v (xs.take i) = some ds ∧ Ex B1 B' ∧ Ex B' H' ∧ Ex H1 H' ∧ (∀ a, B' a ≠ none → B1 a ≠ none ∨ NoL H1 a) ∧ B' D = none ∧ H' D = some (.lst ws) ∧ DtAll K B' ws ds) ?_ (fun i H' hi ⟨B', ws, ds, e0, e1, e2, e3, hn, e4, e5, e6⟩ => hG B' H' e1 e2) ?_ fun H' ⟨B', ws, ds, e0, e1, e2, e3, hn, e4, e5, e6⟩ => ?_
  · exact ⟨B1, [], [], rfl, .refl _, Ex.mut s1.bh hBD, Ex.new hD, fun a h => .inl h, hBD, upd_same, .nil⟩
  · intro i x H2 H3 hi ⟨B2, ws, ds, e0, e1, e2, e3, hn, e4, e5, e6⟩ y
    rw [List.length_map] at hi
    have hx : (xs.map enc)[i]? = some (enc xs[i]) := by rw [List.getElem?_map, List.getElem?_eq_getElem hi]; rfl
    obtain ⟨B3, s3, dx⟩ := hY i H2 x H3 B2 _ hx e1 e2 y
    have hmem : xs[i] ∈ xs := List.getElem_mem hi
    have tk : xs.take (i + 1) = xs.take i ++ [xs[i]] := by rw [List.take_succ, List.getElem?_eq_getElem hi]; rfl
    have hDn : H2 D ≠ none := by rw [e5]; exact fun z => by cases z
    have b3 : B3 D = none := by
      cases e : B3 D with
      | none => rfl
      | some o =>
        rcases s3.n D (by rw [e]; exact fun z => by cases z) with z | z
        · exact absurd e4 z
        · exact absurd e5 (z _)
    have st12 : Stp B1 H1 B2 H2 := ⟨e1, e2, e3, hn⟩
    have S3 : Sc K B0 H0 B3 H3 σ δ := (S.go s1).go (st12.trans s3)
    refine hg _ hmem B3 H3 (wipe σ vs) x (S3.wipe vs) dx _ fun σ2 S2 w2 => ⟨?_, ?_⟩
    · rw [w2 vs hix]
      exact wipe_id fun _ h => h
    · show tYes σ2 H3 _
      unfold tYes
      show if true = true then _ else _
      rw [if_pos rfl]
      have b4 : ∀ {B5 H5 : Hp}, Stp B3 H3 B5 H5 → B5 D = none := fun {B5 H5} s5 => by
        cases e : B5 D with
        | none => rfl
        | some o =>
          rcases s5.n D (by rw [e]; exact fun z => by cases z) with z | z
          · exact absurd b3 z
          · exact absurd (s3.h _ _ e5) (z _)
      refine he _ hmem _ B3 H3 σ2 S2 (fun C B5 H5 s5 ⟨hC, hv⟩ => qx C B5 H5 (s1.trans ((st12.trans s3).trans s5)) ⟨hC, mapO_none hv hmem⟩) _ fun u d B5 H5 hd s5 i5 => ?_
      have sAll := (st12.trans s3).trans s5
      have h5 : H5 D = some (.lst ws) := s5.h _ _ (s3.h _ _ e5)
      refine ⟨ws, h5, ?_, B5, ws ++ [u], ds ++ [d], ?_, sAll.b, Ex.mut sAll.bh (b4 s5), Ex.mut sAll.h hD, sAll.n, b4 s5, upd_same, (dts_mono (s3.b.trans s5.b) _ _ e6).app (.cons i5 .nil)⟩
      · rw [e6.len, mapO_len e0, List.length_take]
        exact sz_lt (by omega)
      · rw [tk, mapO_snoc, e0, hd]
        rfl
  · rw [List.length_map, List.take_length] at e0
    exact q D ws ds B' H' e0 (s1.trans (⟨e1, e2, e3, hn⟩ : Stp B1 H1 B' H')) (none_of s1.h hD) e4 e5 e6
theorem sd_asgNX {n : Nat} {P : List PyData → Prop} {ex : Addr → Prop} (h : EvNX K B0 H0 W te δ P ex) (hx : ∀ C, ex C → E.ex C δ) (k : ∀ ds, P ds → E.nx (δ.set n (.own ds))) : SD K B0 H0 W (tAsg te (gName n)) δ E := fun D B H σ S L => h B H σ S (fun C B' H' st hC => L.ex C B' H' σ δ st.b (S.go st) (hx C hC)) _ fun l vs ds B1 H1 p s1 f1 f2 f3 f4 => by
  refine L.nx B1 H1 _ _ s1.b ((S.go s1).setO n f3 f2 (none_of S.st.h f1) f4 fun j es _ hj hl => ?_) (k ds p)
  obtain ⟨m, ws, g1, g2, _⟩ := S.own j es hj
  rw [hl] at g1
  cases Option.some.inj (Option.some.inj g1)
  rw [f1] at g2
  cases g2
theorem q_asgNX {n : Nat} {P : List PyData → Prop} {ex : Addr → Prop} (h : EvNX K B0 H0 W te δ P ex) (hx : ∀ C, ex C → E.ex C δ) (k : ∀ ds, P ds → SD K B0 H0 W u (δ.set n (.own ds)) E) : SD K B0 H0 W (tSeq (tAsg te (gName n)) u) δ E := sd_seq (sd_asgNX h hx k)
end
end Ja

/-! Own data layer: texts cut and split, tuples. -/
namespace Ja
open PySem PySem.Spec PyProof.Rows L2 Evl Cm
open SX (S S_cat S_len num_S)
open TL (numL numL_lt)
section
variable {K : PySem.W.Frag} {P : Program} {w : World} {B0 H0 : Hp} {W : WX} {E : DE} {δ : List Sl} {ta tb te to : TE} {a b : List Nat} {ds es : List PyData} {d : PyData} {i : Int}
theorem d_m1 {g : Str → Str → Bool} (h : EvS K B0 H0 to δ (nS (S a))) (h2 : EvS K B0 H0 te δ (nS (S b))) : EvS K B0 H0 (tM1 (fun x xs H Q => ∃ a b, x = .str a ∧ xs = [.str b] ∧ Q (.bl (g a b)) H) to te) δ (nB (g (S a) (S b))) := fun B H σ Z Q q => h B H σ Z _ fun v B1 H1 s1 i1 => by
  cases i1
  refine ⟨⟨_, rfl⟩, h2 B1 H1 σ (Z.go s1) _ fun u B2 H2 s2 i2 => ?_⟩
  cases i2
  exact ⟨S a, S b, rfl, rfl, q _ B2 H2 (s1.trans s2) (Dt.bl _)⟩
theorem d_m0 {g : Str → Bool} (h : EvS K B0 H0 to δ (nS (S a))) : EvS K B0 H0 (tM0 (fun x xs H Q => ∃ a, x = .str a ∧ xs = [] ∧ True ∧ Q (.bl (g a)) H) to) δ (nB (g (S a))) := fun B H σ Z Q q => h B H σ Z _ fun v B1 H1 s1 i1 => by
  cases i1
  exact ⟨⟨_, rfl⟩, S a, rfl, rfl, trivial, q _ B1 H1 s1 (Dt.bl _)⟩
/-- a part of a text -/
theorem d_slX {tl th : TO} {lo hi : Option Int} {w1 : List Nat} (h : EvS K B0 H0 te δ (nS (S a))) (h1 : EvO K B0 H0 tl δ lo) (h2 : EvO K B0 H0 th δ hi) (hz : a.length ≤ 100000) (e : Txt.slice (S a) lo hi = S w1) : EvS K B0 H0 (tSl C8.rSlX te tl th) δ (nS (S w1)) := fun B H σ Z Q q =>
  h B H σ Z _ fun v B1 H1 s1 i1 => h1 B1 H1 σ (Z.go s1) _ fun B2 H2 s2 => h2 B2 H2 σ (Z.go (s1.trans s2)) _ fun B3 H3 s3 => by
    cases i1
    exact ⟨S a, rfl, by rw [S_len]; exact sz_of hz, by rw [e]; exact q _ B3 H3 ((s1.trans s2).trans s3) (Dt.str _)⟩
abbrev encT (x : List Nat) : PyData := .str (S x)
theorem dt_strs {B : Hp} : ∀ ys : List (List Nat), DtAll K B ((ys.map S).map V.str) (ys.map encT)
  | [] => .nil
  | y :: r => .cons (Dt.str _) (dt_strs r)
/-- x.split(c), by the parts -/
theorem n_split {c : Nat} {parts : List (List Nat)} (h : EvS K B0 H0 to δ (nS (S (TL.joinL [c] parts)))) (h2 : EvS K B0 H0 te δ (nS (S [c]))) (hc : c < 256) (hne : parts ≠ []) (hp : ∀ p ∈ parts, c ∉ p) (hz : (TL.joinL [c] parts).length ≤ 50000) :
    EvN K B0 H0 (tM1 (fun x xs H Q => ∃ a b, x = .str a ∧ xs = [.str b] ∧ (b.length == 0) = false ∧ a.length + 2 ≤ sizeLine ∧ rNewStrs (Txt.split a b) H Q) to te) δ (parts.map encT) := fun B H σ Z Q q => h B H σ Z _ fun v B1 H1 s1 i1 => by
  cases i1
  refine ⟨⟨_, rfl⟩, h2 B1 H1 σ (Z.go s1) _ fun u B2 H2 s2 i2 => ?_⟩
  cases i2
  have s := s1.trans s2
  refine ⟨_, _, rfl, rfl, by rw [S_len]; rfl, by rw [S_len]; have := sz_of (n := (TL.joinL [c] parts).length + 2) (by omega); exact this, fun p hp2 => ?_⟩
  have e : Txt.split (S (TL.joinL [c] parts)) (S [c]) = parts.map S := by
    rw [SX.split_S (by simp) (by simp [hc]), SX.spl_join hne hp]
  rw [e]
  exact q p _ B2 _ (s.trans (.same s.bh (.new hp2))) (none_of s.h hp2) (none_of s.bh hp2) upd_same (dt_strs parts)
/-- tuple(a list) -/
theorem d_tupL (h : EvS K B0 H0 te δ (.dat (.list ds))) : EvS K B0 H0 (tCB (fun xs H Q => ∃ p ys, xs = [.ref p] ∧ ((SqL K H p ys ∧ ∀ l, H l = none → Q (.ref l) (upd H l (.tup ys))) ∨ (SqT K H p ys ∧ Q (.ref p) H))) (tCons te tNil)) δ (.dat (.tuple ds)) := fun B H σ Z Q q => h B H σ Z _ fun v B1 H1 s1 i1 => by
  cases i1 with
  | lst g1 g2 => exact ⟨_, _, rfl, .inl ⟨sq_of (s1.bh _ _ g1), fun p hp => q _ _ _ (s1.trans (.new s1.bh hp)) (.tup (st_of upd_same) (dts_mono (Ex.new (none_of s1.bh hp)) _ _ g2))⟩⟩
/-- *xs among the items -/
theorem ds_star {tr : TA} (h : EvS K B0 H0 te δ (.dat (.list ds))) (hr : EvD K B0 H0 tr δ es) : EvD K B0 H0 (StX.tStar K te tr) δ (ds ++ es) := fun B H σ Z Q q => h B H σ Z _ fun v B1 H1 s1 i1 => by
  cases i1 with
  | lst g1 g2 => exact ⟨_, _, rfl, .inr (sq_of (s1.bh _ _ g1)), hr B1 H1 σ (Z.go s1) _ fun vs B2 H2 s2 i2 => q _ B2 H2 (s1.trans s2) ((dts_mono s2.b _ _ g2).app i2)⟩
theorem d_is_ds {tr : TA} (h : EvD K B0 H0 tr δ ds) (e : ds = es) : EvD K B0 H0 tr δ es := e ▸ h
/-- enumerate(a tuple) -/
theorem w_enumT {tr : TA} (h : EvD K B0 H0 tr δ [.tuple ds]) : EvW K B0 H0 (Et.iEnumT K tr) δ (enumD ds) := fun B H σ S R q => h B H σ S _ fun vs B1 H1 s1 i1 => by
  cases i1 with
  | cons g1 g2 =>
    cases g2
    cases g1 with
    | @tup a xs _ h1 h2 =>
      have hw : Walk (Et.Iet K a) xs.length (fun H => SqT K H a xs) (fun i H v H' => ∃ T x, v = .ref T ∧ H T = none ∧ H' = upd H T (.tup [.int (i : Nat), x]) ∧ xs[i]? = some x) := ⟨fun i _ hi q => ⟨xs, xs[i], q, by simp [hi]⟩, fun _ q => ⟨xs, q, Nat.le_refl _⟩, fun i H v H' _ q ⟨T, x, k1, k2, k3, k4⟩ => ⟨T, x, k1, k2, k3, k4 xs q⟩⟩
      refine ⟨a, xs, rfl, ex_t s1.bh h1, q _ _ _ B1 H1 s1 (by unfold enumD; rw [List.length_map, List.length_zipIdx, ← h2.len]; exact hw) (fun B2 H2 e1 e2 => ex_t (e1.trans e2) h1) fun i H2 v H3 B2 d hd e1 e2 y => ?_⟩
      obtain ⟨T, u, rfl, hT, rfl, hu⟩ := y
      obtain ⟨f, hf, df⟩ := h2.getV hu
      have e : d = .tuple [.int (i : Int), f] := by
        unfold enumD at hd
        rw [List.getElem?_map, List.getElem?_zipIdx, hf] at hd
        have := Option.some.inj hd
        simpa using this.symm
      rw [e]
      exact ⟨_, .new e2 hT, .tup (st_of upd_same) (.cons (.int _) (.cons (dt_mono (e1.trans (Ex.new (none_of e2 hT))) _ _ df) .nil))⟩
/-- a part of a tuple, not the whole -/
theorem d_slT {tl th : TO} {lo hi : Option Int} (h : EvS K B0 H0 te δ (.dat (.tuple ds))) (h1 : EvO K B0 H0 tl δ lo) (h2 : EvO K B0 H0 th δ hi) (hn : HT.sIx ds.length 0 lo ≠ 0 ∨ ds = []) (hd : ds ≠ []) : EvS K B0 H0 (tSl (rSlT K) te tl th) δ (.dat (.tuple (cutD ds lo hi))) := fun B H σ S Q q =>
  h B H σ S _ fun v B1 H1 s1 i1 => h1 B1 H1 σ (S.go s1) _ fun B2 H2 s2 => h2 B2 H2 σ (S.go (s1.trans s2)) _ fun B3 H3 s3 => by
    have s := (s1.trans s2).trans s3
    cases i1 with
    | tup g1 g2 =>
      refine ⟨_, _, rfl, ex_t ((s2.b.trans s3.b).trans s3.bh) g1, fun z => ?_, fun p hp => q _ _ _ (s.trans (.new s.bh hp)) (.tup (st_of upd_same) (dts_mono (Ex.new (none_of s.bh hp)) _ _ (cut_dt (dts_mono (s2.b.trans s3.b) _ _ g2) lo hi)))⟩
      rw [g2.len] at z
      rcases hn with y | y
      · exact y z.1
      · exact hd y
/-- a word that is no key, its count -/
theorem d_niK {x : Str} {D : Addr} {r : Option Value} (h : EvS K B0 H0 ta δ (nS x)) (h2 : EvS K B0 H0 tb δ (.raw (.ref D))) (hr : PySem.W.nsIn K D x = some r) : EvS K B0 H0 (tOp (fun x y H Q => ∃ (z : Str) (r : Option Value), x = .str z ∧ y = .ref D ∧ PySem.W.nsIn K D z = some r ∧ Q (.bl (!r.isSome)) H) ta tb) δ (nB (!r.isSome)) := fun B H σ Z Q q => h B H σ Z _ fun v B1 H1 s1 i1 => h2 B1 H1 σ (Z.go s1) _ fun u B2 H2 s2 i2 => by
  cases i1
  cases i2
  exact ⟨x, r, rfl, rfl, hr, q _ B2 H2 (s1.trans s2) (Dt.bl _)⟩
theorem d_ixK {x : Str} {D : Addr} (h : EvS K B0 H0 ta δ (.raw (.ref D))) (h2 : EvS K B0 H0 tb δ (nS x)) (hr : KDct K w D x (.int i)) : EvS K B0 H0 (tOp (rIxD K w) ta tb) δ (nI i) := fun B H σ Z Q q => h B H σ Z _ fun v B1 H1 s1 i1 => h2 B1 H1 σ (Z.go s1) _ fun u B2 H2 s2 i2 => by
  cases i1
  cases i2
  exact ⟨D, x, .int i, rfl, rfl, hr, q _ B2 H2 (s1.trans s2) (Dt.int _)⟩
/-- str(i) -/
theorem log_small {i : Int} (h : Sm i.natAbs) : i.natAbs.log2 < 1920 := sm_lg h
theorem d_strI (h : EvS K B0 H0 te δ (nI i)) (hs : Sm i.natAbs) : EvS K B0 H0 (tCB (fun xs H Q => ∃ i, xs = [.int i] ∧ i.natAbs.log2 < 1920 ∧ Q (.str (toString i)) H) (tCons te tNil)) δ (nS (S (Tx.intL i))) := d_cb1 h (.int _) (fun _ H1 _ Q q => ⟨i, rfl, sm_lg hs, by
  have e : (toString i : Str) = S (Tx.intL i) := Tx.int_text i
  rw [e]
  exact q H1 (Ex.refl H1)⟩) (.str _)
/-- xs.pop(i), xs of its own -/
theorem sd_popAt {n m : Nat} {e : PyData} {es : List PyData} (hn : δ[n]? = some (Sl.own (ds ++ [e] ++ es))) (hm : ds.length = m) (hl : ds.length + es.length ≤ 100000) (hi : EvS K B0 H0 tb δ (nI (m : Int))) (k : E.nx (δ.set n (.own (ds ++ es)))) : SD K B0 H0 W (tDrop (tBM K "list" rPopAt (tVar n) (tCons tb tNil))) δ E := fun D B H σ S L => by
  obtain ⟨l, vs, h1, h2, h3, h4, h5⟩ := S.own n _ hn
  refine ⟨.ref l, h1, .inl ⟨rfl, _, sq_of h2⟩, hi B H σ S _ fun w B1 H1 s1 i1 => ?_⟩
  cases i1
  obtain ⟨l', ws, g1, g2, g3, g4, g5⟩ := (S.go s1).own n _ hn
  rw [h1] at g1
  cases Option.some.inj (Option.some.inj g1)
  have hlen := g5.len
  rw [List.length_append, List.length_append] at hlen
  have e1 : [e].length = 1 := rfl
  have hlt : m < ws.length := by omega
  refine ⟨l, ws, (m : Int), m, ws[m], rfl, rfl, g2, ?_, ?_, ?_, List.getElem?_eq_getElem hlt, ?_⟩
  · have : (0 : Int) < 2 ^ 63 := by decide
    omega
  · have : (200000 : Int) < 2 ^ 63 := by decide
    omega
  · unfold seqIndex?
    simp only [show ¬ ((m : Int) < 0) by omega, if_false]
    rw [if_pos (by simp; omega)]
    exact congrArg some (Int.toNat_natCast m)
  · refine L.nx B1 _ σ _ s1.b ((S.go s1).mut hn h1 ?_) k
    have q1 := g5.take m
    have q2 := g5.drop (m + 1)
    rw [List.append_assoc, ← hm, List.take_left] at q1
    have e2 : (ds ++ [e] ++ es).drop (m + 1) = es := by
      rw [show m + 1 = (ds ++ [e]).length by rw [List.length_append, hm]; rfl, List.drop_left]
    rw [e2] at q2
    rw [List.eraseIdx_eq_take_drop_succ, ← hm]
    rw [← hm] at q2
    exact q1.app q2
/-! ### raising within tuples -/
theorem x_imp {P P' : PyData → Prop} {ex ex' : Addr → Prop} (h : EvX K B0 H0 W te δ P ex) (hp : ∀ d, P d → P' d) (hx : ∀ C, ex C → ex' C) : EvX K B0 H0 W te δ P' ex' := fun B H σ Z q Q k => h B H σ Z (fun C B' H' s e => q C B' H' s (hx C e)) Q fun v d B' H' p s i => k v d B' H' (hp d p) s i
def EvDX (K : PySem.W.Frag) (B0 H0 : Hp) (W : WX) (tr : TA) (δ : List Sl) (P : List PyData → Prop) (ex : Addr → Prop) : Prop := ∀ B H σ, Sc K B0 H0 B H σ δ → (∀ C B' H', Stp B H B' H' → ex C → W (.ref C) none σ H') → ∀ Q : List V → Hp → Prop, (∀ vs ds B' H', P ds → Stp B H B' H' → DtAll K B' vs ds → Q vs H') → tr σ H Q
theorem dx_nil {P : List PyData → Prop} {ex : Addr → Prop} (h : P []) : EvDX K B0 H0 W tNil δ P ex := fun B H σ Z q Q k => k [] [] B H h (.refl Z.st.bh) .nil
theorem dx_cons {tr : TA} {P1 : PyData → Prop} {P2 P : List PyData → Prop} {ex : Addr → Prop} (h : EvX K B0 H0 W te δ P1 ex) (hr : EvDX K B0 H0 W tr δ P2 ex) (hp : ∀ d es, P1 d → P2 es → P (d :: es)) : EvDX K B0 H0 W (tCons te tr) δ P ex := fun B H σ Z q Q k =>
  h B H σ Z q _ fun v d B1 H1 p1 s1 i1 => hr B1 H1 σ (Z.go s1) (fun C B' H' s e => q C B' H' (s1.trans s) e) _ fun vs es B2 H2 p2 s2 i2 => k _ _ B2 H2 (hp d es p1 p2) (s1.trans s2) (.cons (dt_mono s2.b _ _ i1) i2)
theorem x_tup {tr : TA} {P : List PyData → Prop} {ex : Addr → Prop} (h : EvDX K B0 H0 W tr δ P ex) (hl : ∀ ds, P ds → ds.length ≤ 100000) : EvX K B0 H0 W (tTup tr) δ (fun d => ∃ ds, d = .tuple ds ∧ P ds) ex := fun B H σ Z q Q k =>
  h B H σ Z q _ fun vs ds B1 H1 p s1 i1 => ⟨by rw [i1.len]; exact sz_of (hl ds p), fun x hx => k _ _ _ _ ⟨ds, rfl, p⟩ (s1.trans (.new (o := .tup vs) s1.bh hx)) (.tup (st_of upd_same) (dts_mono (Ex.new (none_of s1.bh hx)) _ _ i1))⟩
theorem x_ofS {ex : Addr → Prop} (h : EvS K B0 H0 te δ (.dat d)) : EvX K B0 H0 W te δ (fun e => e = d) ex := x_of (r_of h rfl)
end
end Ja

/-! Own: functions of a def handed to another one. -/
namespace Ln
open PySem PySem.Spec PyProof.Rows L2 Evl Cm Ja LamX NdefX
section
variable {X : Cx}
theorem ps_never {st : Stmt} : PS X st (fun _ _ _ => False) := ⟨fun _ _ _ _ _ _ h => h.elim⟩
theorem pss_never {sts : List Stmt} : PSs X sts (fun _ _ _ => False) := ⟨fun _ _ _ _ _ _ h => h.elim⟩
theorem pe_never {e : Expr} : PE X e (fun _ _ _ => False) := ⟨fun _ _ _ _ _ _ h => h.elim⟩
end
/-- a promise that speaks of the callers and the heap too -/
abbrev SpC : Type := List Env → Heap → Sp
structure FnC (P : Program) (w : World) (K : PySem.W.Frag) (mg : Str → Option Value) (base : Heap) (CX : CXT) (k : Nat) (f : Addr) (fd : FuncData) (ps : List Str) (sp : SpC) : Prop where
  len : ∀ o h vs H Q E, sp o h vs H Q E → vs.length = ps.length
  run : ∀ (A : Around) (outer : List Env) (s : Shared) (H : Hp) (args : Args) (us : List Value) (vs : List V) (Q : VK) (E : XK), Room k A → Env0 P w K mg base A outer s H → BindsTo s fd args (ps.zip us) → Vals vs us → sp outer s.heap vs H Q E →
    codeAny (model P w) A (.call (.ref f) args) (CR CX outer P w H s Q E) s
theorem FnC.mono {P : Program} {w : World} {K : PySem.W.Frag} {mg : Str → Option Value} {base : Heap} {CX : CXT} {j k : Nat} {f : Addr} {fd : FuncData} {ps : List Str} {sp : SpC} (F : FnC P w K mg base CX j f fd ps sp) (h : j ≤ k) : FnC P w K mg base CX k f fd ps sp :=
  ⟨F.len, fun A outer s H args us vs Q E hr => F.run A outer s H args us vs Q E (hr.mono h)⟩
section
variable {P : Program} {w : World} {K : PySem.W.Frag} {mg : Str → Option Value} {base : Heap}
/-- a def of K by its body, which may use what is true of the heap at its entry -/
theorem okC {x qual : Str} {st : Stmt} {f : Addr} {fd : FuncData} {N ps : List Str} {k : Nat} {sp : SpC} (F : Fun K x qual st f fd) (S : FnScope N ps (defScope st)) (len : ∀ o h vs H Q E, sp o h vs H Q E → vs.length = ps.length)
    (hbody : ∀ (A : Around) (outer : List Env) (s : Shared) (H : Hp) (vs : List V) (Q : VK) (E : XK), Env0 P w K mg base A outer s H → Room k (A.deeper (envOfC qual (defScope st) s.heap.objs.size f fd.code)) → sp outer s.heap vs H Q E →
      ∃ t, PSs (cxOf CX0 P w K mg base N qual (defScope st) f fd.code A outer s H E).nox (defBody st) t ∧ t { nx := fun _ H' => Q .non H', rt := Q } (start N vs) H) : FnC P w K mg base CX0 (k + 1) f fd ps sp := by
  obtain ⟨oc, od, kV, doc, pm, an, cdv, ct, osl, rfl, lk, hcd⟩ := F.ex
  constructor
  · exact len
  intro A outer s H args us vs Q E hr env hb rel promise
  have inK : K.In s.heap := env.mod.kin.keeps fun b o e => (env.bs b o e).1
  have noLim : s.heap.NoLimit := env.mod.nolimit.keeps fun b o e => (env.bs b o e).1
  apply codeAny_call_function hr.depth (inK _ _ lk) rfl S.co S.gen rfl (PySem.W.codeRec_of inK hcd)
  apply hb
  have params : ∀ y ∈ ps.zip us, (defScope st).names.lookup y.1 = some .local ∨ ((defScope st).names.lookup y.1 = some .cell ∧ ((cellsFrom (s.heap.objs.size + 1) (defScope st).names []).lookup y.1).isSome = true) := by
    intro y hy
    rcases S.par y.1 (List.of_mem_zip (a := y.1) (b := y.2) hy).1 with q | q
    · exact .inl q
    · exact .inr ⟨q, PySem.W.cellsFrom_some _ _ _ (.inl q)⟩
  apply wpAny_newFunctionEnv_cells S.kind params
  intro e he s1 made
  subst he
  refine ⟨noLim.keeps made.toInCall.keep, codeAny_func ?_⟩
  obtain ⟨t, ht, hq⟩ := hbody A outer s H vs Q E env (hr.deeper _) promise
  have I := inv_start (CX := CX0) (E := E) (f := f) (cd := cdv) S hr.hd env (len _ _ _ _ _ _ promise) rel made
  refine wpAny_mono (ht.nox.run [] s1 (start N vs) H _ I hq) ?_ fun e s' hs => hs
  intro fl s' hs
  cases fl with
  | ret u =>
    obtain ⟨v, σ', H', J, rv, q⟩ := hs
    exact ⟨v, H', J.os, J.bare, J.base, J.hok, rv, q⟩
  | next =>
    obtain ⟨σ', H', J, q⟩ := hs
    exact ⟨V.non, H', J.os, J.bare, J.base, J.hok, rfl, q⟩
  | brk => exact hs.elim fun _ z => z.elim fun _ z => z.2.elim
  | cont => exact hs.elim fun _ z => z.elim fun _ z => z.2.elim
end
/-- f(e, ..), f a def of such a promise: c tells what the caller must know -/
def tCallC (sp : List V → List (Option V) → Hp → VK → Prop) (t : TA) : TE := fun σ H Q => t σ H fun vs H1 => sp vs σ H1 Q
section
variable {X : Cx} {k : Nat} {f : Addr} {fd : FuncData} {ps : List Str} {sp : SpC} {c : List V → List (Option V) → Hp → VK → Prop} {E : XK} {x : Str} {p pos : Pos} {e : Expr} {es : List Expr} {t : TA}
theorem pe_callC (F : FnC X.prog X.w X.K X.mg X.base CX0 k f fd ps sp) (hr : Room k X.A) (hg : Gl X x) (hm : X.mg x = some (.ref f)) (hk : PySem.W.keepIn X.K (.ref f) = true) (hb : Binds X.K fd ps []) (hx : Passes CX0 X E)
    (hc : ∀ pins σ H s vs Q, Inv X pins σ H s → c vs σ H Q → sp X.stack s.heap vs H Q E)
    (ha : PA X (e :: es) t) (hdb : (x == ("__debug__" : Str)) = false := by decide) (he : starEach (e :: es) X.env = (false, eval e X.env) :: starEach es X.env := by rfl) (hpl : (backTo pos (starEach es X.env)).any (·.1) = false := by rfl) :
    PE X (.Call (.Name x p) (e :: es) [] pos) (tCallC c t) := by
  refine ⟨fun pins s σ H Q I h => ?_⟩
  refine wpAny_Call_Name_kw (ld_glob I hg hm ?_ hdb)
  refine PySem.W.callWith_K (h₀ := X.base) I.ok.mod.kin hk (thn (ha.run pos pins s σ H _ I h) fun us s1 ⟨vs, H1, I1, r, q⟩ => ⟨I1.kIn, ?_⟩) he hpl
  have promise := hc pins σ H1 s1 vs Q I1 q
  have hl := F.len _ _ _ _ _ _ promise
  have bind := hb s1 us I1.kIn (by rw [List.append_nil, ← r.length]; exact hl)
  rw [List.append_nil] at bind
  refine wpAny_call (codeAny_mono (F.run X.A X.stack s1 H1 ⟨us, []⟩ us vs Q E hr I1.env0 bind r promise) fun r s' hq => ?_)
  cases r with
  | error e => exact hx pins σ H1 s1 e s' I1 hq
  | ok fl =>
    cases fl with
    | ret u => exact I1.after hq
    | next => exact hq.elim
    | brk => exact hq.elim
    | cont => exact hq.elim
end
/-- f(e, ..), f a name of the def that holds a function with cells, which stand since the entry -/
def tCallV (f : Addr) (F : NF) (i : Nat) (ws : List (Option V)) (sp : List (Option V) → Sp) (E : XK) (t : TA) : TE := fun σ H Q => σ[i]? = some (some (.ref f)) ∧ H f = some (FnO f F) ∧
  t σ H fun vs H1 => H1 f = some (FnO f F) ∧ H1 F.c = some (CodeO F.c F.qual) ∧ sp ws vs H1 Q E
section
variable {X : Cx} {k j i : Nat} {f : Addr} {F : NF} {ps fr : List Str} {ws : List (Option V)} {sp : List (Option V) → Sp} {E : XK} {x : Str} {p pos : Pos} {e : Expr} {es : List Expr} {t : TA}
theorem pe_callV (Fn : NOk X.prog X.w X.K X.mg X.base CX0 k f F ps fr sp) (C : CellsAt F.cl fr ws X.s_0.heap X.H_0) (nf : ∀ y c, F.cl.lookup y = some c → c ∉ X.fs) (hex : X.ex = []) (hr : Room j X.A) (hk : k ≤ j) (hx : Passes CX0 X E) (hN : X.N[i]? = some x) (hv : Vis X.env.scope x)
    (ha : PA X (e :: es) t) (hd : (x == ("__debug__" : Str)) = false := by decide) (hcd : (x == ("__classdict__" : Str)) = false := by decide)
    (he : starEach (e :: es) X.env = (false, eval e X.env) :: starEach es X.env := by rfl) (hpl : (backTo pos (starEach es X.env)).any (·.1) = false := by rfl) :
    PE X (.Call (.Name x p) (e :: es) [] pos) (tCallV f F i ws sp E t) := by
  refine ⟨fun pins s σ H Q I h => ?_⟩
  obtain ⟨hs, hf, ht⟩ := h
  refine wpAny_Call_Name_kw (thn ((pe_var (pos := p) hN hv hd hcd).run pins s σ H (fun v H1 => v = .ref f ∧ H1 = H) I ⟨.ref f, hs, rfl, rfl⟩) fun u s1 ⟨v, H1, I1, r1, q1⟩ => ?_)
  obtain ⟨ev, eH⟩ := q1
  subst ev
  rw [eH] at I1
  obtain rfl : u = Value.ref f := r1
  refine PySem.W.callWith_F (first := []) (fnAt_of I1 hf) (thn (ha.run pos pins s1 σ H _ I1 ht) fun us s2 ⟨vs, H2, I2, r, h1, h2, q⟩ => ⟨fnAt_of I2 h1, ?_⟩) he hpl
  have C2 : CellsAt F.cl fr ws s2.heap H2 := C.later nf (fun y c _ z => by rw [hex] at z; cases z) I2
  refine wpAny_call (codeAny_mono (Fn.run X.A X.stack s2 H2 us vs ws Q E (hr.mono hk) I2.env0 h1 h2 C2 r q) fun r s' hq => ?_)
  cases r with
  | error e => exact hx pins σ H2 s2 e s' I2 hq
  | ok fl =>
    cases fl with
    | ret u => exact I2.after hq
    | next => exact hq.elim
    | brk => exact hq.elim
    | cont => exact hq.elim
end
/-- the cells of the def that makes a function: no frame of the stack -/
theorem cells_nofr {X : Cx} {pins : List (Addr × Obj)} {σ : L2.St} {H : Hp} {s : Shared} (I : Inv X pins σ H s) (hfn : ∀ x, X.fn x = true) {y : Str} {c : Addr} (h : X.env.cells.lookup y = some c) : c ∉ frs X.stack := by
  intro hb
  obtain ⟨v, o, ho, hd⟩ := I.cell y c h
  rcases List.mem_cons.mp (I.stkSub c hb) with z | z
  · obtain ⟨m, ⟨o', es, ep, e, d, _⟩, _⟩ := I.loc
    rw [z] at ho
    rw [ho] at e
    cases e
    rw [hd] at d
    cases d
  · have h1 := I.ok.cab y c (hfn y) h
    obtain ⟨_, o2, h2, _⟩ := I.ok.funs.mem z
    exact absurd (Heap.lt_size h2) (Nat.not_lt.mpr h1)
/-- the law's end, when a def of the program makes functions: its table of code objects is empty at the start -/
theorem walk_tab {l : PySem.W.OpenLaw} {n k : Nat} {q : Program} {loose : List Str} {XP : (Str → Option Value) → Heap → Prop} {YP : World → Heap → Prop} {d : DefRec} {K : Params → PySem.W.Frag} {CX : World → CXT} {x : Str} (nm : Str)
    (hn : l.most = some n) (hn2 : n ≤ sizeLine) (hdf : d.params.defaults = []) (hr : Room k callerA) (hrec : ((recsOf q).any fun e => e.name == nm) = true) (hY : ∀ (w : World) (h : Heap), YP w h → (K w.params).In h)
    (F : ∀ (w : World) (mg : Str → Option Value) (fa : Addr) (h : Heap), YP w h → (K w.params).In h → h.Ns mainGlobals mg → mg d.name = some (.ref fa) → (∀ c p, PySem.W.tabIn (K w.params) nm = some (c, p) → PySem.W.CodeHd h c p ∧ h.get? p = some { cls := .none, data := .fields #[] }) → LawAtS l w (K w.params) (CX w) k n x mg fa h)
    (hCX : ∀ (w : World) (H : Hp) (s : Shared) (e : Value) (s' : Shared), CX w [] H s (fun _ _ _ => False) e s' → False) :
    PySem.W.WalkO q loose XP YP l.row.toRowW d [] (fun f vs => PySem.call f vs) := by
  refine Att.attach_callB hn hdf fun w s₀ s₁ mg mb fa o pm cd doc a vs ns G Y ho hd hcd hmg hobj hints hlen hbits hg => ?_
  have KX := hY w _ Y
  obtain ⟨fd, cs, sp, hT, nT, C, hb, hsp, hF⟩ := F w mg fa _ Y KX G.T.g hmg fun c p ht => by
    cases e : (recsOf q).find? fun e => e.name == nm with
    | none =>
      obtain ⟨z, h1, h2⟩ := List.any_eq_true.mp hrec
      exact absurd h2 (List.find?_eq_none.mp e z h1)
    | some dd => exact PySem.W.tab_of G.T KX e ht
  exact law_callTs KX G.T.g G.T.b G.T.builtins G.T.nolimit hg hT nT C G.T.bmain hobj hints (Nat.le_trans hlen hn2) hr hF hb (fun H hH hS => hsp H a ns hlen hbits hH hS) fun H e s' => hCX w H s₁ e s'
/-! ### data behind a table that has grown -/
section
variable {K : PySem.W.Frag} {H H' : Hp}
theorem rd_monoN {a : Addr} {xs : List V} (e : ExtN H H') (h : Rd H a (.tup xs)) : Rd H' a (.tup xs) := by
  rcases h with h | ⟨o, h⟩
  · exact .inl (e _ _ h fun _ z => by cases z)
  · exact .inr ⟨o, e _ _ h fun _ z => by cases z⟩
theorem sqT_monoN {a : Addr} {xs : List V} (e : ExtN H H') (h : SqT K H a xs) : SqT K H' a xs := h.elim (fun z => .inl (rd_monoN e z)) .inr
mutual
theorem dt_monoN (e : ExtN H H') : ∀ (d : PyData) (v : V), Dt K H v d → Dt K H' v d
  | _, _, .non => .non
  | _, _, .bl b => .bl b
  | _, _, .int i => .int i
  | _, _, .str x => .str x
  | _, _, .lst h a => .lst (e _ _ h fun _ z => by cases z) (dts_monoN e _ _ a)
  | _, _, .tup h a => .tup (sqT_monoN e h) (dts_monoN e _ _ a)
theorem dts_monoN (e : ExtN H H') : ∀ (ds : List PyData) (vs : List V), DtAll K H vs ds → DtAll K H' vs ds
  | _, _, .nil => .nil
  | _, _, .cons h t => .cons (dt_monoN e _ _ h) (dts_monoN e _ _ t)
end
theorem extN_of (e : Ex H H') : ExtN H H' := fun b o h _ => e b o h
theorem extN_trans {H1 H2 H3 : Hp} (a : ExtN H1 H2) (b : ExtN H2 H3) : ExtN H1 H3 := fun x o h n => b x o (a x o h n) n
end
/-! ### data again, from a heap on -/
section
variable {K : PySem.W.Frag} {H : Hp}
theorem sc_at {σ : L2.St} {δ : List Sl} (hl : σ.length = δ.length) (h : ∀ (i : Nat) (s : Sl), δ[i]? = some s → s = .no ∨ ∃ v, σ[i]? = some (some v) ∧ Is K H v s) : Sc K H H H H σ δ := by
  refine ⟨.refl (.refl H), hl, fun i s hi hv => ?_, fun i ds hi => ?_, fun i j ds es l hi hj h1 h2 => ?_⟩
  · rcases h i s hi with z | z
    · subst z
      cases hv
    · exact z
  · rcases h i _ hi with z | ⟨v, _, z⟩
    · cases z
    · exact z.elim
  · rcases h i _ hi with z | ⟨v, _, z⟩
    · cases z
    · exact z.elim
/-- the ints among the slots, in any later heap -/
theorem sc_ints {B0 H0 B H1 : Hp} {σ : L2.St} {δ δ' : List Sl} (S : Sc K B0 H0 B H1 σ δ) (hl : δ'.length = δ.length) (h : ∀ (i : Nat) (s : Sl), δ'[i]? = some s → s = .no ∨ ∃ n, s = nI n ∧ δ[i]? = some (nI n)) : Sc K H H H H σ δ' := by
  refine sc_at (by rw [S.len, hl]) fun i s hi => ?_
  rcases h i s hi with z | ⟨n, rfl, z⟩
  · exact .inl z
  · obtain ⟨v, h1, h2⟩ := S.val i _ z rfl
    cases h2
    exact .inr ⟨_, h1, .int n⟩
end
/-! ### statements, what comes behind is told by itself -/
def SDq (K : PySem.W.Frag) (B0 H0 : Hp) (D : Ends) (ts : TS) (δ : List Sl) : Prop := ∀ B H σ, Sc K B0 H0 B H σ δ → ts D σ H
theorem qq {K : PySem.W.Frag} {B0 H0 : Hp} {D : Ends} {t u : TS} {δ : List Sl} {R : PyData → Prop} (hr : ∀ v d (B' H' : Hp), R d → Dt K B' v d → D.rt v H') (h : SD K B0 H0 (fun _ _ _ _ => False) t δ { nx := fun δ' => SDq K B0 H0 D u δ', rt := R }) : SDq K B0 H0 D (tSeq t u) δ := fun B H σ S =>
  h { D with nx := u D } B H σ S ⟨fun B' H' σ' δ' _ S' q => q B' H' σ' S', fun v d B' H' _ _ dv r => hr v d B' H' r dv, fun _ _ _ _ _ _ z => z.elim, fun _ _ _ _ _ _ z => z.elim, fun _ _ _ _ _ _ _ z => z.elim, fun _ _ _ _ _ _ _ _ _ _ _ z => z.elim⟩
/-- the body of a function with one cell, an int -/
theorem run_nbody {K : PySem.W.Frag} {A : Type} {enc : A → List Sl} {pre : A → Prop} {post : A → PyData → Prop} {N : List Str} {vs : List V} {H : Hp} {Q : VK} {R : XK} {b : Int} {ts : TS} (h : SpA K enc pre post vs H Q R)
    (hb : ∀ a B, pre a → SD K B H (fun _ _ _ _ => False) ts ((enc a ++ [nI b]) ++ List.replicate (N.length - (enc a).length - 1) Sl.no) { nx := fun _ => post a .none, rt := post a }) : ts { nx := fun _ H' => Q .non H', rt := Q } (startF N vs [some (.int b)]) H := by
  obtain ⟨B, a, e, iv, hp, q⟩ := h
  have iv2 : IsAll K B (vs ++ [V.int b]) (enc a ++ [nI b]) := by
    have key : ∀ {vs : List V} {ss : List Sl}, IsAll K B vs ss → IsAll K B (vs ++ [V.int b]) (ss ++ [nI b]) := by
      intro vs ss h
      induction h with
      | nil => exact .cons (Dt.int b) .nil
      | cons h _ ih => exact .cons h ih
    exact key iv
  have S := sc_start (N.length - vs.length - 1) e iv2
  have hl := iv.len
  have hb' := hb a B hp
  rw [← hl] at hb'
  have e2 : startF N vs [some (.int b)] = (vs ++ [V.int b]).map some ++ List.replicate (N.length - vs.length - 1) none := by
    unfold startF
    rw [List.map_append, List.append_assoc]
    rfl
  rw [e2]
  exact hb' _ B H _ S ⟨fun B' H' σ' δ' _ S' hp => q .non .none B' H' hp S'.st .non, fun v d B' H' _ st dv hp => q v d B' H' hp st dv, fun _ _ _ _ _ _ z => z.elim, fun _ _ _ _ _ _ z => z.elim, fun _ _ _ _ _ _ _ z => z.elim, fun _ _ _ _ _ _ _ _ _ _ _ z => z.elim⟩
/-- the call of such a function by data -/
def spNest (K : PySem.W.Frag) {A : Type} (enc : A → List Sl) (pre : Int → A → Prop) (post : Int → A → PyData → Prop) : List (Option V) → Sp := fun ws vs H Q E => ∃ b, ws = [some (.int b)] ∧ SpA K enc (pre b) (post b) vs H Q E
theorem d_callV {K : PySem.W.Frag} {B0 H0 : Hp} {δ : List Sl} {A : Type} {enc : A → List Sl} {pre : Int → A → Prop} {post : Int → A → PyData → Prop} {f : Addr} {F : NF} {i : Nat} {b : Int} {E : XK} {t : TA} (a : A) (hi : δ[i]? = some (.raw (.ref f))) (h1 : B0 f = some (FnO f F)) (h2 : B0 F.c = some (CodeO F.c F.qual)) (h : EvA K B0 H0 t δ (enc a)) (hp : pre b a) :
    EvR K B0 H0 (tCallV f F i [some (.int b)] (spNest K enc pre post) E t) δ (post b a) := fun B H σ S Q q => by
  obtain ⟨v, g1, g2⟩ := S.val i _ hi rfl
  have g2 : v = .ref f := g2
  subst g2
  refine ⟨g1, S.st.bh _ _ (S.st.b _ _ h1), h B H σ S _ fun vs B1 H1 s1 i1 => ⟨s1.bh _ _ (s1.b _ _ (S.st.b _ _ h1)), s1.bh _ _ (s1.b _ _ (S.st.b _ _ h2)), b, rfl, B1, a, s1.bh, i1, hp, fun v d B2 H2 p st dv => q v d B2 H2 p (s1.trans st) dv⟩⟩
/-- any value -/
def anyS : Sl := .sem ⟨fun _ _ => True, fun _ _ => True.intro⟩
theorem d_any {K : PySem.W.Frag} {B0 H0 : Hp} {δ : List Sl} {n : Nat} {s : Sl} (h : δ[n]? = some s) (hs : s ≠ .no) : EvS K B0 H0 (tVar n) δ anyS := fun B H σ S Q q => by
  cases s with
  | no => exact absurd rfl hs
  | own ds =>
    obtain ⟨l, vs, h1, _⟩ := S.own n ds h
    exact ⟨_, h1, q _ B H (.refl S.st.bh) True.intro⟩
  | raw v =>
    obtain ⟨v, h1, _⟩ := S.val n _ h rfl
    exact ⟨_, h1, q _ B H (.refl S.st.bh) True.intro⟩
  | dat d =>
    obtain ⟨v, h1, _⟩ := S.val n _ h rfl
    exact ⟨_, h1, q _ B H (.refl S.st.bh) True.intro⟩
  | sem m =>
    obtain ⟨v, h1, _⟩ := S.val n _ h rfl
    exact ⟨_, h1, q _ B H (.refl S.st.bh) True.intro⟩
end Ln

/-! Own: a def of the program that is handed to another one, called by its local name. -/
namespace Lg
open PySem PySem.Spec PyProof.Rows L2 Evl Cm Ja LamX NdefX Ln
def tCallG (f : Addr) (i : Nat) (sp : Sp) (E : XK) (t : TA) : TE := fun σ H Q => σ[i]? = some (some (.ref f)) ∧ t σ H fun vs H1 => sp vs H1 Q E
section
variable {X : Cx} {k i : Nat} {f : Addr} {fd : FuncData} {ps : List Str} {sp : Sp} {E : XK} {x : Str} {p pos : Pos} {e : Expr} {es : List Expr} {t : TA}
theorem pe_callG (F : FnOk X.prog X.w X.K X.mg X.base CX0 k f fd ps sp) (hr : Room k X.A) (hk : PySem.W.keepIn X.K (.ref f) = true) (hb : Binds X.K fd ps []) (hx : Passes CX0 X E) (hN : X.N[i]? = some x) (hv : Vis X.env.scope x)
    (ha : PA X (e :: es) t) (hd : (x == ("__debug__" : Str)) = false := by decide) (hcd : (x == ("__classdict__" : Str)) = false := by decide)
    (he : starEach (e :: es) X.env = (false, eval e X.env) :: starEach es X.env := by rfl) (hpl : (backTo pos (starEach es X.env)).any (·.1) = false := by rfl) :
    PE X (.Call (.Name x p) (e :: es) [] pos) (tCallG f i sp E t) := by
  refine ⟨fun pins s σ H Q I h => ?_⟩
  obtain ⟨hs, ht⟩ := h
  refine wpAny_Call_Name_kw (thn ((pe_var (pos := p) hN hv hd hcd).run pins s σ H (fun v H1 => v = .ref f ∧ H1 = H) I ⟨.ref f, hs, rfl, rfl⟩) fun u s1 ⟨v, H1, I1, r1, q1⟩ => ?_)
  obtain ⟨ev, eH⟩ := q1
  subst ev
  rw [eH] at I1
  obtain rfl : u = Value.ref f := r1
  refine PySem.W.callWith_K (h₀ := X.base) I1.ok.mod.kin hk (thn (ha.run pos pins s1 σ H _ I1 ht) fun us s2 ⟨vs, H2, I2, r, q⟩ => ⟨I2.kIn, ?_⟩) he hpl
  have hl := F.len _ _ _ _ q
  have bind := hb s2 us I2.kIn (by rw [List.append_nil, ← r.length]; exact hl)
  rw [List.append_nil] at bind
  refine wpAny_call (codeAny_mono (F.run X.A X.stack s2 H2 ⟨us, []⟩ us vs Q E hr I2.env0 bind r q) fun r s' hq => ?_)
  cases r with
  | error e => exact hx pins σ H2 s2 e s' I2 hq
  | ok fl =>
    cases fl with
    | ret u => exact I2.after hq
    | next => exact hq.elim
    | brk => exact hq.elim
    | cont => exact hq.elim
end
theorem d_callG {K : PySem.W.Frag} {B0 H0 : Hp} {δ : List Sl} {A : Type} {enc : A → List Sl} {pre : A → Prop} {post : A → PyData → Prop} {f : Addr} {i : Nat} {E : XK} {t : TA} (a : A) (hi : δ[i]? = some (.raw (.ref f))) (h : EvA K B0 H0 t δ (enc a)) (hp : pre a) :
    EvR K B0 H0 (tCallG f i (SpA K enc pre post) E t) δ (post a) := fun B H σ S Q q => by
  obtain ⟨v, g1, g2⟩ := S.val i _ hi rfl
  have g2 : v = .ref f := g2
  subst g2
  exact ⟨g1, h B H σ S _ fun vs B1 H1 s1 i1 => ⟨B1, a, s1.bh, i1, hp, fun v d B2 H2 p st dv => q v d B2 H2 p (s1.trans st) dv⟩⟩
end Lg

/-! Own: real numbers, as sequences of fractions that come together; no program in it. -/
namespace Re
theorem q_mul {x d B e : Rat} (h1 : -B ≤ x) (h2 : x ≤ B) (h3 : -e ≤ d) (h4 : d ≤ e) : x * d ≤ B * e ∧ -(B * e) ≤ x * d := by
  have k1 := Rat.mul_nonneg (show 0 ≤ B - x by grind) (show 0 ≤ e + d by grind)
  have k2 := Rat.mul_nonneg (show 0 ≤ B + x by grind) (show 0 ≤ e - d by grind)
  have k3 := Rat.mul_nonneg (show 0 ≤ B - x by grind) (show 0 ≤ e - d by grind)
  have k4 := Rat.mul_nonneg (show 0 ≤ B + x by grind) (show 0 ≤ e + d by grind)
  constructor <;> grind
theorem q_half {e : Rat} (h : 0 < e) : 0 < e / 2 := by grind
theorem q_div {e B : Rat} (h : 0 < e) (hB : 0 < B) : 0 < e / B ∧ B * (e / B) = e := by
  have : B ≠ 0 := by grind
  have e2 : B * (e / B) = e := by grind
  refine ⟨?_, e2⟩
  apply Classical.byContradiction
  intro c
  have := Rat.mul_nonneg (show 0 ≤ B by grind) (show 0 ≤ -(e / B) by grind)
  grind
abbrev Sq := Nat → Rat
def Cau (f : Sq) : Prop := ∀ e : Rat, 0 < e → ∃ N, ∀ m n, N ≤ m → N ≤ n → f m - f n < e
theorem Cau.bdd {f : Sq} (h : Cau f) : ∃ B N, 0 < B ∧ ∀ n, N ≤ n → -B ≤ f n ∧ f n ≤ B := by
  obtain ⟨N, hN⟩ := h 1 (by grind)
  have : ∃ B : Rat, 0 < B ∧ -B ≤ f N - 1 ∧ f N + 1 ≤ B := by
    rcases Rat.le_total (a := 0) (b := f N) with c | c
    · exact ⟨f N + 1, by grind⟩
    · exact ⟨1 - f N, by grind⟩
  obtain ⟨B, b1, b2, b3⟩ := this
  exact ⟨B, N, b1, fun n hn => by
    have k1 := hN n N hn (Nat.le_refl _)
    have k2 := hN N n (Nat.le_refl _) hn
    grind⟩
structure CS where
  f : Sq
  h : Cau f
namespace CS
def le (a b : CS) : Prop := ∀ e : Rat, 0 < e → ∃ N, ∀ n, N ≤ n → a.f n ≤ b.f n + e
theorem le_refl (a : CS) : le a a := fun e h => ⟨0, fun n _ => by grind⟩
theorem le_trans {a b c : CS} (h1 : le a b) (h2 : le b c) : le a c := fun e h => by
  obtain ⟨N, hN⟩ := h1 _ (q_half h)
  obtain ⟨M, hM⟩ := h2 _ (q_half h)
  exact ⟨N + M, fun n hn => by
    have := hN n (by omega)
    have := hM n (by omega)
    grind⟩
theorem le_total (a b : CS) : le a b ∨ le b a := by
  apply Classical.byContradiction
  intro c
  have c1 : ¬ le a b := fun h => c (.inl h)
  have c2 : ¬ le b a := fun h => c (.inr h)
  apply c1
  intro e he
  apply Classical.byContradiction
  intro c3
  apply c2
  intro d hd
  obtain ⟨N, hN⟩ := a.h (e / 2) (q_half he)
  obtain ⟨M, hM⟩ := b.h (e / 2) (q_half he)
  have : ∃ n, N + M ≤ n ∧ ¬ a.f n ≤ b.f n + e := by
    apply Classical.byContradiction
    intro c4
    apply c3
    exact ⟨N + M, fun n hn => Classical.byContradiction fun c5 => c4 ⟨n, hn, c5⟩⟩
  obtain ⟨n, hn, k⟩ := this
  exact ⟨N + M, fun m hm => by
    have := hN n m (by omega) (by omega)
    have := hM m n (by omega) (by omega)
    grind⟩
def const (q : Rat) : CS := ⟨fun _ => q, fun e h => ⟨0, fun m n _ _ => by grind⟩⟩
def add (a b : CS) : CS := ⟨fun n => a.f n + b.f n, fun e h => by
  obtain ⟨N, hN⟩ := a.h _ (q_half h)
  obtain ⟨M, hM⟩ := b.h _ (q_half h)
  exact ⟨N + M, fun m n hm hn => by
    have := hN m n (by omega) (by omega)
    have := hM m n (by omega) (by omega)
    grind⟩⟩
def neg (a : CS) : CS := ⟨fun n => - a.f n, fun e h => by
  obtain ⟨N, hN⟩ := a.h _ h
  exact ⟨N, fun m n hm hn => by
    have := hN n m hn hm
    grind⟩⟩
def mul (a b : CS) : CS := ⟨fun n => a.f n * b.f n, fun e h => by
  obtain ⟨A, N0, hA, h0⟩ := a.h.bdd
  obtain ⟨B, M0, hB, h1⟩ := b.h.bdd
  obtain ⟨d1, d2⟩ := q_div (q_half (q_half h)) hB
  obtain ⟨c1, c2⟩ := q_div (q_half (q_half h)) hA
  obtain ⟨N, hN⟩ := a.h _ d1
  obtain ⟨M, hM⟩ := b.h _ c1
  exact ⟨N0 + M0 + N + M, fun m n hm hn => by
    have x1 := h0 m (by omega)
    have x2 := h1 n (by omega)
    have y1 := hN m n (by omega) (by omega)
    have y2 := hN n m (by omega) (by omega)
    have z1 := hM m n (by omega) (by omega)
    have z2 := hM n m (by omega) (by omega)
    have p1 := (q_mul x1.1 x1.2 (d := b.f m - b.f n) (e := e / 2 / 2 / A) (by grind) (by grind)).1
    have p2 := (q_mul x2.1 x2.2 (d := a.f m - a.f n) (e := e / 2 / 2 / B) (by grind) (by grind)).1
    rw [c2] at p1
    rw [d2] at p2
    have e1 : a.f m * b.f m - a.f n * b.f n = a.f m * (b.f m - b.f n) + b.f n * (a.f m - a.f n) := by grind
    grind⟩⟩
theorem add_le {a b c d : CS} (h1 : le a b) (h2 : le c d) : le (add a c) (add b d) := fun e h => by
  obtain ⟨N, hN⟩ := h1 _ (q_half h)
  obtain ⟨M, hM⟩ := h2 _ (q_half h)
  exact ⟨N + M, fun n hn => by
    have := hN n (by omega)
    have := hM n (by omega)
    simp only [add]
    grind⟩
theorem neg_le {a b : CS} (h1 : le a b) : le (neg b) (neg a) := fun e h => by
  obtain ⟨N, hN⟩ := h1 _ h
  exact ⟨N, fun n hn => by
    have := hN n (by omega)
    simp only [neg]
    grind⟩
theorem mul_le' {a b c d : CS} (h1 : le a b) (h2 : le b a) (h3 : le c d) (h4 : le d c) : le (mul a c) (mul b d) := fun e h => by
  obtain ⟨A, N0, hA, h0⟩ := a.h.bdd
  obtain ⟨B, M0, hB, k0⟩ := d.h.bdd
  obtain ⟨d1, d2⟩ := q_div (q_half (q_half h)) hB
  obtain ⟨c1, c2⟩ := q_div (q_half (q_half h)) hA
  obtain ⟨N1, hN1⟩ := h1 _ d1
  obtain ⟨N2, hN2⟩ := h2 _ d1
  obtain ⟨N3, hN3⟩ := h3 _ c1
  obtain ⟨N4, hN4⟩ := h4 _ c1
  exact ⟨N0 + M0 + N1 + N2 + N3 + N4, fun n hn => by
    have x1 := h0 n (by omega)
    have x2 := k0 n (by omega)
    have y1 := hN1 n (by omega)
    have y2 := hN2 n (by omega)
    have y3 := hN3 n (by omega)
    have y4 := hN4 n (by omega)
    have p1 := (q_mul x1.1 x1.2 (d := c.f n - d.f n) (e := e / 2 / 2 / A) (by grind) (by grind)).1
    have p2 := (q_mul x2.1 x2.2 (d := a.f n - b.f n) (e := e / 2 / 2 / B) (by grind) (by grind)).1
    rw [c2] at p1
    rw [d2] at p2
    have e1 : a.f n * c.f n - b.f n * d.f n = a.f n * (c.f n - d.f n) + d.f n * (a.f n - b.f n) := by grind
    simp only [mul]
    grind⟩
/-- not le: from some place on there is a gap -/
theorem gap {a b : CS} (h : ¬ le b a) : ∃ e, 0 < e ∧ ∃ N, ∀ n, N ≤ n → a.f n + e ≤ b.f n := by
  have : ∃ e : Rat, 0 < e ∧ ¬ ∃ N, ∀ n, N ≤ n → b.f n ≤ a.f n + e := by
    apply Classical.byContradiction
    intro c
    exact h fun e he => Classical.byContradiction fun c2 => c ⟨e, he, c2⟩
  obtain ⟨e, he, k⟩ := this
  obtain ⟨N, hN⟩ := a.h (e / 2 / 2) (q_half (q_half he))
  obtain ⟨M, hM⟩ := b.h (e / 2 / 2) (q_half (q_half he))
  have : ∃ n, N + M ≤ n ∧ ¬ b.f n ≤ a.f n + e := by
    apply Classical.byContradiction
    intro c4
    apply k
    exact ⟨N + M, fun n hn => Classical.byContradiction fun c5 => c4 ⟨n, hn, c5⟩⟩
  obtain ⟨n, hn, k2⟩ := this
  exact ⟨e / 2, q_half he, N + M, fun m hm => by
    have := hN m n (by omega) (by omega)
    have := hM n m (by omega) (by omega)
    grind⟩
instance sd : Setoid CS where
  r a b := le a b ∧ le b a
  iseqv := ⟨fun a => ⟨le_refl a, le_refl a⟩, fun h => ⟨h.2, h.1⟩, fun h k => ⟨le_trans h.1 k.1, le_trans k.2 h.2⟩⟩
end CS
def R : Type := Quotient CS.sd
namespace R
open CS
theorem eq_of {a b : CS} (h : ∀ n, a.f n = b.f n) : (Quotient.mk CS.sd a : R) = Quotient.mk CS.sd b :=
  Quotient.sound ⟨fun e he => ⟨0, fun n _ => by have := h n; grind⟩, fun e he => ⟨0, fun n _ => by have := h n; grind⟩⟩
def mk (a : CS) : R := Quotient.mk _ a
def ofQ (q : Rat) : R := mk (const q)
def add : R → R → R := Quotient.lift₂ (fun a b => Quotient.mk _ (CS.add a b)) fun _ _ _ _ h k => Quotient.sound ⟨add_le h.1 k.1, add_le h.2 k.2⟩
def neg : R → R := Quotient.lift (fun a => Quotient.mk _ (CS.neg a)) fun _ _ h => Quotient.sound ⟨neg_le h.2, neg_le h.1⟩
def mul : R → R → R := Quotient.lift₂ (fun a b => Quotient.mk _ (CS.mul a b)) fun _ _ _ _ h k => Quotient.sound ⟨mul_le' h.1 h.2 k.1 k.2, mul_le' h.2 h.1 k.2 k.1⟩
def le : R → R → Prop := Quotient.lift₂ CS.le fun _ _ _ _ h k => propext ⟨fun x => le_trans h.2 (le_trans x k.1), fun x => le_trans h.1 (le_trans x k.2)⟩
instance : LE R := ⟨le⟩
instance : LT R := ⟨fun a b => le a b ∧ ¬ le b a⟩
instance : Add R := ⟨add⟩
instance : Neg R := ⟨neg⟩
instance : Mul R := ⟨mul⟩
instance : Sub R := ⟨fun a b => a + -b⟩
instance : NatCast R := ⟨fun n => ofQ n⟩
instance : IntCast R := ⟨fun n => ofQ n⟩
instance (n : Nat) : OfNat R n := ⟨ofQ (n : Rat)⟩
def pow (a : R) : Nat → R
  | 0 => 1
  | n + 1 => pow a n * a
instance : HPow R Nat R := ⟨pow⟩
instance : SMul Nat R := ⟨fun n a => ofQ (n : Rat) * a⟩
instance : SMul Int R := ⟨fun n a => ofQ (n : Rat) * a⟩
theorem le_mk {a b : CS} : (mk a ≤ mk b) = CS.le a b := rfl
theorem ofQ_add (a b : Rat) : ofQ (a + b) = ofQ a + ofQ b := eq_of fun _ => rfl
theorem ofQ_mul (a b : Rat) : ofQ (a * b) = ofQ a * ofQ b := eq_of fun _ => rfl
theorem ofQ_neg (a : Rat) : ofQ (-a) = -ofQ a := eq_of fun _ => rfl
theorem ofQ_le {a b : Rat} : ofQ a ≤ ofQ b ↔ a ≤ b := by
  constructor
  · intro h
    apply Classical.byContradiction
    intro c
    obtain ⟨N, hN⟩ := h ((a - b) / 2) (by grind)
    have := hN N (Nat.le_refl _)
    simp only [const] at this
    grind
  · intro h e he
    exact ⟨0, fun n _ => by simp only [const]; grind⟩
/-- the inverse of a sequence that keeps away from 0 -/
theorem inv_cau {a : CS} (h : ∃ e : Rat, 0 < e ∧ ∃ N, ∀ n, N ≤ n → e ≤ a.f n ∨ a.f n ≤ -e) : Cau fun n => (a.f n)⁻¹ := by
  obtain ⟨e, he, N, hN⟩ := h
  intro d hd
  have hd2 : 0 < d * e * e := Rat.mul_pos (Rat.mul_pos hd he) he
  obtain ⟨M, hM⟩ := a.h _ hd2
  refine ⟨N + M, fun m n hm hn => ?_⟩
  have y1 := hM m n (by omega) (by omega)
  have y2 := hM n m (by omega) (by omega)
  have z1 := hN m (by omega)
  have z2 := hN n (by omega)
  show (a.f m)⁻¹ - (a.f n)⁻¹ < d
  generalize a.f m = x at y1 y2 z1 ⊢
  generalize a.f n = y at y1 y2 z2 ⊢
  have hx : x ≠ 0 := by grind
  have hy : y ≠ 0 := by grind
  have e1 : (x⁻¹ - y⁻¹) * (x * y) = y - x := by grind
  have p : e * e ≤ x * y ∨ x * y ≤ -(e * e) := by
    rcases z1 with z1 | z1 <;> rcases z2 with z2 | z2
    · left
      have := Rat.mul_nonneg (show 0 ≤ x - e by grind) (show 0 ≤ y - e by grind)
      have := Rat.mul_nonneg (show 0 ≤ x - e by grind) (show 0 ≤ e by grind)
      have := Rat.mul_nonneg (show 0 ≤ y - e by grind) (show 0 ≤ e by grind)
      grind
    · right
      have := Rat.mul_nonneg (show 0 ≤ x - e by grind) (show 0 ≤ -y - e by grind)
      have := Rat.mul_nonneg (show 0 ≤ x - e by grind) (show 0 ≤ e by grind)
      have := Rat.mul_nonneg (show 0 ≤ -y - e by grind) (show 0 ≤ e by grind)
      grind
    · right
      have := Rat.mul_nonneg (show 0 ≤ -x - e by grind) (show 0 ≤ y - e by grind)
      have := Rat.mul_nonneg (show 0 ≤ -x - e by grind) (show 0 ≤ e by grind)
      have := Rat.mul_nonneg (show 0 ≤ y - e by grind) (show 0 ≤ e by grind)
      grind
    · left
      have := Rat.mul_nonneg (show 0 ≤ -x - e by grind) (show 0 ≤ -y - e by grind)
      have := Rat.mul_nonneg (show 0 ≤ -x - e by grind) (show 0 ≤ e by grind)
      have := Rat.mul_nonneg (show 0 ≤ -y - e by grind) (show 0 ≤ e by grind)
      grind
  generalize x⁻¹ - y⁻¹ = t at e1 ⊢
  generalize hw : x * y = v at e1 p
  apply Classical.byContradiction
  intro c
  have c : d ≤ t := by grind
  rcases p with p | p
  · have := Rat.mul_nonneg (show 0 ≤ t - d by grind) (show 0 ≤ v - e * e by grind)
    have := Rat.mul_nonneg (show 0 ≤ t - d by grind) (Rat.le_of_lt (Rat.mul_pos he he))
    have := Rat.mul_nonneg (show 0 ≤ d by grind) (show 0 ≤ v - e * e by grind)
    grind
  · have := Rat.mul_nonneg (show 0 ≤ t - d by grind) (show 0 ≤ -v - e * e by grind)
    have := Rat.mul_nonneg (show 0 ≤ t - d by grind) (Rat.le_of_lt (Rat.mul_pos he he))
    have := Rat.mul_nonneg (show 0 ≤ d by grind) (show 0 ≤ -v - e * e by grind)
    grind
theorem away {a : CS} (h : mk a ≠ 0) : ∃ e : Rat, 0 < e ∧ ∃ N, ∀ n, N ≤ n → e ≤ a.f n ∨ a.f n ≤ -e := by
  have : ¬ CS.le a (const (0 : Nat)) ∨ ¬ CS.le (const (0 : Nat)) a := by
    apply Classical.byContradiction
    intro c
    apply h
    exact Quotient.sound ⟨Classical.byContradiction fun c1 => c (.inl c1), Classical.byContradiction fun c1 => c (.inr c1)⟩
  rcases this with k | k
  · obtain ⟨e, he, N, hN⟩ := gap k
    exact ⟨e, he, N, fun n hn => .inl (by have := hN n hn; simp only [const] at this; grind)⟩
  · obtain ⟨e, he, N, hN⟩ := gap k
    exact ⟨e, he, N, fun n hn => .inr (by have := hN n hn; simp only [const] at this; grind)⟩
open Classical in
noncomputable def inv (x : R) : R := if h : ∃ y : R, x * y = 1 then Classical.choose h else 0
noncomputable instance : Inv R := ⟨inv⟩
noncomputable instance : Div R := ⟨fun a b => a * b⁻¹⟩
theorem mul_inv {x : R} (h : x ≠ 0) : x * x⁻¹ = 1 := by
  have : ∃ y : R, x * y = 1 := by
    revert h
    refine Quotient.inductionOn x fun a h => ?_
    obtain ⟨e, he, N, hN⟩ := away h
    refine ⟨Quotient.mk _ ⟨_, inv_cau (away h)⟩, Quotient.sound ⟨fun d hd => ⟨N, fun n hn => ?_⟩, fun d hd => ⟨N, fun n hn => ?_⟩⟩⟩
    · have := hN n hn
      simp only [CS.mul, const]
      have : a.f n * (a.f n)⁻¹ = 1 := Rat.mul_inv_cancel _ (by grind)
      grind
    · have := hN n hn
      simp only [CS.mul, const]
      have : a.f n * (a.f n)⁻¹ = 1 := Rat.mul_inv_cancel _ (by grind)
      grind
  show x * inv x = 1
  unfold inv
  rw [dif_pos this]
  exact Classical.choose_spec this
theorem ofQ_ne : ofQ ((0 : Nat) : Rat) ≠ ofQ ((1 : Nat) : Rat) := fun h => by
  have : ofQ ((1 : Nat) : Rat) ≤ ofQ ((0 : Nat) : Rat) := by rw [h]; exact CS.le_refl _
  have := ofQ_le.mp this
  revert this
  decide
theorem mul_zero' (a : R) : a * (0 : R) = 0 := Quotient.inductionOn a fun a => eq_of fun n => by show a.f n * ((0 : Nat) : Rat) = ((0 : Nat) : Rat); grind
theorem mul_comm' (a b : R) : a * b = b * a := Quotient.inductionOn₂ a b fun a b => eq_of fun n => by show a.f n * b.f n = b.f n * a.f n; grind
theorem inv_zero' : (0 : R)⁻¹ = 0 := by
  show inv 0 = 0
  unfold inv
  rw [dif_neg]
  intro ⟨y, h⟩
  rw [mul_comm', mul_zero'] at h
  exact ofQ_ne h
noncomputable def zpow (a : R) : Int → R
  | .ofNat n => a ^ n
  | .negSucc n => (a ^ (n + 1))⁻¹
noncomputable instance : HPow R Int R := ⟨zpow⟩
noncomputable instance : Lean.Grind.CommRing R where
  nsmul := ⟨fun n a => ofQ (n : Rat) * a⟩
  zsmul := ⟨fun n a => ofQ (n : Rat) * a⟩
  add_assoc a b c := Quotient.inductionOn₃ a b c fun a b c => eq_of fun n => by show a.f n + b.f n + c.f n = a.f n + (b.f n + c.f n); grind
  add_comm a b := Quotient.inductionOn₂ a b fun a b => eq_of fun n => by show a.f n + b.f n = b.f n + a.f n; grind
  add_zero a := Quotient.inductionOn a fun a => eq_of fun n => by show a.f n + ((0 : Nat) : Rat) = a.f n; grind
  neg_add_cancel a := Quotient.inductionOn a fun a => eq_of fun n => by show -a.f n + a.f n = ((0 : Nat) : Rat); grind
  mul_assoc a b c := Quotient.inductionOn₃ a b c fun a b c => eq_of fun n => by show a.f n * b.f n * c.f n = a.f n * (b.f n * c.f n); grind
  mul_comm := mul_comm'
  mul_one a := Quotient.inductionOn a fun a => eq_of fun n => by show a.f n * ((1 : Nat) : Rat) = a.f n; grind
  one_mul a := Quotient.inductionOn a fun a => eq_of fun n => by show ((1 : Nat) : Rat) * a.f n = a.f n; grind
  left_distrib a b c := Quotient.inductionOn₃ a b c fun a b c => eq_of fun n => by show a.f n * (b.f n + c.f n) = a.f n * b.f n + a.f n * c.f n; grind
  right_distrib a b c := Quotient.inductionOn₃ a b c fun a b c => eq_of fun n => by show (a.f n + b.f n) * c.f n = a.f n * c.f n + b.f n * c.f n; grind
  zero_mul a := by rw [mul_comm']; exact mul_zero' a
  mul_zero := mul_zero'
  pow_zero _ := rfl
  pow_succ _ _ := rfl
  ofNat_succ x := by
    show ofQ ((x + 1 : Nat) : Rat) = ofQ (x : Rat) + ofQ ((1 : Nat) : Rat)
    rw [← ofQ_add]
    congr 1
    grind
  sub_eq_add_neg _ _ := rfl
  neg_zsmul i a := by
    show ofQ ((-i : Int) : Rat) * a = -(ofQ (i : Rat) * a)
    have : ((-i : Int) : Rat) = -(i : Rat) := by grind
    rw [this]
    exact Quotient.inductionOn a fun a => eq_of fun n => by show -(i : Rat) * a.f n = -((i : Rat) * a.f n); grind
  zsmul_natCast_eq_nsmul n a := by
    show ofQ (((n : Int) : Int) : Rat) * a = ofQ (n : Rat) * a
    rfl
  intCast_ofNat n := rfl
  intCast_neg i := by
    show ofQ ((-i : Int) : Rat) = -ofQ (i : Rat)
    have : ((-i : Int) : Rat) = -(i : Rat) := by grind
    rw [this, ofQ_neg]
instance : Std.IsLinearOrder R where
  le_refl a := Quotient.inductionOn a fun a => CS.le_refl a
  le_trans a b c := Quotient.inductionOn₃ a b c fun a b c => CS.le_trans
  le_antisymm a b := Quotient.inductionOn₂ a b fun a b h k => Quotient.sound ⟨h, k⟩
  le_total a b := Quotient.inductionOn₂ a b fun a b => CS.le_total a b
instance : Std.LawfulOrderLT R where
  lt_iff _ _ := Iff.rfl
theorem add_le' {a b : R} (c : R) (h : a ≤ b) : a + c ≤ b + c := by
  revert h
  exact Quotient.inductionOn₃ a b c fun a b c h => CS.add_le h (CS.le_refl c)
instance : Lean.Grind.OrderedAdd R where
  add_le_left_iff {a b} c := ⟨add_le' c, fun h => by
    have := add_le' (-c) h
    have e1 : a + c + -c = a := by grind
    have e2 : b + c + -c = b := by grind
    rw [e1, e2] at this
    exact this⟩
theorem mul_pos' {a b : R} (h : 0 < a) (k : 0 < b) : 0 < a * b := by
  revert h k
  refine Quotient.inductionOn₂ a b fun a b h k => ?_
  obtain ⟨e, he, N, hN⟩ := gap h.2
  obtain ⟨d, hd, M, hM⟩ := gap k.2
  have p : ∀ n, N + M ≤ n → e * d ≤ a.f n * b.f n := fun n hn => by
    have x1 := hN n (by omega)
    have x2 := hM n (by omega)
    simp only [const] at x1 x2
    have := Rat.mul_nonneg (show 0 ≤ a.f n - e by grind) (show 0 ≤ b.f n - d by grind)
    have := Rat.mul_nonneg (show 0 ≤ a.f n - e by grind) (show 0 ≤ d by grind)
    have := Rat.mul_nonneg (show 0 ≤ e by grind) (show 0 ≤ b.f n - d by grind)
    grind
  have q := Rat.mul_pos he hd
  refine ⟨fun t ht => ⟨N + M, fun n hn => ?_⟩, fun c => ?_⟩
  · have := p n hn
    show ((0 : Nat) : Rat) ≤ a.f n * b.f n + t
    grind
  · obtain ⟨K, hK⟩ := c (e * d / 2) (by grind)
    have x1 := hK (N + M + K) (by omega)
    have x2 := p (N + M + K) (by omega)
    have x1 : a.f (N + M + K) * b.f (N + M + K) ≤ ((0 : Nat) : Rat) + e * d / 2 := x1
    grind
theorem zero_lt_one' : (0 : R) < 1 := ⟨ofQ_le.mpr (by decide), fun h => by have := ofQ_le.mp h; revert this; decide⟩
theorem lt_sub {a b : R} : a < b ↔ 0 < b - a := by
  constructor
  · intro h; grind
  · intro h; grind
instance : Lean.Grind.OrderedRing R where
  zero_lt_one := zero_lt_one'
  mul_lt_mul_of_pos_left {a b c} h k := by
    have := mul_pos' k (lt_sub.mp h)
    have e : c * (b - a) = c * b - c * a := by grind
    rw [e] at this
    exact lt_sub.mpr this
  mul_lt_mul_of_pos_right {a b c} h k := by
    have := mul_pos' (lt_sub.mp h) k
    have e : (b - a) * c = b * c - a * c := by grind
    rw [e] at this
    exact lt_sub.mpr this
theorem inv_uniq {x y : R} (h : x * y = 1) : x⁻¹ = y := by
  have hx : x ≠ 0 := by
    intro c
    rw [c, mul_comm', mul_zero'] at h
    exact ofQ_ne h
  have := mul_inv hx
  have e : x⁻¹ = (x * y) * x⁻¹ := by rw [h]; grind
  have e2 : (x * y) * x⁻¹ = (x * x⁻¹) * y := by grind
  rw [e, e2, this]
  grind
theorem inv_inv' (x : R) : x⁻¹⁻¹ = x := by
  rcases Classical.em (x = 0) with h | h
  · rw [h, inv_zero', inv_zero']
  · exact inv_uniq (by rw [mul_comm']; exact mul_inv h)
noncomputable instance : Lean.Grind.Field R where
  div_eq_mul_inv _ _ := rfl
  zero_ne_one := ofQ_ne
  inv_zero := inv_zero'
  mul_inv_cancel := mul_inv
  zpow_zero _ := rfl
  zpow_succ a n := rfl
  zpow_neg a n := by
    match n with
    | .ofNat 0 =>
      show (1 : R) = (1 : R)⁻¹
      exact (inv_uniq (by grind)).symm
    | .ofNat (k + 1) => rfl
    | .negSucc k =>
      show a ^ (k + 1) = ((a ^ (k + 1))⁻¹)⁻¹
      exact (inv_inv' _).symm
theorem ofQ_nat (n : Nat) : ofQ (n : Rat) = (n : R) := rfl
theorem ofQ_int (n : Int) : ofQ (n : Rat) = (n : R) := rfl
theorem cast_add (a b : Int) : ((a + b : Int) : R) = a + b := by rw [← ofQ_int, ← ofQ_int, ← ofQ_int, ← ofQ_add]; congr 1; grind
theorem cast_mul (a b : Int) : ((a * b : Int) : R) = a * b := by rw [← ofQ_int, ← ofQ_int, ← ofQ_int, ← ofQ_mul]; congr 1; grind
theorem cast_neg (a : Int) : ((-a : Int) : R) = -a := by rw [← ofQ_int, ← ofQ_int, ← ofQ_neg]; congr 1
theorem cast_sub (a b : Int) : ((a - b : Int) : R) = a - b := by rw [Int.sub_eq_add_neg, cast_add, cast_neg]; grind
theorem cast_nat (n : Nat) : ((n : Int) : R) = (n : R) := rfl
theorem cast_le {a b : Int} : (a : R) ≤ b ↔ a ≤ b := by
  rw [← ofQ_int, ← ofQ_int, ofQ_le]
  exact Rat.intCast_le_intCast
theorem cast_lt {a b : Int} : (a : R) < b ↔ a < b := by
  have := cast_le (a := b) (b := a)
  grind
theorem cast_pow (a : Int) (n : Nat) : ((a ^ n : Int) : R) = (a : R) ^ n := by
  induction n with
  | zero => rw [Int.pow_zero]; show ((1 : Int) : R) = 1; rfl
  | succ n ih => rw [Int.pow_succ, cast_mul, ih]; rfl
theorem div_mul {a b : R} (h : b ≠ 0) : a / b * b = a := by grind
/-- no real is greater than all numbers -/
theorem arch (x : R) : ∃ n : Nat, x ≤ n := by
  refine Quotient.inductionOn x fun a => ?_
  obtain ⟨B, N, hB, h⟩ := a.h.bdd
  refine ⟨B.ceil.toNat, fun e he => ⟨N, fun n hn => ?_⟩⟩
  have h1 := (h n hn).2
  have h2 : B ≤ (B.ceil : Rat) := Rat.le_ceil
  have h3 : (B.ceil : Rat) ≤ ((B.ceil.toNat : Int) : Rat) := Rat.intCast_le_intCast.mpr (by omega)
  show a.f n ≤ ((B.ceil.toNat : Nat) : Rat) + e
  have h4 : ((B.ceil.toNat : Int) : Rat) = ((B.ceil.toNat : Nat) : Rat) := rfl
  grind
open Classical in
noncomputable def ab (x : R) : R := if 0 ≤ x then x else -x
theorem ab_pos {x : R} (h : 0 ≤ x) : ab x = x := if_pos h
theorem ab_neg {x : R} (h : x ≤ 0) : ab x = -x := by
  unfold ab
  split <;> grind
theorem ab_cases (x : R) : (0 ≤ x ∧ ab x = x) ∨ (x ≤ 0 ∧ ab x = -x) := by
  rcases Std.le_total (a := 0) (b := x) with h | h
  · exact .inl ⟨h, ab_pos h⟩
  · exact .inr ⟨h, ab_neg h⟩
theorem ab_nn (x : R) : 0 ≤ ab x := by have := ab_cases x; grind
theorem ab_le {x e : R} : ab x ≤ e ↔ -e ≤ x ∧ x ≤ e := by have := ab_cases x; grind
theorem le_ab (x : R) : x ≤ ab x ∧ -ab x ≤ x := by have := ab_cases x; grind
theorem ab_add (x y : R) : ab (x + y) ≤ ab x + ab y := by have := ab_cases x; have := ab_cases y; have := ab_cases (x + y); grind
theorem ab_sub (x y : R) : ab (x - y) = ab (y - x) := by have := ab_cases (x - y); have := ab_cases (y - x); grind
theorem ab_minus (x : R) : ab (-x) = ab x := by have := ab_cases x; have := ab_cases (-x); grind
theorem ab_zero : ab (0 : R) = 0 := ab_pos (by grind)
theorem nn_mul {a b : R} (h : 0 ≤ a) (k : 0 ≤ b) : 0 ≤ a * b := by
  rcases Classical.em (a = 0) with c | c
  · rw [c]; grind
  · rcases Classical.em (b = 0) with d | d
    · rw [d]; grind
    · exact Std.le_of_lt (mul_pos' (by grind) (by grind))
theorem ab_mul (x y : R) : ab (x * y) = ab x * ab y := by
  rcases ab_cases x with ⟨h, e⟩ | ⟨h, e⟩ <;> rcases ab_cases y with ⟨k, f⟩ | ⟨k, f⟩
  · rw [e, f, ab_pos (nn_mul h k)]
  · have := nn_mul h (show 0 ≤ -y by grind)
    rw [e, f, ab_neg (by grind)]; grind
  · have := nn_mul (show 0 ≤ -x by grind) k
    rw [e, f, ab_neg (by grind)]; grind
  · have := nn_mul (show 0 ≤ -x by grind) (show 0 ≤ -y by grind)
    rw [e, f, ab_pos (by grind)]; grind
theorem mul_mono {a b c d : R} (h : a ≤ b) (k : c ≤ d) (h0 : 0 ≤ a) (k0 : 0 ≤ d) : a * c ≤ b * d := by
  have := nn_mul (show 0 ≤ b - a by grind) k0
  have := nn_mul h0 (show 0 ≤ d - c by grind)
  grind
theorem eq_of_small {x y : R} (h : ∀ e : R, 0 < e → ab (x - y) ≤ e) : x = y := by
  have := ab_nn (x - y)
  have k : ab (x - y) = 0 := by
    apply Classical.byContradiction
    intro c
    have := h (ab (x - y) / 2) (by grind)
    grind
  have := ab_cases (x - y)
  grind
theorem le_of_small {x y : R} (h : ∀ e : R, 0 < e → x ≤ y + e) : x ≤ y := by
  apply Classical.byContradiction
  intro c
  have := h ((x - y) / 2) (by grind)
  grind
theorem inv_pos {x : R} (h : 0 < x) : 0 < x⁻¹ := by
  have e := mul_inv (x := x) (by grind)
  apply Classical.byContradiction
  intro c
  have := nn_mul (Std.le_of_lt h) (show 0 ≤ -x⁻¹ by grind)
  grind
theorem div_pos {x y : R} (h : 0 < x) (k : 0 < y) : 0 < x / y := mul_pos' h (inv_pos k)
theorem ofQ_lt {a b : Rat} : ofQ a < ofQ b ↔ a < b := by
  have := ofQ_le (a := b) (b := a)
  grind
/-- a fraction near a real -/
theorem dense (x : R) {e : R} (he : 0 < e) : ∃ q : Rat, ab (x - ofQ q) ≤ e := by
  have : ∃ d : Rat, 0 < d ∧ ofQ d ≤ e := by
    obtain ⟨n, hn⟩ := arch e⁻¹
    have h1 := inv_pos he
    have h2 := mul_inv (x := e) (by grind)
    refine ⟨1 / ((n : Rat) + 1), ?_, ?_⟩
    · have : (0 : Rat) ≤ (n : Rat) := Rat.natCast_nonneg
      exact (q_div (B := (n : Rat) + 1) (show (0 : Rat) < 1 by decide) (by grind)).1
    · have h3 : ofQ (1 / ((n : Rat) + 1)) * ((n : R) + 1) = 1 := by
        have : (0 : Rat) ≤ (n : Rat) := Rat.natCast_nonneg
        have e1 : ((n : R) + 1) = ofQ ((n : Rat) + 1) := by rw [ofQ_add]; rfl
        rw [e1, ← ofQ_mul]
        have : 1 / ((n : Rat) + 1) * ((n : Rat) + 1) = 1 := by grind
        rw [this]
        rfl
      apply Classical.byContradiction
      intro c
      have h4 : (0 : R) ≤ n := by
        have := cast_le (a := 0) (b := n)
        exact this.mpr (by omega)
      have h5 := mul_pos' (show 0 < ofQ (1 / ((n : Rat) + 1)) - e by grind) (show 0 < (n : R) + 1 by grind)
      have h6 := nn_mul (Std.le_of_lt he) (show 0 ≤ (n : R) - e⁻¹ by grind)
      grind
  obtain ⟨d, hd, k⟩ := this
  suffices ∃ q : Rat, ab (x - ofQ q) ≤ ofQ d from by
    obtain ⟨q, hq⟩ := this
    exact ⟨q, by grind⟩
  refine Quotient.inductionOn x fun a => ?_
  obtain ⟨N, hN⟩ := a.h d hd
  refine ⟨a.f N, ab_le.mpr ⟨?_, ?_⟩⟩
  · intro t ht
    exact ⟨N, fun n hn => by
      have := hN N n (Nat.le_refl _) hn
      show -d ≤ a.f n + -a.f N + t
      grind⟩
  · intro t ht
    exact ⟨N, fun n hn => by
      have := hN n N hn (Nat.le_refl _)
      show a.f n + -a.f N ≤ d + t
      grind⟩
/-- what a sequence of reals comes near to -/
def To (f : Nat → R) (x : R) : Prop := ∀ e : R, 0 < e → ∃ N, ∀ n, N ≤ n → ab (f n - x) ≤ e
def CauR (f : Nat → R) : Prop := ∀ e : R, 0 < e → ∃ N, ∀ m n, N ≤ m → N ≤ n → ab (f m - f n) ≤ e
theorem small_q {e : R} (he : 0 < e) : ∃ n : Nat, ∀ m : Nat, n ≤ m → 1 / ((m : R) + 1) ≤ e := by
  obtain ⟨n, hn⟩ := arch e⁻¹
  refine ⟨n, fun m hm => ?_⟩
  have h2 := mul_inv (x := e) (by grind)
  have h4 : (n : R) ≤ m := (cast_le (a := n) (b := m)).mpr (by omega)
  have h5 : (0 : R) ≤ m := (cast_le (a := 0) (b := m)).mpr (by omega)
  have h3 : 1 / ((m : R) + 1) * ((m : R) + 1) = 1 := div_mul (by grind)
  apply Classical.byContradiction
  intro c
  have := mul_pos' (show 0 < 1 / ((m : R) + 1) - e by grind) (show 0 < (m : R) + 1 by grind)
  have := nn_mul (Std.le_of_lt he) (show 0 ≤ (m : R) - e⁻¹ by grind)
  grind
theorem complete {f : Nat → R} (h : CauR f) : ∃ x, To f x := by
  have h5 : ∀ m : Nat, (0 : R) ≤ m := fun m => (cast_le (a := 0) (b := m)).mpr (by omega)
  have hq : ∀ n : Nat, ∃ q : Rat, ab (f n - ofQ q) ≤ 1 / ((n : R) + 1) := fun n => dense _ (div_pos (by grind) (by have := h5 n; grind))
  let q : Nat → Rat := fun n => Classical.choose (hq n)
  have hq : ∀ n, ab (f n - ofQ (q n)) ≤ 1 / ((n : R) + 1) := fun n => Classical.choose_spec (hq n)
  have hc : Cau q := fun e he => by
    have he : 0 < ofQ e := ofQ_lt.mpr he
    obtain ⟨N, hN⟩ := h (ofQ e / 4) (by grind)
    obtain ⟨M, hM⟩ := small_q (e := ofQ e / 4) (by grind)
    refine ⟨N + M, fun m n hm hn => ?_⟩
    have a1 := hN m n (by omega) (by omega)
    have a2 := hq m
    have a3 := hq n
    have a4 := hM m (by omega)
    have a5 := hM n (by omega)
    have : ofQ (q m - q n) = ofQ (q m) - ofQ (q n) := by rw [Rat.sub_eq_add_neg, ofQ_add, ofQ_neg]; grind
    apply ofQ_lt.mp
    rw [this]
    have b1 := le_ab (f m - f n)
    have b2 := le_ab (f m - ofQ (q m))
    have b3 := le_ab (f n - ofQ (q n))
    grind
  refine ⟨mk ⟨q, hc⟩, fun e he => ?_⟩
  obtain ⟨d, hd⟩ : ∃ d : Rat, 0 < d ∧ ofQ d ≤ e / 2 := by
    obtain ⟨M, hM⟩ := small_q (e := e / 2) (by grind)
    have : (0 : Rat) ≤ (M : Rat) := Rat.natCast_nonneg
    refine ⟨1 / ((M : Rat) + 1), (q_div (B := (M : Rat) + 1) (show (0 : Rat) < 1 by decide) (by grind)).1, ?_⟩
    have := hM M (Nat.le_refl _)
    have e3 : ofQ (1 / ((M : Rat) + 1)) = 1 / ((M : R) + 1) := by
      have e1 : ((M : R) + 1) = ofQ ((M : Rat) + 1) := by rw [ofQ_add]; rfl
      have h3 : ofQ (1 / ((M : Rat) + 1)) * ((M : R) + 1) = 1 := by
        rw [e1, ← ofQ_mul]
        have : 1 / ((M : Rat) + 1) * ((M : Rat) + 1) = 1 := by grind
        rw [this]
        rfl
      have := h5 M
      have h6 : (M : R) + 1 ≠ 0 := by grind
      grind
    rw [e3]
    exact this
  obtain ⟨N, hN⟩ := hc d hd.1
  obtain ⟨M, hM⟩ := small_q (e := e / 2) (by grind)
  refine ⟨N + M, fun n hn => ?_⟩
  have a2 := hq n
  have a4 := hM n (by omega)
  have k : ab (ofQ (q n) - mk ⟨q, hc⟩) ≤ ofQ d := by
    refine ab_le.mpr ⟨?_, ?_⟩
    · intro t ht
      exact ⟨N, fun m hm => by
        have := hN m n hm (by omega)
        show -d ≤ q n + -q m + t
        grind⟩
    · intro t ht
      exact ⟨N, fun m hm => by
        have := hN n m (by omega) hm
        show q n + -q m ≤ d + t
        grind⟩
  have := ab_add (f n - ofQ (q n)) (ofQ (q n) - mk ⟨q, hc⟩)
  have e1 : f n - ofQ (q n) + (ofQ (q n) - mk ⟨q, hc⟩) = f n - mk ⟨q, hc⟩ := by grind
  rw [e1] at this
  grind
end R
end Re

/-! Own: limits, sums, derivatives that are told by squares; no program in it. -/
namespace Re.R

theorem nat_nn (n : Nat) : (0 : R) ≤ n := (cast_le (a := 0) (b := n)).mpr (by omega)
theorem nat_le {m n : Nat} (h : m ≤ n) : (m : R) ≤ n := (cast_le (a := m) (b := n)).mpr (by omega)
theorem nat_succ (n : Nat) : ((n + 1 : Nat) : R) = n + 1 := by
  have := cast_add n 1
  rw [← cast_nat]
  exact this
theorem To.uniq {f : Nat → R} {x y : R} (h : To f x) (k : To f y) : x = y := eq_of_small fun e he => by
  obtain ⟨N, hN⟩ := h (e / 2) (by grind)
  obtain ⟨M, hM⟩ := k (e / 2) (by grind)
  have a1 := hN (N + M) (by omega)
  have a2 := hM (N + M) (by omega)
  have := ab_cases (f (N + M) - x)
  have := ab_cases (f (N + M) - y)
  have := ab_cases (x - y)
  grind
theorem To.le {f : Nat → R} {x B : R} {N : Nat} (h : To f x) (k : ∀ n, N ≤ n → f n ≤ B) : x ≤ B := le_of_small fun e he => by
  obtain ⟨M, hM⟩ := h e he
  have a1 := hM (N + M) (by omega)
  have a2 := k (N + M) (by omega)
  have := ab_cases (f (N + M) - x)
  grind
theorem To.ge {f : Nat → R} {x B : R} {N : Nat} (h : To f x) (k : ∀ n, N ≤ n → B ≤ f n) : B ≤ x := le_of_small fun e he => by
  obtain ⟨M, hM⟩ := h e he
  have a1 := hM (N + M) (by omega)
  have a2 := k (N + M) (by omega)
  have := ab_cases (f (N + M) - x)
  grind
theorem To.near {f : Nat → R} {x c B : R} {N : Nat} (h : To f x) (k : ∀ n, N ≤ n → ab (f n - c) ≤ B) : ab (x - c) ≤ B := by
  have h1 : x ≤ c + B := h.le fun n hn => by have := ab_le.mp (k n hn); grind
  have h2 : c - B ≤ x := h.ge fun n hn => by have := ab_le.mp (k n hn); grind
  exact ab_le.mpr (by grind)
theorem To.const (c : R) : To (fun _ => c) c := fun e he => ⟨0, fun n _ => by
  have : c - c = 0 := by grind
  rw [this, ab_zero]
  grind⟩
theorem To.add {f g : Nat → R} {x y : R} (h : To f x) (k : To g y) : To (fun n => f n + g n) (x + y) := fun e he => by
  obtain ⟨N, hN⟩ := h (e / 2) (by grind)
  obtain ⟨M, hM⟩ := k (e / 2) (by grind)
  refine ⟨N + M, fun n hn => ?_⟩
  have a1 := hN n (by omega)
  have a2 := hM n (by omega)
  have := ab_cases (f n - x)
  have := ab_cases (g n - y)
  have := ab_cases (f n + g n - (x + y))
  grind
theorem To.mul {f : Nat → R} {x : R} (c : R) (h : To f x) : To (fun n => c * f n) (c * x) := fun e he => by
  have hc := ab_nn c
  obtain ⟨N, hN⟩ := h (e / (ab c + 1)) (div_pos he (by grind))
  refine ⟨N, fun n hn => ?_⟩
  have a1 := hN n hn
  have e1 : c * f n - c * x = c * (f n - x) := by grind
  rw [e1, ab_mul]
  have e2 : e / (ab c + 1) * (ab c + 1) = e := div_mul (by grind)
  have p := mul_mono (Std.le_refl (ab c)) a1 hc (Std.le_of_lt (div_pos he (show 0 < ab c + 1 by grind)))
  have q := div_pos he (show 0 < ab c + 1 by grind)
  grind
theorem To.shift {f : Nat → R} {x : R} (h : To (fun n => f (n + 1)) x) : To f x := fun e he => by
  obtain ⟨N, hN⟩ := h e he
  exact ⟨N + 1, fun n hn => by
    have := hN (n - 1) (by omega)
    have e : n - 1 + 1 = n := by omega
    simp only [e] at this
    exact this⟩
theorem To.tail {f : Nat → R} {x : R} (h : To f x) : To (fun n => f (n + 1)) x := fun e he => by
  obtain ⟨N, hN⟩ := h e he
  exact ⟨N, fun n hn => hN (n + 1) (by omega)⟩
open Classical in
noncomputable def lim (f : Nat → R) : R := if h : ∃ x, To f x then Classical.choose h else 0
theorem To.limit {f : Nat → R} (h : ∃ x, To f x) : To f (lim f) := by
  unfold R.lim
  rw [dif_pos h]
  exact Classical.choose_spec h
theorem lim_eq {f : Nat → R} {x : R} (h : To f x) : R.lim f = x := (To.limit ⟨x, h⟩).uniq h
/-- sums -/
def sm (f : Nat → R) : Nat → R
  | 0 => 0
  | n + 1 => sm f n + f n
theorem sm_add (f g : Nat → R) : ∀ n, sm (fun k => f k + g k) n = sm f n + sm g n
  | 0 => by simp only [sm]; grind
  | n + 1 => by simp only [sm, sm_add f g n]; grind
theorem sm_mul (c : R) (f : Nat → R) : ∀ n, sm (fun k => c * f k) n = c * sm f n
  | 0 => by simp only [sm]; grind
  | n + 1 => by simp only [sm, sm_mul c f n]; grind
theorem sm_ab (f : Nat → R) : ∀ n, ab (sm f n) ≤ sm (fun k => ab (f k)) n
  | 0 => by simp only [sm, ab_zero]; grind
  | n + 1 => by
    have := sm_ab f n
    have := ab_add (sm f n) (f n)
    simp only [sm]
    grind
theorem sm_le {f g : Nat → R} : ∀ {n : Nat}, (∀ k, k < n → f k ≤ g k) → sm f n ≤ sm g n
  | 0, _ => by simp only [sm]; grind
  | n + 1, h => by
    have := sm_le (n := n) fun k hk => h k (by omega)
    have := h n (by omega)
    simp only [sm]
    grind
theorem sm_congr {f g : Nat → R} : ∀ {n : Nat}, (∀ k, k < n → f k = g k) → sm f n = sm g n
  | 0, _ => rfl
  | n + 1, h => by
    have := sm_congr (n := n) fun k hk => h k (by omega)
    have := h n (by omega)
    simp only [sm]
    grind
/-- terms that shrink at least like those of a geometric row, from K on -/
def Dom (u : Nat → R) (r : R) (K : Nat) : Prop := 0 ≤ r ∧ r < 1 ∧ ∀ k, K ≤ k → 0 ≤ u k ∧ u (k + 1) ≤ r * u k
theorem Dom.tail {u : Nat → R} {r : R} {K : Nat} (h : Dom u r K) {n : Nat} (hn : K ≤ n) : ∀ j, (1 - r) * (sm u (n + j) - sm u n) ≤ u n - u (n + j)
  | 0 => by simp only [Nat.add_zero]; grind
  | j + 1 => by
    have ih := h.tail hn j
    have k := h.2.2 (n + j) (by omega)
    have e : sm u (n + (j + 1)) = sm u (n + j) + u (n + j) := rfl
    rw [e]
    have e2 : n + (j + 1) = n + j + 1 := by omega
    rw [e2]
    grind
theorem Dom.tail' {u : Nat → R} {r : R} {K : Nat} (h : Dom u r K) {n m : Nat} (hn : K ≤ n) (hm : n ≤ m) : (1 - r) * (sm u m - sm u n) ≤ u n := by
  have e : n + (m - n) = m := by omega
  have := h.tail hn (m - n)
  rw [e] at this
  have := (h.2.2 m (by omega)).1
  grind
theorem Dom.mono {u : Nat → R} {r : R} {K : Nat} (h : Dom u r K) {n : Nat} (hn : K ≤ n) : ∀ j, sm u n ≤ sm u (n + j)
  | 0 => by simp only [Nat.add_zero]; grind
  | j + 1 => by
    have ih := h.mono hn j
    have k := h.2.2 (n + j) (by omega)
    have e : sm u (n + (j + 1)) = sm u (n + j) + u (n + j) := rfl
    grind
/-- r ^ j goes to 0, as 1 / (1 + j (1 - r)) -/
theorem Dom.small {u : Nat → R} {r : R} {K : Nat} (h : Dom u r K) : ∀ j : Nat, u (K + j) * (1 + j * (1 - r)) ≤ u K
  | 0 => by
    have : ((0 : Nat) : R) = 0 := rfl
    rw [this]
    simp only [Nat.add_zero]
    grind
  | j + 1 => by
    have ih := h.small j
    have k := h.2.2 (K + j) (by omega)
    have k2 := h.2.2 (K + (j + 1)) (by omega)
    have e2 : K + (j + 1) = K + j + 1 := by omega
    rw [e2] at k2 ⊢
    rw [nat_succ]
    obtain ⟨r0, r1, _⟩ := h
    have j0 := nat_nn j
    generalize (j : R) = J at *
    have p0 := nn_mul j0 (show 0 ≤ 1 - r by grind)
    have p1 := nn_mul p0 (show 0 ≤ 1 - r by grind)
    have p2 : r * (1 + (J + 1) * (1 - r)) ≤ 1 + J * (1 - r) := by
      have := nn_mul (show 0 ≤ 1 - r by grind) (show 0 ≤ 1 - r by grind)
      grind
    have p3 := nn_mul k.1 (show 0 ≤ 1 + J * (1 - r) - r * (1 + (J + 1) * (1 - r)) by grind)
    have p4 := nn_mul (show 0 ≤ r * u (K + j) - u (K + j + 1) by grind) (show 0 ≤ 1 + (J + 1) * (1 - r) by grind)
    grind
theorem Dom.to0 {u : Nat → R} {r : R} {K : Nat} (h : Dom u r K) {e : R} (he : 0 < e) : ∃ N, K ≤ N ∧ ∀ n, N ≤ n → u n ≤ e := by
  obtain ⟨r0, r1, hk⟩ := h
  have hs : 0 < 1 - r := by grind
  obtain ⟨n, hn⟩ := arch (u K / (e * (1 - r)))
  have uK := (hk K (Nat.le_refl _)).1
  have hes := mul_pos' he hs
  have e1 : u K / (e * (1 - r)) * (e * (1 - r)) = u K := div_mul (by grind)
  refine ⟨K + n, by omega, fun m hm => ?_⟩
  have s := Dom.small ⟨r0, r1, hk⟩ (m - K)
  have em : K + (m - K) = m := by omega
  rw [em] at s
  have um := (hk m (by omega)).1
  have l1 : (n : R) ≤ ((m - K : Nat) : R) := nat_le (by omega)
  generalize ((m - K : Nat) : R) = J at *
  apply Classical.byContradiction
  intro c
  have n0 := nat_nn n
  have p1 := nn_mul (show 0 ≤ u m - e by grind) (show 0 ≤ 1 + J * (1 - r) by
    have := nn_mul (show 0 ≤ J by grind) (Std.le_of_lt hs)
    grind)
  have p2 := nn_mul (show 0 ≤ J - u K / (e * (1 - r)) by grind) (Std.le_of_lt hes)
  grind
theorem sm_diff {f u : Nat → R} {K : Nat} (h : ∀ k, K ≤ k → ab (f k) ≤ u k) {n : Nat} (hn : K ≤ n) : ∀ j, ab (sm f (n + j) - sm f n) ≤ sm u (n + j) - sm u n
  | 0 => by
    simp only [Nat.add_zero]
    have : sm f n - sm f n = 0 := by grind
    rw [this, ab_zero]
    grind
  | j + 1 => by
    have ih := sm_diff h hn j
    have k := h (n + j) (by omega)
    have e : sm u (n + (j + 1)) = sm u (n + j) + u (n + j) := rfl
    have e2 : sm f (n + (j + 1)) = sm f (n + j) + f (n + j) := rfl
    rw [e, e2]
    have := ab_cases (sm f (n + j) - sm f n)
    have := ab_cases (sm f (n + j) + f (n + j) - sm f n)
    have := ab_cases (f (n + j))
    grind
/-- a row under a shrinking one has a sum, and the rest is told -/
theorem Dom.conv {f u : Nat → R} {r : R} {K : Nat} (h : Dom u r K) (k : ∀ i, K ≤ i → R.ab (f i) ≤ u i) : ∃ x, To (sm f) x := by
  apply complete
  intro e he
  have hs : 0 < 1 - r := by have := h.2.1; grind
  obtain ⟨N, hN, hq⟩ := h.to0 (mul_pos' (show 0 < e / 2 by grind) hs)
  have key : ∀ m, N ≤ m → ab (sm f m - sm f N) ≤ e / 2 := fun m hm => by
    have em : N + (m - N) = m := by omega
    have a := sm_diff k hN (m - N)
    rw [em] at a
    have b := h.tail' hN hm
    have c := hq N (Nat.le_refl _)
    have d : (1 - r) * (sm u m - sm u N) ≤ (1 - r) * (e / 2) := by grind
    apply Classical.byContradiction
    intro x
    have := mul_pos' hs (show 0 < sm u m - sm u N - e / 2 by grind)
    grind
  refine ⟨N, fun m n hm hn => ?_⟩
  have a1 := key m hm
  have a2 := key n hn
  have := ab_cases (sm f m - sm f N)
  have := ab_cases (sm f n - sm f N)
  have := ab_cases (sm f m - sm f n)
  grind
theorem Dom.rest {f u : Nat → R} {r x : R} {K n : Nat} (h : Dom u r K) (k : ∀ i, K ≤ i → R.ab (f i) ≤ u i) (hx : To (sm f) x) (hn : K ≤ n) : (1 - r) * R.ab (x - sm f n) ≤ u n := by
  have hs : 0 < 1 - r := by have := h.2.1; grind
  have e1 : (1 - r) * (u n / (1 - r)) = u n := by
    have := div_mul (a := u n) (b := 1 - r) (by grind)
    grind
  have : R.ab (x - sm f n) ≤ u n / (1 - r) := hx.near (N := n) fun m hm => by
    have em : n + (m - n) = m := by omega
    have a := sm_diff k hn (m - n)
    rw [em] at a
    have b := h.tail' hn hm
    apply Classical.byContradiction
    intro y
    have := mul_pos' hs (show 0 < sm u m - sm u n - u n / (1 - r) by grind)
    grind
  have := nn_mul (Std.le_of_lt hs) (show 0 ≤ u n / (1 - r) - R.ab (x - sm f n) by grind)
  grind
/-- f has the derivative f' on the reals from a to b, told by squares -/
def DvB (f f' : R → R) (a b M : R) : Prop := 0 ≤ M ∧ ∀ x, a ≤ x → x ≤ b → ab (f x) ≤ M ∧ ab (f' x) ≤ M ∧ ∀ y, a ≤ y → y ≤ b → ab (f y - f x - (y - x) * f' x) ≤ M * ((y - x) * (y - x))
def Dv (f f' : R → R) (a b : R) : Prop := ∃ M, DvB f f' a b M
theorem sq_nn (x : R) : 0 ≤ x * x := by
  rcases Std.le_total (a := 0) (b := x) with h | h
  · exact nn_mul h h
  · have := nn_mul (show 0 ≤ -x by grind) (show 0 ≤ -x by grind)
    grind
theorem Dv.sub_iv {f f' : R → R} {a b c d : R} (h : Dv f f' a b) (h1 : a ≤ c) (h2 : d ≤ b) : Dv f f' c d := by
  obtain ⟨M, hM, h⟩ := h
  exact ⟨M, hM, fun x k1 k2 => ⟨(h x (by grind) (by grind)).1, (h x (by grind) (by grind)).2.1, fun y l1 l2 => (h x (by grind) (by grind)).2.2 y (by grind) (by grind)⟩⟩
theorem Dv.more {f f' : R → R} {a b M N : R} (h : DvB f f' a b M) (k : M ≤ N) : DvB f f' a b N := ⟨by have := h.1; grind, fun x k1 k2 => by
  obtain ⟨p, q, s⟩ := h.2 x k1 k2
  refine ⟨by grind, by grind, fun y l1 l2 => ?_⟩
  have := s y l1 l2
  have := nn_mul (show 0 ≤ N - M by grind) (sq_nn (y - x))
  grind⟩
theorem Dv.congr {f f' g g' : R → R} {a b : R} (h : Dv f f' a b) (e : ∀ x, a ≤ x → x ≤ b → f x = g x) (e' : ∀ x, a ≤ x → x ≤ b → f' x = g' x) : Dv g g' a b := by
  obtain ⟨M, hM, h⟩ := h
  refine ⟨M, hM, fun x k1 k2 => ?_⟩
  rw [← e x k1 k2, ← e' x k1 k2]
  obtain ⟨p, q, s⟩ := h x k1 k2
  refine ⟨p, q, fun y l1 l2 => ?_⟩
  rw [← e y l1 l2]
  exact s y l1 l2
theorem Dv.const (c a b : R) : Dv (fun _ => c) (fun _ => 0) a b := ⟨ab c, ab_nn c, fun x _ _ => ⟨Std.le_refl _, by rw [ab_zero]; exact ab_nn c, fun y _ _ => by
  have e : c - c - (y - x) * 0 = 0 := by grind
  rw [e, ab_zero]
  exact nn_mul (ab_nn c) (sq_nn _)⟩⟩
theorem Dv.id (a b : R) : Dv (fun x => x) (fun _ => 1) a b := by
  have h1 := ab_nn a
  have h2 := ab_nn b
  refine ⟨1 + ab a + ab b, by grind, fun x k1 k2 => ⟨?_, ?_, fun y l1 l2 => ?_⟩⟩
  · have := ab_cases a
    have := ab_cases b
    have := ab_cases x
    grind
  · rw [ab_pos (by grind)]
    grind
  · have e : y - x - (y - x) * 1 = 0 := by grind
    rw [e, ab_zero]
    exact nn_mul (by grind) (sq_nn _)
theorem Dv.add {f f' g g' : R → R} {a b : R} (h : Dv f f' a b) (k : Dv g g' a b) : Dv (fun x => f x + g x) (fun x => f' x + g' x) a b := by
  obtain ⟨M, hM, h⟩ := h
  obtain ⟨N, hN, k⟩ := k
  refine ⟨M + N, by grind, fun x k1 k2 => ?_⟩
  obtain ⟨p, q, s⟩ := h x k1 k2
  obtain ⟨p', q', s'⟩ := k x k1 k2
  refine ⟨by have := ab_add (f x) (g x); grind, by have := ab_add (f' x) (g' x); grind, fun y l1 l2 => ?_⟩
  have a1 := s y l1 l2
  have a2 := s' y l1 l2
  have e : f y + g y - (f x + g x) - (y - x) * (f' x + g' x) = (f y - f x - (y - x) * f' x) + (g y - g x - (y - x) * g' x) := by grind
  rw [e]
  have := ab_add (f y - f x - (y - x) * f' x) (g y - g x - (y - x) * g' x)
  grind
/-- values near each other where the arguments are -/
theorem DvB.lip {f f' : R → R} {a b M : R} (h : DvB f f' a b M) {x y : R} (k1 : a ≤ x) (k2 : x ≤ b) (l1 : a ≤ y) (l2 : y ≤ b) : ab (f y - f x) ≤ M * (1 + (b - a)) * ab (y - x) := by
  obtain ⟨hM, h⟩ := h
  obtain ⟨p, q, s⟩ := h x k1 k2
  have s := s y l1 l2
  have e : f y - f x = (f y - f x - (y - x) * f' x) + (y - x) * f' x := by grind
  rw [e]
  have t := ab_add (f y - f x - (y - x) * f' x) ((y - x) * f' x)
  rw [ab_mul (y - x) (f' x)] at t
  have d0 := ab_nn (y - x)
  have d1 : ab (y - x) ≤ b - a := ab_le.mpr (by grind)
  have p1 := mul_mono (Std.le_refl (ab (y - x))) q d0 hM
  have e2 : (y - x) * (y - x) = ab (y - x) * ab (y - x) := by
    rw [← ab_mul, ab_pos (sq_nn _)]
  rw [e2] at s
  have p2 := nn_mul (nn_mul hM d0) (show 0 ≤ b - a - ab (y - x) by grind)
  grind
theorem Dv.mul {f f' g g' : R → R} {a b : R} (hab : a ≤ b) (h : Dv f f' a b) (k : Dv g g' a b) : Dv (fun x => f x * g x) (fun x => f' x * g x + f x * g' x) a b := by
  obtain ⟨M, h⟩ := h
  obtain ⟨N, k⟩ := k
  have hM0 := h.1
  have h := Dv.more h (show M ≤ M + N by have := k.1; grind)
  have k := Dv.more k (show N ≤ M + N by clear h; grind)
  generalize M + N = L at h k
  have hL := h.1
  have hl : 0 ≤ L * (1 + (b - a)) := nn_mul hL (by grind)
  have hll := nn_mul hL hL
  have hlll := nn_mul hl hL
  refine ⟨L * L + L * L + L * (1 + (b - a)) * L, by grind, fun x k1 k2 => ?_⟩
  have lip := fun y l1 l2 => DvB.lip h k1 k2 (y := y) l1 l2
  obtain ⟨p, q, s⟩ := h.2 x k1 k2
  obtain ⟨p', q', s'⟩ := k.2 x k1 k2
  refine ⟨?_, ?_, fun y l1 l2 => ?_⟩
  · rw [ab_mul]
    have := mul_mono p p' (ab_nn _) hL
    grind
  · have t := ab_add (f' x * g x) (f x * g' x)
    rw [ab_mul, ab_mul] at t
    have := mul_mono q p' (ab_nn _) hL
    have := mul_mono p q' (ab_nn _) hL
    grind
  · have a1 := s y l1 l2
    have a2 := s' y l1 l2
    have a3 := lip y l1 l2
    obtain ⟨b1, _, _⟩ := h.2 y l1 l2
    have e : f y * g y - f x * g x - (y - x) * (f' x * g x + f x * g' x) = f y * (g y - g x - (y - x) * g' x) + (f y - f x - (y - x) * f' x) * g x + (f y - f x) * ((y - x) * g' x) := by grind
    rw [e]
    have t1 := ab_add (f y * (g y - g x - (y - x) * g' x) + (f y - f x - (y - x) * f' x) * g x) ((f y - f x) * ((y - x) * g' x))
    have t2 := ab_add (f y * (g y - g x - (y - x) * g' x)) ((f y - f x - (y - x) * f' x) * g x)
    rw [ab_mul, ab_mul (f y - f x - (y - x) * f' x)] at t2
    rw [ab_mul (f y - f x), ab_mul (y - x)] at t1
    have e2 : (y - x) * (y - x) = ab (y - x) * ab (y - x) := by
      rw [← ab_mul, ab_pos (sq_nn _)]
    rw [e2] at a1 a2 ⊢
    have d0 := ab_nn (y - x)
    generalize ab (y - x) = D at *
    have dd := nn_mul d0 d0
    have m1 := mul_mono b1 a2 (ab_nn _) (nn_mul hL dd)
    have m2 := mul_mono a1 p' (ab_nn _) hL
    have m3 := mul_mono (Std.le_refl D) q' d0 hL
    have m4 := mul_mono a3 m3 (ab_nn _) (nn_mul d0 hL)
    grind
theorem Dv.smul {f f' : R → R} {a b : R} (hab : a ≤ b) (c : R) (h : Dv f f' a b) : Dv (fun x => c * f x) (fun x => c * f' x) a b :=
  ((Dv.const c a b).mul hab h).congr (fun _ _ _ => rfl) (fun x _ _ => by grind)
theorem Dv.neg {f f' : R → R} {a b : R} (hab : a ≤ b) (h : Dv f f' a b) : Dv (fun x => -f x) (fun x => -f' x) a b :=
  (Dv.smul hab (-1) h).congr (fun _ _ _ => by grind) (fun x _ _ => by grind)
theorem Dv.sub {f f' g g' : R → R} {a b : R} (hab : a ≤ b) (h : Dv f f' a b) (k : Dv g g' a b) : Dv (fun x => f x - g x) (fun x => f' x - g' x) a b :=
  (h.add (k.neg hab)).congr (fun _ _ _ => by grind) (fun x _ _ => by grind)
theorem Dv.comp {f f' g g' : R → R} {a b c d : R} (hab : a ≤ b) (h : Dv f f' c d) (k : Dv g g' a b) (hg : ∀ x, a ≤ x → x ≤ b → c ≤ g x ∧ g x ≤ d) : Dv (fun x => f (g x)) (fun x => f' (g x) * g' x) a b := by
  obtain ⟨M, h⟩ := h
  obtain ⟨N, k⟩ := k
  have hM0 := h.1
  have h := Dv.more h (show M ≤ M + N by have := k.1; grind)
  have k := Dv.more k (show N ≤ M + N by clear h; grind)
  generalize M + N = L at h k
  have hL := h.1
  have hl : 0 ≤ L * (1 + (b - a)) := nn_mul hL (by grind)
  have hll := nn_mul hL hL
  have hlll := nn_mul hL (nn_mul hl hl)
  refine ⟨L + L * L + L * (L * (1 + (b - a)) * (L * (1 + (b - a)))), by grind, fun x k1 k2 => ?_⟩
  have lip := fun y l1 l2 => DvB.lip k k1 k2 (y := y) l1 l2
  obtain ⟨g1, g2⟩ := hg x k1 k2
  obtain ⟨p, q, s⟩ := h.2 (g x) g1 g2
  obtain ⟨p', q', s'⟩ := k.2 x k1 k2
  refine ⟨by grind, ?_, fun y l1 l2 => ?_⟩
  · rw [ab_mul]
    have := mul_mono q q' (ab_nn _) hL
    grind
  · obtain ⟨g3, g4⟩ := hg y l1 l2
    have a1 := s (g y) g3 g4
    have a2 := s' y l1 l2
    have a3 := lip y l1 l2
    have e : f (g y) - f (g x) - (y - x) * (f' (g x) * g' x) = (f (g y) - f (g x) - (g y - g x) * f' (g x)) + f' (g x) * (g y - g x - (y - x) * g' x) := by grind
    rw [e]
    have t1 := ab_add (f (g y) - f (g x) - (g y - g x) * f' (g x)) (f' (g x) * (g y - g x - (y - x) * g' x))
    rw [ab_mul (f' (g x))] at t1
    have e2 : (y - x) * (y - x) = ab (y - x) * ab (y - x) := by
      rw [← ab_mul, ab_pos (sq_nn _)]
    have e3 : (g y - g x) * (g y - g x) = ab (g y - g x) * ab (g y - g x) := by
      rw [← ab_mul, ab_pos (sq_nn _)]
    rw [e3] at a1
    rw [e2] at a2 ⊢
    have d0 := ab_nn (y - x)
    generalize ab (y - x) = D at *
    have dd := nn_mul d0 d0
    have m1 := mul_mono q a2 (ab_nn _) (nn_mul hL dd)
    have m2 := mul_mono a3 a3 (ab_nn _) (nn_mul hl d0)
    have m3 := mul_mono (Std.le_refl L) m2 hL (nn_mul (nn_mul hl d0) (nn_mul hl d0))
    have := nn_mul hL dd
    grind
theorem inv_id {X Y p q d D : R} (h : X * p = 1) (k : Y * q = 1) : q - p - d * (-D * (p * p)) = (Y - X) * (d * D) * (p * p * q) + -((Y - X - d * D) * (p * q)) := by
  have e1 : X * (p * p * q) = p * q := by grind
  have e2 : Y * (p * p * q) = p * p := by grind
  have e3 : X * (p * q) = q := by grind
  have e4 : Y * (p * q) = p := by grind
  grind
theorem inv_anti {X p c d : R} (h : X * p = 1) (k : c * d = 1) (hp : 0 ≤ p) (hd : 0 ≤ d) (hx : c ≤ X) : p ≤ d := by
  have := nn_mul (nn_mul hd hp) (show 0 ≤ X - c by grind)
  have e1 : d * p * X = d := by grind
  have e2 : d * p * c = p := by grind
  grind
/-- one over a function that keeps away from 0 -/
theorem Dv.inv {f f' : R → R} {a b c : R} (hab : a ≤ b) (hc : 0 < c) (h : Dv f f' a b) (hf : ∀ x, a ≤ x → x ≤ b → c ≤ f x) : Dv (fun x => (f x)⁻¹) (fun x => -f' x * ((f x)⁻¹ * (f x)⁻¹)) a b := by
  obtain ⟨M, h⟩ := h
  have hM := h.1
  have hi := inv_pos hc
  have hii := mul_pos' hi hi
  have hc1 := mul_inv (x := c) (by grind)
  have bnd : ∀ x, a ≤ x → x ≤ b → 0 < f x ∧ f x * (f x)⁻¹ = 1 ∧ 0 < (f x)⁻¹ ∧ (f x)⁻¹ ≤ c⁻¹ := fun x k1 k2 => by
    have h0 := hf x k1 k2
    have h1 := mul_inv (x := f x) (by grind)
    have h2 := inv_pos (x := f x) (by grind)
    refine ⟨by grind, h1, h2, ?_⟩
    exact inv_anti h1 hc1 (Std.le_of_lt h2) (Std.le_of_lt hi) h0
  have hl : 0 ≤ M * (1 + (b - a)) := nn_mul hM (by grind)
  have z1 := nn_mul hM (Std.le_of_lt hii)
  have z2 := nn_mul (nn_mul hl hM) (Std.le_of_lt (mul_pos' hii hi))
  refine ⟨c⁻¹ + M * (c⁻¹ * c⁻¹) + M * (1 + (b - a)) * M * (c⁻¹ * c⁻¹ * c⁻¹), by grind, fun x k1 k2 => ?_⟩
  have lip := fun y l1 l2 => DvB.lip h k1 k2 (y := y) l1 l2
  obtain ⟨p, q, s⟩ := h.2 x k1 k2
  obtain ⟨f0, f1, f2, f3⟩ := bnd x k1 k2
  have ff := mul_mono f3 f3 (Std.le_of_lt f2) (Std.le_of_lt hi)
  refine ⟨?_, ?_, fun y l1 l2 => ?_⟩
  · rw [ab_pos (Std.le_of_lt f2)]
    grind
  · rw [ab_mul, ab_minus, ab_pos (nn_mul (Std.le_of_lt f2) (Std.le_of_lt f2))]
    have := mul_mono q ff (ab_nn _) (Std.le_of_lt hii)
    grind
  · have a1 := s y l1 l2
    have a3 := lip y l1 l2
    obtain ⟨g0, g1, g2, g3⟩ := bnd y l1 l2
    have e : (f y)⁻¹ - (f x)⁻¹ - (y - x) * (-f' x * ((f x)⁻¹ * (f x)⁻¹)) = (f y - f x) * ((y - x) * f' x) * ((f x)⁻¹ * (f x)⁻¹ * (f y)⁻¹) + -((f y - f x - (y - x) * f' x) * ((f x)⁻¹ * (f y)⁻¹)) := by
      exact inv_id f1 g1
    rw [e]
    have t1 := ab_add ((f y - f x) * ((y - x) * f' x) * ((f x)⁻¹ * (f x)⁻¹ * (f y)⁻¹)) (-((f y - f x - (y - x) * f' x) * ((f x)⁻¹ * (f y)⁻¹)))
    have ffg := mul_mono ff g3 (nn_mul (Std.le_of_lt f2) (Std.le_of_lt f2)) (Std.le_of_lt hi)
    have ffg0 := nn_mul (nn_mul (Std.le_of_lt f2) (Std.le_of_lt f2)) (Std.le_of_lt g2)
    have fg := mul_mono f3 g3 (Std.le_of_lt f2) (Std.le_of_lt hi)
    rw [ab_minus, ab_mul (f y - f x - (y - x) * f' x), ab_mul ((f y - f x) * ((y - x) * f' x)), ab_mul (f y - f x), ab_mul (y - x), ab_pos (nn_mul (Std.le_of_lt f2) (Std.le_of_lt g2)), ab_pos ffg0] at t1
    have e2 : (y - x) * (y - x) = ab (y - x) * ab (y - x) := by
      rw [← ab_mul, ab_pos (sq_nn _)]
    rw [e2] at a1 ⊢
    have d0 := ab_nn (y - x)
    generalize ab (y - x) = D at *
    have dd := nn_mul d0 d0
    have m1 := mul_mono (Std.le_refl D) q d0 hM
    have m2 := mul_mono a3 m1 (ab_nn _) (nn_mul d0 hM)
    have m3 := mul_mono m2 ffg (nn_mul (ab_nn _) (nn_mul d0 (ab_nn _))) (nn_mul (nn_mul (Std.le_of_lt hi) (Std.le_of_lt hi)) (Std.le_of_lt hi))
    have m4 := mul_mono a1 fg (ab_nn _) (Std.le_of_lt hii)
    have := nn_mul (Std.le_of_lt hi) dd
    grind
/-- steps of one length -/
theorem steps {f f' : R → R} {a b M h : R} (hf : DvB f f' a b M) (hp : ∀ x, a ≤ x → x ≤ b → 0 ≤ f' x) (h0 : 0 ≤ h) : ∀ n : Nat, a + n * h ≤ b → f a - n * (M * (h * h)) ≤ f (a + n * h)
  | 0, hb => by
    have e : ((0 : Nat) : R) = 0 := rfl
    rw [e]
    have e2 : a + 0 * h = a := by grind
    rw [e2]
    grind
  | n + 1, hb => by
    rw [nat_succ] at hb ⊢
    have n0 := nat_nn n
    generalize hn : (n : R) = N at *
    have nh := nn_mul n0 h0
    have ih := steps hf hp h0 n (by rw [hn]; grind)
    rw [hn] at ih
    have s := (hf.2 (a + N * h) (by grind) (by grind)).2.2 (a + (N + 1) * h) (by grind) (by grind)
    have e : a + (N + 1) * h - (a + N * h) = h := by grind
    rw [e] at s
    have s := ab_le.mp s
    have := nn_mul h0 (hp (a + N * h) (by grind) (by grind))
    grind
/-- where the derivative is not negative the function does not fall -/
theorem Dv.rise {f f' : R → R} {a b : R} (hab : a ≤ b) (h : Dv f f' a b) (hp : ∀ x, a ≤ x → x ≤ b → 0 ≤ f' x) : f a ≤ f b := by
  obtain ⟨M, h⟩ := h
  have hM := h.1
  apply le_of_small
  intro e he
  obtain ⟨n, hn⟩ := arch (M * ((b - a) * (b - a)) / e)
  have n1 : (0 : R) < ((n + 1 : Nat) : R) := by rw [nat_succ]; have := nat_nn n; grind
  have e1 : (b - a) / ((n + 1 : Nat) : R) * ((n + 1 : Nat) : R) = b - a := div_mul (by grind)
  have h0 : 0 ≤ (b - a) / ((n + 1 : Nat) : R) := nn_mul (by grind) (Std.le_of_lt (inv_pos n1))
  have s := steps h hp h0 (n + 1) (by grind)
  have e2 : a + ((n + 1 : Nat) : R) * ((b - a) / ((n + 1 : Nat) : R)) = b := by grind
  rw [e2] at s
  have e3 : M * ((b - a) * (b - a)) / e * e = M * ((b - a) * (b - a)) := div_mul (by grind)
  have nle : (n : R) ≤ ((n + 1 : Nat) : R) := nat_le (by omega)
  generalize ((n + 1 : Nat) : R) = N at *
  generalize (b - a) / N = H at *
  have k : N * (M * (H * H)) ≤ e := by
    apply Classical.byContradiction
    intro c
    have p1 := mul_pos' (show 0 < N * (M * (H * H)) - e by grind) n1
    have p2 := nn_mul (show 0 ≤ N - M * ((b - a) * (b - a)) / e by grind) (Std.le_of_lt he)
    have e4 : N * (M * (H * H)) * N = M * ((b - a) * (b - a)) := by
      have : b - a = H * N := e1.symm
      rw [this]
      grind
    grind
  grind
theorem Dv.same {f f' : R → R} {a b : R} (hab : a ≤ b) (h : Dv f f' a b) (hp : ∀ x, a ≤ x → x ≤ b → f' x = 0) : f a = f b := by
  have h1 := h.rise hab fun x k l => by have := hp x k l; grind
  have h2 := (h.neg hab).rise hab fun x k l => by have := hp x k l; grind
  grind
end Re.R

/-! Own: rows of powers and their derivatives; exp, cos, sin; no program in it. -/
namespace Re.R
def dk (x : R) : Nat → R
  | 0 => 0
  | k + 1 => x * dk x k + x ^ k
theorem pw_succ (x : R) (k : Nat) : x ^ (k + 1) = x ^ k * x := rfl
theorem pw_zero (x : R) : x ^ 0 = 1 := rfl
theorem pw_nn {T : R} (h : 0 ≤ T) : ∀ k : Nat, 0 ≤ T ^ k
  | 0 => by rw [pw_zero]; grind
  | k + 1 => by rw [pw_succ]; exact nn_mul (pw_nn h k) h
theorem pw_ab {x T : R} (h : ab x ≤ T) : ∀ k : Nat, ab (x ^ k) ≤ T ^ k
  | 0 => by rw [pw_zero, pw_zero, ab_pos (by grind)]; grind
  | k + 1 => by
    rw [pw_succ, pw_succ, ab_mul]
    have h0 := ab_nn x
    exact mul_mono (pw_ab h k) h (ab_nn _) (by grind)
theorem dk_ab {x T : R} (h : ab x ≤ T) : ∀ k : Nat, T * ab (dk x k) ≤ k * T ^ k
  | 0 => by
    show T * ab 0 ≤ _
    rw [ab_zero]
    have : ((0 : Nat) : R) = 0 := rfl
    rw [this]
    grind
  | k + 1 => by
    have ih := dk_ab h k
    have p := pw_ab h k
    have h0 := ab_nn x
    have t := ab_add (x * dk x k) (x ^ k)
    rw [ab_mul] at t
    rw [nat_succ, pw_succ]
    show T * ab (x * dk x k + x ^ k) ≤ _
    have T0 : 0 ≤ T := by grind
    have m1 := mul_mono h ih (by grind) (nn_mul (nat_nn k) (pw_nn T0 k))
    have m2 := nn_mul T0 (show 0 ≤ ab x * ab (dk x k) + ab (x ^ k) - ab (x * dk x k + x ^ k) by grind)
    have m3 := nn_mul T0 (show 0 ≤ T ^ k - ab (x ^ k) by grind)
    grind
theorem dk_succ (x : R) : ∀ k : Nat, dk x (k + 1) = (k + 1) * x ^ k
  | 0 => by
    show x * 0 + x ^ 0 = _
    have : ((0 : Nat) : R) = 0 := rfl
    rw [pw_zero, this]
    grind
  | k + 1 => by
    show x * dk x (k + 1) + x ^ (k + 1) = _
    rw [dk_succ x k, nat_succ, pw_succ]
    grind
theorem D_ab {x y T : R} (h : ab x ≤ T) (hy : ab y ≤ T) : ∀ k : Nat, T * T * ab (y ^ k - x ^ k - (y - x) * dk x k) ≤ k * k * T ^ k * ((y - x) * (y - x))
  | 0 => by
    show T * T * ab (1 - 1 - (y - x) * 0) ≤ _
    have e : 1 - 1 - (y - x) * 0 = (0 : R) := by grind
    rw [e, ab_zero]
    have : ((0 : Nat) : R) = 0 := rfl
    rw [this]
    grind
  | k + 1 => by
    have ih := D_ab h hy k
    have d := dk_ab h k
    have h0 := ab_nn x
    have T0 : 0 ≤ T := by grind
    have e : y ^ (k + 1) - x ^ (k + 1) - (y - x) * dk x (k + 1) = y * (y ^ k - x ^ k - (y - x) * dk x k) + (y - x) * (y - x) * dk x k := by
      rw [pw_succ, pw_succ]
      show _ - (y - x) * (x * dk x k + x ^ k) = _
      grind
    rw [e, nat_succ, pw_succ]
    have t := ab_add (y * (y ^ k - x ^ k - (y - x) * dk x k)) ((y - x) * (y - x) * dk x k)
    rw [ab_mul, ab_mul ((y - x) * (y - x)), ab_pos (sq_nn (y - x))] at t
    have q := sq_nn (y - x)
    generalize (y - x) * (y - x) = W at *
    have k0 := nat_nn k
    have TT := pw_nn T0 k
    generalize ab (y ^ k - x ^ k - (y - x) * dk x k) = A at *
    generalize ab (dk x k) = B at *
    generalize T ^ k = P at *
    generalize (k : R) = N at *
    generalize ab (y * (y ^ k - x ^ k - (y - x) * dk x k) + W * dk x k) = Z at *
    have m1 := mul_mono hy ih (ab_nn y) (nn_mul (nn_mul (nn_mul k0 k0) TT) q)
    have m2 := nn_mul (nn_mul T0 T0) (show 0 ≤ ab y * A + W * B - Z by grind)
    have m3 := nn_mul (nn_mul T0 q) (show 0 ≤ N * P - T * B by grind)
    have m4 := nn_mul (nn_mul (nn_mul TT T0) q) (show 0 ≤ N + 1 by grind)
    grind
/-- under a shrinking row all sums are bounded -/
theorem Dom.bound {u : Nat → R} {r : R} {K : Nat} (h : Dom u r K) (hu : ∀ k, 0 ≤ u k) : ∃ B, 0 ≤ B ∧ ∀ n, sm u n ≤ B := by
  have hs : 0 < 1 - r := by have := h.2.1; grind
  have up : ∀ n j, sm u n ≤ sm u (n + j) := fun n j => by
    induction j with
    | zero => exact Std.le_refl _
    | succ j ih =>
      have e : sm u (n + (j + 1)) = sm u (n + j) + u (n + j) := rfl
      have := hu (n + j)
      grind
  have uK := hu K
  have i := inv_pos hs
  have e1 : (1 - r) * (u K / (1 - r)) = u K := by
    have := div_mul (a := u K) (b := 1 - r) (by grind)
    grind
  have q0 : 0 ≤ u K / (1 - r) := nn_mul uK (Std.le_of_lt i)
  have s0 : 0 ≤ sm u K := by have := up 0 K; rw [Nat.zero_add] at this; exact this
  refine ⟨sm u K + u K / (1 - r), by grind, fun n => ?_⟩
  have a := up n K
  have b := h.tail' (Nat.le_refl K) (show K ≤ n + K by omega)
  apply Classical.byContradiction
  intro c
  have := mul_pos' hs (show 0 < sm u (n + K) - sm u K - u K / (1 - r) by grind)
  grind
/-- a row of powers up to T -/
structure PS (a b : Nat → R) (T r : R) (K : Nat) : Prop where
  pos : 0 < T
  le : ∀ k, ab (a k) ≤ b k
  dom : Dom (fun k => b k * ((k + 1) * (k + 1)) * T ^ k) r K
noncomputable def P (a : Nat → R) (x : R) : R := lim (sm fun k => a k * x ^ k)
noncomputable def Q (a : Nat → R) (x : R) : R := lim (sm fun k => a k * dk x k)
variable {a b : Nat → R} {T r : R} {K : Nat}
theorem PS.u0 (h : PS a b T r K) (k : Nat) : 0 ≤ b k * ((k + 1) * (k + 1)) * T ^ k := by
  have h1 := ab_nn (a k)
  have h2 := h.le k
  have h3 := nat_nn k
  exact nn_mul (nn_mul (by grind) (nn_mul (by grind) (by grind))) (pw_nn (Std.le_of_lt h.pos) k)
theorem PS.t0 (h : PS a b T r K) {x : R} (hx : ab x ≤ T) (k : Nat) : ab (a k * x ^ k) ≤ b k * ((k + 1) * (k + 1)) * T ^ k := by
  rw [ab_mul]
  have h1 := ab_nn (a k)
  have h2 := h.le k
  have h3 := nat_nn k
  have p := pw_ab hx k
  have q := pw_nn (Std.le_of_lt h.pos) k
  have m := mul_mono h2 p h1 q
  have := nn_mul (nn_mul (show 0 ≤ b k by grind) q) (nn_mul h3 (show 0 ≤ (k : R) + 2 by grind))
  grind
theorem PS.t1 (h : PS a b T r K) {x : R} (hx : ab x ≤ T) (k : Nat) : T * ab (a k * dk x k) ≤ b k * ((k + 1) * (k + 1)) * T ^ k := by
  rw [ab_mul]
  have h1 := ab_nn (a k)
  have h2 := h.le k
  have h3 := nat_nn k
  have p := dk_ab hx k
  have q := pw_nn (Std.le_of_lt h.pos) k
  have m := mul_mono h2 p h1 (nn_mul h3 q)
  have := nn_mul (nn_mul (show 0 ≤ b k by grind) q) (nn_mul h3 h3)
  have := nn_mul (nn_mul (show 0 ≤ b k by grind) q) h3
  have := nn_mul (show 0 ≤ b k by grind) q
  grind
theorem PS.toP (h : PS a b T r K) {x : R} (hx : ab x ≤ T) : To (sm fun k => a k * x ^ k) (P a x) := To.limit (h.dom.conv fun k _ => h.t0 hx k)
theorem Dom.scale {u : Nat → R} {r c : R} {K : Nat} (h : Dom u r K) (hc : 0 ≤ c) : Dom (fun k => c * u k) r K := ⟨h.1, h.2.1, fun k hk => ⟨nn_mul hc (h.2.2 k hk).1, by
  have := nn_mul hc (show 0 ≤ r * u k - u (k + 1) by have := (h.2.2 k hk).2; grind)
  grind⟩⟩
theorem PS.toQ (h : PS a b T r K) {x : R} (hx : ab x ≤ T) : To (sm fun k => a k * dk x k) (Q a x) := To.limit ((h.dom.scale (Std.le_of_lt (inv_pos h.pos))).conv fun k _ => by
  have e := mul_inv (x := T) (by have := h.pos; grind)
  have := nn_mul (Std.le_of_lt (inv_pos h.pos)) (show 0 ≤ b k * ((k + 1) * (k + 1)) * T ^ k - T * ab (a k * dk x k) by have := h.t1 hx k; grind)
  have e2 : T⁻¹ * (T * ab (a k * dk x k)) = ab (a k * dk x k) := by
    generalize ab (a k * dk x k) = A
    grind
  generalize b k * ((k + 1) * (k + 1)) * T ^ k = U at *
  generalize ab (a k * dk x k) = A at *
  grind)
theorem sm_sub (f g : Nat → R) : ∀ n, sm (fun k => f k - g k) n = sm f n - sm g n
  | 0 => by simp only [sm]; grind
  | n + 1 => by simp only [sm, sm_sub f g n]; grind
theorem To.sub {f g : Nat → R} {x y : R} (h : To f x) (k : To g y) : To (fun n => f n - g n) (x - y) := by
  have := h.add (k.mul (-1))
  have e : x + -1 * y = x - y := by grind
  rw [e] at this
  have e2 : (fun n => f n + -1 * g n) = fun n => f n - g n := by funext n; grind
  rw [e2] at this
  exact this
theorem le_div {x y c : R} (hc : 0 < c) (h : c * x ≤ y) : x ≤ y * c⁻¹ := by
  have e := mul_inv (x := c) (by grind)
  have := nn_mul (Std.le_of_lt (inv_pos hc)) (show 0 ≤ y - c * x by grind)
  have e2 : c⁻¹ * (c * x) = x := by grind
  grind
theorem PS.dv (h : PS a b T r K) : Dv (P a) (Q a) (-T) T := by
  obtain ⟨B, hB, hn⟩ := h.dom.bound h.u0
  have T0 := h.pos
  have i := inv_pos T0
  have i2 := mul_pos' i i
  have z1 := nn_mul hB (Std.le_of_lt i)
  have z2 := nn_mul hB (Std.le_of_lt i2)
  refine ⟨B + B * T⁻¹ + B * (T⁻¹ * T⁻¹), by grind, fun x k1 k2 => ?_⟩
  have hx : ab x ≤ T := ab_le.mpr ⟨k1, k2⟩
  have hP := h.toP hx
  have hQ := h.toQ hx
  refine ⟨?_, ?_, fun y l1 l2 => ?_⟩
  · have : ab (P a x - 0) ≤ B := hP.near (N := 0) fun n _ => by
      have e : sm (fun k => a k * x ^ k) n - 0 = sm (fun k => a k * x ^ k) n := by grind
      rw [e]
      have a1 := sm_ab (fun k => a k * x ^ k) n
      have a2 := sm_le (n := n) (f := fun k => ab (a k * x ^ k)) (g := fun k => b k * ((k + 1) * (k + 1)) * T ^ k) fun k _ => h.t0 hx k
      have a3 := hn n
      exact Std.le_trans a1 (Std.le_trans a2 a3)
    have e : P a x - 0 = P a x := by grind
    rw [e] at this
    grind
  · have : ab (Q a x - 0) ≤ B * T⁻¹ := hQ.near (N := 0) fun n _ => by
      have e : sm (fun k => a k * dk x k) n - 0 = sm (fun k => a k * dk x k) n := by grind
      rw [e]
      apply le_div T0
      have a1 := sm_ab (fun k => a k * dk x k) n
      have a2 := sm_le (n := n) (f := fun k => T * ab (a k * dk x k)) (g := fun k => b k * ((k + 1) * (k + 1)) * T ^ k) fun k _ => h.t1 hx k
      have a3 := hn n
      rw [sm_mul] at a2
      have := nn_mul (Std.le_of_lt T0) (show 0 ≤ sm (fun k => ab (a k * dk x k)) n - ab (sm (fun k => a k * dk x k) n) by grind)
      grind
    have e : Q a x - 0 = Q a x := by grind
    rw [e] at this
    grind
  · have hy : ab y ≤ T := ab_le.mpr ⟨l1, l2⟩
    have hPy := h.toP hy
    have W0 := sq_nn (y - x)
    have lim := (hPy.sub hP).sub (hQ.mul (y - x))
    have : ab (P a y - P a x - (y - x) * Q a x - 0) ≤ B * (T⁻¹ * T⁻¹) * ((y - x) * (y - x)) := lim.near (N := 0) fun n _ => by
      have e : sm (fun k => a k * y ^ k) n - sm (fun k => a k * x ^ k) n - (y - x) * sm (fun k => a k * dk x k) n - 0 = sm (fun k => a k * (y ^ k - x ^ k - (y - x) * dk x k)) n := by
        rw [← sm_sub, ← sm_mul, ← sm_sub]
        have e0 : ∀ z : R, z - 0 = z := fun z => by grind
        rw [e0]
        exact sm_congr fun k _ => by grind
      rw [e]
      have a1 := sm_ab (fun k => a k * (y ^ k - x ^ k - (y - x) * dk x k)) n
      have a2 := sm_le (n := n) (f := fun k => T * T * ab (a k * (y ^ k - x ^ k - (y - x) * dk x k))) (g := fun k => ((y - x) * (y - x)) * (b k * ((k + 1) * (k + 1)) * T ^ k)) fun k _ => by
        rw [ab_mul]
        have h1 := ab_nn (a k)
        have h2 := h.le k
        have h3 := nat_nn k
        have p := D_ab hx hy k
        have q := pw_nn (Std.le_of_lt h.pos) k
        have m := mul_mono h2 p h1 (nn_mul (nn_mul (nn_mul h3 h3) q) W0)
        have b0 : 0 ≤ b k := by grind
        have := nn_mul (nn_mul (nn_mul b0 q) W0) h3
        have := nn_mul (nn_mul b0 q) W0
        generalize (y - x) * (y - x) = W at *
        generalize ab (y ^ k - x ^ k - (y - x) * dk x k) = A at *
        generalize T ^ k = U at *
        generalize (k : R) = N at *
        generalize ab (a k) = a' at *
        generalize b k = b' at *
        grind
      have a3 := hn n
      rw [sm_mul, sm_mul] at a2
      have m1 := nn_mul W0 (show 0 ≤ B - sm (fun k => b k * ((k + 1) * (k + 1)) * T ^ k) n by grind)
      have m2 := nn_mul (nn_mul (Std.le_of_lt T0) (Std.le_of_lt T0)) (show 0 ≤ sm (fun k => ab (a k * (y ^ k - x ^ k - (y - x) * dk x k))) n - ab (sm (fun k => a k * (y ^ k - x ^ k - (y - x) * dk x k)) n) by grind)
      have e4 : B * (T⁻¹ * T⁻¹) * ((y - x) * (y - x)) = B * ((y - x) * (y - x)) * (T * T)⁻¹ := by
        have : (T * T)⁻¹ = T⁻¹ * T⁻¹ := inv_uniq (by have e := mul_inv (x := T) (by grind); grind)
        rw [this]
        grind
      rw [e4]
      apply le_div (mul_pos' T0 T0)
      generalize ab (sm (fun k => a k * (y ^ k - x ^ k - (y - x) * dk x k)) n) = A1 at *
      generalize sm (fun k => ab (a k * (y ^ k - x ^ k - (y - x) * dk x k))) n = A2 at *
      generalize sm (fun k => b k * ((k + 1) * (k + 1)) * T ^ k) n = A3 at *
      grind
    have e : P a y - P a x - (y - x) * Q a x - 0 = P a y - P a x - (y - x) * Q a x := by grind
    rw [e] at this
    have := nn_mul hB W0
    have := nn_mul z1 W0
    generalize (y - x) * (y - x) = W at *
    grind
end Re.R

/-! Own: exp, cos, sin by their rows; no program in it. -/
namespace Re.R
/-- 1 / k! -/
noncomputable def fi : Nat → R
  | 0 => 1
  | k + 1 => fi k / ((k : R) + 1)
theorem fi_succ (k : Nat) : fi (k + 1) * ((k : R) + 1) = fi k := by
  have := nat_nn k
  exact div_mul (by grind)
theorem fi_pos : ∀ k : Nat, 0 < fi k
  | 0 => by show (0 : R) < 1; grind
  | k + 1 => div_pos (fi_pos k) (by have := nat_nn k; grind)
/-- the words of signs -/
noncomputable def cf (s : Nat → R) (k : Nat) : R := s k * fi k
def Sg (s : Nat → R) : Prop := ∀ k, ab (s k) ≤ 1
theorem cf_ps {s : Nat → R} (hs : Sg s) {T : R} (hT : 0 < T) : ∃ K, PS (cf s) fi T (1 / 2) K := by
  obtain ⟨K, hK⟩ := arch (8 * T)
  refine ⟨K, hT, fun k => ?_, by grind, by grind, fun k hk => ⟨?_, ?_⟩⟩
  · unfold cf
    rw [ab_mul, ab_pos (Std.le_of_lt (fi_pos k))]
    have := nn_mul (Std.le_of_lt (fi_pos k)) (show 0 ≤ 1 - ab (s k) by have := hs k; grind)
    grind
  · have := nat_nn k
    exact nn_mul (nn_mul (Std.le_of_lt (fi_pos k)) (nn_mul (by grind) (by grind))) (pw_nn (Std.le_of_lt hT) k)
  · have k0 := nat_nn k
    have kK := nat_le hk
    have f1 := fi_succ k
    have f0 := fi_pos (k + 1)
    have q := pw_nn (Std.le_of_lt hT) k
    show fi (k + 1) * ((((k + 1 : Nat) : R) + 1) * (((k + 1 : Nat) : R) + 1)) * T ^ (k + 1) ≤ 1 / 2 * (fi k * (((k : R) + 1) * ((k : R) + 1)) * T ^ k)
    rw [nat_succ, pw_succ, ← f1]
    generalize (k : R) = N at *
    generalize fi (k + 1) = F at *
    generalize T ^ k = U at *
    have FU := nn_mul (Std.le_of_lt f0) q
    have p1 : (N + 2) * (N + 2) * T ≤ 1 / 2 * ((N + 1) * (N + 1) * (N + 1)) := by
      have a1 := nn_mul (nn_mul (show 0 ≤ N + 1 by grind) (show 0 ≤ N + 1 by grind)) (show 0 ≤ N + 1 - 8 * T by grind)
      have a2 := nn_mul (show 0 ≤ 4 * ((N + 1) * (N + 1)) - (N + 2) * (N + 2) by
        have := nn_mul k0 k0
        grind) (Std.le_of_lt hT)
      grind
    have p2 := nn_mul FU (show 0 ≤ 1 / 2 * ((N + 1) * (N + 1) * (N + 1)) - (N + 2) * (N + 2) * T by grind)
    grind
noncomputable def F (s : Nat → R) : R → R := P (cf s)
def sh (s : Nat → R) : Nat → R := fun k => s (k + 1)
theorem Sg.sh {s : Nat → R} (h : Sg s) : Sg (sh s) := fun k => h (k + 1)
theorem ab_big (x : R) : ∃ T, 0 < T ∧ ab x ≤ T := ⟨ab x + 1, by have := ab_nn x; grind, by grind⟩
theorem F_to {s : Nat → R} (hs : Sg s) (x : R) : To (sm fun k => cf s k * x ^ k) (F s x) := by
  obtain ⟨T, hT, hx⟩ := ab_big x
  obtain ⟨K, h⟩ := cf_ps hs hT
  exact h.toP hx
theorem sm_shift (f : Nat → R) : ∀ n, sm f (n + 1) = f 0 + sm (fun k => f (k + 1)) n
  | 0 => by simp only [sm]; grind
  | n + 1 => by
    have := sm_shift f n
    show sm f (n + 1) + f (n + 1) = f 0 + (sm (fun k => f (k + 1)) n + f (n + 1))
    rw [this]
    grind
theorem F_Q {s : Nat → R} (hs : Sg s) (x : R) : Q (cf s) x = F (sh s) x := by
  obtain ⟨T, hT, hx⟩ := ab_big x
  obtain ⟨K, h⟩ := cf_ps hs hT
  have h1 := (h.toQ hx).tail
  have h2 := F_to hs.sh x
  have e : (fun n => sm (fun k => cf s k * dk x k) (n + 1)) = sm fun k => cf (sh s) k * x ^ k := by
    funext n
    rw [sm_shift]
    have e0 : cf s 0 * dk x 0 = 0 := by show cf s 0 * 0 = 0; grind
    rw [e0]
    have : sm (fun k => cf s (k + 1) * dk x (k + 1)) n = sm (fun k => cf (sh s) k * x ^ k) n := sm_congr fun k _ => by
      rw [dk_succ]
      unfold cf sh
      have := fi_succ k
      rw [← this]
      grind
    rw [this]
    grind
  rw [e] at h1
  exact h1.uniq h2
theorem F_dv {s : Nat → R} (hs : Sg s) (a b : R) : Dv (F s) (F (sh s)) a b := by
  have h1 := ab_nn a
  have h2 := ab_nn b
  obtain ⟨K, h⟩ := cf_ps hs (T := ab a + ab b + 1) (by grind)
  have d := h.dv.sub_iv (c := a) (d := b) (by have := ab_cases a; grind) (by have := ab_cases b; grind)
  exact d.congr (fun _ _ _ => rfl) (fun x _ _ => F_Q hs x)
theorem F_zero {s : Nat → R} (hs : Sg s) : F s 0 = s 0 := by
  have h := (F_to hs 0).tail
  have e : (fun n => sm (fun k => cf s k * (0 : R) ^ k) (n + 1)) = fun _ => s 0 := by
    funext n
    rw [sm_shift]
    have z : sm (fun k => cf s (k + 1) * (0 : R) ^ (k + 1)) n = 0 := by
      induction n with
      | zero => rfl
      | succ n ih =>
        show sm (fun k => cf s (k + 1) * (0 : R) ^ (k + 1)) n + cf s (n + 1) * (0 : R) ^ (n + 1) = 0
        rw [ih, pw_succ]
        grind
    rw [z, pw_zero]
    show s 0 * 1 * 1 + 0 = s 0
    grind
  rw [e] at h
  exact (h.uniq (To.const _))
theorem F_neg {s : Nat → R} (hs : Sg s) (x : R) : F (fun k => -s k) x = -F s x := by
  have h1 := F_to (s := fun k => -s k) (fun k => by rw [ab_minus]; exact hs k) x
  have h2 := (F_to hs x).mul (-1)
  have e : (fun n => -1 * sm (fun k => cf s k * x ^ k) n) = sm fun k => cf (fun k => -s k) k * x ^ k := by
    funext n
    rw [← sm_mul]
    exact sm_congr fun k _ => by unfold cf; grind
  rw [e] at h2
  have := h1.uniq h2
  grind
/-- E, C, S -/
def one : Nat → R := fun _ => 1
def cw (k : Nat) : R := if k % 4 = 0 then 1 else if k % 4 = 2 then -1 else 0
def sw (k : Nat) : R := cw (k + 3)
theorem one_sg : Sg one := fun k => by unfold one; rw [ab_pos (by grind)]; grind
theorem cw_sg : Sg cw := fun k => by
  unfold cw
  split
  · rw [ab_pos (by grind)]; grind
  · split
    · rw [ab_neg (by grind)]; grind
    · rw [ab_zero]; grind
theorem sw_sg : Sg sw := fun k => cw_sg (k + 3)
noncomputable def E : R → R := F one
noncomputable def C : R → R := F cw
noncomputable def S : R → R := F sw
theorem E_dv (a b : R) : Dv E E a b := F_dv one_sg a b
theorem sh_sw : sh sw = cw := by
  funext k
  show cw (k + 1 + 3) = cw k
  unfold cw
  have : (k + 1 + 3) % 4 = k % 4 := by omega
  rw [this]
theorem sh_cw : sh cw = fun k => -sw k := by
  funext k
  show cw (k + 1) = -cw (k + 3)
  unfold cw
  rcases (by omega : k % 4 = 0 ∨ k % 4 = 1 ∨ k % 4 = 2 ∨ k % 4 = 3) with h | h | h | h
  · rw [if_neg (by omega), if_neg (by omega), if_neg (by omega), if_neg (by omega)]; grind
  · rw [if_neg (by omega), if_pos (by omega), if_pos (by omega)]
  · rw [if_neg (by omega), if_neg (by omega), if_neg (by omega), if_neg (by omega)]; grind
  · rw [if_pos (by omega), if_neg (by omega), if_pos (by omega)]; grind
theorem S_dv (a b : R) : Dv S C a b := by
  have := F_dv sw_sg a b
  rw [sh_sw] at this
  exact this
theorem C_dv (a b : R) : Dv C (fun x => -S x) a b := by
  have := F_dv cw_sg a b
  rw [sh_cw] at this
  exact this.congr (fun _ _ _ => rfl) (fun x _ _ => F_neg sw_sg x)
theorem E0 : E 0 = 1 := F_zero one_sg
theorem C0 : C 0 = 1 := F_zero cw_sg
theorem S0 : S 0 = 0 := F_zero sw_sg
/-- a derivative of f(s - x) -/
theorem Dv.refl_ {f f' : R → R} (s a b : R) (hab : a ≤ b) (h : Dv f f' (s - b) (s - a)) : Dv (fun x => f (s - x)) (fun x => -f' (s - x)) a b := by
  have k : Dv (fun x => s - x) (fun _ => -1) a b := ((Dv.const s a b).sub hab (Dv.id a b)).congr (fun _ _ _ => rfl) (fun _ _ _ => by grind)
  exact (h.comp hab k fun x k l => by grind).congr (fun _ _ _ => rfl) (fun _ _ _ => by grind)
theorem cst {f f' : R → R} (h : ∀ a b, a ≤ b → Dv f f' a b) (z : ∀ x, f' x = 0) (x y : R) : f x = f y := by
  rcases Std.le_total (a := x) (b := y) with k | k
  · exact (h x y k).same k fun x _ _ => z x
  · exact ((h y x k).same k fun x _ _ => z x).symm
theorem E_add (x y : R) : E (x + y) = E x * E y := by
  have := cst (f := fun t => E t * E (x + y - t)) (f' := fun t => E t * E (x + y - t) + E t * -E (x + y - t)) (fun a b hab => (E_dv a b).mul hab (Dv.refl_ (x + y) a b hab (E_dv _ _))) (fun x => by grind) x 0
  have e : x + y - x = y := by grind
  have e2 : x + y - 0 = x + y := by grind
  simp only [e, e2, E0] at this
  grind
theorem E_neg (x : R) : E x * E (-x) = 1 := by
  rw [← E_add]
  have : x + -x = 0 := by grind
  rw [this, E0]
theorem C_add (x y : R) : C (x + y) = C x * C y - S x * S y := by
  have := cst (f := fun t => C t * C (x + y - t) - S t * S (x + y - t)) (fun a b hab => ((C_dv a b).mul hab (Dv.refl_ (x + y) a b hab (C_dv _ _))).sub hab ((S_dv a b).mul hab (Dv.refl_ (x + y) a b hab (S_dv _ _)))) (fun x => by grind) x 0
  have e : x + y - x = y := by grind
  have e2 : x + y - 0 = x + y := by grind
  simp only [e, e2, C0, S0] at this
  grind
theorem S_add (x y : R) : S (x + y) = S x * C y + C x * S y := by
  have := cst (f := fun t => S t * C (x + y - t) + C t * S (x + y - t)) (fun a b hab => ((S_dv a b).mul hab (Dv.refl_ (x + y) a b hab (C_dv _ _))).add ((C_dv a b).mul hab (Dv.refl_ (x + y) a b hab (S_dv _ _)))) (fun x => by grind) x 0
  have e : x + y - x = y := by grind
  have e2 : x + y - 0 = x + y := by grind
  simp only [e, e2, C0, S0] at this
  grind
theorem CS1 (x : R) : C x * C x + S x * S x = 1 := by
  have := cst (f := fun t => C t * C t + S t * S t) (fun a b hab => ((C_dv a b).mul hab (C_dv a b)).add ((S_dv a b).mul hab (S_dv a b))) (fun x => by grind) x 0
  simp only [C0, S0] at this
  grind
theorem C_neg (x : R) : C (-x) = C x := by
  have a := C_add x (-x)
  have b := S_add x (-x)
  have c := CS1 x
  have e : x + -x = 0 := by grind
  rw [e, C0] at a
  rw [e, S0] at b
  have : C (-x) = (C x * C x + S x * S x) * C (-x) := by rw [c]; grind
  grind
theorem S_neg (x : R) : S (-x) = -S x := by
  have a := C_add x (-x)
  have b := S_add x (-x)
  have c := CS1 x
  have e : x + -x = 0 := by grind
  rw [e, C0] at a
  rw [e, S0] at b
  have : S (-x) = (C x * C x + S x * S x) * S (-x) := by rw [c]; grind
  grind
theorem C_le1 (x : R) : -1 ≤ C x ∧ C x ≤ 1 := by
  have c := CS1 x
  have := sq_nn (S x)
  constructor
  · apply Classical.byContradiction
    intro h
    have := mul_pos' (show 0 < -1 - C x by grind) (show 0 < 1 - C x by grind)
    grind
  · apply Classical.byContradiction
    intro h
    have := mul_pos' (show 0 < C x - 1 by grind) (show 0 < C x + 1 by grind)
    grind
theorem S_le1 (x : R) : -1 ≤ S x ∧ S x ≤ 1 := by
  have c := CS1 x
  have := sq_nn (C x)
  constructor
  · apply Classical.byContradiction
    intro h
    have := mul_pos' (show 0 < -1 - S x by grind) (show 0 < 1 - S x by grind)
    grind
  · apply Classical.byContradiction
    intro h
    have := mul_pos' (show 0 < S x - 1 by grind) (show 0 < S x + 1 by grind)
    grind
theorem E_pos (x : R) : 0 < E x := by
  have h := E_add (x / 2) (x / 2)
  have e : x / 2 + x / 2 = x := by grind
  rw [e] at h
  have h1 := sq_nn (E (x / 2))
  have h2 := E_neg x
  have : E x ≠ 0 := fun c => by rw [c] at h2; grind
  grind
theorem E_mono {x y : R} (h : x ≤ y) : E x ≤ E y := (E_dv x y).rise h fun z _ _ => Std.le_of_lt (E_pos z)
end Re.R

/-! Own: the rows of arctan (g = -1) and of artanh (g = 1), what they mean; pi by Machin; no program in it. -/
namespace Re.R
/-- signs: 0, 1, 0, g, 0, 1, 0, g, .. -/
def wg (g : R) (k : Nat) : R := if k % 4 = 1 then 1 else if k % 4 = 3 then g else 0
noncomputable def ag (g : R) (k : Nat) : R := wg g k / k
def Unit (g : R) : Prop := g = 1 ∨ g = -1
theorem Unit.sq {g : R} (h : Unit g) : g * g = 1 := by rcases h with h | h <;> rw [h] <;> grind
theorem Unit.ab {g : R} (h : Unit g) : ab g ≤ 1 := by
  rcases h with h | h <;> rw [h]
  · rw [ab_pos (by grind)]; grind
  · rw [ab_neg (by grind)]; grind
theorem wg_ab {g : R} (h : Unit g) (k : Nat) : ab (wg g k) ≤ 1 := by
  unfold wg
  split
  · rw [ab_pos (by grind)]; grind
  · split
    · exact h.ab
    · rw [ab_zero]; grind
theorem wg_2 {g : R} (h : Unit g) (k : Nat) : wg g (k + 2) = g * wg g k := by
  have := h.sq
  unfold wg
  rcases (by omega : k % 4 = 0 ∨ k % 4 = 1 ∨ k % 4 = 2 ∨ k % 4 = 3) with c | c | c | c
  · rw [if_neg (by omega), if_neg (by omega), if_neg (by omega), if_neg (by omega)]; grind
  · rw [if_neg (by omega), if_pos (by omega), if_pos (by omega)]; grind
  · rw [if_neg (by omega), if_neg (by omega), if_neg (by omega), if_neg (by omega)]; grind
  · rw [if_pos (by omega), if_neg (by omega), if_pos (by omega)]; grind
theorem ag_ab {g : R} (h : Unit g) (k : Nat) : ab (ag g k) ≤ 1 := by
  unfold ag
  match k with
  | 0 =>
    have : wg g 0 = 0 := by unfold wg; rw [if_neg (by omega), if_neg (by omega)]
    rw [this]
    have : (0 : R) / ((0 : Nat) : R) = 0 := by show (0 : R) * _ = 0; grind
    rw [this, ab_zero]
    grind
  | k + 1 =>
    have k0 := nat_nn k
    rw [nat_succ]
    have e : wg g (k + 1) / ((k : R) + 1) * ((k : R) + 1) = wg g (k + 1) := div_mul (by grind)
    have w := wg_ab h (k + 1)
    have m := ab_mul (wg g (k + 1) / ((k : R) + 1)) ((k : R) + 1)
    rw [e, ab_pos (x := (k : R) + 1) (by grind)] at m
    have z := ab_nn (wg g (k + 1) / ((k : R) + 1))
    have := nn_mul z k0
    grind
theorem ag_ps {g : R} (hg : Unit g) {T : R} (hT : 0 < T) (h1 : T < 1) : ∃ K, PS (ag g) (fun _ => 1) T ((1 + T) / 2) K := by
  obtain ⟨K, hK⟩ := arch (6 / (1 - T))
  refine ⟨K, hT, ag_ab hg, by grind, by grind, fun k hk => ⟨?_, ?_⟩⟩
  · have := nat_nn k
    have := nn_mul (show 0 ≤ (k : R) + 1 by grind) (show 0 ≤ (k : R) + 1 by grind)
    exact nn_mul (by grind) (pw_nn (Std.le_of_lt hT) k)
  · have k0 := nat_nn k
    have kK := nat_le hk
    have q := pw_nn (Std.le_of_lt hT) k
    have e : 6 / (1 - T) * (1 - T) = 6 := div_mul (by grind)
    show 1 * ((((k + 1 : Nat) : R) + 1) * (((k + 1 : Nat) : R) + 1)) * T ^ (k + 1) ≤ (1 + T) / 2 * (1 * (((k : R) + 1) * ((k : R) + 1)) * T ^ k)
    rw [nat_succ, pw_succ]
    generalize (k : R) = N at *
    generalize 6 / (1 - T) = D at *
    generalize T ^ k = U at *
    have a1 := nn_mul (show 0 ≤ N - D by grind) (show 0 ≤ 1 - T by grind)
    have a2 : 6 ≤ (N + 1) * (1 - T) := by grind
    have a3 := nn_mul (show 0 ≤ N + 1 by grind) (show 0 ≤ (N + 1) * (1 - T) - 6 by grind)
    have a4 := nn_mul k0 (show 0 ≤ 1 - T by grind)
    have p : (N + 2) * (N + 2) * T ≤ (1 + T) / 2 * ((N + 1) * (N + 1)) := by grind
    have p2 := nn_mul q (show 0 ≤ (1 + T) / 2 * ((N + 1) * (N + 1)) - (N + 2) * (N + 2) * T by grind)
    grind
noncomputable def A (g : R) : R → R := P (ag g)
theorem lt1 {x : R} (h : ab x < 1) : ∃ T, 0 < T ∧ T < 1 ∧ ab x ≤ T := ⟨(ab x + 1) / 2, by have := ab_nn x; grind, by grind, by grind⟩
theorem A_to {g : R} (hg : Unit g) {x : R} (hx : ab x < 1) : To (sm fun k => ag g k * x ^ k) (A g x) := by
  obtain ⟨T, hT, h1, h⟩ := lt1 hx
  obtain ⟨K, h2⟩ := ag_ps hg hT h1
  exact h2.toP h
theorem A_Q {g : R} (hg : Unit g) {x : R} (hx : ab x < 1) : Q (ag g) x * (1 - g * (x * x)) = 1 := by
  obtain ⟨T, hT, h1, h⟩ := lt1 hx
  obtain ⟨K, h2⟩ := ag_ps hg hT h1
  have a1 := (h2.toQ h).tail
  have e : (fun n => sm (fun k => ag g k * dk x k) (n + 1)) = sm fun k => wg g (k + 1) * x ^ k := by
    funext n
    rw [sm_shift]
    have e0 : ag g 0 * dk x 0 = 0 := by show ag g 0 * 0 = 0; grind
    rw [e0]
    have : sm (fun k => ag g (k + 1) * dk x (k + 1)) n = sm (fun k => wg g (k + 1) * x ^ k) n := sm_congr fun k _ => by
      have k0 := nat_nn k
      rw [dk_succ]
      unfold ag
      rw [nat_succ]
      have e : wg g (k + 1) / ((k : R) + 1) * ((k : R) + 1) = wg g (k + 1) := div_mul (by grind)
      generalize wg g (k + 1) / ((k : R) + 1) = Z at *
      rw [← e]
      grind
    rw [this]
    grind
  rw [e] at a1
  have a2 := a1.mul (1 - g * (x * x))
  have e2 : ∀ n, (1 - g * (x * x)) * sm (fun k => wg g (k + 1) * x ^ k) n = 1 - (wg g (n + 1) * x ^ n + wg g (n + 2) * x ^ (n + 1)) := fun n => by
    induction n with
    | zero =>
      have w1 : wg g (0 + 1) = 1 := by unfold wg; rw [if_pos (by omega)]
      have w2 : wg g (0 + 2) = 0 := by unfold wg; rw [if_neg (by omega), if_neg (by omega)]
      rw [w1, w2, pw_zero]
      show (1 - g * (x * x)) * 0 = _
      grind
    | succ n ih =>
      show (1 - g * (x * x)) * (sm (fun k => wg g (k + 1) * x ^ k) n + wg g (n + 1) * x ^ n) = _
      have w := wg_2 hg (n + 1)
      have e3 : n + 1 + 2 = n + 2 + 1 := by omega
      have e4 : n + 1 + 1 = n + 2 := by omega
      rw [e4, w, pw_succ x (n + 1), pw_succ]
      rw [pw_succ] at ih
      grind
  have a3 : To (fun n => (1 - g * (x * x)) * sm (fun k => wg g (k + 1) * x ^ k) n) 1 := fun d hd => by
    obtain ⟨N, hN, hq⟩ := h2.dom.to0 (show 0 < d / 2 by grind)
    refine ⟨N, fun n hn => ?_⟩
    show ab ((1 - g * (x * x)) * sm (fun k => wg g (k + 1) * x ^ k) n - 1) ≤ d
    rw [e2]
    have b1 : ∀ m : Nat, N ≤ m → ab (x ^ m) ≤ d / 2 := fun m hm => by
      have q : 1 * (((m : R) + 1) * ((m : R) + 1)) * T ^ m ≤ d / 2 := hq m hm
      have p := pw_ab h m
      have m0 := nat_nn m
      have t := pw_nn (Std.le_of_lt hT) m
      have := nn_mul (nn_mul m0 (show 0 ≤ (m : R) + 2 by grind)) t
      grind
    have c1 := b1 n hn
    have c2 := b1 (n + 1) (by omega)
    have w1 := wg_ab hg (n + 1)
    have w2 := wg_ab hg (n + 2)
    have s := ab_add (wg g (n + 1) * x ^ n) (wg g (n + 2) * x ^ (n + 1))
    rw [ab_mul, ab_mul] at s
    have m1 := mul_mono w1 c1 (ab_nn _) (by grind)
    have m2 := mul_mono w2 c2 (ab_nn _) (by grind)
    have e5 : 1 - (wg g (n + 1) * x ^ n + wg g (n + 2) * x ^ (n + 1)) - 1 = -(wg g (n + 1) * x ^ n + wg g (n + 2) * x ^ (n + 1)) := by grind
    rw [e5, ab_minus]
    grind
  have := a2.uniq a3
  grind
theorem A_dv {g : R} (hg : Unit g) {T : R} (hT : 0 < T) (h1 : T < 1) : Dv (A g) (Q (ag g)) (-T) T := by
  obtain ⟨K, h2⟩ := ag_ps hg hT h1
  exact h2.dv
theorem A0 {g : R} (hg : Unit g) : A g 0 = 0 := by
  have h := A_to hg (x := 0) (by rw [ab_zero]; grind)
  have e : (sm fun k => ag g k * (0 : R) ^ k) = fun _ => 0 := by
    funext n
    induction n with
    | zero => rfl
    | succ n ih =>
      show sm (fun k => ag g k * (0 : R) ^ k) n + ag g n * (0 : R) ^ n = 0
      rw [ih]
      match n with
      | 0 =>
        have : ag g 0 = 0 := by
          unfold ag
          have : wg g 0 = 0 := by unfold wg; rw [if_neg (by omega), if_neg (by omega)]
          rw [this]
          show (0 : R) * _ = 0
          grind
        rw [this]
        grind
      | n + 1 =>
        rw [pw_succ]
        grind
  rw [e] at h
  exact h.uniq (To.const 0)
/-- what is the same on both sides of 0 -/
theorem same0 {f f' : R → R} {T x : R} (hx : ab x ≤ T) (h : Dv f f' (-T) T) (z : ∀ y, -T ≤ y → y ≤ T → f' y = 0) : f x = f 0 := by
  have k := ab_le.mp hx
  have T0 := ab_nn x
  rcases Std.le_total (a := 0) (b := x) with c | c
  · exact ((h.sub_iv (c := 0) (d := x) (by grind) (by grind)).same c fun y a b => z y (by grind) (by grind)).symm
  · exact (h.sub_iv (c := x) (d := 0) (by grind) (by grind)).same c fun y a b => z y (by grind) (by grind)
/-- the derivative of a value at A -/
theorem A_comp {g : R} (hg : Unit g) {T : R} (hT : 0 < T) (h1 : T < 1) {f f' : R → R} (hf : ∀ a b, Dv f f' a b) : Dv (fun t => f (A g t)) (fun t => f' (A g t) * Q (ag g) t) (-T) T := by
  obtain ⟨M, hM⟩ := A_dv hg hT h1
  exact (hf (-M) M).comp (by grind) ⟨M, hM⟩ fun x k l => by have := ab_le.mp (hM.2 x k l).1; grind
/-- tan (arctan t) = t -/
theorem A_tan {t : R} (ht : ab t < 1) : S (A (-1) t) = t * C (A (-1) t) := by
  have hg : Unit (-1) := .inr rfl
  obtain ⟨T, hT, h1, h⟩ := lt1 ht
  have hab : -T ≤ T := by grind
  have dS := A_comp hg hT h1 S_dv
  have dC := A_comp hg hT h1 C_dv
  have dg := dS.sub hab ((Dv.id (-T) T).mul hab dC)
  have dq : Dv (fun x => x * x + 1) (fun x => 2 * x) (-T) T := (((Dv.id (-T) T).mul hab (Dv.id (-T) T)).add (Dv.const 1 (-T) T)).congr (fun _ _ _ => rfl) (fun _ _ _ => by grind)
  have dw := (dg.mul hab dg).mul hab (dq.inv hab (c := 1) (by grind) fun x _ _ => by have := sq_nn x; grind)
  have s := same0 h dw fun y k l => by
    have hy : ab y < 1 := by have := ab_cases y; grind
    have q := A_Q hg hy
    have hq := sq_nn y
    have i := mul_inv (x := y * y + 1) (by grind)
    have e : Q (ag (-1)) y = (y * y + 1)⁻¹ := by
      have : (y * y + 1) * Q (ag (-1)) y = 1 := by grind
      exact (inv_uniq this).symm
    rw [e]
    generalize (y * y + 1)⁻¹ = I at *
    generalize S (A (-1) y) = s at *
    generalize C (A (-1) y) = c at *
    have e1 : y * y * I = 1 - I := by grind
    have e2 : y * y * (I * I) = I - I * I := by grind
    grind
  simp only [A0 hg, S0] at s
  have i0 := mul_inv (x := t * t + 1) (by have := sq_nn t; grind)
  have z : (S (A (-1) t) - t * C (A (-1) t)) * (S (A (-1) t) - t * C (A (-1) t)) = 0 := by
    generalize (t * t + 1)⁻¹ = I at *
    generalize S (A (-1) t) - t * C (A (-1) t) = G at *
    have : G * G * I = 0 := by grind
    have : G * G * I * (t * t + 1) = 0 := by rw [this]; grind
    grind
  generalize hG : S (A (-1) t) - t * C (A (-1) t) = G at *
  have : G = 0 := by
    apply Classical.byContradiction
    intro c
    have h1 := mul_inv c
    have : G * G * G⁻¹ = G := by grind
    rw [z] at this
    grind
  grind
/-- exp (2 artanh t) (1 - t) = 1 + t -/
theorem A_exp {t : R} (ht : ab t < 1) : E (2 * A 1 t) * (1 - t) = 1 + t := by
  have hg : Unit 1 := .inl rfl
  obtain ⟨T, hT, h1, h⟩ := lt1 ht
  have hab : -T ≤ T := by grind
  have dE := A_comp hg hT h1 E_dv
  have d1 : Dv (fun x => 1 - x) (fun _ => -1) (-T) T := ((Dv.const 1 (-T) T).sub hab (Dv.id (-T) T)).congr (fun _ _ _ => rfl) (fun _ _ _ => by grind)
  have d2 : Dv (fun x => 1 + x) (fun _ => 1) (-T) T := ((Dv.const 1 (-T) T).add (Dv.id (-T) T)).congr (fun _ _ _ => rfl) (fun _ _ _ => by grind)
  have dw := ((dE.mul hab dE).mul hab d1).mul hab (d2.inv hab (c := 1 - T) (by grind) fun x k l => by grind)
  have s := same0 h dw fun y k l => by
    have hy : ab y < 1 := by have := ab_cases y; grind
    have q := A_Q hg hy
    have i := mul_inv (x := 1 + y) (by grind)
    have e : Q (ag 1) y * (1 - y) = (1 + y)⁻¹ := by
      have : (1 + y) * (Q (ag 1) y * (1 - y)) = 1 := by grind
      exact (inv_uniq this).symm
    generalize (1 + y)⁻¹ = I at *
    generalize E (A 1 y) = x at *
    generalize Q (ag 1) y = z at *
    have e1 : 2 * (z * (1 - y)) * I - I - (1 - y) * (I * I) = 0 := by
      rw [e]
      grind
    grind
  simp only [A0 hg, E0] at s
  have i0 := mul_inv (x := 1 + t) (by have := ab_cases t; grind)
  have i1 := mul_inv (x := (1 : R) + 0) (by grind)
  have e2 : E (2 * A 1 t) = E (A 1 t) * E (A 1 t) := by rw [← E_add]; congr 1; grind
  rw [e2]
  generalize (1 + t)⁻¹ = I at *
  generalize ((1 : R) + 0)⁻¹ = J at *
  have hJ : J = 1 := by grind
  rw [hJ] at s
  generalize E (A 1 t) = x at *
  have : x * x * (1 - t) * (I * (1 + t)) = 1 + t := by grind
  grind
end Re.R

/-! Own: half of pi by Machin, where cos and sin rise and fall, how near they are; no program in it. -/
namespace Re.R
theorem gm : Unit (-1) := .inr rfl
noncomputable def u5 : R := A (-1) (1 / 5)
noncomputable def v239 : R := A (-1) (1 / 239)
/-- half of pi -/
noncomputable def hp : R := 2 * (4 * u5 - v239)
theorem small5 : ab (1 / 5 : R) < 1 := by rw [ab_pos (by grind)]; grind
theorem small239 : ab (1 / 239 : R) < 1 := by rw [ab_pos (by grind)]; grind
theorem hp_eq : C hp = 0 ∧ S hp = 1 := by
  have h5 : S u5 = 1 / 5 * C u5 := A_tan small5
  have h239 : S v239 = 1 / 239 * C v239 := A_tan small239
  have s2 := S_add u5 u5
  have c2 := C_add u5 u5
  have s4 := S_add (u5 + u5) (u5 + u5)
  have c4 := C_add (u5 + u5) (u5 + u5)
  have s := S_add (u5 + u5 + (u5 + u5)) (-v239)
  have c := C_add (u5 + u5 + (u5 + u5)) (-v239)
  rw [C_neg, S_neg] at s c
  have e : u5 + u5 + (u5 + u5) + -v239 = 4 * u5 - v239 := by grind
  rw [e] at s c
  have eq : S (4 * u5 - v239) = C (4 * u5 - v239) := by
    rw [s, c, s4, c4, s2, c2, h5, h239]
    generalize C u5 = x
    generalize C v239 = y
    grind
  have s8 := S_add (4 * u5 - v239) (4 * u5 - v239)
  have c8 := C_add (4 * u5 - v239) (4 * u5 - v239)
  have one := CS1 (4 * u5 - v239)
  have e8 : 4 * u5 - v239 + (4 * u5 - v239) = hp := by unfold hp; grind
  rw [e8] at s8 c8
  rw [eq] at s8 c8 one
  exact ⟨by grind, by grind⟩
theorem C_hp : C hp = 0 := hp_eq.1
theorem S_hp : S hp = 1 := hp_eq.2
/-- t - t^3/3 ≤ arctan t ≤ t -/
theorem A_near {t : R} (h0 : 0 ≤ t) (h1 : t < 1) : A (-1) t ≤ t ∧ t - t * t * t / 3 ≤ A (-1) t := by
  have key : ∀ y, 0 ≤ y → y ≤ t → Q (ag (-1)) y ≤ 1 ∧ 1 - y * y ≤ Q (ag (-1)) y := fun y k l => by
    have hy : ab y < 1 := by rw [ab_pos k]; grind
    have q := A_Q gm hy
    have q2 := sq_nn y
    have q4 := nn_mul q2 q2
    generalize Q (ag (-1)) y = z at *
    generalize y * y = w at *
    have z0 : 0 ≤ z := by
      apply Classical.byContradiction
      intro c
      have := mul_pos' (show 0 < -z by grind) (show 0 < 1 + w by grind)
      grind
    have p1 := nn_mul z0 q2
    have p2 := nn_mul p1 q2
    have e : z + z * w = 1 := by grind
    have e2 : z * w + z * w * w = w := by
      have : (z + z * w) * w = w := by rw [e]; grind
      grind
    exact ⟨by grind, by grind⟩
  rcases Classical.em (t = 0) with c | c
  · rw [c, A0 gm]; grind
  have d := (A_dv gm (T := t) (by grind) h1).sub_iv (c := 0) (d := t) (by grind) (Std.le_refl _)
  constructor
  · have := ((Dv.id 0 t).sub h0 d).rise h0 fun y k l => by have := key y k l; grind
    simp only [A0 gm] at this
    grind
  · have dt : Dv (fun x => x - x * x * x / 3) (fun x => 1 - x * x) 0 t :=
      ((Dv.id 0 t).sub h0 (Dv.smul h0 (1 / 3) (((Dv.id 0 t).mul h0 (Dv.id 0 t)).mul h0 (Dv.id 0 t)))).congr (fun _ _ _ => by grind) (fun _ _ _ => by grind)
    have := (d.sub h0 dt).rise h0 fun y k l => by have := key y k l; grind
    simp only [A0 gm] at this
    grind
theorem hp_near : 157 / 100 ≤ hp ∧ hp ≤ 16 / 10 := by
  have a := A_near (t := 1 / 5) (by grind) (by grind)
  have b := A_near (t := 1 / 239) (by grind) (by grind)
  have k : hp = 2 * (4 * u5 - v239) := rfl
  have e1 : u5 = A (-1) (1 / 5) := rfl
  have e2 : v239 = A (-1) (1 / 239) := rfl
  rw [← e1] at a
  rw [← e2] at b
  have c : (0 : R) ≤ 1 / 239 * (1 / 239) * (1 / 239) / 3 := by grind
  exact ⟨by grind, by grind⟩
theorem S_le {x : R} (h : 0 ≤ x) : S x ≤ x := by
  have := ((Dv.id 0 x).sub h (S_dv 0 x)).rise h fun y _ _ => by have := C_le1 y; grind
  simp only [S0] at this
  grind
theorem C_ge {x : R} (h : 0 ≤ x) : 1 - x * x / 2 ≤ C x := by
  have dt : Dv (fun x => 1 - x * x / 2) (fun x => -x) 0 x :=
    ((Dv.const 1 0 x).sub h (Dv.smul h (1 / 2) ((Dv.id 0 x).mul h (Dv.id 0 x)))).congr (fun _ _ _ => by grind) (fun _ _ _ => by grind)
  have := ((C_dv 0 x).sub h dt).rise h fun y k _ => by have := S_le k; grind
  simp only [C0] at this
  grind
theorem S_ge {x : R} (h : 0 ≤ x) : x - x * x * x / 6 ≤ S x := by
  have dt : Dv (fun x => x - x * x * x / 6) (fun x => 1 - x * x / 2) 0 x :=
    ((Dv.id 0 x).sub h (Dv.smul h (1 / 6) (((Dv.id 0 x).mul h (Dv.id 0 x)).mul h (Dv.id 0 x)))).congr (fun _ _ _ => by grind) (fun _ _ _ => by grind)
  have := ((S_dv 0 x).sub h dt).rise h fun y k _ => by have := C_ge k; grind
  simp only [S0] at this
  grind
theorem S_nn2 {x : R} (h : 0 ≤ x) (k : x ≤ 2) : 0 ≤ S x := by
  have := S_ge h
  have := nn_mul h (show 0 ≤ 1 - x * x / 6 by
    have := nn_mul (show 0 ≤ 2 - x by grind) (show 0 ≤ 2 + x by grind)
    grind)
  grind
theorem C_2hp : C (hp + hp) = -1 := by rw [C_add, C_hp, S_hp]; grind
theorem S_2hp : S (hp + hp) = 0 := by rw [S_add, C_hp, S_hp]; grind
theorem C_p2 (x : R) : C (x + (hp + hp)) = -C x := by rw [C_add, C_2hp, S_2hp]; grind
theorem S_p2 (x : R) : S (x + (hp + hp)) = -S x := by rw [S_add, C_2hp, S_2hp]; grind
theorem C_p4 (x : R) : C (x + 4 * hp) = C x := by
  have e : x + 4 * hp = x + (hp + hp) + (hp + hp) := by grind
  rw [e, C_p2, C_p2]
  grind
theorem C_q (x : R) : C (x - hp) = S x := by
  have e : x - hp = x + -hp := by grind
  rw [e, C_add, C_neg, S_neg, C_hp, S_hp]
  grind
theorem S_nn {x : R} (h : 0 ≤ x) (k : x ≤ 2 * hp) : 0 ≤ S x := by
  have b := hp_near
  rcases Std.le_total (a := x) (b := 2) with c | c
  · exact S_nn2 h c
  · have e := S_p2 (x - (hp + hp))
    have e2 : x - (hp + hp) + (hp + hp) = x := by grind
    have e3 : x - (hp + hp) = -(hp + hp - x) := by grind
    rw [e2, e3, S_neg] at e
    have := S_nn2 (x := hp + hp - x) (by grind) (by grind)
    grind
/-- turns -/
theorem C_nat (x : R) : ∀ n : Nat, C (x + n * (4 * hp)) = C x
  | 0 => by
    have : ((0 : Nat) : R) = 0 := rfl
    rw [this]
    congr 1
    grind
  | n + 1 => by
    rw [nat_succ]
    have e : x + ((n : R) + 1) * (4 * hp) = x + n * (4 * hp) + 4 * hp := by grind
    rw [e, C_p4, C_nat x n]
theorem C_int (x : R) (m : Int) : C (x + m * (4 * hp)) = C x := by
  match m with
  | .ofNat n => exact C_nat x n
  | .negSucc n =>
    have h := C_nat (x + (Int.negSucc n : Int) * (4 * hp)) (n + 1)
    have e : x + ((Int.negSucc n : Int) : R) * (4 * hp) + ((n + 1 : Nat) : R) * (4 * hp) = x := by
      have : ((Int.negSucc n : Int) : R) = -((n + 1 : Nat) : R) := by
        rw [← cast_nat, ← cast_neg]
        rfl
      rw [this]
      grind
    rw [e] at h
    exact h.symm
/-- cos falls from 0 to pi, and between two turns it is above its ends -/
theorem C_fall {x y : R} (h0 : 0 ≤ x) (h : x ≤ y) (k : y ≤ 2 * hp) : C y ≤ C x := by
  have := ((C_dv x y).neg h).rise h fun z a b => by have := S_nn (x := z) (by grind) (by grind); grind
  grind
theorem C_rise {x y : R} (h0 : -(2 * hp) ≤ x) (h : x ≤ y) (k : y ≤ 0) : C x ≤ C y := by
  have := C_fall (x := -y) (y := -x) (by grind) (by grind) (by grind)
  rw [C_neg, C_neg] at this
  exact this
/-- on a way without a foot (odd multiples of 2 hp inside) cos is at least the less of its ends -/
theorem C_min {x y z : R} (h0 : -(2 * hp) ≤ x) (h : x ≤ y) (k : y ≤ z) (h1 : z ≤ 2 * hp) : C x ≤ C y ∨ C z ≤ C y := by
  rcases Std.le_total (a := y) (b := 0) with c | c
  · exact .inl (C_rise h0 h c)
  · exact .inr (C_fall c k h1)
theorem C_lip (x y : R) : ab (C x - C y) ≤ ab (x - y) := by
  have key : ∀ a b : R, a ≤ b → ab (C a - C b) ≤ b - a := fun a b h => by
    have h1 := ((Dv.id a b).sub h (C_dv a b)).rise h fun z _ _ => by have := S_le1 z; grind
    have h2 := ((Dv.id a b).add (C_dv a b)).rise h fun z _ _ => by have := S_le1 z; grind
    exact ab_le.mpr (by grind)
  rcases Std.le_total (a := x) (b := y) with h | h
  · have := key x y h
    rw [ab_neg (x := x - y) (by grind)]
    grind
  · have := key y x h
    rw [ab_pos (x := x - y) (by grind), ab_sub]
    grind
end Re.R

/-! Own: floors as reals; how far the sums with floors are from the values; no program in it. -/
namespace Re.R
theorem nat_add (a b : Nat) : ((a + b : Nat) : R) = a + b := by rw [← cast_nat, ← cast_nat, ← cast_nat, ← cast_add]; rfl
theorem nat_mul (a b : Nat) : ((a * b : Nat) : R) = a * b := by rw [← cast_nat, ← cast_nat, ← cast_nat, ← cast_mul]; rfl
theorem nat_pow (a n : Nat) : ((a ^ n : Nat) : R) = (a : R) ^ n := by
  induction n with
  | zero => rfl
  | succ n ih => rw [Nat.pow_succ, nat_mul, ih]; rfl
theorem nat_lt {m n : Nat} (h : m < n) : (m : R) < n := (cast_lt (a := m) (b := n)).mpr (by omega)
theorem nat_pos {n : Nat} (h : 0 < n) : (0 : R) < n := nat_lt h
/-- a floor of a quotient -/
theorem nat_fl (a : Nat) {b : Nat} (hb : 0 < b) : (b : R) * ((a / b : Nat) : R) ≤ a ∧ (a : R) < b * ((a / b : Nat) : R) + b := by
  have h1 : b * (a / b) ≤ a := Nat.mul_div_le a b
  have h2 : a < b * (a / b) + b := Nat.lt_mul_div_succ a hb
  have k1 := nat_le h1
  have k2 := nat_lt h2
  rw [nat_mul] at k1
  rw [nat_add, nat_mul] at k2
  exact ⟨k1, k2⟩
theorem int_fl (a : Int) {b : Int} (hb : 0 < b) : (b : R) * ((a / b : Int) : R) ≤ a ∧ (a : R) < b * ((a / b : Int) : R) + b := by
  have h1 : b * (a / b) ≤ a := Int.mul_ediv_self_le (by omega)
  have h2 : a < b * (a / b) + b := by
    have := Int.lt_mul_ediv_self_add (x := a) hb
    omega
  have k1 := cast_le.mpr h1
  have k2 := cast_lt.mpr h2
  rw [cast_mul] at k1
  rw [cast_add, cast_mul] at k2
  exact ⟨k1, k2⟩
theorem two_pos (w : Nat) : (0 : R) < 2 ^ w := by
  induction w with
  | zero => rw [pw_zero]; grind
  | succ w ih => rw [pw_succ]; exact mul_pos' ih (by grind)
theorem pw_pos {x : R} (h : 0 < x) : ∀ n : Nat, 0 < x ^ n
  | 0 => by rw [pw_zero]; grind
  | n + 1 => by rw [pw_succ]; exact mul_pos' (pw_pos h n) h
theorem pw_add (x : R) (m : Nat) : ∀ n : Nat, x ^ (m + n) = x ^ m * x ^ n
  | 0 => by rw [Nat.add_zero, pw_zero]; grind
  | n + 1 => by
    have e : m + (n + 1) = m + n + 1 := by omega
    rw [e, pw_succ, pw_add x m n, pw_succ]
    grind
theorem pw_mul (x y : R) : ∀ n : Nat, (x * y) ^ n = x ^ n * y ^ n
  | 0 => by rw [pw_zero, pw_zero, pw_zero]; grind
  | n + 1 => by rw [pw_succ, pw_succ, pw_succ, pw_mul x y n]; grind
theorem pw_one : ∀ n : Nat, (1 : R) ^ n = 1
  | 0 => pw_zero 1
  | n + 1 => by rw [pw_succ, pw_one n]; grind
theorem pw_mono {x y : R} (h : 0 ≤ x) (k : x ≤ y) : ∀ n : Nat, x ^ n ≤ y ^ n
  | 0 => by rw [pw_zero, pw_zero]; grind
  | n + 1 => by
    rw [pw_succ, pw_succ]
    exact mul_mono (pw_mono h k n) k (pw_nn h n) (by grind)
/-- two by two -/
theorem sm_two (f : Nat → R) : ∀ n, sm f (2 * n) = sm (fun j => f (2 * j) + f (2 * j + 1)) n
  | 0 => rfl
  | n + 1 => by
    have e : 2 * (n + 1) = 2 * n + 1 + 1 := by omega
    rw [e]
    show sm f (2 * n) + f (2 * n) + f (2 * n + 1) = sm _ n + (f (2 * n) + f (2 * n + 1))
    rw [sm_two f n]
    grind
/-- the rest of arctan's row -/
theorem A_rest {g : R} (hg : Unit g) {x : R} (hx : ab x < 1) (n : Nat) : (1 - ab x) * ab (A g x - sm (fun k => ag g k * x ^ k) n) ≤ ab x ^ n := by
  have h0 := ab_nn x
  have d : Dom (fun k => ab x ^ k) (ab x) 0 := ⟨h0, hx, fun k _ => ⟨pw_nn h0 k, by show ab x ^ (k + 1) ≤ ab x * ab x ^ k; rw [pw_succ]; grind⟩⟩
  exact d.rest (f := fun k => ag g k * x ^ k) (n := n) (fun k _ => by
    rw [ab_mul]
    have := ag_ab hg k
    have := mul_mono this (pw_ab (Std.le_refl (ab x)) k) (ab_nn _) (pw_nn h0 k)
    grind) (A_to hg hx) (Nat.zero_le n)
/-- the rest of exp's rows -/
theorem F_rest {s : Nat → R} (hs : Sg s) {x T : R} (hx : ab x ≤ T) {n : Nat} (hn : 2 * T ≤ n + 1) : ab (F s x - sm (fun k => cf s k * x ^ k) n) ≤ 2 * (fi n * T ^ n) := by
  have h0 := ab_nn x
  have T0 : 0 ≤ T := by grind
  have d : Dom (fun k => fi k * T ^ k) (1 / 2) n := ⟨by grind, by grind, fun k hk => ⟨nn_mul (Std.le_of_lt (fi_pos k)) (pw_nn T0 k), by
    have kn := nat_le hk
    have f1 := fi_succ k
    have f0 := fi_pos (k + 1)
    have q := pw_nn T0 k
    show fi (k + 1) * T ^ (k + 1) ≤ 1 / 2 * (fi k * T ^ k)
    rw [pw_succ, ← f1]
    have := nn_mul (nn_mul (Std.le_of_lt f0) q) (show 0 ≤ (k : R) + 1 - 2 * T by grind)
    grind⟩⟩
  have := d.rest (f := fun k => cf s k * x ^ k) (n := n) (fun k _ => by
    rw [ab_mul]
    have : ab (cf s k) ≤ fi k := by
      unfold cf
      rw [ab_mul, ab_pos (Std.le_of_lt (fi_pos k))]
      have := nn_mul (Std.le_of_lt (fi_pos k)) (show 0 ≤ 1 - ab (s k) by have := hs k; grind)
      grind
    have := mul_mono this (pw_ab hx k) (ab_nn _) (pw_nn T0 k)
    grind) (F_to hs x) (Nat.le_refl n)
  show ab (F s x - sm (fun k => cf s k * x ^ k) n) ≤ _
  grind
theorem sg_cast (k : Nat) : ((Lp.sg k : Int) : R) = wg (-1) (2 * k + 1) := by
  unfold Lp.sg wg
  rcases (by omega : k % 2 = 0 ∨ k % 2 = 1) with h | h
  · rw [if_pos h, if_pos (by omega)]; rfl
  · rw [if_neg (by omega), if_neg (by omega), if_pos (by omega)]
    rfl
theorem ag_even (g : R) (k : Nat) : ag g (2 * k) = 0 := by
  unfold ag wg
  rw [if_neg (by omega), if_neg (by omega)]
  show (0 : R) * _ = 0
  grind
theorem inv_pw {n : R} (h : n ≠ 0) : ∀ k : Nat, (1 / n) ^ k * n ^ k = 1
  | 0 => by rw [pw_zero, pw_zero]; grind
  | k + 1 => by
    rw [pw_succ, pw_succ]
    have := inv_pw h k
    have e : 1 / n * n = 1 := div_mul h
    generalize (1 / n) ^ k = a at *
    generalize n ^ k = b at *
    generalize 1 / n = c at *
    have : a * c * (b * n) = (a * b) * (c * n) := by grind
    rw [this]
    grind
/-- the sum with floors of arctan(1/n), and its first terms -/
theorem tsum_sm {n : Nat} (hn : 0 < n) (w : Nat) : ∀ k : Nat, ab ((Lp.tsum n w k : R) - 2 ^ w * sm (fun i => ag (-1) i * (1 / (n : R)) ^ i) (2 * k)) ≤ k
  | 0 => by
    show ab (((0 : Int) : R) - 2 ^ w * 0) ≤ ((0 : Nat) : R)
    have e : ((0 : Int) : R) - 2 ^ w * 0 = 0 := by
      have : ((0 : Int) : R) = 0 := rfl
      rw [this]
      grind
    rw [e, ab_zero]
    exact Std.le_refl _
  | k + 1 => by
    have ih := tsum_sm hn w k
    have e : 2 * (k + 1) = 2 * k + 1 + 1 := by omega
    rw [e]
    show ab (((Lp.tsum n w k + Lp.sg k * (Lp.tm n w k : Int) : Int) : R) - 2 ^ w * (sm (fun i => ag (-1) i * (1 / (n : R)) ^ i) (2 * k) + ag (-1) (2 * k) * (1 / (n : R)) ^ (2 * k) + ag (-1) (2 * k + 1) * (1 / (n : R)) ^ (2 * k + 1))) ≤ _
    rw [cast_add, cast_mul, sg_cast, ag_even, nat_succ]
    have k0 := nat_nn k
    have n0 := nat_pos hn
    have hD : 0 < n ^ (2 * k + 1) * (2 * k + 1) := Nat.mul_pos (Nat.pow_pos hn) (by omega)
    have fl := nat_fl (2 ^ w) hD
    have e3 : Lp.tm n w k = 2 ^ w / (n ^ (2 * k + 1) * (2 * k + 1)) := rfl
    rw [← e3, nat_pow, nat_mul, nat_pow] at fl
    have e4 : ((2 : Nat) : R) = 2 := rfl
    rw [e4] at fl
    have ip := inv_pw (n := (n : R)) (by grind) (2 * k + 1)
    have nk := pw_pos n0 (2 * k + 1)
    have q : ag (-1) (2 * k + 1) * ((2 * k + 1 : Nat) : R) = wg (-1) (2 * k + 1) := by
      unfold ag
      exact div_mul (by rw [nat_succ]; have := nat_nn (2 * k); grind)
    have m1 : (1 : R) ≤ ((2 * k + 1 : Nat) : R) := by rw [nat_succ]; have := nat_nn (2 * k); grind
    have w1 := wg_ab gm (2 * k + 1)
    have ec : ((Lp.tm n w k : Int) : R) = ((Lp.tm n w k : Nat) : R) := rfl
    rw [ec]
    generalize ((Lp.tm n w k : Nat) : R) = t at *
    generalize (2 : R) ^ w = W at *
    generalize (n : R) ^ (2 * k + 1) = B at *
    generalize (1 / (n : R)) ^ (2 * k + 1) = I at *
    generalize ((2 * k + 1 : Nat) : R) = m at *
    generalize wg (-1) (2 * k + 1) = s at *
    generalize ag (-1) (2 * k + 1) = a at *
    generalize sm (fun i => ag (-1) i * (1 / (n : R)) ^ i) (2 * k) = Z at *
    have Bm := mul_pos' nk (show 0 < m by grind)
    -- W a I = s x, x = W / (B m)
    have x1 : W * (a * I) = s * (W / (B * m)) := by
      have i1 : W / (B * m) * (B * m) = W := div_mul (by grind)
      generalize W / (B * m) = x at *
      have : W * (a * I) = x * (I * B) * (a * m) := by rw [← i1]; grind
      rw [this, ip, q]
      grind
    have x2 : 0 ≤ W / (B * m) - t ∧ W / (B * m) - t ≤ 1 := by
      have i1 : W / (B * m) * (B * m) = W := div_mul (by grind)
      generalize W / (B * m) = x at *
      generalize B * m = D at *
      constructor
      · apply Classical.byContradiction
        intro c
        have := mul_pos' Bm (show 0 < t - x by grind)
        grind
      · apply Classical.byContradiction
        intro c
        have := mul_pos' Bm (show 0 < x - t - 1 by grind)
        grind
    have e5 : (Lp.tsum n w k : R) + s * t - W * (Z + 0 * (1 / (n : R)) ^ (2 * k) + a * I) = ((Lp.tsum n w k : R) - W * Z) + -(s * (W / (B * m) - t)) := by
      have : W * (Z + 0 * (1 / (n : R)) ^ (2 * k) + a * I) = W * Z + W * (a * I) := by grind
      rw [this, x1]
      grind
    rw [e5]
    have t1 := ab_add ((Lp.tsum n w k : R) - W * Z) (-(s * (W / (B * m) - t)))
    rw [ab_minus, ab_mul s, ab_pos x2.1] at t1
    have := mul_mono w1 x2.2 (ab_nn s) (by grind)
    grind
/-- the sum with floors, and the value -/
theorem tsum_A {n : Nat} (hn : 2 ≤ n) (w k : Nat) : ab ((Lp.tsum n w k : R) - 2 ^ w * A (-1) (1 / (n : R))) ≤ k + 2 * (2 ^ w * (1 / (n : R)) ^ (2 * k)) := by
  have n0 : (2 : R) ≤ n := nat_le hn
  have i1 : 1 / (n : R) * n = 1 := div_mul (by grind)
  have i0 : 0 < 1 / (n : R) := div_pos (by grind) (by grind)
  have i2 : 1 / (n : R) ≤ 1 / 2 := by
    apply Classical.byContradiction
    intro c
    have := mul_pos' (show 0 < 1 / (n : R) - 1 / 2 by grind) (show 0 < (n : R) by grind)
    grind
  have a1 := tsum_sm (n := n) (by omega) w k
  have a2 := A_rest gm (x := 1 / (n : R)) (by rw [ab_pos (by grind)]; grind) (2 * k)
  rw [ab_pos (x := 1 / (n : R)) (by grind)] at a2
  have p := two_pos w
  generalize sm (fun i => ag (-1) i * (1 / (n : R)) ^ i) (2 * k) = Z at *
  have e : (Lp.tsum n w k : R) - 2 ^ w * A (-1) (1 / (n : R)) = ((Lp.tsum n w k : R) - 2 ^ w * Z) + -(2 ^ w * (A (-1) (1 / (n : R)) - Z)) := by grind
  rw [e]
  have t := ab_add ((Lp.tsum n w k : R) - 2 ^ w * Z) (-(2 ^ w * (A (-1) (1 / (n : R)) - Z)))
  rw [ab_minus, ab_mul (2 ^ w), ab_pos (Std.le_of_lt p)] at t
  have z := ab_nn (A (-1) (1 / (n : R)) - Z)
  generalize ab (A (-1) (1 / (n : R)) - Z) = y at *
  have y2 : y ≤ 2 * (1 / (n : R)) ^ (2 * k) := by
    have := nn_mul z (show 0 ≤ 1 / 2 - 1 / (n : R) by grind)
    grind
  have := nn_mul (Std.le_of_lt p) (show 0 ≤ 2 * (1 / (n : R)) ^ (2 * k) - y by grind)
  grind
end Re.R

/-! Own: cos with floors, by its row and doublings; no program in it. -/
namespace Re.R
def ct (s w : Nat) : Nat → Nat
  | 0 => s / 2
  | j + 1 => ct s w j * s / 2 ^ w / ((2 * j + 3) * (2 * j + 4))
def csum (s w : Nat) : Nat → Int
  | 0 => 0
  | j + 1 => csum s w j + Lp.sg j * (ct s w j : Int)
/-- the term of cos without its sign -/
noncomputable def cy (y : R) (j : Nat) : R := fi (2 * j + 2) * y ^ (2 * j + 2)
theorem cy_succ (y : R) (j : Nat) : cy y (j + 1) * (((2 * j + 3) * (2 * j + 4) : Nat) : R) = cy y j * (y * y) := by
  unfold cy
  have e : 2 * (j + 1) + 2 = 2 * j + 2 + 1 + 1 := by omega
  rw [e, pw_succ, pw_succ, nat_mul]
  have f1 := fi_succ (2 * j + 2 + 1)
  have f2 := fi_succ (2 * j + 2)
  have e3 : ((2 * j + 3 : Nat) : R) = ((2 * j + 2 : Nat) : R) + 1 := nat_succ _
  have e4 : ((2 * j + 4 : Nat) : R) = ((2 * j + 2 + 1 : Nat) : R) + 1 := nat_succ _
  rw [e3, e4, ← f2, ← f1]
  grind
theorem cy_nn {y : R} (h : 0 ≤ y) (j : Nat) : 0 ≤ cy y j := nn_mul (Std.le_of_lt (fi_pos _)) (pw_nn h _)
theorem cy_zero (y : R) : 2 * cy y 0 = y * y := by
  unfold cy
  have f1 := fi_succ 1
  have f2 := fi_succ 0
  have e0 : fi 0 = 1 := rfl
  have e1 : ((0 : Nat) : R) = 0 := rfl
  have e2 : ((1 : Nat) : R) = 1 := rfl
  rw [e0, e1] at f2
  rw [e2] at f1
  show 2 * (fi (1 + 1) * y ^ (0 + 1 + 1)) = _
  rw [pw_succ, pw_succ, pw_zero]
  grind
theorem cy_le {y : R} (h : 0 ≤ y) (h1 : y ≤ 1) : ∀ j, cy y j ≤ 1
  | 0 => by
    have := cy_zero y
    have := nn_mul h (show 0 ≤ 1 - y by grind)
    grind
  | j + 1 => by
    have ih := cy_le h h1 j
    have e := cy_succ y j
    have n0 := cy_nn h (j + 1)
    have n1 := cy_nn h j
    have m : (1 : R) ≤ (((2 * j + 3) * (2 * j + 4) : Nat) : R) := nat_le (m := 1) (Nat.mul_pos (by omega) (by omega))
    generalize (((2 * j + 3) * (2 * j + 4) : Nat) : R) = M at *
    have p1 := nn_mul h (show 0 ≤ 1 - y by grind)
    have p2 := nn_mul n1 (show 0 ≤ 1 - y * y by grind)
    have p3 := nn_mul n0 (show 0 ≤ M - 1 by grind)
    grind
/-- each term with floors is at most 2 below the term -/
theorem ct_near {s w : Nat} {y : R} (h : 0 ≤ y) (h1 : y ≤ 1) (s1 : (s : R) ≤ 2 ^ w * (y * y)) (s2 : 2 ^ w * (y * y) ≤ (s : R) + 1) : ∀ j, (ct s w j : R) ≤ 2 ^ w * cy y j ∧ 2 ^ w * cy y j ≤ (ct s w j : R) + 2
  | 0 => by
    have fl := nat_fl s (show 0 < 2 by decide)
    have e2 : ((2 : Nat) : R) = 2 := rfl
    rw [e2] at fl
    have c0 := cy_zero y
    have pW := two_pos w
    show ((s / 2 : Nat) : R) ≤ _ ∧ _ ≤ ((s / 2 : Nat) : R) + 2
    generalize ((s / 2 : Nat) : R) = t at *
    generalize (2 : R) ^ w = W at *
    generalize cy y 0 = c at *
    have : W * (y * y) = 2 * (W * c) := by rw [← c0]; grind
    constructor <;> grind
  | j + 1 => by
    obtain ⟨i1, i2⟩ := ct_near h h1 s1 s2 j
    have n1 := cy_nn h j
    have c1 := cy_le h h1 j
    have hm : 0 < (2 * j + 3) * (2 * j + 4) := Nat.mul_pos (by omega) (by omega)
    have f1 := nat_fl (ct s w j * s) (show 0 < 2 ^ w from Nat.pow_pos (by decide))
    have f2 := nat_fl (ct s w j * s / 2 ^ w) hm
    rw [nat_pow, nat_mul] at f1
    have e2 : ((2 : Nat) : R) = 2 := rfl
    rw [e2] at f1
    have e := cy_succ y j
    have m : (12 : R) ≤ (((2 * j + 3) * (2 * j + 4) : Nat) : R) := nat_le (m := 12) (Nat.mul_le_mul (show 3 ≤ 2 * j + 3 by omega) (show 4 ≤ 2 * j + 4 by omega))
    have pW := two_pos w
    have t0 := nat_nn (ct s w j)
    show ((ct s w j * s / 2 ^ w / ((2 * j + 3) * (2 * j + 4)) : Nat) : R) ≤ _ ∧ _ ≤ ((ct s w j * s / 2 ^ w / ((2 * j + 3) * (2 * j + 4)) : Nat) : R) + 2
    have s0 := nat_nn s
    generalize ((ct s w j * s / 2 ^ w / ((2 * j + 3) * (2 * j + 4)) : Nat) : R) = t' at *
    generalize ((ct s w j * s / 2 ^ w : Nat) : R) = r at *
    generalize (((2 * j + 3) * (2 * j + 4) : Nat) : R) = M at *
    generalize (ct s w j : R) = t at *
    generalize (2 : R) ^ w = W at *
    generalize cy y j = c at *
    generalize cy y (j + 1) = c' at *
    generalize (s : R) = s at *
    have yy : y * y ≤ 1 := by have := nn_mul h (show 0 ≤ 1 - y by grind); grind
    generalize y * y = q at *
    -- M c' = c q; M t' ≤ r < M t' + M; W r ≤ t s < W r + W; s ≤ W q ≤ s + 1; t ≤ W c ≤ t + 2
    have q0 : 0 ≤ q := by
      apply Classical.byContradiction
      intro z
      have := mul_pos' pW (show 0 < -q by grind)
      grind
    have r1 : r ≤ t * q := by
      have := nn_mul t0 (show 0 ≤ W * q - s by grind)
      apply Classical.byContradiction
      intro z
      have := mul_pos' pW (show 0 < r - t * q by grind)
      grind
    have r2 : t * q ≤ r + 1 + 1 := by
      have a1 := nn_mul t0 (show 0 ≤ s + 1 - W * q by grind)
      have a2 : t ≤ W := by
        have := nn_mul (Std.le_of_lt pW) (show 0 ≤ 1 - c by grind)
        grind
      apply Classical.byContradiction
      intro z
      have := mul_pos' pW (show 0 < t * q - r - 2 by grind)
      grind
    have k1 : M * (W * c') = (W * c) * q := by
      have : M * (W * c') = W * (c' * M) := by grind
      rw [this, e]
      grind
    have k2 := nn_mul q0 (show 0 ≤ W * c - t by grind)
    have k3 := nn_mul q0 (show 0 ≤ t + 2 - W * c by grind)
    constructor
    · apply Classical.byContradiction
      intro z
      have := mul_pos' (show 0 < M by grind) (show 0 < t' - W * c' by grind)
      grind
    · apply Classical.byContradiction
      intro z
      have := mul_pos' (show 0 < M by grind) (show 0 < W * c' - t' - 2 by grind)
      grind
theorem cw_even (j : Nat) : cw (2 * j + 2) = -(wg (-1) (2 * j + 1)) := by
  unfold cw wg
  rcases (by omega : j % 2 = 0 ∨ j % 2 = 1) with h | h
  · rw [if_neg (by omega), if_pos (by omega), if_pos (by omega)]
  · rw [if_pos (by omega), if_neg (by omega), if_pos (by omega)]; grind
theorem cw_odd (j : Nat) : cw (2 * j + 1) = 0 := by
  unfold cw
  rw [if_neg (by omega), if_neg (by omega)]
/-- the terms of cos, two by two -/
theorem cos_sm (y : R) : ∀ n : Nat, sm (fun k => cf cw k * y ^ k) (2 * n + 2) = 1 - sm (fun j => wg (-1) (2 * j + 1) * cy y j) n
  | 0 => by
    have e0 : cf cw 0 = 1 := by
      unfold cf cw
      rw [if_pos (by omega)]
      show (1 : R) * 1 = 1
      grind
    have e1 : cf cw 1 = 0 := by
      unfold cf
      rw [cw_odd 0]
      grind
    show 0 + cf cw 0 * y ^ 0 + cf cw (0 + 1) * y ^ (0 + 1) = 1 - 0
    rw [e0, e1, pw_zero]
    grind
  | n + 1 => by
    have e : 2 * (n + 1) + 2 = 2 * n + 2 + 1 + 1 := by omega
    rw [e]
    show sm (fun k => cf cw k * y ^ k) (2 * n + 2) + cf cw (2 * n + 2) * y ^ (2 * n + 2) + cf cw (2 * n + 2 + 1) * y ^ (2 * n + 2 + 1) = 1 - (sm (fun j => wg (-1) (2 * j + 1) * cy y j) n + wg (-1) (2 * n + 1) * cy y n)
    rw [cos_sm y n]
    have e1 : cf cw (2 * n + 2 + 1) = 0 := by
      unfold cf
      have : 2 * n + 2 + 1 = 2 * (n + 1) + 1 := by omega
      rw [this, cw_odd]
      grind
    rw [e1]
    unfold cf cy
    rw [cw_even]
    grind
theorem csum_near {s w : Nat} {y : R} (h : 0 ≤ y) (h1 : y ≤ 1) (s1 : (s : R) ≤ 2 ^ w * (y * y)) (s2 : 2 ^ w * (y * y) ≤ (s : R) + 1) : ∀ n : Nat, ab ((csum s w n : R) - 2 ^ w * sm (fun j => wg (-1) (2 * j + 1) * cy y j) n) ≤ 2 * n
  | 0 => by
    show ab (((0 : Int) : R) - 2 ^ w * 0) ≤ 2 * ((0 : Nat) : R)
    have e : ((0 : Int) : R) - 2 ^ w * 0 = 0 := by
      have : ((0 : Int) : R) = 0 := rfl
      rw [this]
      grind
    rw [e, ab_zero]
    have : ((0 : Nat) : R) = 0 := rfl
    rw [this]
    grind
  | n + 1 => by
    have ih := csum_near h h1 s1 s2 n
    obtain ⟨i1, i2⟩ := ct_near h h1 s1 s2 n
    show ab (((csum s w n + Lp.sg n * (ct s w n : Int) : Int) : R) - 2 ^ w * (sm (fun j => wg (-1) (2 * j + 1) * cy y j) n + wg (-1) (2 * n + 1) * cy y n)) ≤ _
    rw [cast_add, cast_mul, sg_cast, nat_succ]
    have ec : ((ct s w n : Int) : R) = ((ct s w n : Nat) : R) := rfl
    rw [ec]
    have w1 := wg_ab gm (2 * n + 1)
    generalize wg (-1) (2 * n + 1) = g at *
    generalize (ct s w n : R) = t at *
    have t1 := ab_add ((csum s w n : R) - 2 ^ w * sm (fun j => wg (-1) (2 * j + 1) * cy y j) n) (-(g * (2 ^ w * cy y n - t)))
    rw [ab_minus, ab_mul g, ab_pos (x := 2 ^ w * cy y n - t) (by grind)] at t1
    have m := mul_mono w1 (show 2 ^ w * cy y n - t ≤ 2 by grind) (ab_nn g) (by grind)
    generalize sm (fun j => wg (-1) (2 * j + 1) * cy y j) n = Z at *
    have e5 : (csum s w n : R) + g * t - 2 ^ w * (Z + g * cy y n) = ((csum s w n : R) - 2 ^ w * Z) + -(g * (2 ^ w * cy y n - t)) := by grind
    rw [e5]
    grind
/-- the whole row -/
theorem csum_C {s w : Nat} {y : R} (h : 0 ≤ y) (h1 : y ≤ 1) (s1 : (s : R) ≤ 2 ^ w * (y * y)) (s2 : 2 ^ w * (y * y) ≤ (s : R) + 1) {n : Nat} (hz : ct s w n = 0) : ab ((csum s w n : R) - 2 ^ w * (1 - C y)) ≤ 2 * n + 4 := by
  have a := csum_near h h1 s1 s2 n
  have b := (ct_near h h1 s1 s2 n).2
  rw [hz] at b
  have z : ((0 : Nat) : R) = 0 := rfl
  rw [z] at b
  have r := F_rest cw_sg (x := y) (T := y) (by rw [ab_pos h]; grind) (n := 2 * n + 2) (by
    have := nat_nn (2 * n)
    have e : ((2 * n + 2 : Nat) : R) = ((2 * n : Nat) : R) + 2 := nat_add _ _
    rw [e]
    grind)
  rw [cos_sm] at r
  have r : ab (C y - (1 - sm (fun j => wg (-1) (2 * j + 1) * cy y j) n)) ≤ 2 * cy y n := r
  have pW := two_pos w
  generalize sm (fun j => wg (-1) (2 * j + 1) * cy y j) n = Z at *
  have e5 : (csum s w n : R) - 2 ^ w * (1 - C y) = ((csum s w n : R) - 2 ^ w * Z) + 2 ^ w * (C y - (1 - Z)) := by grind
  rw [e5]
  have t := ab_add ((csum s w n : R) - 2 ^ w * Z) (2 ^ w * (C y - (1 - Z)))
  rw [ab_mul (2 ^ w), ab_pos (Std.le_of_lt pW)] at t
  have := nn_mul (Std.le_of_lt pW) (show 0 ≤ 2 * cy y n - ab (C y - (1 - Z)) by grind)
  grind
theorem ct_small {s w : Nat} (hs : s ≤ 2 ^ w) : ∀ j, ct s w j * 2 ^ j ≤ 2 ^ w
  | 0 => by
    show s / 2 * 1 ≤ _
    omega
  | j + 1 => by
    have ih := ct_small hs j
    have h1 : ct s w j * s / 2 ^ w ≤ ct s w j := by
      refine Nat.div_le_of_le_mul ?_
      rw [Nat.mul_comm]
      exact Nat.mul_le_mul_right _ hs
    have h2 : ct s w (j + 1) ≤ ct s w j / 2 := by
      show ct s w j * s / 2 ^ w / ((2 * j + 3) * (2 * j + 4)) ≤ _
      have m : 2 ≤ (2 * j + 3) * (2 * j + 4) := Nat.le_trans (show 2 ≤ 3 * 4 by decide) (Nat.mul_le_mul (show 3 ≤ 2 * j + 3 by omega) (show 4 ≤ 2 * j + 4 by omega))
      exact Nat.le_trans (Nat.div_le_div_left m (by decide)) (Nat.div_le_div_right h1)
    have e : ct s w (j + 1) * 2 ^ (j + 1) = (ct s w (j + 1) * 2) * 2 ^ j := by rw [Nat.pow_succ]; grind
    rw [e]
    exact Nat.le_trans (Nat.mul_le_mul_right _ (by omega)) ih
theorem ct_zero {s w : Nat} (hs : s ≤ 2 ^ w) {j : Nat} (hj : w < j) : ct s w j = 0 := by
  have := ct_small hs j
  have p : 2 ^ w < 2 ^ j := Nat.pow_lt_pow_right (by decide) hj
  rcases Nat.eq_zero_or_pos (ct s w j) with z | z
  · exact z
  · have := Nat.mul_le_mul_right (2 ^ j) z
    omega
theorem ct_stays {s w j : Nat} (h : ct s w j = 0) : ∀ i, ct s w (j + i) = 0
  | 0 => h
  | i + 1 => by
    show ct s w (j + i) * s / 2 ^ w / _ = 0
    rw [ct_stays h i, Nat.zero_mul, Nat.zero_div, Nat.zero_div]
theorem csum_stays {s w j : Nat} (h : ct s w j = 0) : ∀ i, csum s w (j + i) = csum s w j
  | 0 => rfl
  | i + 1 => by
    show csum s w (j + i) + Lp.sg (j + i) * (ct s w (j + i) : Int) = _
    rw [ct_stays h i, csum_stays h i]
    show _ + _ * 0 = _
    omega
/-- doublings -/
def dbl (w : Nat) : Nat → Int → Int
  | 0, v => v
  | i + 1, v => dbl w i (4 * v - v * v / 2 ^ (w - 1))
theorem dbl_step {w : Nat} (hw : 0 < w) {v : Int} {y e : R} (h : ab ((v : R) - 2 ^ w * (1 - C y)) ≤ e) (h2 : 2 * (e * e) ≤ 2 ^ w) : ab (((4 * v - v * v / 2 ^ (w - 1) : Int) : R) - 2 ^ w * (1 - C (y + y))) ≤ 4 * e + 2 := by
  have pW := two_pos w
  have e0 : 0 ≤ e := by have := ab_nn ((v : R) - 2 ^ w * (1 - C y)); grind
  have p1 : (0 : Int) < 2 ^ (w - 1) := Int.pow_pos (by decide)
  have fl := int_fl (v * v) p1
  rw [cast_pow, cast_mul] at fl
  have e2 : ((2 : Int) : R) = 2 := rfl
  rw [e2] at fl
  have ew : (2 : R) ^ w = 2 ^ (w - 1) * 2 := by
    have : w = w - 1 + 1 := by omega
    rw [this, pw_succ]
    rfl
  rw [cast_sub, cast_mul]
  have e4 : ((4 : Int) : R) = 4 := rfl
  rw [e4, C_add]
  have cs := CS1 y
  have cl := C_le1 y
  generalize ((v * v / 2 ^ (w - 1) : Int) : R) = d at *
  generalize (v : R) = v at *
  generalize C y = c at *
  generalize S y = s at *
  have pU := two_pos (w - 1)
  generalize (2 : R) ^ (w - 1) = U at *
  rw [ew] at h h2 ⊢
  have ss : s * s = 1 - c * c := by grind
  rw [ss]
  have h := ab_le.mp h
  generalize hx : v - U * 2 * (1 - c) = x at *
  have hv : v = U * 2 * (1 - c) + x := by grind
  subst hv
  clear hx
  have xx : x * x ≤ U := by
    have := nn_mul (show 0 ≤ e - x by grind) (show 0 ≤ e + x by grind)
    grind
  -- 4v - d - 4U(1-c^2)
  have k : U * (4 * (U * 2 * (1 - c) + x) - d - U * 2 * (1 - (c * c - (1 - c * c)))) = U * (4 * x * c) - x * x + ((U * 2 * (1 - c) + x) * (U * 2 * (1 - c) + x) - U * d) := by grind
  generalize hz : 4 * (U * 2 * (1 - c) + x) - d - U * 2 * (1 - (c * c - (1 - c * c))) = z at *
  have q1 := sq_nn x
  have cx : ab (x * c) ≤ e := by
    rw [ab_mul]
    have := mul_mono (ab_le.mpr h) (ab_le.mpr cl) (ab_nn x) (by grind)
    grind
  have cx := ab_le.mp cx
  refine ab_le.mpr ⟨?_, ?_⟩
  · apply Classical.byContradiction
    intro c1
    have := mul_pos' pU (show 0 < -(4 * e + 2) - z by grind)
    have := nn_mul (Std.le_of_lt pU) (show 0 ≤ x * c + e by grind)
    grind
  · apply Classical.byContradiction
    intro c1
    have := mul_pos' pU (show 0 < z - (4 * e + 2) by grind)
    have := nn_mul (Std.le_of_lt pU) (show 0 ≤ e - x * c by grind)
    grind
theorem dbl_near {w : Nat} (hw : 0 < w) : ∀ (h : Nat) {v : Int} {y e : R}, ab ((v : R) - 2 ^ w * (1 - C y)) ≤ e → 2 * ((4 ^ h * (e + 1)) * (4 ^ h * (e + 1))) ≤ 2 ^ w → ab ((dbl w h v : R) - 2 ^ w * (1 - C (2 ^ h * y))) + 1 ≤ 4 ^ h * (e + 1)
  | 0, v, y, e, h1, h2 => by
    show ab ((v : R) - 2 ^ w * (1 - C (2 ^ 0 * y))) + 1 ≤ 4 ^ 0 * (e + 1)
    rw [pw_zero, pw_zero]
    have : (1 : R) * y = y := by grind
    rw [this]
    grind
  | h + 1, v, y, e, h1, h2 => by
    have e0 : 0 ≤ e := by have := ab_nn ((v : R) - 2 ^ w * (1 - C y)); grind
    have p4 := pw_nn (show (0 : R) ≤ 4 by grind) h
    have p41 : (1 : R) ≤ 4 ^ h := by
      have := pw_mono (show (0 : R) ≤ 1 by grind) (show (1 : R) ≤ 4 by grind) h
      rw [pw_one] at this
      exact this
    have st := dbl_step hw h1 (by
      rw [pw_succ] at h2
      have := mul_mono p41 (Std.le_refl (e + 1)) (by grind) (by grind)
      have a : e ≤ 4 ^ h * 4 * (e + 1) := by grind
      have := mul_mono a a e0 (by grind)
      grind)
    have r := dbl_near hw h st (by
      rw [pw_succ] at h2
      have a : 4 ^ h * (4 * e + 2 + 1) ≤ 4 ^ h * 4 * (e + 1) := by
        have := nn_mul p4 (show 0 ≤ 4 * (e + 1) - (4 * e + 2 + 1) by grind)
        grind
      have := mul_mono a a (nn_mul p4 (by grind)) (nn_mul (nn_mul p4 (by grind)) (by grind))
      grind)
    show ab ((dbl w h (4 * v - v * v / 2 ^ (w - 1)) : R) - 2 ^ w * (1 - C (2 ^ (h + 1) * y))) + 1 ≤ 4 ^ (h + 1) * (e + 1)
    rw [pw_succ, pw_succ]
    have e3 : (2 : R) ^ h * 2 * y = 2 ^ h * (y + y) := by grind
    rw [e3]
    have a : 4 ^ h * (4 * e + 2 + 1) ≤ 4 ^ h * 4 * (e + 1) := by
      have := nn_mul p4 (show 0 ≤ 4 * (e + 1) - (4 * e + 2 + 1) by grind)
      grind
    grind
end Re.R

/-! Own: cos and sin of any small number with floors: half of pi, turns, roundings; no program in it. -/
namespace Re.R
def near (n : Int) (b : Nat) : Int := (n / 2 ^ (b - 1) + 1) / 2
theorem two_half {b : Nat} (hb : 1 ≤ b) : (2 : R) ^ b = 2 ^ (b - 1) * 2 := by
  have : b = b - 1 + 1 := by omega
  rw [this, pw_succ]
  rfl
theorem near_R (n : Int) {b : Nat} (hb : 1 ≤ b) : 2 * ab (2 ^ b * (near n b : R) - n) ≤ 2 ^ b := by
  have p1 : (0 : Int) < 2 ^ (b - 1) := Int.pow_pos (by decide)
  have f1 := int_fl n p1
  have f2 : 2 * near n b ≤ n / 2 ^ (b - 1) + 1 ∧ n / 2 ^ (b - 1) ≤ 2 * near n b := by unfold near; omega
  rw [cast_pow] at f1
  have e2 : ((2 : Int) : R) = 2 := rfl
  rw [e2] at f1
  have g1 := cast_le.mpr f2.1
  have g2 := cast_le.mpr f2.2
  rw [cast_mul, cast_add, e2] at g1
  rw [cast_mul, e2] at g2
  have e1 : ((1 : Int) : R) = 1 := rfl
  rw [e1] at g1
  rw [two_half hb]
  have pU := two_pos (b - 1)
  generalize (2 : R) ^ (b - 1) = U at *
  generalize ((n / 2 ^ (b - 1) : Int) : R) = u at *
  generalize (near n b : R) = v at *
  generalize (n : R) = n at *
  have a1 := nn_mul (Std.le_of_lt pU) (show 0 ≤ u + 1 - 2 * v by grind)
  have a2 := nn_mul (Std.le_of_lt pU) (show 0 ≤ 2 * v - u by grind)
  have := ab_cases (U * 2 * v - n)
  grind
theorem div_le {x c : R} {d : R} (hd : 0 < d) (h : d * x ≤ d * c) : x ≤ c := by
  apply Classical.byContradiction
  intro z
  have := mul_pos' hd (show 0 < x - c by grind)
  grind
def cosOf (B h th : Nat) : Int := near (2 ^ (B + 2 * h + 32) - dbl (B + 2 * h + 32) h (csum (th * th * 2 ^ 32 / 2 ^ B) (B + 2 * h + 32) (B + 2 * h + 33))) (2 * h + 32)
theorem cosOf_near {B h th : Nat} (h2 : 2 ≤ h) (hB : 2 * h ≤ B + 11) (hw : B + 2 * h + 32 ≤ 500) (ht : th ≤ 4 * 2 ^ B) : ab ((cosOf B h th : R) - 2 ^ B * C ((th : R) / 2 ^ B)) ≤ 1 / 2 + 1 / 1048576 := by
  unfold cosOf
  have pB := two_pos B
  have ph := two_pos h
  have fl := nat_fl (th * th * 2 ^ 32) (show 0 < 2 ^ B from Nat.pow_pos (by decide))
  rw [nat_mul, nat_mul, nat_pow, nat_pow] at fl
  have e2 : ((2 : Nat) : R) = 2 := rfl
  rw [e2] at fl
  have yq : (th : R) / (2 ^ B * 2 ^ h) * (2 ^ B * 2 ^ h) = th := div_mul (by have := mul_pos' pB ph; grind)
  have y0 : 0 ≤ (th : R) / (2 ^ B * 2 ^ h) := nn_mul (nat_nn th) (Std.le_of_lt (inv_pos (mul_pos' pB ph)))
  have yh : (th : R) / 2 ^ B = 2 ^ h * ((th : R) / (2 ^ B * 2 ^ h)) := by
    have : (th : R) / 2 ^ B * 2 ^ B = th := div_mul (by grind)
    have z1 : ((th : R) / 2 ^ B - 2 ^ h * ((th : R) / (2 ^ B * 2 ^ h))) * 2 ^ B = 0 := by grind
    generalize (th : R) / 2 ^ B = a at *
    generalize (th : R) / (2 ^ B * 2 ^ h) = y at *
    have k1 : a ≤ 2 ^ h * y := div_le pB (by grind)
    have k2 : 2 ^ h * y ≤ a := div_le pB (by grind)
    grind
  rw [yh]
  generalize (th : R) / (2 ^ B * 2 ^ h) = y at *
  have ht' := nat_le ht
  rw [nat_mul, nat_pow, e2] at ht'
  have e4 : ((4 : Nat) : R) = 4 := rfl
  rw [e4] at ht'
  have ph4 : (4 : R) ≤ 2 ^ h := by
    have : ((4 : Nat) : R) ≤ ((2 ^ h : Nat) : R) := nat_le (Nat.le_trans (show 4 ≤ 2 ^ 2 by decide) (Nat.pow_le_pow_right (by decide) h2))
    rw [nat_pow] at this
    exact this
  have y1 : y ≤ 1 := by
    apply div_le (mul_pos' pB ph)
    have := nn_mul (Std.le_of_lt pB) (show (0 : R) ≤ 2 ^ h - 4 by grind)
    grind
  have eW : (2 : R) ^ (B + 2 * h + 32) = 2 ^ B * (2 ^ h * 2 ^ h) * 2 ^ 32 := by
    have : 2 * h = h + h := by omega
    rw [pw_add, pw_add, this, pw_add]
  have s1 : ((th * th * 2 ^ 32 / 2 ^ B : Nat) : R) ≤ 2 ^ (B + 2 * h + 32) * (y * y) := by
    rw [eW]
    apply div_le pB
    have : 2 ^ B * (2 ^ B * (2 ^ h * 2 ^ h) * 2 ^ 32 * (y * y)) = (y * (2 ^ B * 2 ^ h)) * (y * (2 ^ B * 2 ^ h)) * 2 ^ 32 := by grind
    rw [this, yq]
    exact fl.1
  have s2 : 2 ^ (B + 2 * h + 32) * (y * y) ≤ ((th * th * 2 ^ 32 / 2 ^ B : Nat) : R) + 1 := by
    rw [eW]
    apply div_le pB
    have : 2 ^ B * (2 ^ B * (2 ^ h * 2 ^ h) * 2 ^ 32 * (y * y)) = (y * (2 ^ B * 2 ^ h)) * (y * (2 ^ B * 2 ^ h)) * 2 ^ 32 := by grind
    rw [this, yq]
    grind
  have sw : th * th * 2 ^ 32 / 2 ^ B ≤ 2 ^ (B + 2 * h + 32) := by
    have : ((th * th * 2 ^ 32 / 2 ^ B : Nat) : R) ≤ ((2 ^ (B + 2 * h + 32) : Nat) : R) := by
      rw [nat_pow]
      have := two_pos (B + 2 * h + 32)
      have yy : y * y ≤ 1 := by have := nn_mul y0 (show 0 ≤ 1 - y by grind); grind
      have := nn_mul (Std.le_of_lt this) (show 0 ≤ 1 - y * y by grind)
      rw [e2]
      grind
    have := (cast_le (a := (th * th * 2 ^ 32 / 2 ^ B : Nat)) (b := (2 ^ (B + 2 * h + 32) : Nat))).mp this
    omega
  have z := ct_zero sw (show B + 2 * h + 32 < B + 2 * h + 33 by omega)
  have c := csum_C y0 y1 s1 s2 z
  have ce : (2 : R) * ((B + 2 * h + 33 : Nat) : R) + 4 ≤ 1023 := by
    have : ((B + 2 * h + 33 : Nat) : R) ≤ ((501 : Nat) : R) := nat_le (by omega)
    have e : ((501 : Nat) : R) = 501 := rfl
    rw [e] at this
    grind
  have c := Std.le_trans c ce
  have e44 : (4 : R) ^ h = 2 ^ h * 2 ^ h := by
    have : (4 : R) = 2 * 2 := by grind
    rw [this, pw_mul]
  have d := dbl_near (show 0 < B + 2 * h + 32 by omega) h c (by
    rw [e44, eW]
    have k : (2 : R) * (2 ^ h * 2 ^ h) * 2 ^ 20 ≤ 2 ^ B * 2 ^ 32 := by
      have : (2 ^ (2 * h + 21) : Nat) ≤ 2 ^ (B + 32) := Nat.pow_le_pow_right (by decide) (by omega)
      have := nat_le this
      rw [nat_pow, nat_pow, e2, pw_add, pw_add] at this
      have e5 : 2 * h = h + h := by omega
      rw [e5, pw_add] at this
      have e6 : (2 : R) ^ 21 = 2 ^ 20 * 2 := rfl
      rw [e6] at this
      grind
    have hh := mul_pos' ph ph
    have := nn_mul (Std.le_of_lt hh) (show (0 : R) ≤ 2 ^ B * 2 ^ 32 - 2 * (2 ^ h * 2 ^ h) * 2 ^ 20 by grind)
    have e7 : (2 : R) ^ 20 = 1024 * 1024 := by grind
    rw [e7] at this
    grind)
  have n := near_R (2 ^ (B + 2 * h + 32) - dbl (B + 2 * h + 32) h (csum (th * th * 2 ^ 32 / 2 ^ B) (B + 2 * h + 32) (B + 2 * h + 33))) (b := 2 * h + 32) (by omega)
  rw [cast_sub, cast_pow] at n
  have e3 : ((2 : Int) : R) = 2 := rfl
  rw [e3] at n
  have eV : (2 : R) ^ (2 * h + 32) = 2 ^ h * 2 ^ h * 2 ^ 32 := by
    have : 2 * h = h + h := by omega
    rw [pw_add, this, pw_add]
  rw [eW, e44] at d
  rw [eW, eV] at n
  generalize (near (2 ^ (B + 2 * h + 32) - dbl (B + 2 * h + 32) h (csum (th * th * 2 ^ 32 / 2 ^ B) (B + 2 * h + 32) (B + 2 * h + 33))) (2 * h + 32) : R) = N at *
  generalize (dbl (B + 2 * h + 32) h (csum (th * th * 2 ^ 32 / 2 ^ B) (B + 2 * h + 32) (B + 2 * h + 33)) : R) = D at *
  generalize C (2 ^ h * y) = x at *
  have hh := mul_pos' ph ph
  generalize (2 : R) ^ h * 2 ^ h = H at *
  have e8 : (2 : R) ^ 32 = 4294967296 := by grind
  rw [e8] at *
  generalize (2 : R) ^ B = P at *
  have d1 := ab_cases (D - P * H * 4294967296 * (1 - x))
  have n1 := ab_cases (H * 4294967296 * N - (P * H * 4294967296 - D))
  refine ab_le.mpr ⟨?_, ?_⟩
  · apply div_le (mul_pos' hh (show (0 : R) < 4294967296 by grind))
    grind
  · apply div_le (mul_pos' hh (show (0 : R) < 4294967296 by grind))
    grind
/-- pi by Machin with floors -/
def mach (w : Nat) : Int := 4 * (4 * Lp.tsum 5 w 1000 - Lp.tsum 239 w 1000)
theorem pw_inv_le {n : Nat} (hn : 5 ≤ n) {w : Nat} (hw : w ≤ 1000) : 2 * (2 ^ w * (1 / (n : R)) ^ (2 * 1000)) ≤ 1 := by
  have n0 := nat_pos (show 0 < n by omega)
  have i := inv_pw (n := (n : R)) (by grind) (2 * 1000)
  have p := pw_pos n0 (2 * 1000)
  have k : (2 : R) * 2 ^ w ≤ (n : R) ^ (2 * 1000) := by
    have : 2 * 2 ^ w ≤ n ^ (2 * 1000) := by
      refine Nat.le_trans ?_ (Nat.pow_le_pow_left hn _)
      refine Nat.le_trans (Nat.mul_le_mul_left 2 (Nat.pow_le_pow_right (by decide) hw)) ?_
      decide +kernel
    have := nat_le this
    rw [nat_mul, nat_pow, nat_pow] at this
    exact this
  have i0 : 0 ≤ (1 / (n : R)) ^ (2 * 1000) := pw_nn (Std.le_of_lt (div_pos (by grind) n0)) _
  generalize (1 / (n : R)) ^ (2 * 1000) = I at *
  generalize (n : R) ^ (2 * 1000) = M at *
  generalize (2 : R) ^ w = W at *
  have := nn_mul i0 (show 0 ≤ M - 2 * W by grind)
  grind
theorem mach_near {w : Nat} (hw : w ≤ 1000) : ab ((mach w : R) - 2 ^ w * (2 * hp)) ≤ 32768 := by
  have a := tsum_A (n := 5) (by decide) w 1000
  have b := tsum_A (n := 239) (by decide) w 1000
  have a2 := pw_inv_le (n := 5) (by decide) hw
  have b2 := pw_inv_le (n := 239) (by decide) hw
  have e5 : ((5 : Nat) : R) = 5 := rfl
  have e239 : ((239 : Nat) : R) = 239 := rfl
  have e1000 : ((1000 : Nat) : R) = 1000 := rfl
  rw [e5] at a a2
  rw [e239] at b b2
  rw [e1000] at a b
  have k : hp = 2 * (4 * u5 - v239) := rfl
  rw [show A (-1) (1 / 5) = u5 from rfl] at a
  rw [show A (-1) (1 / 239) = v239 from rfl] at b
  unfold mach
  rw [cast_mul, cast_sub, cast_mul, k]
  have e4 : ((4 : Int) : R) = 4 := rfl
  rw [e4]
  generalize (Lp.tsum 5 w 1000 : R) = t at *
  generalize (Lp.tsum 239 w 1000 : R) = s at *
  generalize (1 / (5 : R)) ^ (2 * 1000) = X at *
  generalize (1 / (239 : R)) ^ (2 * 1000) = Y at *
  generalize (2 : R) ^ w = W at *
  have := ab_cases (t - W * u5)
  have := ab_cases (s - W * v239)
  have := ab_cases (4 * (4 * t - s) - W * (2 * (2 * (4 * u5 - v239))))
  grind
def piS (b : Nat) : Int := near (mach (b + 32)) 32
theorem piS_near {b : Nat} (hb : b ≤ 900) : ab ((piS b : R) - 2 ^ b * (2 * hp)) ≤ 1 / 2 + 1 / 131072 := by
  have m := mach_near (w := b + 32) (by omega)
  have n := near_R (mach (b + 32)) (b := 32) (by decide)
  rw [show near (mach (b + 32)) 32 = piS b from rfl] at n
  rw [pw_add] at m
  have e8 : (2 : R) ^ 32 = 4294967296 := by grind
  rw [e8] at m n
  generalize (2 : R) ^ b = B at *
  generalize (mach (b + 32) : R) = M at *
  generalize (piS b : R) = p at *
  have := ab_cases (M - B * 4294967296 * (2 * hp))
  have := ab_cases (4294967296 * p - M)
  have := ab_cases (p - B * (2 * hp))
  grind
end Re.R

/-! Own: cos at a number of any turn, with floors; no program in it. -/
namespace Re.R
def ang (n : Int) (bits q : Nat) : Int := (n * 2 ^ 48 - q * piS (bits + 47)) % (4 * piS (bits + 47))
def fold (n : Int) (bits q : Nat) : Int := min (ang n bits q) (4 * piS (bits + 47) - ang n bits q)
def cosScaled (n : Int) (bits q h : Nat) : Int := near (cosOf (bits + 48) h (fold n bits q).toNat) 16
theorem div_eq {x y c : R} (hc : c ≠ 0) (h : x = y * c) : x / c = y := by
  have : x / c * c = x := div_mul hc
  have := mul_inv hc
  rw [h]
  show y * c * c⁻¹ = y
  grind
/-- the angle: less than a turn, and as cos says it -/
theorem fold_near {n : Int} {bits q : Nat} (hb : bits ≤ 800) (hq : q ≤ 1) (hn : ab (n : R) ≤ 64 * 2 ^ bits) :
    0 ≤ fold n bits q ∧ fold n bits q ≤ 4 * 2 ^ (bits + 48) ∧ 2 ^ (bits + 48) * ab (C ((fold n bits q : R) / 2 ^ (bits + 48)) - C ((n : R) / 2 ^ bits - q * hp)) ≤ 28 := by
  have p := piS_near (b := bits + 47) (by omega)
  have hpn := hp_near
  have pb := two_pos bits
  have pP := two_pos (bits + 48)
  have eP : (2 : R) ^ (bits + 48) = 2 ^ (bits + 47) * 2 := pw_succ _ _
  have eP2 : (2 : R) ^ (bits + 48) = 2 ^ bits * 2 ^ 48 := pw_add _ _ _
  have P1 : (1048576 : R) ≤ 2 ^ (bits + 48) := by
    have : (2 ^ 20 : Nat) ≤ 2 ^ (bits + 48) := Nat.pow_le_pow_right (by decide) (by omega)
    have := nat_le this
    rw [nat_pow, nat_pow] at this
    have e2 : ((2 : Nat) : R) = 2 := rfl
    have e20 : (2 : R) ^ 20 = 1048576 := by grind
    rw [e2, e20] at this
    exact this
  have e2i : ((2 : Int) : R) = 2 := rfl
  have e4i : ((4 : Int) : R) = 4 := rfl
  have p : ab ((piS (bits + 47) : R) - 2 ^ (bits + 48) * hp) ≤ 51 / 100 := by
    have : (2 : R) ^ (bits + 48) * hp = 2 ^ (bits + 47) * (2 * hp) := by rw [eP]; grind
    rw [this]
    grind
  have hh : (15 / 10 : R) * 2 ^ (bits + 48) ≤ (piS (bits + 47) : R) := by
    have := nn_mul (Std.le_of_lt pP) (show 0 ≤ hp - 157 / 100 by grind)
    have := ab_le.mp p
    grind
  have hh2 : (piS (bits + 47) : R) ≤ 17 / 10 * 2 ^ (bits + 48) := by
    have := nn_mul (Std.le_of_lt pP) (show 0 ≤ 16 / 10 - hp by grind)
    have := ab_le.mp p
    grind
  have hpos : 0 < piS (bits + 47) := by
    have : ((0 : Int) : R) < (piS (bits + 47) : R) := by
      have : ((0 : Int) : R) = 0 := rfl
      grind
    exact cast_lt.mp this
  have tpos : 0 < 4 * piS (bits + 47) := by omega
  have fl := int_fl (n * 2 ^ 48 - q * piS (bits + 47)) tpos
  have a0 := Int.emod_nonneg (n * 2 ^ 48 - q * piS (bits + 47)) (show 4 * piS (bits + 47) ≠ 0 by omega)
  have a1 := Int.emod_lt_of_pos (n * 2 ^ 48 - q * piS (bits + 47)) tpos
  have ad : ang n bits q = n * 2 ^ 48 - q * piS (bits + 47) - 4 * piS (bits + 47) * ((n * 2 ^ 48 - q * piS (bits + 47)) / (4 * piS (bits + 47))) := Int.emod_def _ _
  rw [show (n * 2 ^ 48 - q * piS (bits + 47)) % (4 * piS (bits + 47)) = ang n bits q from rfl] at a0 a1
  generalize (n * 2 ^ 48 - q * piS (bits + 47)) / (4 * piS (bits + 47)) = m at *
  have q01 : (0 : R) ≤ q ∧ (q : R) ≤ 1 := ⟨nat_nn q, nat_le (n := 1) hq⟩
  have qi : (((q : Nat) : Int) : R) = (q : R) := rfl
  simp only [cast_sub, cast_mul, cast_pow, e2i, qi, e4i] at fl
  have xb : (n : R) / 2 ^ bits * 2 ^ bits = n := div_mul (by grind)
  generalize hx : (n : R) / 2 ^ bits = x at *
  have x64 : ab x ≤ 64 := by
    rw [← xb, ab_mul, ab_pos (Std.le_of_lt pb)] at hn
    exact div_le pb (by grind)
  have nP : (n : R) * 2 ^ 48 = x * 2 ^ (bits + 48) := by rw [eP2, ← xb]; grind
  have adR : (ang n bits q : R) = x * 2 ^ (bits + 48) - q * (piS (bits + 47) : R) - 4 * (piS (bits + 47) : R) * (m : R) := by
    rw [ad]
    simp only [cast_sub, cast_mul, cast_pow, e2i, qi, e4i]
    rw [nP]
  rw [nP] at fl
  have f0 : 0 ≤ fold n bits q := by unfold fold; omega
  have f1 : 2 * fold n bits q ≤ 4 * piS (bits + 47) := by unfold fold; omega
  have f2 : fold n bits q = ang n bits q ∨ fold n bits q = 4 * piS (bits + 47) - ang n bits q := by unfold fold; omega
  have m1 := ab_le.mp x64
  have p := ab_le.mp p
  generalize hpi : (piS (bits + 47) : R) = H at *
  generalize hPP : (2 : R) ^ (bits + 48) = P at *
  have mb : ab (q + 4 * (m : R)) ≤ 49 := by
    have qH := nn_mul (show 0 ≤ 1 - (q : R) by grind) (show 0 ≤ H by grind)
    have qH2 := nn_mul q01.1 (show 0 ≤ H by grind)
    have xP1 := nn_mul (show 0 ≤ 64 - x by grind) (Std.le_of_lt pP)
    have xP2 := nn_mul (show 0 ≤ 64 + x by grind) (Std.le_of_lt pP)
    have mu : m ≤ 11 := by
      apply Classical.byContradiction
      intro c
      have : ((12 : Int) : R) ≤ m := cast_le.mpr (by omega)
      have e12 : ((12 : Int) : R) = 12 := rfl
      rw [e12] at this
      have := nn_mul (show 0 ≤ H by grind) (show 0 ≤ (m : R) - 12 by grind)
      grind
    have ml : -12 ≤ m := by
      apply Classical.byContradiction
      intro c
      have : (m : R) ≤ ((-13 : Int) : R) := cast_le.mpr (by omega)
      have e12 : ((-13 : Int) : R) = -13 := rfl
      rw [e12] at this
      have := nn_mul (show 0 ≤ H by grind) (show 0 ≤ -13 - (m : R) by grind)
      grind
    have mu := cast_le.mpr mu
    have ml := cast_le.mpr ml
    have e11 : ((11 : Int) : R) = 11 := rfl
    have e12 : ((-12 : Int) : R) = -12 := rfl
    rw [e11] at mu
    rw [e12] at ml
    exact ab_le.mpr (by grind)
  have key : P * ab (C ((ang n bits q : R) / P) - C (x - q * hp)) ≤ 25 := by
    have e1 : (ang n bits q : R) / P = x - q * hp - (m : R) * (4 * hp) - (q + 4 * m) * ((H - P * hp) / P) := by
      have : (H - P * hp) / P * P = H - P * hp := div_mul (by grind)
      generalize (H - P * hp) / P = e at *
      apply div_eq (by grind)
      rw [adR]
      have : H = e * P + P * hp := by grind
      rw [this]
      grind
    have c := C_lip ((ang n bits q : R) / P) (x - q * hp - (m : R) * (4 * hp))
    have e3 : C (x - q * hp - (m : R) * (4 * hp)) = C (x - q * hp) := by
      have := C_int (x - q * hp) (-m)
      rw [cast_neg] at this
      rw [← this]
      congr 1
      grind
    rw [e3] at c
    have e4 : (ang n bits q : R) / P - (x - q * hp - (m : R) * (4 * hp)) = -((q + 4 * m) * ((H - P * hp) / P)) := by rw [e1]; grind
    rw [e4, ab_minus, ab_mul] at c
    have d : P * ab ((H - P * hp) / P) ≤ 51 / 100 := by
      have : (H - P * hp) / P * P = H - P * hp := div_mul (by grind)
      have e := ab_mul ((H - P * hp) / P) P
      rw [this, ab_pos (Std.le_of_lt pP)] at e
      have : ab (H - P * hp) ≤ 51 / 100 := ab_le.mpr p
      grind
    have := nn_mul (Std.le_of_lt pP) (show 0 ≤ ab (q + 4 * (m : R)) * ab ((H - P * hp) / P) - ab (C ((ang n bits q : R) / P) - C (x - q * hp)) by grind)
    have := mul_mono mb d (ab_nn _) (by grind)
    grind
  refine ⟨f0, ?_, ?_⟩
  · have : (fold n bits q : R) ≤ ((4 * 2 ^ (bits + 48) : Int) : R) := by
      rw [cast_mul, cast_pow, e4i, e2i, hPP]
      have := cast_le.mpr f1
      rw [cast_mul, cast_mul, e2i, e4i, hpi] at this
      grind
    exact cast_le.mp this
  · rcases f2 with f2 | f2
    · rw [f2]
      grind
    · rw [f2, cast_sub, cast_mul, e4i, hpi]
      have aP : (ang n bits q : R) / P * P = ang n bits q := div_mul (by grind)
      have e1 : (4 * H - (ang n bits q : R)) / P = -((ang n bits q : R) / P) + 4 * hp + 4 * ((H - P * hp) / P) := by
        have : (H - P * hp) / P * P = H - P * hp := div_mul (by grind)
        generalize (H - P * hp) / P = e at *
        generalize (ang n bits q : R) / P = y at *
        apply div_eq (by grind)
        rw [← aP]
        have : H = e * P + P * hp := by grind
        rw [this]
        grind
      have c := C_lip ((4 * H - (ang n bits q : R)) / P) (-((ang n bits q : R) / P) + 4 * hp)
      rw [C_p4, C_neg] at c
      have e4 : (4 * H - (ang n bits q : R)) / P - (-((ang n bits q : R) / P) + 4 * hp) = 4 * ((H - P * hp) / P) := by rw [e1]; grind
      rw [e4, ab_mul, ab_pos (x := (4 : R)) (by grind)] at c
      have d : P * ab ((H - P * hp) / P) ≤ 51 / 100 := by
        have : (H - P * hp) / P * P = H - P * hp := div_mul (by grind)
        have e := ab_mul ((H - P * hp) / P) P
        rw [this, ab_pos (Std.le_of_lt pP)] at e
        have : ab (H - P * hp) ≤ 51 / 100 := ab_le.mpr p
        grind
      have t := ab_add (C ((4 * H - (ang n bits q : R)) / P) - C ((ang n bits q : R) / P)) (C ((ang n bits q : R) / P) - C (x - q * hp))
      have e5 : C ((4 * H - (ang n bits q : R)) / P) - C ((ang n bits q : R) / P) + (C ((ang n bits q : R) / P) - C (x - q * hp)) = C ((4 * H - (ang n bits q : R)) / P) - C (x - q * hp) := by grind
      rw [e5] at t
      generalize ab (C ((4 * H - (ang n bits q : R)) / P) - C (x - q * hp)) = A at *
      generalize ab (C ((4 * H - (ang n bits q : R)) / P) - C ((ang n bits q : R) / P)) = A2 at *
      generalize ab (C ((ang n bits q : R) / P) - C (x - q * hp)) = A3 at *
      generalize ab ((H - P * hp) / P) = A4 at *
      have := nn_mul (Std.le_of_lt pP) (show 0 ≤ A2 + A3 - A by grind)
      have := nn_mul (Std.le_of_lt pP) (show 0 ≤ 4 * A4 - A2 by grind)
      grind
theorem cosScaled_near {n : Int} {bits q h : Nat} (hb : bits ≤ 380) (hq : q ≤ 1) (hn : ab (n : R) ≤ 64 * 2 ^ bits) (h2 : 2 ≤ h) (hB : 2 * h ≤ bits + 59) (hw : bits + 2 * h + 80 ≤ 500) :
    ab ((cosScaled n bits q h : R) - 2 ^ (bits + 32) * C ((n : R) / 2 ^ bits - q * hp)) ≤ 51 / 100 := by
  obtain ⟨f0, f1, f2⟩ := fold_near (n := n) (bits := bits) (q := q) (by omega) hq hn
  have ft : ((fold n bits q).toNat : Int) = fold n bits q := Int.toNat_of_nonneg f0
  have hth : (fold n bits q).toNat ≤ 4 * 2 ^ (bits + 48) := by
    have : ((fold n bits q).toNat : Int) ≤ ((4 * 2 ^ (bits + 48) : Nat) : Int) := by rw [ft]; push_cast; exact f1
    omega
  have c := cosOf_near (B := bits + 48) (h := h) (th := (fold n bits q).toNat) h2 (by omega) (by omega) hth
  have fr : (((fold n bits q).toNat : Nat) : R) = (fold n bits q : R) := by rw [← cast_nat, ft]
  rw [fr] at c
  have nr := near_R (cosOf (bits + 48) h (fold n bits q).toNat) (b := 16) (by decide)
  rw [show near (cosOf (bits + 48) h (fold n bits q).toNat) 16 = cosScaled n bits q h from rfl] at nr
  have eP : (2 : R) ^ (bits + 48) = 2 ^ (bits + 32) * 2 ^ 16 := pw_add _ (bits + 32) 16
  have pP := two_pos (bits + 48)
  have e16 : (2 : R) ^ 16 = 65536 := by grind
  generalize C ((n : R) / 2 ^ bits - q * hp) = x at *
  generalize C ((fold n bits q : R) / 2 ^ (bits + 48)) = y at *
  generalize (cosOf (bits + 48) h (fold n bits q).toNat : R) = z at *
  generalize (cosScaled n bits q h : R) = r at *
  rw [e16] at nr eP
  have e1 : ab (2 ^ (bits + 48) * (y - x)) ≤ 28 := by
    rw [ab_mul, ab_pos (Std.le_of_lt pP)]
    exact f2
  rw [eP] at e1 c
  generalize (2 : R) ^ (bits + 32) = W at *
  have a1 := ab_le.mp e1
  have a2 := ab_le.mp c
  have a3 : ab (65536 * r - z) ≤ 32768 := by grind
  have a3 := ab_le.mp a3
  exact ab_le.mpr (by grind)
end Re.R

/-! Own: a wave over a whole range: its ends, its turns; no program in it. -/
namespace Re.R
theorem floor_ex (x : R) : ∃ m : Int, (m : R) ≤ x ∧ x < (m : R) + 1 := by
  obtain ⟨n, hn⟩ := arch (-x)
  have key : ∀ k : Nat, x < -(n : R) + k → ∃ m : Int, (m : R) ≤ x ∧ x < (m : R) + 1 := fun k => by
    induction k with
    | zero =>
      intro h
      have : ((0 : Nat) : R) = 0 := rfl
      grind
    | succ k ih =>
      intro h
      rw [nat_succ] at h
      rcases Std.le_total (a := -(n : R) + k) (b := x) with c | c
      · refine ⟨-(n : Int) + (k : Int), ?_, ?_⟩
        · rw [cast_add, cast_neg, cast_nat, cast_nat]; exact c
        · rw [cast_add, cast_neg, cast_nat, cast_nat]; grind
      · rcases Classical.em (x = -(n : R) + k) with e | e
        · refine ⟨-(n : Int) + (k : Int), ?_, ?_⟩
          · rw [cast_add, cast_neg, cast_nat, cast_nat]; grind
          · rw [cast_add, cast_neg, cast_nat, cast_nat]; grind
        · exact ih (by grind)
  obtain ⟨m, hm⟩ := arch (x + n + 1)
  exact key m (by grind)
/-- a turn of cos that is not the foot -/
theorem C_no_foot {x y z : R} (h : x ≤ y) (k : y ≤ z) (no : ∀ m : Int, x ≤ 4 * (m : R) * hp + 2 * hp → 4 * (m : R) * hp + 2 * hp ≤ z → False) : C x ≤ C y ∨ C z ≤ C y := by
  have hp0 := hp_near
  obtain ⟨m, m1, m2⟩ := floor_ex ((x + 2 * hp) / (4 * hp))
  have e : (x + 2 * hp) / (4 * hp) * (4 * hp) = x + 2 * hp := div_mul (by grind)
  generalize (x + 2 * hp) / (4 * hp) = t at *
  have a1 := nn_mul (show 0 ≤ t - (m : R) by grind) (show 0 ≤ 4 * hp by grind)
  have a2 := mul_pos' (show 0 < (m : R) + 1 - t by grind) (show 0 < 4 * hp by grind)
  have b1 : 4 * (m : R) * hp - 2 * hp ≤ x := by grind
  have b2 : x ≤ 4 * (m : R) * hp + 2 * hp := by grind
  have b3 : z ≤ 4 * (m : R) * hp + 2 * hp := by
    rcases Std.le_total (a := z) (b := 4 * (m : R) * hp + 2 * hp) with c | c
    · exact c
    · exact (no m b2 c).elim
  have sh : ∀ u : R, C (u - 4 * (m : R) * hp) = C u := fun u => by
    have := C_int u (-m)
    rw [cast_neg] at this
    rw [← this]
    congr 1
    grind
  have := C_min (x := x - 4 * (m : R) * hp) (y := y - 4 * (m : R) * hp) (z := z - 4 * (m : R) * hp) (by grind) (by grind) (by grind) (by grind)
  rw [sh, sh, sh] at this
  exact this
theorem C_no_top {x y z : R} (h : x ≤ y) (k : y ≤ z) (no : ∀ m : Int, x ≤ 4 * (m : R) * hp → 4 * (m : R) * hp ≤ z → False) : C y ≤ C x ∨ C y ≤ C z := by
  have := C_no_foot (x := x + (hp + hp)) (y := y + (hp + hp)) (z := z + (hp + hp)) (by grind) (by grind) fun m c d => no m (by grind) (by grind)
  rw [C_p2, C_p2, C_p2] at this
  grind
/-- cos at whole numbers of quarters -/
theorem C_quarter (x : R) (k q : Int) (h : (k - q) % 4 = 0) : C (x - q * hp) = C (x - k * hp) := by
  have e : k - q = 4 * ((k - q) / 4) := by omega
  have := C_int (x - k * hp) ((k - q) / 4)
  rw [← this]
  congr 1
  have : (k : R) - q = 4 * (((k - q) / 4 : Int) : R) := by
    rw [← cast_sub]
    have := congrArg (fun z : Int => (z : R)) e
    simp only [cast_mul] at this
    exact this
  grind
theorem C_half (x : R) (k q : Int) (h : (k - q) % 4 = 2) : C (x - q * hp) = -C (x - k * hp) := by
  have a := C_quarter x (k + 2) q (by omega)
  rw [a, cast_add]
  have e2 : ((2 : Int) : R) = 2 := rfl
  rw [e2]
  have := C_p2 (x - ((k : R) + 2) * hp)
  have e : x - ((k : R) + 2) * hp + (hp + hp) = x - k * hp := by grind
  rw [e] at this
  grind
def outw (v : Int) : Int × Int := ((v - 1) / 2 ^ 32, -(-(v + 1) / 2 ^ 32))
def waveAt (n : Int) (bits q h : Nat) : Int × Int :=
  if n = 0 then (if q = 1 then (0, 0) else (2 ^ bits, 2 ^ bits)) else outw (cosScaled n bits q h)
/-- from below and from above, and near -/
structure Encl (B x : R) (p : Int × Int) : Prop where
  lo : (p.1 : R) ≤ B * x
  hi : B * x ≤ (p.2 : R)
  lo2 : B * x ≤ (p.1 : R) + 11 / 10
  hi2 : (p.2 : R) ≤ B * x + 11 / 10
theorem outw_ok {v : Int} {B x : R} (h : ab ((v : R) - B * 4294967296 * x) ≤ 51 / 100) : Encl B x (outw v) := by
  have f1 := int_fl (v - 1) (show (0 : Int) < 2 ^ 32 by decide)
  have f2 := int_fl (-(v + 1)) (show (0 : Int) < 2 ^ 32 by decide)
  have e : (((2 ^ 32 : Int)) : R) = 4294967296 := rfl
  have e1 : ((1 : Int) : R) = 1 := rfl
  rw [e, cast_sub, e1] at f1
  rw [e, cast_neg, cast_add, e1] at f2
  have h := ab_le.mp h
  have k2 : ((outw v).2 : R) = -(((-(v + 1) / 2 ^ 32 : Int)) : R) := cast_neg _
  have k1 : ((outw v).1 : R) = (((v - 1) / 2 ^ 32 : Int) : R) := rfl
  generalize ((((v - 1) / 2 ^ 32 : Int)) : R) = a at *
  generalize ((((-(v + 1)) / 2 ^ 32 : Int)) : R) = b at *
  exact ⟨by rw [k1]; grind, by rw [k2]; grind, by rw [k1]; grind, by rw [k2]; grind⟩
theorem waveAt_ok {n : Int} {bits q h : Nat} (hb : bits ≤ 380) (hq : q ≤ 1) (hn : ab (n : R) ≤ 64 * 2 ^ bits) (h2 : 2 ≤ h) (hB : 2 * h ≤ bits + 59) (hw : bits + 2 * h + 80 ≤ 500) :
    Encl (2 ^ bits) (C ((n : R) / 2 ^ bits - q * hp)) (waveAt n bits q h) := by
  unfold waveAt
  split
  case isTrue c =>
    have z : (n : R) / 2 ^ bits - q * hp = -(q * hp) := by
      rw [c]
      show (0 : R) * _ - _ = _
      grind
    rw [z, C_neg]
    split
    case isTrue d =>
      have : (q : R) * hp = hp := by
        rw [d]
        show (1 : R) * hp = hp
        grind
      rw [this, C_hp]
      have e0 : ((0 : Int) : R) = 0 := rfl
      exact ⟨by show ((0 : Int) : R) ≤ _; rw [e0]; grind, by show _ ≤ ((0 : Int) : R); rw [e0]; grind, by show _ ≤ ((0 : Int) : R) + _; rw [e0]; grind, by show ((0 : Int) : R) ≤ _; rw [e0]; grind⟩
    case isFalse d =>
      have : q = 0 := by omega
      have : (q : R) * hp = 0 := by
        rw [this]
        show (0 : R) * hp = 0
        grind
      rw [this, C0]
      have e0 : ((2 ^ bits : Int) : R) = 2 ^ bits := cast_pow 2 bits
      exact ⟨by show ((2 ^ bits : Int) : R) ≤ _; rw [e0]; grind, by show _ ≤ ((2 ^ bits : Int) : R); rw [e0]; grind, by show _ ≤ ((2 ^ bits : Int) : R) + _; rw [e0]; grind, by show ((2 ^ bits : Int) : R) ≤ _; rw [e0]; grind⟩
  case isFalse c =>
    have k := cosScaled_near hb hq hn h2 hB hw
    rw [pw_add] at k
    have e : (2 : R) ^ 32 = 4294967296 := by grind
    rw [e] at k
    exact outw_ok k
def least (a0 : Int) (bits : Nat) : Int := -(-(a0 * 2 ^ 32 - 64) / piS (bits + 31))
def greatest (a1 : Int) (bits : Nat) : Int := (a1 * 2 ^ 32 + 64) / piS (bits + 31)
def turn (a0 a1 : Int) (bits : Nat) (rest : Int) : Prop := least a0 bits + (rest - least a0 bits) % 4 ≤ greatest a1 bits
theorem pi31 {bits : Nat} (hb : bits ≤ 800) : ab ((piS (bits + 31) : R) - 2 ^ bits * 4294967296 * hp) ≤ 51 / 100 ∧ (3 / 2 : R) * (2 ^ bits * 4294967296) ≤ (piS (bits + 31) : R) ∧ 0 < piS (bits + 31) := by
  have p := piS_near (b := bits + 31) (by omega)
  have hpn := hp_near
  have pb := two_pos bits
  have b1 : (1 : R) ≤ 2 ^ bits := by
    have := pw_mono (show (0 : R) ≤ 1 by grind) (show (1 : R) ≤ 2 by grind) bits
    rw [pw_one] at this
    exact this
  have e : (2 : R) ^ (bits + 31) * (2 * hp) = 2 ^ bits * 4294967296 * hp := by
    rw [pw_add]
    have : (2 : R) ^ 31 = 2147483648 := by grind
    rw [this]
    grind
  rw [e] at p
  have p1 : ab ((piS (bits + 31) : R) - 2 ^ bits * 4294967296 * hp) ≤ 51 / 100 := by grind
  have p2 := ab_le.mp p1
  have := nn_mul (Std.le_of_lt pb) (show 0 ≤ hp - 157 / 100 by grind)
  have k : (3 / 2 : R) * (2 ^ bits * 4294967296) ≤ (piS (bits + 31) : R) := by grind
  refine ⟨p1, k, ?_⟩
  have : ((0 : Int) : R) < (piS (bits + 31) : R) := by
    have : ((0 : Int) : R) = 0 := rfl
    grind
  exact cast_lt.mp this
/-- a turn that is found is a turn nearby -/
theorem turn_some {a0 a1 rest : Int} {bits : Nat} (h : turn a0 a1 bits rest) : ∃ k : Int, (k - rest) % 4 = 0 ∧ least a0 bits ≤ k ∧ k ≤ greatest a1 bits := by
  unfold turn at h
  exact ⟨_, by omega, by omega, h⟩
theorem turn_of {a0 a1 rest k : Int} {bits : Nat} (h : (k - rest) % 4 = 0) (h1 : least a0 bits ≤ k) (h2 : k ≤ greatest a1 bits) : turn a0 a1 bits rest := by
  unfold turn
  omega
theorem in_least {a0 k : Int} {bits : Nat} (hb : bits ≤ 800) : least a0 bits ≤ k ↔ a0 * 2 ^ 32 - 64 ≤ k * piS (bits + 31) := by
  have p := (pi31 (bits := bits) hb).2.2
  unfold least
  generalize piS (bits + 31) = P at *
  generalize a0 * 2 ^ 32 - 64 = A at *
  have d : -k ≤ -A / P ↔ -k * P ≤ -A := Int.le_ediv_iff_mul_le p
  have e : -k * P = -(k * P) := Int.neg_mul k P
  rw [e] at d
  constructor
  · intro h
    have := d.mp (by omega)
    omega
  · intro h
    have := d.mpr (by omega)
    omega
theorem in_greatest {a1 k : Int} {bits : Nat} (hb : bits ≤ 800) : k ≤ greatest a1 bits ↔ k * piS (bits + 31) ≤ a1 * 2 ^ 32 + 64 := by
  have p := (pi31 (bits := bits) hb).2.2
  exact Int.le_ediv_iff_mul_le p
/-- a turn near the range, as reals -/
theorem turn_near {a0 a1 k : Int} {bits : Nat} (hb : bits ≤ 800) (h0 : ab (a0 : R) ≤ 64 * 2 ^ bits) (h1 : ab (a1 : R) ≤ 64 * 2 ^ bits) (k1 : least a0 bits ≤ k) (k2 : k ≤ greatest a1 bits) :
    ab (k : R) ≤ 44 ∧ (a0 : R) * 4294967296 - 87 ≤ k * hp * (2 ^ bits * 4294967296) ∧ k * hp * (2 ^ bits * 4294967296) ≤ (a1 : R) * 4294967296 + 87 := by
  obtain ⟨p1, p2, p3⟩ := pi31 (bits := bits) hb
  have c1 := cast_le.mpr ((in_least hb).mp k1)
  have c2 := cast_le.mpr ((in_greatest hb).mp k2)
  have e32 : ((2 ^ 32 : Int) : R) = 4294967296 := rfl
  have e64 : ((64 : Int) : R) = 64 := rfl
  simp only [cast_sub, cast_mul, cast_add, e32, e64] at c1 c2
  have b1 : (1 : R) ≤ 2 ^ bits := by
    have := pw_mono (show (0 : R) ≤ 1 by grind) (show (1 : R) ≤ 2 by grind) bits
    rw [pw_one] at this
    exact this
  have h0 := ab_le.mp h0
  have h1 := ab_le.mp h1
  generalize (piS (bits + 31) : R) = P at *
  generalize (2 : R) ^ bits = B at *
  have kb : ab (k : R) ≤ 44 := by
    refine ab_le.mpr ⟨?_, ?_⟩
    · apply Classical.byContradiction
      intro c
      have := nn_mul (show 0 ≤ P by grind) (show 0 ≤ -44 - (k : R) by grind)
      grind
    · apply Classical.byContradiction
      intro c
      have := nn_mul (show 0 ≤ P by grind) (show 0 ≤ (k : R) - 44 by grind)
      grind
  have d : ab ((k : R) * (P - B * 4294967296 * hp)) ≤ 23 := by
    rw [ab_mul]
    have := mul_mono kb p1 (ab_nn _) (by grind)
    grind
  have d := ab_le.mp d
  exact ⟨kb, by grind, by grind⟩
/-- a turn within the range is found -/
theorem turn_in {a0 a1 k : Int} {bits : Nat} (hb : bits ≤ 800) (kb : ab (k : R) ≤ 44) (h0 : (a0 : R) * 4294967296 - 1 ≤ k * hp * (2 ^ bits * 4294967296)) (h1 : k * hp * (2 ^ bits * 4294967296) ≤ (a1 : R) * 4294967296 + 1) : least a0 bits ≤ k ∧ k ≤ greatest a1 bits := by
  obtain ⟨p1, p2, p3⟩ := pi31 (bits := bits) hb
  have d : ab ((k : R) * ((piS (bits + 31) : R) - 2 ^ bits * 4294967296 * hp)) ≤ 23 := by
    rw [ab_mul]
    have := mul_mono kb p1 (ab_nn _) (by grind)
    grind
  have d := ab_le.mp d
  have e32 : ((2 ^ 32 : Int) : R) = 4294967296 := rfl
  have e64 : ((64 : Int) : R) = 64 := rfl
  constructor
  · refine (in_least hb).mpr (cast_le.mp ?_)
    simp only [cast_sub, cast_mul, e32, e64]
    grind
  · refine (in_greatest hb).mpr (cast_le.mp ?_)
    simp only [cast_add, cast_mul, e32, e64]
    grind
end Re.R

/-! Own: what is told of a wave over a range, held against values that are worked out with 100 more bits; no program in it. -/
namespace Re.R
open Classical in
noncomputable def hiOf (a0 a1 : Int) (bits q h : Nat) : Int := if turn a0 a1 bits q then 2 ^ bits else min (max (waveAt a0 bits q h).2 (waveAt a1 bits q h).2) (2 ^ bits)
open Classical in
noncomputable def loOf (a0 a1 : Int) (bits q h : Nat) : Int := if turn a0 a1 bits (q + 2) then -2 ^ bits else max (min (waveAt a0 bits q h).1 (waveAt a1 bits q h).1) (-2 ^ bits)
/-- a range that is not beyond 64, with its bits -/
structure Rg (a0 a1 : Int) (bits q h : Nat) : Prop where
  le : a0 ≤ a1
  b : bits ≤ 380
  b1 : 8 ≤ bits
  q : q ≤ 1
  n0 : ab (a0 : R) ≤ 64 * 2 ^ bits
  n1 : ab (a1 : R) ≤ 64 * 2 ^ bits
  h2 : 2 ≤ h
  hB : 2 * h ≤ bits + 59
  hw : bits + 2 * h + 80 ≤ 500
noncomputable def ph (q : Nat) (x : R) : R := C (x - q * hp)
section
variable {a0 a1 : Int} {bits q h : Nat}
theorem pow_cast (n : Nat) : ((2 ^ n : Int) : R) = 2 ^ n := cast_pow 2 n
theorem qc (q : Nat) : (((q : Nat) : Int) : R) = (q : R) := rfl
/-- a turn inside is found -/
theorem Rg.found (r : Rg a0 a1 bits q h) {k rest : Int} (hk : (k - rest) % 4 = 0) (h0 : (a0 : R) / 2 ^ bits ≤ k * hp) (h1 : k * hp ≤ (a1 : R) / 2 ^ bits) : turn a0 a1 bits rest := by
  have pb := two_pos bits
  have e0 : (a0 : R) / 2 ^ bits * 2 ^ bits = a0 := div_mul (by grind)
  have e1 : (a1 : R) / 2 ^ bits * 2 ^ bits = a1 := div_mul (by grind)
  have m0 := r.n0
  have m1 := r.n1
  generalize (a0 : R) / 2 ^ bits = x0 at *
  generalize (a1 : R) / 2 ^ bits = x1 at *
  rw [← e0, ab_mul, ab_pos (Std.le_of_lt pb)] at m0
  rw [← e1, ab_mul, ab_pos (Std.le_of_lt pb)] at m1
  have m0 : ab x0 ≤ 64 := div_le pb (by grind)
  have m1 : ab x1 ≤ 64 := div_le pb (by grind)
  have m0 := ab_le.mp m0
  have m1 := ab_le.mp m1
  have hpn := hp_near
  have kb : ab (k : R) ≤ 44 := by
    refine ab_le.mpr ⟨?_, ?_⟩
    · apply Classical.byContradiction
      intro c
      have := nn_mul (show 0 ≤ hp - 157 / 100 by grind) (show 0 ≤ -44 - (k : R) by grind)
      grind
    · apply Classical.byContradiction
      intro c
      have := nn_mul (show 0 ≤ hp - 157 / 100 by grind) (show 0 ≤ (k : R) - 44 by grind)
      grind
  have i0 := nn_mul (Std.le_of_lt pb) (show 0 ≤ k * hp - x0 by grind)
  have i1 := nn_mul (Std.le_of_lt pb) (show 0 ≤ x1 - k * hp by grind)
  have t := turn_in (bits := bits) (a0 := a0) (a1 := a1) (k := k) (by have := r.b; omega) kb (by rw [← e0]; grind) (by rw [← e1]; grind)
  exact turn_of hk t.1 t.2
theorem Rg.E0 (r : Rg a0 a1 bits q h) : Encl (2 ^ bits) (ph q ((a0 : R) / 2 ^ bits)) (waveAt a0 bits q h) := waveAt_ok r.b r.q r.n0 r.h2 r.hB r.hw
theorem Rg.E1 (r : Rg a0 a1 bits q h) : Encl (2 ^ bits) (ph q ((a1 : R) / 2 ^ bits)) (waveAt a1 bits q h) := waveAt_ok r.b r.q r.n1 r.h2 r.hB r.hw
theorem cast_min (a b : Int) : ((min a b : Int) : R) = a ∧ (a : R) ≤ b ∨ ((min a b : Int) : R) = b ∧ (b : R) ≤ a := by
  rcases (by omega : min a b = a ∧ a ≤ b ∨ min a b = b ∧ b ≤ a) with ⟨e, l⟩ | ⟨e, l⟩
  · rw [e]; exact .inl ⟨rfl, cast_le.mpr l⟩
  · rw [e]; exact .inr ⟨rfl, cast_le.mpr l⟩
theorem cast_max (a b : Int) : ((max a b : Int) : R) = b ∧ (a : R) ≤ b ∨ ((max a b : Int) : R) = a ∧ (b : R) ≤ a := by
  rcases (by omega : max a b = b ∧ a ≤ b ∨ max a b = a ∧ b ≤ a) with ⟨e, l⟩ | ⟨e, l⟩
  · rw [e]; exact .inl ⟨rfl, cast_le.mpr l⟩
  · rw [e]; exact .inr ⟨rfl, cast_le.mpr l⟩
/-- all values of the range lie in what is told -/
theorem Rg.inside (r : Rg a0 a1 bits q h) {x : R} (h0 : (a0 : R) / 2 ^ bits ≤ x) (h1 : x ≤ (a1 : R) / 2 ^ bits) : (loOf a0 a1 bits q h : R) ≤ 2 ^ bits * ph q x ∧ 2 ^ bits * ph q x ≤ (hiOf a0 a1 bits q h : R) := by
  have pb := two_pos bits
  have c1 := C_le1 (x - q * hp)
  have E0 := r.E0
  have E1 := r.E1
  constructor
  · unfold loOf
    split
    case isTrue t =>
      rw [cast_neg, pow_cast]
      unfold ph
      have := nn_mul (Std.le_of_lt pb) (show 0 ≤ C (x - q * hp) + 1 by grind)
      grind
    case isFalse t =>
      have k := C_no_foot (x := (a0 : R) / 2 ^ bits - q * hp) (y := x - q * hp) (z := (a1 : R) / 2 ^ bits - q * hp) (by grind) (by grind) fun m l1 l2 => t (by
        refine r.found (k := 4 * m + (q + 2)) (by omega) ?_ ?_
        · rw [cast_add, cast_mul, cast_add, qc]
          have e4 : ((4 : Int) : R) = 4 := rfl
          have e2 : ((2 : Int) : R) = 2 := rfl
          rw [e4, e2]
          grind
        · rw [cast_add, cast_mul, cast_add, qc]
          have e4 : ((4 : Int) : R) = 4 := rfl
          have e2 : ((2 : Int) : R) = 2 := rfl
          rw [e4, e2]
          grind)
      have m1 := cast_max (min (waveAt a0 bits q h).1 (waveAt a1 bits q h).1) (-2 ^ bits)
      have m2 := cast_min (waveAt a0 bits q h).1 (waveAt a1 bits q h).1
      rw [cast_neg, pow_cast] at m1
      have l0 := E0.lo
      have l1 := E1.lo
      unfold ph at *
      have := nn_mul (Std.le_of_lt pb) (show 0 ≤ C (x - q * hp) + 1 by grind)
      generalize C (x - q * hp) = c at *
      generalize C ((a0 : R) / 2 ^ bits - q * hp) = d0 at *
      generalize C ((a1 : R) / 2 ^ bits - q * hp) = d1 at *
      rcases k with k | k
      · have := nn_mul (Std.le_of_lt pb) (show 0 ≤ c - d0 by grind)
        grind
      · have := nn_mul (Std.le_of_lt pb) (show 0 ≤ c - d1 by grind)
        grind
  · unfold hiOf
    split
    case isTrue t =>
      rw [pow_cast]
      unfold ph
      have := nn_mul (Std.le_of_lt pb) (show 0 ≤ 1 - C (x - q * hp) by grind)
      grind
    case isFalse t =>
      have k := C_no_top (x := (a0 : R) / 2 ^ bits - q * hp) (y := x - q * hp) (z := (a1 : R) / 2 ^ bits - q * hp) (by grind) (by grind) fun m l1 l2 => t (by
        refine r.found (k := 4 * m + q) (by omega) ?_ ?_
        · rw [cast_add, cast_mul, qc]
          have e4 : ((4 : Int) : R) = 4 := rfl
          rw [e4]
          grind
        · rw [cast_add, cast_mul, qc]
          have e4 : ((4 : Int) : R) = 4 := rfl
          rw [e4]
          grind)
      have m1 := cast_min (max (waveAt a0 bits q h).2 (waveAt a1 bits q h).2) (2 ^ bits)
      have m2 := cast_max (waveAt a0 bits q h).2 (waveAt a1 bits q h).2
      rw [pow_cast] at m1
      have l0 := E0.hi
      have l1 := E1.hi
      unfold ph at *
      have := nn_mul (Std.le_of_lt pb) (show 0 ≤ 1 - C (x - q * hp) by grind)
      generalize C (x - q * hp) = c at *
      generalize C ((a0 : R) / 2 ^ bits - q * hp) = d0 at *
      generalize C ((a1 : R) / 2 ^ bits - q * hp) = d1 at *
      rcases k with k | k
      · have := nn_mul (Std.le_of_lt pb) (show 0 ≤ d0 - c by grind)
        grind
      · have := nn_mul (Std.le_of_lt pb) (show 0 ≤ d1 - c by grind)
        grind
/-- where the other side finds a turn -/
def Pl (a0 a1 : Int) (lpi k : Int) : Prop := -44 ≤ k ∧ k ≤ 44 ∧ a0 * 2 ^ 100 ≤ k * lpi / 2 ∧ k * lpi / 2 ≤ a1 * 2 ^ 100
theorem e100 : ((2 ^ 100 : Int) : R) = 1267650600228229401496703205376 := rfl
theorem pw100 (n : Nat) : (2 : R) ^ (n + 100) = 2 ^ n * 1267650600228229401496703205376 := by
  rw [pw_add]
  have : (2 : R) ^ 100 = 1267650600228229401496703205376 := by grind
  rw [this]
/-- the place of a turn -/
theorem place_near {lpi k : Int} {bits : Nat} (hl : ab ((lpi : R) - 2 ^ (bits + 100) * (2 * hp)) ≤ 2) (k1 : -44 ≤ k) (k2 : k ≤ 44) : ab (((k * lpi / 2 : Int) : R) - k * hp * (2 ^ bits * 1267650600228229401496703205376)) ≤ 45 := by
  have f := int_fl (k * lpi) (show (0 : Int) < 2 by decide)
  have e2 : ((2 : Int) : R) = 2 := rfl
  rw [e2, cast_mul] at f
  rw [pw100] at hl
  have kb : ab (k : R) ≤ 44 := ab_le.mpr ⟨cast_le (a := -44).mpr k1, cast_le (b := 44).mpr k2⟩
  have d : ab ((k : R) * ((lpi : R) - 2 ^ bits * 1267650600228229401496703205376 * (2 * hp))) ≤ 88 := by
    rw [ab_mul]
    have := mul_mono kb hl (ab_nn _) (by grind)
    grind
  have d := ab_le.mp d
  exact ab_le.mpr (by grind)
theorem Rg.pl_found (r : Rg a0 a1 bits q h) {lpi k rest : Int} (hl : ab ((lpi : R) - 2 ^ (bits + 100) * (2 * hp)) ≤ 2) (p : Pl a0 a1 lpi k) (hk : (k - rest) % 4 = 0) : turn a0 a1 bits rest := by
  obtain ⟨p1, p2, p3, p4⟩ := p
  have n := ab_le.mp (place_near (bits := bits) hl p1 p2)
  have kb : ab (k : R) ≤ 44 := ab_le.mpr ⟨cast_le (a := -44).mpr p1, cast_le (b := 44).mpr p2⟩
  have c3 := cast_le.mpr p3
  have c4 := cast_le.mpr p4
  rw [cast_mul, e100] at c3 c4
  have t := turn_in (bits := bits) (a0 := a0) (a1 := a1) (k := k) (by have := r.b; omega) kb (by grind) (by grind)
  exact turn_of hk t.1 t.2
/-- near a top the wave is near 1 -/
theorem near_top {bits : Nat} (hb : 8 ≤ bits) {x t : R} (h : ab (x - t) * (2 ^ bits * 4294967296) ≤ 88) : 2 ^ bits ≤ 2 ^ bits * C (x - t) + 1 / 10 := by
  have pb := two_pos bits
  have b1 : (256 : R) ≤ 2 ^ bits := by
    have : ((2 ^ 8 : Nat) : R) ≤ ((2 ^ bits : Nat) : R) := nat_le (Nat.pow_le_pow_right (by decide) hb)
    rw [nat_pow, nat_pow] at this
    have e8 : ((2 : Nat) : R) ^ 8 = 256 := by
      show (2 : R) ^ 8 = 256
      grind
    rw [e8] at this
    exact this
  have d0 := ab_nn (x - t)
  have c := C_ge d0
  have e : C (ab (x - t)) = C (x - t) := by
    rcases ab_cases (x - t) with ⟨_, k⟩ | ⟨_, k⟩
    · rw [k]
    · rw [k, C_neg]
  rw [e] at c
  generalize ab (x - t) = d at *
  generalize C (x - t) = y at *
  generalize (2 : R) ^ bits = B at *
  have s1 : d ≤ 1 := by
    apply Classical.byContradiction
    intro z
    have := mul_pos' (show 0 < d - 1 by grind) pb
    grind
  have s2 := nn_mul (nn_mul d0 (show 0 ≤ 1 - d by grind)) (Std.le_of_lt pb)
  have s3 := nn_mul (Std.le_of_lt pb) (show 0 ≤ y - (1 - d * d / 2) by grind)
  grind
/-- what is told is not far beyond the values, or a turn is found on both sides -/
theorem Rg.tight_hi (r : Rg a0 a1 bits q h) {lpi : Int} (hl : ab ((lpi : R) - 2 ^ (bits + 100) * (2 * hp)) ≤ 2) :
    ((hiOf a0 a1 bits q h : R) ≤ 2 ^ bits * ph q ((a0 : R) / 2 ^ bits) + 11 / 10 ∨ (hiOf a0 a1 bits q h : R) ≤ 2 ^ bits * ph q ((a1 : R) / 2 ^ bits) + 11 / 10) ∨ (hiOf a0 a1 bits q h = 2 ^ bits ∧ ∃ k : Int, (k - q) % 4 = 0 ∧ Pl a0 a1 lpi k) := by
  have pb := two_pos bits
  unfold hiOf
  split
  case isTrue t =>
    obtain ⟨k, kq, k1, k2⟩ := turn_some t
    obtain ⟨kb, n1, n2⟩ := turn_near (by have := r.b; omega) r.n0 r.n1 k1 k2
    have kb := ab_le.mp kb
    have p1 : -44 ≤ k := cast_le.mp (show (((-44 : Int)) : R) ≤ k from kb.1)
    have p2 : k ≤ 44 := cast_le.mp (show (k : R) ≤ ((44 : Int) : R) from kb.2)
    have n := ab_le.mp (place_near (bits := bits) hl p1 p2)
    have e0 : (a0 : R) / 2 ^ bits * 2 ^ bits = a0 := div_mul (by grind)
    have e1 : (a1 : R) / 2 ^ bits * 2 ^ bits = a1 := div_mul (by grind)
    rw [pow_cast]
    rcases Classical.em (a0 * 2 ^ 100 ≤ k * lpi / 2) with c0 | c0
    · rcases Classical.em (k * lpi / 2 ≤ a1 * 2 ^ 100) with c1 | c1
      · exact .inr ⟨rfl, k, kq, p1, p2, c0, c1⟩
      · refine .inl (.inr ?_)
        have c := cast_le.mpr (show a1 * 2 ^ 100 ≤ k * lpi / 2 by omega)
        rw [cast_mul, e100] at c
        have q1 := C_quarter ((a1 : R) / 2 ^ bits) k q kq
        rw [qc] at q1
        unfold ph
        rw [q1]
        have := near_top r.b1 (x := (a1 : R) / 2 ^ bits) (t := k * hp) (by
          generalize (a1 : R) / 2 ^ bits = x at *
          have s := ab_mul (x - k * hp) (2 ^ bits * 4294967296)
          rw [ab_pos (x := (2 : R) ^ bits * 4294967296) (by grind)] at s
          rw [← s]
          exact ab_le.mpr (by grind))
        grind
    · refine .inl (.inl ?_)
      have c := cast_le.mpr (show k * lpi / 2 ≤ a0 * 2 ^ 100 by omega)
      rw [cast_mul, e100] at c
      have q1 := C_quarter ((a0 : R) / 2 ^ bits) k q kq
      rw [qc] at q1
      unfold ph
      rw [q1]
      have := near_top r.b1 (x := (a0 : R) / 2 ^ bits) (t := k * hp) (by
        generalize (a0 : R) / 2 ^ bits = x at *
        have s := ab_mul (x - k * hp) (2 ^ bits * 4294967296)
        rw [ab_pos (x := (2 : R) ^ bits * 4294967296) (by grind)] at s
        rw [← s]
        exact ab_le.mpr (by grind))
      grind
  case isFalse t =>
    refine .inl ?_
    have m1 := cast_min (max (waveAt a0 bits q h).2 (waveAt a1 bits q h).2) (2 ^ bits)
    have m2 := cast_max (waveAt a0 bits q h).2 (waveAt a1 bits q h).2
    have l0 := r.E0.hi2
    have l1 := r.E1.hi2
    rcases m2 with ⟨e, _⟩ | ⟨e, _⟩
    · exact .inr (by grind)
    · exact .inl (by grind)
theorem Rg.tight_lo (r : Rg a0 a1 bits q h) {lpi : Int} (hl : ab ((lpi : R) - 2 ^ (bits + 100) * (2 * hp)) ≤ 2) :
    (2 ^ bits * ph q ((a0 : R) / 2 ^ bits) ≤ (loOf a0 a1 bits q h : R) + 11 / 10 ∨ 2 ^ bits * ph q ((a1 : R) / 2 ^ bits) ≤ (loOf a0 a1 bits q h : R) + 11 / 10) ∨ (loOf a0 a1 bits q h = -2 ^ bits ∧ ∃ k : Int, (k - q) % 4 = 2 ∧ Pl a0 a1 lpi k) := by
  have pb := two_pos bits
  unfold loOf
  split
  case isTrue t =>
    obtain ⟨k, kq, k1, k2⟩ := turn_some t
    obtain ⟨kb, n1, n2⟩ := turn_near (by have := r.b; omega) r.n0 r.n1 k1 k2
    have kb := ab_le.mp kb
    have p1 : -44 ≤ k := cast_le.mp (show (((-44 : Int)) : R) ≤ k from kb.1)
    have p2 : k ≤ 44 := cast_le.mp (show (k : R) ≤ ((44 : Int) : R) from kb.2)
    have n := ab_le.mp (place_near (bits := bits) hl p1 p2)
    have e0 : (a0 : R) / 2 ^ bits * 2 ^ bits = a0 := div_mul (by grind)
    have e1 : (a1 : R) / 2 ^ bits * 2 ^ bits = a1 := div_mul (by grind)
    rw [cast_neg, pow_cast]
    rcases Classical.em (a0 * 2 ^ 100 ≤ k * lpi / 2) with c0 | c0
    · rcases Classical.em (k * lpi / 2 ≤ a1 * 2 ^ 100) with c1 | c1
      · exact .inr ⟨rfl, k, by omega, p1, p2, c0, c1⟩
      · refine .inl (.inr ?_)
        have c := cast_le.mpr (show a1 * 2 ^ 100 ≤ k * lpi / 2 by omega)
        rw [cast_mul, e100] at c
        have q1 := C_half ((a1 : R) / 2 ^ bits) k q (by omega)
        rw [qc] at q1
        unfold ph
        rw [q1]
        have := near_top r.b1 (x := (a1 : R) / 2 ^ bits) (t := k * hp) (by
          generalize (a1 : R) / 2 ^ bits = x at *
          have s := ab_mul (x - k * hp) (2 ^ bits * 4294967296)
          rw [ab_pos (x := (2 : R) ^ bits * 4294967296) (by grind)] at s
          rw [← s]
          exact ab_le.mpr (by grind))
        grind
    · refine .inl (.inl ?_)
      have c := cast_le.mpr (show k * lpi / 2 ≤ a0 * 2 ^ 100 by omega)
      rw [cast_mul, e100] at c
      have q1 := C_half ((a0 : R) / 2 ^ bits) k q (by omega)
      rw [qc] at q1
      unfold ph
      rw [q1]
      have := near_top r.b1 (x := (a0 : R) / 2 ^ bits) (t := k * hp) (by
        generalize (a0 : R) / 2 ^ bits = x at *
        have s := ab_mul (x - k * hp) (2 ^ bits * 4294967296)
        rw [ab_pos (x := (2 : R) ^ bits * 4294967296) (by grind)] at s
        rw [← s]
        exact ab_le.mpr (by grind))
      grind
  case isFalse t =>
    refine .inl ?_
    have m1 := cast_max (min (waveAt a0 bits q h).1 (waveAt a1 bits q h).1) (-2 ^ bits)
    have m2 := cast_min (waveAt a0 bits q h).1 (waveAt a1 bits q h).1
    have l0 := r.E0.lo2
    have l1 := r.E1.lo2
    rcases m2 with ⟨e, _⟩ | ⟨e, _⟩
    · exact .inl (by grind)
    · exact .inr (by grind)
/-- the values of the other side: near to the wave's, or tops and feet -/
structure Vs (a0 a1 : Int) (bits q : Nat) (lpi : Int) (f : R → R) (VS : List Int) : Prop where
  each : ∀ v ∈ VS, (∃ x, (a0 : R) / 2 ^ bits ≤ x ∧ x ≤ (a1 : R) / 2 ^ bits ∧ ab ((v : R) - 2 ^ (bits + 100) * f x) ≤ 5) ∨ (∃ k : Int, Pl a0 a1 lpi k ∧ (k - q) % 4 = 0 ∧ v = 2 ^ (bits + 100)) ∨ (∃ k : Int, Pl a0 a1 lpi k ∧ (k - q) % 4 = 2 ∧ v = -2 ^ (bits + 100))
  v0 : ∃ v, v ∈ VS ∧ ab ((v : R) - 2 ^ (bits + 100) * f ((a0 : R) / 2 ^ bits)) ≤ 5
  v1 : ∃ v, v ∈ VS ∧ ab ((v : R) - 2 ^ (bits + 100) * f ((a1 : R) / 2 ^ bits)) ≤ 5
  tops : ∀ k : Int, Pl a0 a1 lpi k → (k - q) % 4 = 0 → 2 ^ (bits + 100) ∈ VS
  feet : ∀ k : Int, Pl a0 a1 lpi k → (k - q) % 4 = 2 → -2 ^ (bits + 100) ∈ VS
/-- what the other side asks -/
def Good (lo hi : Int) (mn mx : Int) : Prop := lo * 2 ^ 100 ≤ mn + 2 ^ 40 ∧ mx - 2 ^ 40 ≤ hi * 2 ^ 100 ∧ hi - lo ≤ mx / 2 ^ 100 - mn / 2 ^ 100 + 7
theorem e40 : ((2 ^ 40 : Int) : R) = 1099511627776 := rfl
theorem Rg.good (r : Rg a0 a1 bits q h) {lpi : Int} (hl : ab ((lpi : R) - 2 ^ (bits + 100) * (2 * hp)) ≤ 2) {VS : List Int} (vs : Vs a0 a1 bits q lpi (ph q) VS) {mn mx : Int} (m1 : mn ∈ VS) (m2 : mx ∈ VS) (l1 : ∀ v ∈ VS, mn ≤ v) (l2 : ∀ v ∈ VS, v ≤ mx) :
    Good (loOf a0 a1 bits q h) (hiOf a0 a1 bits q h) mn mx := by
  have pb := two_pos bits
  have hx : (a0 : R) / 2 ^ bits ≤ (a1 : R) / 2 ^ bits := by
    have e0 : (a0 : R) / 2 ^ bits * 2 ^ bits = a0 := div_mul (by grind)
    have e1 : (a1 : R) / 2 ^ bits * 2 ^ bits = a1 := div_mul (by grind)
    have := cast_le.mpr r.le
    exact div_le pb (by grind)
  have in0 := r.inside (Std.le_refl _) hx
  have e : ∀ y : R, 2 ^ (bits + 100) * y = 1267650600228229401496703205376 * (2 ^ bits * y) := fun y => by rw [pw100]; grind
  have lohi : (loOf a0 a1 bits q h : R) ≤ 2 ^ bits ∧ -(2 : R) ^ bits ≤ loOf a0 a1 bits q h ∧ (hiOf a0 a1 bits q h : R) ≤ 2 ^ bits ∧ -(2 : R) ^ bits ≤ hiOf a0 a1 bits q h := by
    have c1 := C_le1 ((a0 : R) / 2 ^ bits - q * hp)
    have k1 := nn_mul (Std.le_of_lt pb) (show 0 ≤ 1 - C ((a0 : R) / 2 ^ bits - q * hp) by grind)
    have k2 := nn_mul (Std.le_of_lt pb) (show 0 ≤ C ((a0 : R) / 2 ^ bits - q * hp) + 1 by grind)
    unfold ph at in0
    refine ⟨by grind, ?_, ?_, by grind⟩
    · unfold loOf
      split
      · rw [cast_neg, pow_cast]; exact Std.le_refl _
      · have m := cast_max (min (waveAt a0 bits q h).1 (waveAt a1 bits q h).1) (-2 ^ bits)
        rw [cast_neg, pow_cast] at m
        grind
    · unfold hiOf
      split
      · rw [pow_cast]; exact Std.le_refl _
      · have m := cast_min (max (waveAt a0 bits q h).2 (waveAt a1 bits q h).2) (2 ^ bits)
        rw [pow_cast] at m
        grind
  refine ⟨?_, ?_, ?_⟩
  · apply cast_le.mp
    rw [cast_mul, cast_add, e100, e40]
    rcases vs.each mn m1 with ⟨x, h0, h1, n⟩ | ⟨k, p, kq, ev⟩ | ⟨k, p, kq, ev⟩
    · have i := (r.inside h0 h1).1
      rw [e] at n
      have n := ab_le.mp n
      grind
    · have c := lohi.1
      rw [ev, pow_cast, pw100]
      grind
    · have t := r.pl_found hl p (rest := q + 2) (by omega)
      have el : loOf a0 a1 bits q h = -2 ^ bits := by unfold loOf; rw [if_pos t]
      rw [el, ev, cast_neg, cast_neg, pow_cast, pow_cast, pw100]
      grind
  · apply cast_le.mp
    rw [cast_mul, cast_sub, e100, e40]
    rcases vs.each mx m2 with ⟨x, h0, h1, n⟩ | ⟨k, p, kq, ev⟩ | ⟨k, p, kq, ev⟩
    · have i := (r.inside h0 h1).2
      rw [e] at n
      have n := ab_le.mp n
      grind
    · have t := r.pl_found hl p (rest := q) (by omega)
      have el : hiOf a0 a1 bits q h = 2 ^ bits := by unfold hiOf; rw [if_pos t]
      rw [el, ev, pow_cast, pow_cast, pw100]
      grind
    · have c := lohi.2.2.2
      rw [ev, cast_neg, pow_cast, pw100]
      grind
  · have f1 := int_fl mx (show (0 : Int) < 2 ^ 100 from Int.pow_pos (by decide))
    have f2 := int_fl mn (show (0 : Int) < 2 ^ 100 from Int.pow_pos (by decide))
    rw [e100] at f1 f2
    have up : (hiOf a0 a1 bits q h : R) ≤ ((mx / 2 ^ 100 : Int) : R) + 11 / 5 := by
      rcases r.tight_hi hl with (t | t) | ⟨eh, k, kq, p⟩
      · obtain ⟨v, hv, n⟩ := vs.v0
        have := cast_le.mpr (l2 v hv)
        rw [e] at n
        have n := ab_le.mp n
        grind
      · obtain ⟨v, hv, n⟩ := vs.v1
        have := cast_le.mpr (l2 v hv)
        rw [e] at n
        have n := ab_le.mp n
        grind
      · have := cast_le.mpr (l2 _ (vs.tops k p kq))
        rw [pow_cast, pw100] at this
        rw [eh, pow_cast]
        grind
    have dn : ((mn / 2 ^ 100 : Int) : R) ≤ (loOf a0 a1 bits q h : R) + 11 / 5 := by
      rcases r.tight_lo hl with (t | t) | ⟨eh, k, kq, p⟩
      · obtain ⟨v, hv, n⟩ := vs.v0
        have := cast_le.mpr (l1 v hv)
        rw [e] at n
        have n := ab_le.mp n
        grind
      · obtain ⟨v, hv, n⟩ := vs.v1
        have := cast_le.mpr (l1 v hv)
        rw [e] at n
        have n := ab_le.mp n
        grind
      · have := cast_le.mpr (l1 _ (vs.feet k p kq))
        rw [cast_neg, pow_cast, pw100] at this
        rw [eh, cast_neg, pow_cast]
        grind
    apply cast_le.mp
    rw [cast_sub, cast_add, cast_sub]
    have e7 : ((7 : Int) : R) = 7 := rfl
    rw [e7]
    grind
end
end Re.R

/-! Own: exp with floors, by its row and squarings; no program in it. -/
namespace Re.R
def et (t w : Nat) : Nat → Nat
  | 0 => 2 ^ w
  | k + 1 => et t w k * t / 2 ^ w / (k + 1)
def esum (t w : Nat) : Nat → Nat
  | 0 => 0
  | k + 1 => esum t w k + et t w k
theorem ey_nn {y : R} (h : 0 ≤ y) (k : Nat) : 0 ≤ fi k * y ^ k := nn_mul (Std.le_of_lt (fi_pos k)) (pw_nn h k)
theorem ey_succ (y : R) (k : Nat) : fi (k + 1) * y ^ (k + 1) * ((k : R) + 1) = fi k * y ^ k * y := by
  rw [← fi_succ k, pw_succ]
  grind
theorem ey_le {y : R} (h : 0 ≤ y) (h1 : y ≤ 1) : ∀ k, fi k * y ^ k ≤ 1
  | 0 => by
    rw [pw_zero]
    show (1 : R) * 1 ≤ 1
    grind
  | k + 1 => by
    have ih := ey_le h h1 k
    have e := ey_succ y k
    have n0 := ey_nn h (k + 1)
    have n1 := ey_nn h k
    have k0 := nat_nn k
    generalize fi (k + 1) * y ^ (k + 1) = a at *
    generalize fi k * y ^ k = b at *
    have := nn_mul n0 k0
    have := nn_mul n1 (show 0 ≤ 1 - y by grind)
    grind
theorem et_near {t w : Nat} {y : R} (h : 0 ≤ y) (h1 : y ≤ 1) (ht : (t : R) = 2 ^ w * y) : ∀ k, (et t w k : R) ≤ 2 ^ w * (fi k * y ^ k) ∧ 2 ^ w * (fi k * y ^ k) ≤ (et t w k : R) + 3 ∧ (k = 0 → 2 ^ w * (fi k * y ^ k) = (et t w k : R))
  | 0 => by
    have e : (et t w 0 : R) = 2 ^ w := nat_pow 2 w
    have e1 : 2 ^ w * (fi 0 * y ^ 0) = 2 ^ w := by
      rw [pw_zero]
      show (2 : R) ^ w * (1 * 1) = 2 ^ w
      grind
    rw [e, e1]
    exact ⟨by grind, by grind, fun _ => rfl⟩
  | k + 1 => by
    obtain ⟨i1, i2, i3⟩ := et_near h h1 ht k
    have n1 := ey_nn h k
    have c1 := ey_le h h1 k
    have f1 := nat_fl (et t w k * t) (show 0 < 2 ^ w from Nat.pow_pos (by decide))
    have f2 := nat_fl (et t w k * t / 2 ^ w) (show 0 < k + 1 by omega)
    rw [nat_pow, nat_mul, ht] at f1
    have e2 : ((2 : Nat) : R) = 2 := rfl
    rw [e2] at f1
    rw [nat_succ] at f2
    have e := ey_succ y k
    have pW := two_pos w
    have t0 := nat_nn (et t w k)
    have k0 := nat_nn k
    refine ⟨?_, ?_, fun c => by omega⟩
    all_goals show _ ≤ _
    · show ((et t w k * t / 2 ^ w / (k + 1) : Nat) : R) ≤ _
      generalize ((et t w k * t / 2 ^ w / (k + 1) : Nat) : R) = t' at *
      generalize ((et t w k * t / 2 ^ w : Nat) : R) = r at *
      generalize fi (k + 1) * y ^ (k + 1) = c' at *
      generalize fi k * y ^ k = c at *
      generalize (et t w k : R) = a at *
      generalize (2 : R) ^ w = W at *
      have r1 : r ≤ a * y := div_le pW (by grind)
      have k2 := nn_mul h (show 0 ≤ W * c - a by grind)
      have k1 : ((k : R) + 1) * (W * c') = W * c * y := by
        have : ((k : R) + 1) * (W * c') = W * (c' * ((k : R) + 1)) := by grind
        rw [this, e]
        grind
      exact div_le (show 0 < (k : R) + 1 by grind) (by grind)
    · show _ ≤ ((et t w k * t / 2 ^ w / (k + 1) : Nat) : R) + 3
      have kk : k = 0 ∨ 1 ≤ k := by omega
      have kk : 2 ^ w * (fi k * y ^ k) = (et t w k : R) ∨ (1 : R) ≤ k := by
        rcases kk with z | z
        · exact .inl (i3 z)
        · exact .inr (nat_le (m := 1) z)
      generalize ((et t w k * t / 2 ^ w / (k + 1) : Nat) : R) = t' at *
      generalize ((et t w k * t / 2 ^ w : Nat) : R) = r at *
      generalize fi (k + 1) * y ^ (k + 1) = c' at *
      generalize fi k * y ^ k = c at *
      generalize (et t w k : R) = a at *
      generalize (2 : R) ^ w = W at *
      have r2 : a * y ≤ r + 1 := div_le pW (by grind)
      have k1 : ((k : R) + 1) * (W * c') = W * c * y := by
        have : ((k : R) + 1) * (W * c') = W * (c' * ((k : R) + 1)) := by grind
        rw [this, e]
        grind
      apply div_le (show 0 < (k : R) + 1 by grind)
      rcases kk with z | z
      · rw [k1, z]
        grind
      · have k2 := nn_mul h (show 0 ≤ a + 3 - W * c by grind)
        grind
theorem esum_near {t w : Nat} {y : R} (h : 0 ≤ y) (h1 : y ≤ 1) (ht : (t : R) = 2 ^ w * y) : ∀ n : Nat, (esum t w n : R) ≤ 2 ^ w * sm (fun k => cf one k * y ^ k) n ∧ 2 ^ w * sm (fun k => cf one k * y ^ k) n ≤ (esum t w n : R) + 3 * n
  | 0 => by
    have z : ((0 : Nat) : R) = 0 := rfl
    show ((0 : Nat) : R) ≤ 2 ^ w * 0 ∧ 2 ^ w * 0 ≤ ((0 : Nat) : R) + 3 * ((0 : Nat) : R)
    rw [z]
    constructor <;> grind
  | n + 1 => by
    have ih := esum_near h h1 ht n
    obtain ⟨i1, i2, _⟩ := et_near h h1 ht n
    show ((esum t w n + et t w n : Nat) : R) ≤ 2 ^ w * (sm (fun k => cf one k * y ^ k) n + cf one n * y ^ n) ∧ 2 ^ w * (sm (fun k => cf one k * y ^ k) n + cf one n * y ^ n) ≤ ((esum t w n + et t w n : Nat) : R) + 3 * ((n + 1 : Nat) : R)
    rw [nat_add, nat_succ]
    have e : cf one n * y ^ n = fi n * y ^ n := by
      show 1 * fi n * y ^ n = _
      grind
    rw [e]
    constructor <;> grind
theorem E_ge1 {y : R} (h : 0 ≤ y) : 1 ≤ E y := by
  have := E_mono h
  rw [E0] at this
  exact this
/-- the row of exp: not above, and not far below -/
theorem esum_E {t w : Nat} {y : R} (h : 0 ≤ y) (h1 : y ≤ 1) (ht : (t : R) = 2 ^ w * y) {n : Nat} (hn : 1 ≤ n) (hz : et t w n = 0) : (esum t w n : R) ≤ 2 ^ w * E y ∧ 2 ^ w * E y ≤ (esum t w n : R) + (3 * n + 6) := by
  have a := esum_near h h1 ht n
  have b := (et_near h h1 ht n).2.1
  rw [hz] at b
  have z : ((0 : Nat) : R) = 0 := rfl
  rw [z] at b
  have n1 : (1 : R) ≤ n := nat_le (m := 1) hn
  have r := F_rest one_sg (x := y) (T := y) (by rw [ab_pos h]; grind) (n := n) (by grind)
  have pW := two_pos w
  have r : ab (E y - sm (fun k => cf one k * y ^ k) n) ≤ 2 * (fi n * y ^ n) := r
  -- the sums do not fall
  have up : sm (fun k => cf one k * y ^ k) n ≤ E y := (F_to one_sg y).ge (N := n) fun m hm => by
    have mono : ∀ j, sm (fun k => cf one k * y ^ k) n ≤ sm (fun k => cf one k * y ^ k) (n + j) := fun j => by
      induction j with
      | zero => exact Std.le_refl _
      | succ j ih =>
        show _ ≤ sm (fun k => cf one k * y ^ k) (n + j) + cf one (n + j) * y ^ (n + j)
        have e : cf one (n + j) * y ^ (n + j) = fi (n + j) * y ^ (n + j) := by
          show 1 * fi (n + j) * y ^ (n + j) = _
          grind
        rw [e]
        have := ey_nn h (n + j)
        grind
    have := mono (m - n)
    rw [show n + (m - n) = m by omega] at this
    exact this
  have r := ab_le.mp r
  generalize sm (fun k => cf one k * y ^ k) n = Z at *
  generalize fi n * y ^ n = c at *
  generalize E y = x at *
  generalize (2 : R) ^ w = W at *
  have := nn_mul (Std.le_of_lt pW) (show 0 ≤ x - Z by grind)
  have := nn_mul (Std.le_of_lt pW) (show 0 ≤ Z + 2 * c - x by grind)
  constructor <;> grind
theorem et_small {t w : Nat} (ht : t ≤ 2 ^ w) : ∀ j, et t w (j + 1) * 2 ^ j ≤ 2 ^ w
  | 0 => by
    show 2 ^ w * t / 2 ^ w / 1 * 1 ≤ _
    rw [Nat.mul_div_cancel_left _ (Nat.pow_pos (by decide)), Nat.div_one, Nat.mul_one]
    exact ht
  | j + 1 => by
    have ih := et_small ht j
    have h1 : et t w (j + 1) * t / 2 ^ w ≤ et t w (j + 1) := by
      refine Nat.div_le_of_le_mul ?_
      rw [Nat.mul_comm]
      exact Nat.mul_le_mul_right _ ht
    have h2 : et t w (j + 1 + 1) ≤ et t w (j + 1) / 2 := by
      show et t w (j + 1) * t / 2 ^ w / (j + 1 + 1) ≤ _
      exact Nat.le_trans (Nat.div_le_div_left (by omega) (by decide)) (Nat.div_le_div_right h1)
    have e : et t w (j + 1 + 1) * 2 ^ (j + 1) = (et t w (j + 1 + 1) * 2) * 2 ^ j := by rw [Nat.pow_succ]; grind
    rw [e]
    exact Nat.le_trans (Nat.mul_le_mul_right _ (by omega)) ih
theorem et_zero {t w : Nat} (ht : t ≤ 2 ^ w) {j : Nat} (hj : w < j) : et t w (j + 1) = 0 := by
  have := et_small ht j
  have p : 2 ^ w < 2 ^ j := Nat.pow_lt_pow_right (by decide) hj
  rcases Nat.eq_zero_or_pos (et t w (j + 1)) with z | z
  · exact z
  · have := Nat.mul_le_mul_right (2 ^ j) z
    omega
theorem et_stays {t w j : Nat} (h : et t w j = 0) : ∀ i, et t w (j + i) = 0
  | 0 => h
  | i + 1 => by
    show et t w (j + i) * t / 2 ^ w / _ = 0
    rw [et_stays h i, Nat.zero_mul, Nat.zero_div, Nat.zero_div]
theorem esum_stays {t w j : Nat} (h : et t w j = 0) : ∀ i, esum t w (j + i) = esum t w j
  | 0 => rfl
  | i + 1 => by
    show esum t w (j + i) + et t w (j + i) = _
    rw [et_stays h i, esum_stays h i]
    rfl
/-- squarings -/
def sqs (w : Nat) : Nat → Nat → Nat
  | 0, v => v
  | i + 1, v => sqs w i (v * v / 2 ^ w)
theorem sqs_near {w : Nat} : ∀ (h : Nat) {v : Nat} {y c : R}, 0 ≤ y → 1 ≤ c → (v : R) ≤ 2 ^ w * E y → 2 ^ w * E y + E y ≤ (v : R) + E y * c → (sqs w h v : R) ≤ 2 ^ w * E (2 ^ h * y) ∧ 2 ^ w * E (2 ^ h * y) + E (2 ^ h * y) ≤ (sqs w h v : R) + E (2 ^ h * y) * (2 ^ h * c)
  | 0, v, y, c, h0, h1, h2, h3 => by
    show (v : R) ≤ 2 ^ w * E (2 ^ 0 * y) ∧ 2 ^ w * E (2 ^ 0 * y) + E (2 ^ 0 * y) ≤ (v : R) + E (2 ^ 0 * y) * (2 ^ 0 * c)
    rw [pw_zero]
    have e1 : (1 : R) * y = y := by grind
    have e2 : (1 : R) * c = c := by grind
    rw [e1, e2]
    exact ⟨h2, h3⟩
  | h + 1, v, y, c, h0, h1, h2, h3 => by
    have pW := two_pos w
    have fl := nat_fl (v * v) (show 0 < 2 ^ w from Nat.pow_pos (by decide))
    rw [nat_pow, nat_mul] at fl
    have e2 : ((2 : Nat) : R) = 2 := rfl
    rw [e2] at fl
    have x1 := E_ge1 h0
    have ea := E_add y y
    have v0 := nat_nn v
    have r := sqs_near (w := w) h (v := v * v / 2 ^ w) (y := y + y) (c := 2 * c) (by grind) (by grind) (by
      rw [ea]
      apply div_le pW
      have := mul_mono h2 h2 v0 (by have := nn_mul (Std.le_of_lt pW) (show 0 ≤ E y by grind); grind)
      generalize E y = x at *
      generalize (2 : R) ^ w = W at *
      grind) (by
      rw [ea]
      apply div_le pW
      generalize E y = x at *
      generalize (2 : R) ^ w = W at *
      generalize ((v * v / 2 ^ w : Nat) : R) = q at *
      generalize (v : R) = v at *
      -- d = W x - v ≤ x (c - 1)
      have p1 := nn_mul (nn_mul (Std.le_of_lt pW) (show 0 ≤ x by grind)) (show 0 ≤ v + x * c - W * x - x by grind)
      have p2 := sq_nn (W * x - v)
      have p3 := nn_mul (Std.le_of_lt pW) (show 0 ≤ x * x - 1 by have := nn_mul (show 0 ≤ x - 1 by grind) (show 0 ≤ x + 1 by grind); grind)
      grind)
    show (sqs w h (v * v / 2 ^ w) : R) ≤ 2 ^ w * E (2 ^ (h + 1) * y) ∧ 2 ^ w * E (2 ^ (h + 1) * y) + E (2 ^ (h + 1) * y) ≤ (sqs w h (v * v / 2 ^ w) : R) + E (2 ^ (h + 1) * y) * (2 ^ (h + 1) * c)
    rw [pw_succ]
    have e3 : (2 : R) ^ h * 2 * y = 2 ^ h * (y + y) := by grind
    have e4 : (2 : R) ^ h * 2 * c = 2 ^ h * (2 * c) := by grind
    rw [e3, e4]
    exact r
end Re.R

/-! Own: exp of any small number with floors; no program in it. -/
namespace Re.R
def expT (size bits g sq : Nat) : Nat := sqs (bits + 64 + g + sq) sq (esum (size * 2 ^ (g + 64)) (bits + 64 + g + sq) (bits + 66 + g + sq))
def expScaled (n : Int) (bits g sq : Nat) : Int :=
  if n < 0 then near ((2 ^ (2 * (bits + 64 + g + sq)) / expT n.natAbs bits g sq : Nat) : Int) (g + sq + 32)
  else near ((expT n.natAbs bits g sq : Nat) : Int) (g + sq + 32)
theorem expT_near {size bits g sq : Nat} (hs : size ≤ 2 ^ (bits + sq)) (hw : bits + 64 + g + sq ≤ 670) :
    (expT size bits g sq : R) ≤ 2 ^ (bits + 64 + g + sq) * E ((size : R) / 2 ^ bits) ∧ 2 ^ (bits + 64 + g + sq) * E ((size : R) / 2 ^ bits) ≤ (expT size bits g sq : R) + E ((size : R) / 2 ^ bits) * (2 ^ sq * 2048) := by
  have pb := two_pos bits
  have ps := two_pos sq
  have yq : (size : R) / (2 ^ bits * 2 ^ sq) * (2 ^ bits * 2 ^ sq) = size := div_mul (by have := mul_pos' pb ps; grind)
  have y0 : 0 ≤ (size : R) / (2 ^ bits * 2 ^ sq) := nn_mul (nat_nn size) (Std.le_of_lt (inv_pos (mul_pos' pb ps)))
  have yh : (size : R) / 2 ^ bits = 2 ^ sq * ((size : R) / (2 ^ bits * 2 ^ sq)) := by
    have : (size : R) / 2 ^ bits * 2 ^ bits = size := div_mul (by grind)
    generalize (size : R) / 2 ^ bits = a at *
    generalize (size : R) / (2 ^ bits * 2 ^ sq) = y at *
    have k1 : a ≤ 2 ^ sq * y := div_le pb (by grind)
    have k2 : 2 ^ sq * y ≤ a := div_le pb (by grind)
    grind
  rw [yh]
  generalize (size : R) / (2 ^ bits * 2 ^ sq) = y at *
  have e2 : ((2 : Nat) : R) = 2 := rfl
  have y1 : y ≤ 1 := by
    apply div_le (mul_pos' pb ps)
    have := nat_le hs
    rw [nat_pow, e2, pw_add] at this
    grind
  have ew : bits + 64 + g + sq = bits + sq + (g + 64) := by omega
  have ht : ((size * 2 ^ (g + 64) : Nat) : R) = 2 ^ (bits + 64 + g + sq) * y := by
    rw [nat_mul, nat_pow, e2, ew, pw_add 2 (bits + sq), pw_add 2 bits sq]
    grind
  have tle : size * 2 ^ (g + 64) ≤ 2 ^ (bits + 64 + g + sq) := by
    rw [ew, Nat.pow_add 2 (bits + sq)]
    exact Nat.mul_le_mul_right _ hs
  have z := et_zero tle (j := bits + 65 + g + sq) (by omega)
  have z : et (size * 2 ^ (g + 64)) (bits + 64 + g + sq) (bits + 66 + g + sq) = 0 := by
    rw [show bits + 66 + g + sq = bits + 65 + g + sq + 1 by omega]
    exact z
  have s := esum_E y0 y1 ht (n := bits + 66 + g + sq) (by omega) z
  have ce : (3 : R) * ((bits + 66 + g + sq : Nat) : R) + 6 ≤ 2047 := by
    have : ((bits + 66 + g + sq : Nat) : R) ≤ ((672 : Nat) : R) := nat_le (by omega)
    have e : ((672 : Nat) : R) = 672 := rfl
    rw [e] at this
    grind
  have x1 := E_ge1 y0
  have r := sqs_near sq y0 (c := 2048) (by grind) s.1 (by
    generalize (esum (size * 2 ^ (g + 64)) (bits + 64 + g + sq) (bits + 66 + g + sq) : R) = q at *
    generalize (2 : R) ^ (bits + 64 + g + sq) = W at *
    generalize E y = x at *
    grind)
  rw [show sqs (bits + 64 + g + sq) sq (esum (size * 2 ^ (g + 64)) (bits + 64 + g + sq) (bits + 66 + g + sq)) = expT size bits g sq from rfl] at r
  have := E_pos (2 ^ sq * y)
  exact ⟨r.1, by grind⟩
theorem expScaled_pos {n : Int} {bits g sq : Nat} (hn : 0 ≤ n) (hs : n.natAbs ≤ 2 ^ (bits + sq)) (hw : bits + 64 + g + sq ≤ 670) (hg : E ((n : R) / 2 ^ bits) ≤ 2 ^ g) :
    ab ((expScaled n bits g sq : R) - 2 ^ (bits + 32) * E ((n : R) / 2 ^ bits)) ≤ 51 / 100 := by
  have t := expT_near hs hw
  have en : ((n.natAbs : Nat) : R) = (n : R) := by
    rw [← cast_nat]
    congr 1
    omega
  rw [en] at t
  have nr := near_R ((expT n.natAbs bits g sq : Nat) : Int) (b := g + sq + 32) (by omega)
  rw [show near ((expT n.natAbs bits g sq : Nat) : Int) (g + sq + 32) = expScaled n bits g sq from by unfold expScaled; rw [if_neg (by omega)]] at nr
  rw [cast_nat] at nr
  have x0 := E_pos ((n : R) / 2 ^ bits)
  have ew : bits + 64 + g + sq = bits + 32 + (g + sq + 32) := by omega
  rw [ew, pw_add 2 (bits + 32)] at t
  have eg : (2 : R) ^ (g + sq + 32) = 2 ^ g * 2 ^ sq * 4294967296 := by
    rw [pw_add, pw_add]
    have : (2 : R) ^ 32 = 4294967296 := by grind
    rw [this]
  rw [eg] at t nr
  have pg := two_pos g
  have ps := two_pos sq
  have pgs := mul_pos' pg ps
  have k := nn_mul (Std.le_of_lt ps) (show 0 ≤ 2 ^ g - E ((n : R) / 2 ^ bits) by grind)
  generalize (expScaled n bits g sq : R) = r at *
  generalize (expT n.natAbs bits g sq : R) = T at *
  generalize E ((n : R) / 2 ^ bits) = x at *
  generalize (2 : R) ^ (bits + 32) = B at *
  generalize hH : (2 : R) ^ g * 2 ^ sq = H at *
  have k : x * 2 ^ sq ≤ H := by grind
  generalize (2 : R) ^ sq = Q at *
  have nr := ab_cases (H * 4294967296 * r - T)
  refine ab_le.mpr ⟨?_, ?_⟩
  · apply div_le (mul_pos' pgs (show (0 : R) < 4294967296 by grind))
    grind
  · apply div_le (mul_pos' pgs (show (0 : R) < 4294967296 by grind))
    grind
theorem expScaled_neg {n : Int} {bits g sq : Nat} (hn : n < 0) (hs : n.natAbs ≤ 2 ^ (bits + sq)) (hw : bits + 64 + g + sq ≤ 670) :
    ab ((expScaled n bits g sq : R) - 2 ^ (bits + 32) * E ((n : R) / 2 ^ bits)) ≤ 51 / 100 := by
  have t := expT_near hs hw
  have en : ((n.natAbs : Nat) : R) = -(n : R) := by
    rw [← cast_nat, ← cast_neg]
    congr 1
    omega
  have en2 : ((n.natAbs : Nat) : R) / 2 ^ bits = -((n : R) / 2 ^ bits) := by
    rw [en]
    show -(n : R) * _ = -((n : R) * _)
    grind
  rw [en2] at t
  have x1 : 1 ≤ E (-((n : R) / 2 ^ bits)) := E_ge1 (by
    rw [← en2]
    exact nn_mul (nat_nn _) (Std.le_of_lt (inv_pos (two_pos bits))))
  have inv := E_neg ((n : R) / 2 ^ bits)
  have f0 := E_pos ((n : R) / 2 ^ bits)
  have pg := two_pos g
  have pb := two_pos bits
  have ps := two_pos sq
  have g1 : (1 : R) ≤ 2 ^ g := by
    have := pw_mono (show (0 : R) ≤ 1 by grind) (show (1 : R) ≤ 2 by grind) g
    rw [pw_one] at this
    exact this
  have b1 : (1 : R) ≤ 2 ^ bits := by
    have := pw_mono (show (0 : R) ≤ 1 by grind) (show (1 : R) ≤ 2 by grind) bits
    rw [pw_one] at this
    exact this
  have eM : (2 : R) ^ (bits + 64 + g + sq) = 2 ^ bits * 18446744073709551616 * 2 ^ g * 2 ^ sq := by
    rw [pw_add, pw_add, pw_add]
    have : (2 : R) ^ 64 = 18446744073709551616 := by grind
    rw [this]
  have eb : (2 : R) ^ (bits + 32) = 2 ^ bits * 4294967296 := by
    rw [pw_add]
    have : (2 : R) ^ 32 = 4294967296 := by grind
    rw [this]
  have eg : (2 : R) ^ (g + sq + 32) = 2 ^ g * 2 ^ sq * 4294967296 := by
    rw [pw_add, pw_add]
    have : (2 : R) ^ 32 = 4294967296 := by grind
    rw [this]
  have eMM : (2 : R) ^ (2 * (bits + 64 + g + sq)) = 2 ^ (bits + 64 + g + sq) * 2 ^ (bits + 64 + g + sq) := by
    have : 2 * (bits + 64 + g + sq) = bits + 64 + g + sq + (bits + 64 + g + sq) := by omega
    rw [this, pw_add]
  have pgs := mul_pos' pg ps
  have MK : 2 ^ sq * 4096 ≤ (2 : R) ^ (bits + 64 + g + sq) := by
    rw [eM]
    have a1 := nn_mul (show (0 : R) ≤ 2 ^ bits - 1 by grind) (Std.le_of_lt pgs)
    have a2 := nn_mul (show (0 : R) ≤ 2 ^ g - 1 by grind) (Std.le_of_lt ps)
    grind
  have pM := two_pos (bits + 64 + g + sq)
  -- the floor of the inverse
  have Tpos : 0 < expT n.natAbs bits g sq := by
    apply Classical.byContradiction
    intro c
    have : expT n.natAbs bits g sq = 0 := by omega
    rw [this] at t
    have z : ((0 : Nat) : R) = 0 := rfl
    rw [z] at t
    have := nn_mul (show 0 ≤ E (-((n : R) / 2 ^ bits)) - 1 by grind) (show (0 : R) ≤ 2 ^ (bits + 64 + g + sq) - 2 ^ sq * 4096 by grind)
    have := mul_pos' (show 0 < E (-((n : R) / 2 ^ bits)) by grind) ps
    clear eM eMM eb eg
    grind
  have fl := nat_fl (2 ^ (2 * (bits + 64 + g + sq))) Tpos
  rw [nat_pow, show ((2 : Nat) : R) = 2 from rfl, eMM] at fl
  have nr := near_R ((2 ^ (2 * (bits + 64 + g + sq)) / expT n.natAbs bits g sq : Nat) : Int) (b := g + sq + 32) (by omega)
  rw [show near ((2 ^ (2 * (bits + 64 + g + sq)) / expT n.natAbs bits g sq : Nat) : Int) (g + sq + 32) = expScaled n bits g sq from by unfold expScaled; rw [if_pos hn]] at nr
  rw [cast_nat, eg] at nr
  rw [eb]
  have q0 := nat_nn (2 ^ (2 * (bits + 64 + g + sq)) / expT n.natAbs bits g sq)
  have T0 := nat_pos Tpos
  generalize ((2 ^ (2 * (bits + 64 + g + sq)) / expT n.natAbs bits g sq : Nat) : R) = q at *
  generalize (expScaled n bits g sq : R) = r at *
  generalize (expT n.natAbs bits g sq : R) = T at *
  generalize E (-((n : R) / 2 ^ bits)) = e at *
  generalize E ((n : R) / 2 ^ bits) = f at *
  have f1 : f ≤ 1 := by
    have := nn_mul (Std.le_of_lt f0) (show 0 ≤ e - 1 by grind)
    grind
  have ql : 2 ^ (bits + 64 + g + sq) * f ≤ q + 1 := by
    generalize (2 : R) ^ (bits + 64 + g + sq) = M at *
    apply div_le (show 0 < M * e from mul_pos' pM (by grind))
    have a1 := nn_mul (show 0 ≤ q + 1 by grind) (show 0 ≤ M * e - T by grind)
    have a2 : M * e * (M * f) = M * M := by
      have : M * e * (M * f) = M * M * (f * e) := by grind
      rw [this, inv]
      grind
    grind
  have qu : q ≤ 2 ^ (bits + 64 + g + sq) * f + 2 ^ sq * 4096 := by
    clear eM eMM eb eg
    generalize (2 : R) ^ (bits + 64 + g + sq) = M at *
    generalize (2 : R) ^ sq = Q at *
    apply Classical.byContradiction
    intro c
    have a1 := mul_pos' T0 (show 0 < q - (M * f + Q * 4096) by grind)
    have a2 := nn_mul (show 0 ≤ T - (M * e - e * (Q * 2048)) by grind) (show 0 ≤ M * f + Q * 4096 by
      have := nn_mul (Std.le_of_lt pM) (Std.le_of_lt f0)
      grind)
    have a3 : M * e * (M * f) = M * M := by
      have : M * e * (M * f) = M * M * (f * e) := by grind
      rw [this, inv]
      grind
    have a4 : e * (Q * 2048) * (M * f) = Q * 2048 * M := by
      have : e * (Q * 2048) * (M * f) = Q * 2048 * M * (f * e) := by grind
      rw [this, inv]
      grind
    have a5 := nn_mul (Std.le_of_lt ps) (nn_mul (show 0 ≤ e - 1 by grind) (show 0 ≤ M - Q * 4096 by grind))
    have a6 := nn_mul (Std.le_of_lt ps) (nn_mul (show 0 ≤ e - 1 by grind) (Std.le_of_lt pM))
    have a7 := nn_mul (Std.le_of_lt ps) (show 0 ≤ M - Q * 4096 by grind)
    grind
  rw [eM] at ql qu
  have nr := ab_cases (2 ^ g * 2 ^ sq * 4294967296 * r - q)
  have gs := nn_mul (show (0 : R) ≤ 2 ^ g - 1 by grind) (Std.le_of_lt ps)
  have s1 : (1 : R) ≤ 2 ^ sq := by
    have := pw_mono (show (0 : R) ≤ 1 by grind) (show (1 : R) ≤ 2 by grind) sq
    rw [pw_one] at this
    exact this
  refine ab_le.mpr ⟨?_, ?_⟩
  · apply div_le (mul_pos' pgs (show (0 : R) < 4294967296 by grind))
    generalize (2 : R) ^ bits = B at *
    generalize (2 : R) ^ sq = Q at *
    generalize (2 : R) ^ g = G at *
    grind
  · apply div_le (mul_pos' pgs (show (0 : R) < 4294967296 by grind))
    generalize (2 : R) ^ bits = B at *
    generalize (2 : R) ^ sq = Q at *
    generalize (2 : R) ^ g = G at *
    grind
/-- e is less than 2.8 -/
theorem E_one : E 1 ≤ 28 / 10 := by
  have r := F_rest one_sg (x := 1) (T := 1) (by rw [ab_pos (by grind)]; grind) (n := 6) (by
    have : ((6 : Nat) : R) = 6 := rfl
    rw [this]
    grind)
  have f0 : fi 0 = 1 := rfl
  have f1 := fi_succ 0
  have f2 := fi_succ 1
  have f3 := fi_succ 2
  have f4 := fi_succ 3
  have f5 := fi_succ 4
  have f6 := fi_succ 5
  rw [show ((0 : Nat) : R) = 0 from rfl] at f1
  rw [show ((1 : Nat) : R) = 1 from rfl] at f2
  rw [show ((2 : Nat) : R) = 2 from rfl] at f3
  rw [show ((3 : Nat) : R) = 3 from rfl] at f4
  rw [show ((4 : Nat) : R) = 4 from rfl] at f5
  rw [show ((5 : Nat) : R) = 5 from rfl] at f6
  have s : sm (fun k => cf one k * 1 ^ k) 6 = 0 + fi 0 + fi 1 + fi 2 + fi 3 + fi 4 + fi 5 := by
    show (0 : R) + 1 * fi 0 * 1 ^ 0 + 1 * fi 1 * 1 ^ 1 + 1 * fi 2 * 1 ^ 2 + 1 * fi 3 * 1 ^ 3 + 1 * fi 4 * 1 ^ 4 + 1 * fi 5 * 1 ^ 5 = _
    simp only [pw_one]
    grind
  have r : ab (E 1 - sm (fun k => cf one k * 1 ^ k) 6) ≤ 2 * (fi 6 * 1 ^ 6) := r
  rw [s, pw_one] at r
  have r := ab_le.mp r
  grind
theorem E_nat : ∀ n : Nat, E n = E 1 ^ n
  | 0 => by
    show E 0 = 1
    exact E0
  | n + 1 => by rw [nat_succ, E_add, E_nat n, pw_succ]
theorem E_growth {x : R} {f g : Nat} (h : x ≤ f + 1) (hg : 3 * f + 3 ≤ 2 * g) : E x ≤ 2 ^ g := by
  have a : E x ≤ E ((f + 1 : Nat) : R) := E_mono (by rw [nat_succ]; exact h)
  rw [E_nat] at a
  have e1 := E_one
  have p1 := E_pos 1
  have s : E 1 * E 1 ≤ 8 := by
    have := mul_mono e1 e1 (Std.le_of_lt p1) (by grind)
    grind
  have k := pw_mono (nn_mul (Std.le_of_lt p1) (Std.le_of_lt p1)) s (f + 1)
  rw [pw_mul] at k
  have e8 : (8 : R) ^ (f + 1) = 2 ^ (3 * f + 3) := by
    have : (8 : R) = 2 * 2 * 2 := by grind
    rw [this, pw_mul, pw_mul, ← pw_add, ← pw_add]
    congr 1
    omega
  rw [e8] at k
  have m : (2 : R) ^ (3 * f + 3) ≤ 2 ^ g * 2 ^ g := by
    rw [← pw_add]
    have : 2 ^ (3 * f + 3) ≤ 2 ^ (g + g) := Nat.pow_le_pow_right (by decide) (by omega)
    have := nat_le this
    rw [nat_pow, nat_pow] at this
    exact this
  have pg := two_pos g
  have q0 := pw_pos p1 (f + 1)
  generalize E 1 ^ (f + 1) = z at *
  generalize (2 : R) ^ g = G at *
  have : z ≤ G := by
    apply Classical.byContradiction
    intro c
    have := mul_pos' (show 0 < z - G by grind) (show 0 < z + G by grind)
    grind
  grind
end Re.R

/-! Own: a function that does not jump takes the value between; angles by their tangent and their sine; no program in it. -/
namespace Re.R
open Classical in
noncomputable def bis (f : R → R) (a b : R) : Nat → R × R
  | 0 => (a, b)
  | n + 1 => if f (((bis f a b n).1 + (bis f a b n).2) / 2) ≤ 0 then (((bis f a b n).1 + (bis f a b n).2) / 2, (bis f a b n).2) else ((bis f a b n).1, ((bis f a b n).1 + (bis f a b n).2) / 2)
theorem bis_inv {f : R → R} {a b : R} (hab : a ≤ b) (fa : f a ≤ 0) (fb : 0 ≤ f b) : ∀ n, f (bis f a b n).1 ≤ 0 ∧ 0 ≤ f (bis f a b n).2 ∧ ((bis f a b n).2 - (bis f a b n).1) * 2 ^ n = b - a ∧ (bis f a b n).1 ≤ (bis f a b n).2
  | 0 => ⟨fa, fb, by show (b - a) * 1 = _; grind, hab⟩
  | n + 1 => by
    obtain ⟨h1, h2, h3, h4⟩ := bis_inv hab fa fb n
    unfold bis
    generalize bis f a b n = p at *
    rw [pw_succ]
    split
    · next c => exact ⟨c, h2, by grind, by grind⟩
    · next c => exact ⟨h1, by grind, by grind, by grind⟩
theorem bis_in {f : R → R} {a b : R} (hab : a ≤ b) (fa : f a ≤ 0) (fb : 0 ≤ f b) (m : Nat) : ∀ j, (bis f a b m).1 ≤ (bis f a b (m + j)).1 ∧ (bis f a b (m + j)).2 ≤ (bis f a b m).2
  | 0 => ⟨Std.le_refl _, Std.le_refl _⟩
  | j + 1 => by
    have ih := bis_in hab fa fb m j
    obtain ⟨h1, h2, h3, h4⟩ := bis_inv hab fa fb (m + j)
    rw [show m + (j + 1) = m + j + 1 by omega]
    generalize bis f a b m = q at *
    unfold bis
    generalize bis f a b (m + j) = p at *
    split
    · exact ⟨by grind, by grind⟩
    · exact ⟨by grind, by grind⟩
theorem two_ge : ∀ n : Nat, (n : R) ≤ 2 ^ n
  | 0 => by
    rw [pw_zero]
    show (0 : R) ≤ 1
    grind
  | n + 1 => by
    have ih := two_ge n
    rw [nat_succ, pw_succ]
    have : (1 : R) ≤ 2 ^ n := by
      have := pw_mono (show (0 : R) ≤ 1 by grind) (show (1 : R) ≤ 2 by grind) n
      rw [pw_one] at this
      exact this
    grind
theorem ivt {f : R → R} {a b M : R} (hab : a ≤ b) (hM : 0 < M) (hL : ∀ x y, ab (f x - f y) ≤ M * ab (x - y)) (fa : f a ≤ 0) (fb : 0 ≤ f b) : ∃ x, a ≤ x ∧ x ≤ b ∧ f x = 0 := by
  have small : ∀ e : R, 0 < e → ∃ N, (bis f a b N).2 - (bis f a b N).1 ≤ e := fun e he => by
    obtain ⟨N, hN⟩ := arch ((b - a) / e)
    obtain ⟨_, _, h3, h4⟩ := bis_inv hab fa fb N
    have g := two_ge N
    refine ⟨N, ?_⟩
    have d : (b - a) / e * e = b - a := div_mul (by grind)
    generalize (b - a) / e = q at *
    generalize bis f a b N = p at *
    have p2 := two_pos N
    have m := nn_mul (Std.le_of_lt he) (show 0 ≤ 2 ^ N - q by grind)
    apply Classical.byContradiction
    intro c
    have := mul_pos' (show 0 < p.2 - p.1 - e by grind) p2
    grind
  have cau : CauR fun n => (bis f a b n).1 := fun e he => by
    obtain ⟨N, hN⟩ := small e he
    refine ⟨N, fun m n hm hn => ?_⟩
    have i1 := bis_in hab fa fb N (m - N)
    have i2 := bis_in hab fa fb N (n - N)
    rw [show N + (m - N) = m by omega] at i1
    rw [show N + (n - N) = n by omega] at i2
    have o1 := (bis_inv hab fa fb m).2.2.2
    have o2 := (bis_inv hab fa fb n).2.2.2
    exact ab_le.mpr ⟨by grind, by grind⟩
  obtain ⟨x, hx⟩ := complete cau
  have near : ∀ e : R, 0 < e → ∃ N, (bis f a b N).2 - (bis f a b N).1 ≤ e ∧ ab ((bis f a b N).1 - x) ≤ e := fun e he => by
    obtain ⟨N, hN⟩ := small e he
    obtain ⟨K, hK⟩ := hx e he
    have i1 := bis_in hab fa fb N K
    have k := hK (N + K) (by omega)
    exact ⟨N + K, by grind, k⟩
  refine ⟨x, ?_, ?_, ?_⟩
  · refine hx.ge (N := 0) fun n _ => ?_
    have := bis_in hab fa fb 0 n
    rw [Nat.zero_add] at this
    exact this.1
  · refine hx.le (N := 0) fun n _ => ?_
    have i := bis_in hab fa fb 0 n
    rw [Nat.zero_add] at i
    exact Std.le_trans (bis_inv hab fa fb n).2.2.2 i.2
  · have k : ∀ e : R, 0 < e → ab (f x - 0) ≤ e := fun e he => by
      have he' : 0 < e / (2 * M) := div_pos he (by grind)
      obtain ⟨N, h1, h2⟩ := near (e / (2 * M)) he'
      obtain ⟨g1, g2, g3, g4⟩ := bis_inv hab fa fb N
      have l1 := hL x (bis f a b N).1
      have l2 := hL x (bis f a b N).2
      have d : e / (2 * M) * (2 * M) = e := div_mul (by grind)
      generalize e / (2 * M) = q at *
      generalize bis f a b N = p at *
      rw [ab_sub] at h2
      have h3 : ab (x - p.2) ≤ 2 * q := by
        have := ab_le.mp h2
        exact ab_le.mpr ⟨by grind, by grind⟩
      have m1 := nn_mul (Std.le_of_lt hM) (show 0 ≤ q - ab (x - p.1) by grind)
      have m2 := nn_mul (Std.le_of_lt hM) (show 0 ≤ 2 * q - ab (x - p.2) by grind)
      have l1 := ab_le.mp l1
      have l2 := ab_le.mp l2
      exact ab_le.mpr ⟨by grind, by grind⟩
    have := eq_of_small k
    exact this
/-! ### sin and tan -/
theorem S_lip (x y : R) : ab (S x - S y) ≤ ab (x - y) := by
  have := C_lip (x - hp) (y - hp)
  rw [C_q, C_q] at this
  rw [show x - hp - (y - hp) = x - y by grind] at this
  exact this
theorem C_nn {x : R} (h : 0 ≤ x) (k : x ≤ hp) : 0 ≤ C x := by
  have := C_fall h k (by have := hp_near; grind)
  rw [C_hp] at this
  exact this
theorem S_rise {x y : R} (h0 : 0 ≤ x) (h : x ≤ y) (k : y ≤ hp) : S x ≤ S y := by
  rw [← C_q, ← C_q]
  exact C_rise (by have := hp_near; grind) (by grind) (by grind)
/-- x C x is not over S x -/
theorem S_xC {x : R} (h : 0 ≤ x) (k : x ≤ hp) : x * C x ≤ S x := by
  have := ((S_dv 0 x).sub h ((Dv.id 0 x).mul h (C_dv 0 x))).rise h fun y k1 k2 => by
    have := nn_mul k1 (S_nn k1 (by have := hp_near; grind))
    grind
  simp only [S0] at this
  grind
theorem S_half {x : R} (h : 0 ≤ x) (k : x ≤ hp) : x ≤ 2 * S x := by
  have g := S_ge h
  have b := hp_near
  have m := nn_mul h (show 0 ≤ 3 - x * x by
    have := nn_mul (show 0 ≤ 8 / 5 - x by grind) (show 0 ≤ 8 / 5 + x by grind)
    grind)
  grind
theorem S_sub (x y : R) : S (x - y) = S x * C y - C x * S y := by
  rw [show x - y = x + -y by grind, S_add, C_neg, S_neg]
  grind
theorem C_sub (x y : R) : C (x - y) = C x * C y + S x * S y := by
  rw [show x - y = x + -y by grind, C_add, C_neg, S_neg]
  grind
/-- the angle of a point -/
theorem ang_ex {x y : R} (hx : 0 ≤ x) (hy : 0 ≤ y) : ∃ t, 0 ≤ t ∧ t ≤ hp ∧ x * S t = y * C t := by
  have hL : ∀ s t, ab ((x * S s - y * C s) - (x * S t - y * C t)) ≤ (x + y + 1) * ab (s - t) := fun s t => by
    have a1 := S_lip s t
    have a2 := C_lip s t
    have e : (x * S s - y * C s) - (x * S t - y * C t) = x * (S s - S t) + y * -(C s - C t) := by grind
    rw [e]
    have t1 := ab_add (x * (S s - S t)) (y * -(C s - C t))
    rw [ab_mul, ab_mul, ab_minus, ab_pos hx, ab_pos hy] at t1
    have m1 := nn_mul hx (show 0 ≤ ab (s - t) - ab (S s - S t) by grind)
    have m2 := nn_mul hy (show 0 ≤ ab (s - t) - ab (C s - C t) by grind)
    have m3 := ab_nn (s - t)
    grind
  have b := hp_near
  obtain ⟨t, h0, h1, h2⟩ := ivt (a := 0) (b := hp) (M := x + y + 1) (by grind) (by grind) hL (by simp only [S0, C0]; grind) (by simp only [S_hp, C_hp]; grind)
  exact ⟨t, h0, h1, by grind⟩
/-- an angle by its sine -/
theorem sin_ex {s : R} (h0 : 0 ≤ s) (h1 : s ≤ 1) : ∃ t, 0 ≤ t ∧ t ≤ hp ∧ S t = s := by
  have b := hp_near
  obtain ⟨t, h0, h1, h2⟩ := ivt (f := fun t => S t - s) (a := 0) (b := hp) (M := 1) (by grind) (by grind) (fun x y => by
    have := S_lip x y
    rw [show S x - s - (S y - s) = S x - S y by grind]
    grind) (by simp only [S0]; grind) (by simp only [S_hp]; grind)
  exact ⟨t, h0, h1, by grind⟩
/-- tangents that lie apart: the angles do not lie further apart -/
theorem tan_lip1 {a b s t : R} (ha : 0 ≤ a) (hab : a ≤ b) (hb : b ≤ hp) (ca : 0 < C a) (cb : 0 < C b) (h1 : S a = s * C a) (h2 : S b = t * C b) : b - a ≤ t - s := by
  have hd := hp_near
  have d0 : 0 ≤ (b - a) / 2 := by grind
  have k := S_xC d0 (by grind)
  have c0 := C_nn d0 (by grind)
  have e1 := S_sub b a
  have e2 := C_sub b a
  have e3 := C_add b a
  have e5 := (C_le1 (b + a)).2
  have s2 := S_add ((b - a) / 2) ((b - a) / 2)
  have c2 := C_add ((b - a) / 2) ((b - a) / 2)
  have cs := CS1 ((b - a) / 2)
  rw [show (b - a) / 2 + (b - a) / 2 = b - a by grind] at s2 c2
  have cc := mul_pos' ca cb
  have m1 := nn_mul c0 (show 0 ≤ S ((b - a) / 2) - (b - a) / 2 * C ((b - a) / 2) by grind)
  have m2 := nn_mul (show 0 ≤ b - a by grind) (show 0 ≤ 1 - C (b + a) by grind)
  generalize C ((b - a) / 2) = c at *
  generalize S ((b - a) / 2) = ss at *
  generalize hCa : C a = x at *
  generalize hCb : C b = y at *
  generalize S a = sa at *
  generalize S b = sb at *
  generalize hCd : C (b - a) = cd at *
  generalize S (b - a) = sd at *
  generalize C (b + a) = cp at *
  have e6 : sd = (t - s) * (x * y) := by
    rw [e1, h1, h2]
    grind
  have e7 : 2 * (x * y) = cd + cp := by
    rw [e2, e3]
    grind
  have e8 : (b - a) * (cd + 1) ≤ 2 * sd := by
    rw [s2, c2, show c * c - ss * ss + 1 = 2 * (c * c) by grind]
    grind
  have e9 : (b - a) * (2 * (x * y)) ≤ 2 * ((t - s) * (x * y)) := by
    rw [e7, ← e6]
    clear e7 e6 e1 e2 e3 s2 c2 cs h1 h2 m1 k
    grind
  apply Classical.byContradiction
  intro g
  have := mul_pos' (show 0 < b - a - (t - s) by grind) cc
  grind
theorem tan_lip {a b s t : R} (ha : 0 ≤ a) (ha1 : a ≤ hp) (hb0 : 0 ≤ b) (hb : b ≤ hp) (ca : 0 < C a) (cb : 0 < C b) (h1 : S a = s * C a) (h2 : S b = t * C b) : ab (a - b) ≤ ab (s - t) := by
  rcases Std.le_total (a := a) (b := b) with h | h
  · have := tan_lip1 ha h hb ca cb h1 h2
    have u := le_ab (s - t)
    exact ab_le.mpr ⟨by grind, by grind⟩
  · have := tan_lip1 hb0 h ha1 cb ca h2 h1
    have u := le_ab (s - t)
    exact ab_le.mpr ⟨by grind, by grind⟩
/-- the cosine is above nothing where the tangent is told -/
theorem C_gt {x y t : R} (hx : 0 < x) (h0 : 0 ≤ t) (h1 : t ≤ hp) (h : x * S t = y * C t) : 0 < C t := by
  have c := C_nn h0 h1
  apply Classical.byContradiction
  intro g
  have e : C t = 0 := by grind
  rw [e] at h
  have s := CS1 t
  rw [e] at s
  have : x * (S t * S t) = 0 := by
    have : x * S t * S t = y * 0 * S t := by rw [h]
    grind
  rw [show S t * S t = 1 by grind] at this
  grind
end Re.R

/-! Own: rows of odd powers with floors (arctan and artanh); no program in it. -/
namespace Re.R
/-- the sum of the first n terms; the powers are told -/
def odS (g : Int) (Pw : Nat → Nat) : Nat → Int
  | 0 => 0
  | k + 1 => odS g Pw k + g ^ k * ((Pw k / (2 * k + 1) : Nat) : Int)
theorem gpw {g : Int} (hg : g = 1 ∨ g = -1) (k : Nat) : ((g ^ k : Int) : R) = wg (g : R) (2 * k + 1) := by
  rcases hg with rfl | rfl
  · have e : ((1 : Int) : R) = 1 := rfl
    rw [Int.one_pow, e]
    unfold wg
    split
    · rfl
    · rw [if_pos (by omega)]
  · have e : ((-1 : Int) : R) = -1 := rfl
    have e1 : ((1 : Int) : R) = 1 := rfl
    rw [e]
    unfold wg
    rcases (by omega : k % 2 = 0 ∨ k % 2 = 1) with h | h
    · rw [if_pos (by omega), show k = 2 * (k / 2) by omega, Int.pow_mul, show (-1 : Int) ^ 2 = 1 by decide, Int.one_pow, e1]
    · rw [if_neg (by omega), if_pos (by omega), show k = 2 * (k / 2) + 1 by omega, Int.pow_succ, Int.pow_mul, show (-1 : Int) ^ 2 = 1 by decide, Int.one_pow, Int.one_mul, e]
theorem g_unit {g : Int} (hg : g = 1 ∨ g = -1) : Unit (g : R) := by
  rcases hg with rfl | rfl
  · exact .inl rfl
  · exact .inr rfl
theorem odS_sm {g : Int} (hg : g = 1 ∨ g = -1) {Pw : Nat → Nat} {W T : R} : ∀ n, (∀ k, k < n → ab ((Pw k : R) - W * T ^ (2 * k + 1)) ≤ 2) → ab ((odS g Pw n : R) - W * sm (fun i => ag (g : R) i * T ^ i) (2 * n)) ≤ 3 * (n : R)
  | 0, _ => by
    show ab (((0 : Int) : R) - W * 0) ≤ 3 * ((0 : Nat) : R)
    have e0 : ((0 : Int) : R) = 0 := rfl
    have e1 : ((0 : Nat) : R) = 0 := rfl
    rw [e0, e1, show (0 : R) - W * 0 = 0 by grind, ab_zero]
    grind
  | n + 1, h => by
    have ih := odS_sm hg n fun k hk => h k (by omega)
    have hn := h n (by omega)
    have hU := g_unit hg
    have e : 2 * (n + 1) = 2 * n + 1 + 1 := by omega
    rw [e]
    show ab (((odS g Pw n + g ^ n * ((Pw n / (2 * n + 1) : Nat) : Int) : Int) : R) - W * (sm (fun i => ag (g : R) i * T ^ i) (2 * n) + ag (g : R) (2 * n) * T ^ (2 * n) + ag (g : R) (2 * n + 1) * T ^ (2 * n + 1))) ≤ _
    rw [cast_add, cast_mul, gpw hg, ag_even, nat_succ]
    have fl := nat_fl (Pw n) (show 0 < 2 * n + 1 by omega)
    have q : ag (g : R) (2 * n + 1) * ((2 * n + 1 : Nat) : R) = wg (g : R) (2 * n + 1) := by
      unfold ag
      exact div_mul (by rw [nat_succ]; have := nat_nn (2 * n); grind)
    have m1 : (1 : R) ≤ ((2 * n + 1 : Nat) : R) := by rw [nat_succ]; have := nat_nn (2 * n); grind
    have w1 := wg_ab hU (2 * n + 1)
    have ec : (((Pw n / (2 * n + 1) : Nat) : Int) : R) = ((Pw n / (2 * n + 1) : Nat) : R) := rfl
    rw [ec]
    generalize ((Pw n / (2 * n + 1) : Nat) : R) = t at *
    generalize T ^ (2 * n + 1) = I at *
    generalize ((2 * n + 1 : Nat) : R) = m at *
    generalize wg (g : R) (2 * n + 1) = s at *
    generalize ag (g : R) (2 * n + 1) = a at *
    generalize (Pw n : R) = p at *
    generalize sm (fun i => ag (g : R) i * T ^ i) (2 * n) = Z at *
    -- m t is near W I
    have x0 : ab (m * t - W * I) ≤ 2 + m := by
      have := ab_le.mp hn
      exact ab_le.mpr ⟨by grind, by grind⟩
    have x1 : m * ab (t - W * I / m) ≤ 2 + m := by
      have e5 : W * I / m * m = W * I := div_mul (by grind)
      have : m * ab (t - W * I / m) = ab (m * t - W * I) := by
        have e6 : m * t - W * I = m * (t - W * I / m) := by grind
        rw [e6, ab_mul m, ab_pos (show 0 ≤ m by grind)]
      rw [this]
      exact x0
    have x2 : ab (t - W * I / m) ≤ 3 := div_le (d := m) (by grind) (by grind)
    have e7 : W * (a * I) = s * (W * I / m) := by
      have e5 : W * I / m * m = W * I := div_mul (by grind)
      generalize W * I / m = x at *
      have : W * (a * I) = a * (W * I) := by grind
      rw [this, ← e5, ← q]
      grind
    have e8 : (odS g Pw n : R) + s * t - W * (Z + 0 * T ^ (2 * n) + a * I) = ((odS g Pw n : R) - W * Z) + s * (t - W * I / m) := by
      have : W * (Z + 0 * T ^ (2 * n) + a * I) = W * Z + W * (a * I) := by grind
      rw [this, e7]
      grind
    rw [e8]
    have t1 := ab_add ((odS g Pw n : R) - W * Z) (s * (t - W * I / m))
    rw [ab_mul s] at t1
    have := mul_mono w1 x2 (ab_nn s) (by grind)
    grind
/-- the whole row, when the last power is nothing -/
theorem odS_A {g : Int} (hg : g = 1 ∨ g = -1) {Pw : Nat → Nat} {W T : R} (pW : 0 < W) (T0 : 0 ≤ T) (T1 : T ≤ 1 / 2) {n : Nat} (h : ∀ k, k ≤ n → ab ((Pw k : R) - W * T ^ (2 * k + 1)) ≤ 2) (z : Pw n = 0) : ab ((odS g Pw n : R) - W * A (g : R) T) ≤ 3 * (n : R) + 4 := by
  have a1 := odS_sm hg (W := W) (T := T) n fun k hk => h k (by omega)
  have a2 := A_rest (g_unit hg) (x := T) (by rw [ab_pos T0]; grind) (2 * n + 1)
  have hn := h n (Nat.le_refl n)
  rw [z] at hn
  rw [ab_pos T0] at a2
  have e : sm (fun k => ag (g : R) k * T ^ k) (2 * n + 1) = sm (fun k => ag (g : R) k * T ^ k) (2 * n) := by
    show sm (fun k => ag (g : R) k * T ^ k) (2 * n) + ag (g : R) (2 * n) * T ^ (2 * n) = _
    rw [ag_even]
    grind
  rw [e] at a2
  generalize sm (fun i => ag (g : R) i * T ^ i) (2 * n) = Z at *
  have e0 : ((0 : Nat) : R) = 0 := rfl
  rw [e0] at hn
  have hn := ab_le.mp hn
  generalize T ^ (2 * n + 1) = I at *
  have e2 : (odS g Pw n : R) - W * A (g : R) T = ((odS g Pw n : R) - W * Z) + -(W * (A (g : R) T - Z)) := by grind
  rw [e2]
  have t := ab_add ((odS g Pw n : R) - W * Z) (-(W * (A (g : R) T - Z)))
  rw [ab_minus, ab_mul W, ab_pos (Std.le_of_lt pW)] at t
  have y0 := ab_nn (A (g : R) T - Z)
  generalize ab (A (g : R) T - Z) = y at *
  have m1 := nn_mul y0 (show 0 ≤ 1 / 2 - T by grind)
  have m2 := nn_mul (Std.le_of_lt pW) (show 0 ≤ I - y / 2 by grind)
  grind
/-- powers with floors: each is the one before times the square, told within one -/
theorem pow_near {Pw : Nat → Nat} {W T : R} (pW : 0 < W) (T0 : 0 ≤ T) (T1 : T ≤ 1 / 2) (h0 : ab ((Pw 0 : R) - W * T) ≤ 1) (hs : ∀ k, ab ((Pw (k + 1) : R) - Pw k * (T * T)) ≤ 3 / 2) : ∀ k, ab ((Pw k : R) - W * T ^ (2 * k + 1)) ≤ 2
  | 0 => by
    have : T ^ (2 * 0 + 1) = T := by
      show T ^ 0 * T = T
      rw [pw_zero]
      grind
    rw [this]
    grind
  | k + 1 => by
    have ih := pow_near pW T0 T1 h0 hs k
    have s := hs k
    have e : T ^ (2 * (k + 1) + 1) = T ^ (2 * k + 1) * (T * T) := by
      have : 2 * (k + 1) + 1 = 2 * k + 1 + 1 + 1 := by omega
      rw [this, pw_succ, pw_succ]
      grind
    rw [e]
    have tt : T * T ≤ 1 / 4 := by
      have := mul_mono T1 T1 T0 (show (0 : R) ≤ 1 / 2 by grind)
      grind
    have t0 := nn_mul T0 T0
    have m1 := nn_mul (ab_nn ((Pw k : R) - W * T ^ (2 * k + 1))) (show 0 ≤ 1 / 4 - T * T by grind)
    have e2 : (Pw (k + 1) : R) - W * (T ^ (2 * k + 1) * (T * T)) = ((Pw (k + 1) : R) - Pw k * (T * T)) + ((Pw k : R) - W * T ^ (2 * k + 1)) * (T * T) := by grind
    rw [e2]
    have t := ab_add ((Pw (k + 1) : R) - Pw k * (T * T)) (((Pw k : R) - W * T ^ (2 * k + 1)) * (T * T))
    rw [ab_mul ((Pw k : R) - W * T ^ (2 * k + 1)), ab_pos t0] at t
    grind
/-- powers with floors of t / 2^w, the square rounded down -/
def oP (t w : Nat) : Nat → Nat
  | 0 => t
  | k + 1 => oP t w k * (t * t / 2 ^ w) / 2 ^ w
theorem oP_le {t w : Nat} (ht : t ≤ 2 ^ w) : ∀ k, oP t w k ≤ 2 ^ w
  | 0 => ht
  | k + 1 => by
    have ih := oP_le ht k
    have s : t * t / 2 ^ w ≤ 2 ^ w := Nat.div_le_of_le_mul (Nat.mul_le_mul ht ht)
    exact Nat.div_le_of_le_mul (Nat.mul_le_mul ih s)
theorem oP_half {t w : Nat} (ht : 2 * t ≤ 2 ^ w) : ∀ k, oP t w k * 2 ^ (2 * k + 1) ≤ 2 ^ w
  | 0 => by
    show t * 2 ≤ _
    omega
  | k + 1 => by
    have ih := oP_half ht k
    have pw : 0 < 2 ^ w := Nat.pow_pos (by decide)
    have s : 4 * (t * t / 2 ^ w) ≤ 2 ^ w := by
      have h1 : t * t / 2 ^ w * 2 ^ w ≤ t * t := Nat.div_mul_le_self _ _
      have h2 := Nat.mul_le_mul ht ht
      have e : 2 * t * (2 * t) = 4 * (t * t) := by rw [Nat.mul_mul_mul_comm]
      rw [e] at h2
      refine Nat.le_of_mul_le_mul_right (c := 2 ^ w) ?_ pw
      rw [Nat.mul_assoc]
      omega
    have h1 : oP t w k * (t * t / 2 ^ w) / 2 ^ w * 2 ^ w ≤ oP t w k * (t * t / 2 ^ w) := Nat.div_mul_le_self _ _
    show oP t w k * (t * t / 2 ^ w) / 2 ^ w * 2 ^ (2 * (k + 1) + 1) ≤ 2 ^ w
    have e : (2 : Nat) ^ (2 * (k + 1) + 1) = 4 * 2 ^ (2 * k + 1) := by
      rw [show 2 * (k + 1) + 1 = 2 * k + 1 + 2 by omega, Nat.pow_add, Nat.mul_comm]
    rw [e]
    generalize t * t / 2 ^ w = q at *
    generalize oP t w k = p at *
    generalize p * q / 2 ^ w = r at *
    generalize 2 ^ (2 * k + 1) = c at *
    generalize 2 ^ w = W at *
    -- r W <= p q, p c <= W, 4 q <= W: r 4 c <= W
    refine Nat.le_of_mul_le_mul_right (c := W) ?_ pw
    have a1 := Nat.mul_le_mul_right (4 * c) h1
    have a2 := Nat.mul_le_mul ih s
    have e2 : p * q * (4 * c) = p * c * (4 * q) := by grind
    have e3 : r * W * (4 * c) = r * (4 * c) * W := by rw [Nat.mul_assoc, Nat.mul_comm W, ← Nat.mul_assoc]
    rw [e2, e3] at a1
    omega
theorem oP_zero {t w k : Nat} (ht : 2 * t ≤ 2 ^ w) (hk : w ≤ 2 * k) : oP t w k = 0 := by
  have h := oP_half ht k
  have e : (2 : Nat) ^ w < 2 ^ (2 * k + 1) := Nat.pow_lt_pow_right (by decide) (by omega)
  rcases Nat.eq_zero_or_pos (oP t w k) with z | z
  · exact z
  · have := Nat.mul_le_mul_right (2 ^ (2 * k + 1)) (show 1 ≤ oP t w k from z)
    omega
theorem oP_near {t w : Nat} (ht : 2 * t ≤ 2 ^ w) (k : Nat) : ab ((oP t w k : R) - 2 ^ w * ((t : R) / 2 ^ w) ^ (2 * k + 1)) ≤ 2 := by
  have pw := two_pos w
  have e : (t : R) / 2 ^ w * 2 ^ w = t := div_mul (by grind)
  have ht' := nat_le ht
  rw [nat_mul, nat_pow] at ht'
  have e2 : ((2 : Nat) : R) = 2 := rfl
  rw [e2] at ht'
  have t0 := nat_nn t
  have T0 : 0 ≤ (t : R) / 2 ^ w := nn_mul t0 (Std.le_of_lt (inv_pos pw))
  have T1 : (t : R) / 2 ^ w ≤ 1 / 2 := div_le pw (by grind)
  refine pow_near pw T0 T1 ?_ (fun k => ?_) k
  · show ab ((t : R) - 2 ^ w * ((t : R) / 2 ^ w)) ≤ 1
    rw [show (t : R) - 2 ^ w * ((t : R) / 2 ^ w) = 0 by grind, ab_zero]
    grind
  · show ab (((oP t w k * (t * t / 2 ^ w) / 2 ^ w : Nat) : R) - _) ≤ _
    have le : 2 * oP t w k ≤ 2 ^ w := by
      have h := oP_half ht k
      have h1 : 2 ^ 1 ≤ 2 ^ (2 * k + 1) := Nat.pow_le_pow_right (by decide) (by omega)
      have := Nat.mul_le_mul_left (oP t w k) h1
      omega
    have le := nat_le le
    rw [nat_mul, nat_pow, e2] at le
    have f1 := nat_fl (t * t) (show 0 < 2 ^ w from Nat.pow_pos (by decide))
    have f2 := nat_fl (oP t w k * (t * t / 2 ^ w)) (show 0 < 2 ^ w from Nat.pow_pos (by decide))
    rw [nat_mul, nat_pow, e2] at f1 f2
    have p0 := nat_nn (oP t w k)
    generalize ((oP t w k * (t * t / 2 ^ w) / 2 ^ w : Nat) : R) = r at *
    generalize ((t * t / 2 ^ w : Nat) : R) = q at *
    generalize (oP t w k : R) = p at *
    generalize (t : R) / 2 ^ w = T at *
    rw [← e] at f1
    generalize (2 : R) ^ w = W at *
    -- q = W T T - d, 0 <= d < 1
    have q1 : q ≤ W * (T * T) := div_le pw (by grind)
    have q2 : W * (T * T) ≤ q + 1 := div_le pw (by grind)
    have m1 := nn_mul p0 (show 0 ≤ W * (T * T) - q by grind)
    have m2 := nn_mul p0 (show 0 ≤ q + 1 - W * (T * T) by grind)
    have r1 : r ≤ p * (T * T) := div_le pw (by grind)
    have r2 : p * (T * T) ≤ r + 3 / 2 := div_le pw (by grind)
    exact ab_le.mpr ⟨by grind, by grind⟩
end Re.R

/-! Own: arctan and artanh by halving, with floors; no program in it. -/
namespace Re.R
theorem E_gex {x : R} (h : 0 ≤ x) : 1 + x ≤ E x := by
  have := ((E_dv 0 x).sub h ((Dv.const 1 0 x).add (Dv.id 0 x))).rise h fun y k _ => by
    have := E_mono k
    rw [E0] at this
    grind
  simp only [E0] at this
  grind
theorem E_inj {x y : R} (h : E x = E y) : x = y := by
  rcases Std.le_total (a := x) (b := y) with c | c
  · have a := E_gex (x := y - x) (by grind)
    have e := E_add x (y - x)
    rw [show x + (y - x) = y by grind] at e
    have p := E_pos x
    have : E x * (E (y - x) - 1) = 0 := by grind
    have m := nn_mul (Std.le_of_lt p) (show 0 ≤ E (y - x) - 1 - (y - x) by grind)
    apply Classical.byContradiction
    intro z
    have := mul_pos' p (show 0 < y - x by grind)
    grind
  · have a := E_gex (x := x - y) (by grind)
    have e := E_add y (x - y)
    rw [show y + (x - y) = x by grind] at e
    have p := E_pos y
    have : E y * (E (x - y) - 1) = 0 := by grind
    have m := nn_mul (Std.le_of_lt p) (show 0 ≤ E (x - y) - 1 - (x - y) by grind)
    apply Classical.byContradiction
    intro z
    have := mul_pos' p (show 0 < x - y by grind)
    grind
/-- θ is the arctan (g = -1) or the artanh (g = 1) of τ -/
def Tn (g : Int) (u t : R) : Prop := 0 ≤ t ∧ (g = -1 ∧ t ≤ hp ∧ S t = u * C t ∨ g = 1 ∧ E (2 * t) * (1 - u) = 1 + u)
/-- what may be asked -/
def To1 (g : Int) (u : R) : Prop := 0 ≤ u ∧ u ≤ 1 ∧ (g = 1 → u ≤ 1 / 2)
theorem tanh_lip1 {a b s t : R} (hab : a ≤ b) (s0 : 0 ≤ s) (t1 : t ≤ 1 / 2) (s1 : s ≤ 1 / 2) (h1 : E (2 * a) * (1 - s) = 1 + s) (h2 : E (2 * b) * (1 - t) = 1 + t) : b - a ≤ 2 * (t - s) := by
  have g := E_gex (x := 2 * (b - a)) (by grind)
  have e := E_add (2 * a) (2 * (b - a))
  rw [show 2 * a + 2 * (b - a) = 2 * b by grind] at e
  have p := E_pos (2 * a)
  rw [e] at h2
  generalize E (2 * (b - a)) = d at *
  generalize E (2 * a) = x at *
  -- x d (1 - t) = 1 + t, x (1 - s) = 1 + s
  have k : (1 + s) * (d * (1 - t)) = (1 + t) * (1 - s) := by
    have : (1 + s) * (d * (1 - t)) = (x * d * (1 - t)) * (1 - s) := by rw [← h1]; grind
    rw [this, h2]
  -- (1 + s)(1 - t)(d - 1) = 2 (t - s)
  have k2 : (1 + s) * (1 - t) * (d - 1) = 2 * (t - s) := by grind
  have m0 := nn_mul (show 0 ≤ d - 1 by grind) (show 0 ≤ (1 + s) * (1 - t) - 1 / 2 by
    have := nn_mul s0 (show 0 ≤ 1 - t by grind)
    grind)
  grind
theorem Tn.lip {g : Int} {u v a b : R} (h : Tn g u a) (k : Tn g v b) (hu : To1 g u) (hv : To1 g v) : ab (a - b) ≤ 2 * ab (u - v) := by
  have q := le_ab (u - v)
  rcases h with ⟨a0, ⟨hg, a1, ha⟩ | ⟨hg, ha⟩⟩
  · rcases k with ⟨b0, ⟨_, b1, hb⟩ | ⟨hg', _⟩⟩
    · have ca := C_gt (x := 1) (y := u) (by grind) a0 a1 (by grind)
      have cb := C_gt (x := 1) (y := v) (by grind) b0 b1 (by grind)
      have := tan_lip a0 a1 b0 b1 ca cb ha hb
      have := ab_nn (u - v)
      grind
    · omega
  · rcases k with ⟨b0, ⟨hg', _⟩ | ⟨_, hb⟩⟩
    · omega
    · rcases Std.le_total (a := a) (b := b) with c | c
      · have := tanh_lip1 c hu.1 (hv.2.2 hg) (hu.2.2 hg) ha hb
        exact ab_le.mpr ⟨by grind, by grind⟩
      · have := tanh_lip1 c hv.1 (hu.2.2 hg) (hv.2.2 hg) hb ha
        exact ab_le.mpr ⟨by grind, by grind⟩
theorem Tn.same {g : Int} {u a b : R} (h : Tn g u a) (k : Tn g u b) (hu : To1 g u) : a = b := by
  have := h.lip k hu hu
  rw [show u - u = 0 by grind, ab_zero] at this
  have := ab_le.mp this
  grind
theorem Tn.A {g : Int} (hg : g = 1 ∨ g = -1) {u : R} (h0 : 0 ≤ u) (h1 : u ≤ 1 / 2) : Tn g u (R.A (g : R) u) := by
  have hu : R.ab u < 1 := by rw [ab_pos h0]; grind
  rcases hg with rfl | rfl
  · have e : ((1 : Int) : R) = 1 := rfl
    rw [e]
    have k := A_exp hu
    refine ⟨?_, .inr ⟨rfl, k⟩⟩
    apply Classical.byContradiction
    intro c
    have g := E_gex (x := -(2 * R.A 1 u)) (by grind)
    have n := E_neg (2 * R.A 1 u)
    have p := E_pos (2 * R.A 1 u)
    generalize E (-(2 * R.A 1 u)) = y at *
    generalize E (2 * R.A 1 u) = x at *
    -- x y = 1, y > 1, x (1 - u) = 1 + u
    have m := mul_pos' p (show 0 < y - 1 by grind)
    have m2 := nn_mul h0 (Std.le_of_lt p)
    grind
  · have e : ((-1 : Int) : R) = -1 := rfl
    rw [e]
    have k := A_tan hu
    have n := A_near h0 (by grind)
    refine ⟨?_, .inl ⟨rfl, ?_, k⟩⟩
    · have m := nn_mul h0 (show 0 ≤ 1 - u * u / 3 by
        have := mul_mono h1 h1 h0 (show (0 : R) ≤ 1 / 2 by grind)
        grind)
      grind
    · have := hp_near
      grind
theorem Tn.ex {g : Int} (hg : g = 1 ∨ g = -1) {u : R} (h : To1 g u) : ∃ t, Tn g u t := by
  rcases hg with rfl | rfl
  · exact ⟨_, Tn.A (.inl rfl) h.1 (h.2.2 rfl)⟩
  · obtain ⟨t, t0, t1, e⟩ := ang_ex (x := 1) (y := u) (by grind) h.1
    exact ⟨t, t0, .inl ⟨rfl, t1, by grind⟩⟩
/-- halving -/
theorem Tn.half {g : Int} {u t : R} (h : Tn g u t) (hu : To1 g u) : ∃ r v, 0 ≤ r ∧ r * r = 1 - g * (u * u) ∧ v * (1 + r) = u ∧ 0 ≤ v ∧ v ≤ u ∧ Tn g v (t / 2) := by
  rcases h with ⟨t0, ⟨rfl, t1, ht⟩ | ⟨rfl, ht⟩⟩
  · have e : ((-1 : Int) : R) = -1 := rfl
    rw [e]
    have c := C_gt (x := 1) (y := u) (by grind) t0 t1 (by grind)
    have i := mul_inv (x := C t) (by grind)
    have ip := inv_pos c
    have cs := CS1 t
    have hd := hp_near
    have ch := C_fall (x := 0) (y := t / 2) (by grind) (by grind) (by grind)
    have c2 := C_add (t / 2) (t / 2)
    have s2 := S_add (t / 2) (t / 2)
    have cs2 := CS1 (t / 2)
    rw [show t / 2 + t / 2 = t by grind] at c2 s2
    have cp : 0 < C (t / 2) := by
      have c0 := C_nn (x := t / 2) (by grind) (by grind)
      apply Classical.byContradiction
      intro z
      have z0 : C (t / 2) = 0 := by grind
      rw [z0] at c2 cs2
      grind
    have sn := S_nn (x := t / 2) (by grind) (by grind)
    have ip2 := inv_pos cp
    have i2 := mul_inv (x := C (t / 2)) (by grind)
    generalize (C t)⁻¹ = r at *
    refine ⟨r, S (t / 2) * (C (t / 2))⁻¹, by grind, ?_, ?_, nn_mul sn (Std.le_of_lt ip2), ?_, by grind, .inl ⟨rfl, by grind, by grind⟩⟩
    · generalize C t = x at *
      generalize S t = y at *
      have e1 : (u * x) * (u * x) * (r * r) = u * u * ((x * r) * (x * r)) := by grind
      rw [i] at e1
      rw [← ht] at e1
      have e2 : (x * x + y * y) * (r * r) = (x * r) * (x * r) + y * y * (r * r) := by grind
      rw [cs, i, e1] at e2
      grind
    · generalize (C (t / 2))⁻¹ = j at *
      generalize C (t / 2) = p at *
      generalize S (t / 2) = q at *
      generalize S t = y at *
      generalize C t = x at *
      -- q j (1 + r) = u; x = 2 p p - 1, y = 2 q p, y = u x
      have e1 : q * j * (1 + r) * x = u * x := by
        have a1 : q * j * (1 + r) * x = q * j * (x + x * r) := by grind
        have a2 : x + 1 = 2 * (p * p) := by grind
        have a3 : q * j * (2 * (p * p)) = 2 * q * p * (p * j) := by grind
        rw [a1, i, a2, a3, i2, ← ht]
        grind
      have e2 : (q * j * (1 + r) - u) * x = 0 := by grind
      have e3 : (q * j * (1 + r) - u) * (x * r) = 0 := by
        have : (q * j * (1 + r) - u) * (x * r) = (q * j * (1 + r) - u) * x * r := by grind
        rw [this, e2]
        grind
      rw [i] at e3
      grind
    · generalize (C (t / 2))⁻¹ = j at *
      generalize C (t / 2) = p at *
      generalize S (t / 2) = q at *
      generalize S t = y at *
      generalize C t = x at *
      have a2 : x + 1 = 2 * (p * p) := by grind
      -- v <= u : v x <= u x = y = 2 q p
      have e1 : q * j * (2 * (p * p)) = 2 * q * p * (p * j) := by grind
      have m := nn_mul (nn_mul sn (Std.le_of_lt ip2)) (show 0 ≤ 1 - x + x by grind)
      have e4 : q * j * (x + 1) = u * x := by rw [a2, e1, i2, ← ht]; grind
      have m1 := nn_mul sn (Std.le_of_lt ip2)
      apply Classical.byContradiction
      intro z
      have := mul_pos' c (show 0 < q * j - u by grind)
      grind
  · have e : ((1 : Int) : R) = 1 := rfl
    rw [e]
    have g1 := E_gex (x := t) t0
    have e1 := E_add t t
    rw [show t + t = 2 * t by grind] at e1
    rw [e1] at ht
    have hp : 2 * (t / 2) = t := by grind
    have u1 := hu.2.2 rfl
    have u0 := hu.1
    generalize hx : E t = x at *
    have ip : 0 < x * x + 1 := by have := nn_mul (show 0 ≤ x by grind) (show 0 ≤ x by grind); grind
    have i := mul_inv (x := x * x + 1) (by grind)
    have ii := inv_pos ip
    have iq := mul_inv (x := x + 1) (by grind)
    have iqp := inv_pos (show 0 < x + 1 by grind)
    generalize (x * x + 1)⁻¹ = j at *
    generalize (x + 1)⁻¹ = k at *
    have eu : u * (x * x + 1) = x * x - 1 := by grind
    have euj : u = (x * x - 1) * j := by
      have : u * ((x * x + 1) * j) = (x * x - 1) * j := by rw [← eu]; grind
      rw [i] at this
      grind
    refine ⟨2 * x * j, (x - 1) * k, nn_mul (by grind) (Std.le_of_lt ii), ?_, ?_, nn_mul (by grind) (Std.le_of_lt iqp), ?_, by grind, .inr ⟨rfl, ?_⟩⟩
    · rw [euj]
      have : (2 * x * j * (2 * x * j)) + (x * x - 1) * j * ((x * x - 1) * j) = ((x * x + 1) * j) * ((x * x + 1) * j) := by grind
      rw [i] at this
      grind
    · rw [euj]
      have a1 : 1 + 2 * x * j = (x + 1) * (x + 1) * j := by
        have : (x + 1) * (x + 1) * j = (x * x + 1) * j + 2 * x * j := by grind
        rw [this, i]
      rw [a1]
      have : (x - 1) * k * ((x + 1) * (x + 1) * j) = (x - 1) * (x + 1) * j * ((x + 1) * k) := by grind
      rw [this, iq]
      grind
    · rw [euj]
      -- (x - 1) k <= (x x - 1) j
      have a1 : (x - 1) * k = (x - 1) * k * ((x * x + 1) * j) := by rw [i]; grind
      have a2 : (x * x - 1) * j = (x * x - 1) * j * ((x + 1) * k) := by rw [iq]; grind
      rw [a1, a2]
      have m := nn_mul (nn_mul (show 0 ≤ x - 1 by grind) (Std.le_of_lt iqp)) (nn_mul (show 0 ≤ 2 * x by grind) (Std.le_of_lt ii))
      have e5 : (x * x - 1) * j * ((x + 1) * k) - (x - 1) * k * ((x * x + 1) * j) = (x - 1) * k * (2 * x * j) := by grind
      grind
    · rw [hp, hx]
      have : (x - 1) * k * (x + 1) = (x - 1) * ((x + 1) * k) := by grind
      rw [iq] at this
      grind
end Re.R

/-! Own: arctan and artanh with floors: a step of halving, all of them, the row at the end; no program in it. -/
namespace Re.R
/-- whole square roots -/
def IsRt (q : Nat → Nat) : Prop := ∀ n, q n * q n ≤ n ∧ n < (q n + 1) * (q n + 1)
def hstN (g : Int) (w t : Nat) : Nat := (((2 ^ w * 2 ^ w : Nat) : Int) - g * ((t * t : Nat) : Int)).toNat
def hst (q : Nat → Nat) (g : Int) (w t : Nat) : Nat := t * 2 ^ w / (2 ^ w + q (hstN g w t))
theorem sq_le {a b : R} (h : 0 ≤ b) (k : a * a ≤ b * b) : a ≤ b := by
  apply Classical.byContradiction
  intro c
  have := mul_pos' (show 0 < a - b by grind) (show 0 < a + b by grind)
  grind
theorem sq_lt {a b : R} (h : 0 ≤ b) (k : a * a < b * b) : a < b := by
  apply Classical.byContradiction
  intro c
  have := nn_mul (show 0 ≤ a - b by grind) (show 0 ≤ a + b by grind)
  grind
theorem nat2 : ((2 : Nat) : R) = 2 := rfl
theorem hst_le (q : Nat → Nat) (g : Int) (w t : Nat) : hst q g w t ≤ t := by
  unfold hst
  have pw : 0 < 2 ^ w := Nat.pow_pos (by decide)
  refine Nat.div_le_of_le_mul ?_
  rw [Nat.mul_comm]
  exact Nat.mul_le_mul_right _ (by omega)
theorem hst_half {q : Nat → Nat} (hq : IsRt q) {w t : Nat} (ht : t ≤ 2 ^ w) : 2 * hst q (-1) w t ≤ 2 ^ w := by
  have pw : 0 < 2 ^ w := Nat.pow_pos (by decide)
  have hn : 2 ^ w * 2 ^ w ≤ hstN (-1) w t := by unfold hstN; omega
  have hr : 2 ^ w ≤ q (hstN (-1) w t) := by
    have h := (hq (hstN (-1) w t)).2
    refine Nat.le_of_not_lt fun c => ?_
    have := Nat.mul_le_mul (show q (hstN (-1) w t) + 1 ≤ 2 ^ w by omega) (show q (hstN (-1) w t) + 1 ≤ 2 ^ w by omega)
    omega
  have h1 : hst q (-1) w t * (2 ^ w + q (hstN (-1) w t)) ≤ t * 2 ^ w := Nat.div_mul_le_self _ _
  have h2 : hst q (-1) w t * (2 * 2 ^ w) ≤ hst q (-1) w t * (2 ^ w + q (hstN (-1) w t)) := Nat.mul_le_mul_left _ (by omega)
  have h3 : t * 2 ^ w ≤ 2 ^ w * 2 ^ w := Nat.mul_le_mul_right _ ht
  refine Nat.le_of_mul_le_mul_right (c := 2 ^ w) ?_ pw
  have e : hst q (-1) w t * (2 * 2 ^ w) = 2 * hst q (-1) w t * 2 ^ w := by grind
  omega
theorem to1_nat {g : Int} {w t : Nat} (ht : t ≤ 2 ^ w) (h2 : g = 1 → 2 * t ≤ 2 ^ w) : To1 g ((t : R) / 2 ^ w) := by
  have pw := two_pos w
  have e : (t : R) / 2 ^ w * 2 ^ w = t := div_mul (by grind)
  have h := nat_le ht
  rw [nat_pow, nat2] at h
  refine ⟨nn_mul (nat_nn t) (Std.le_of_lt (inv_pos pw)), div_le pw (by grind), fun hg => div_le pw ?_⟩
  have := nat_le (h2 hg)
  rw [nat_mul, nat_pow, nat2] at this
  grind
theorem hst_near {q : Nat → Nat} (hq : IsRt q) {g : Int} (hg : g = 1 ∨ g = -1) {w t : Nat} (ht : t ≤ 2 ^ w) (h2 : g = 1 → 2 * t ≤ 2 ^ w) {a : R} (h : Tn g ((t : R) / 2 ^ w) a) : ∃ b, Tn g ((hst q g w t : R) / 2 ^ w) b ∧ 2 ^ w * ab (a / 2 - b) ≤ 2 := by
  have hT := to1_nat ht h2
  obtain ⟨r, v, r0, rr, vr, v0, vu, hv⟩ := h.half hT
  have ht' : hst q g w t ≤ 2 ^ w := Nat.le_trans (hst_le q g w t) ht
  have hT' : To1 g ((hst q g w t : R) / 2 ^ w) := to1_nat ht' fun z => by
    have := hst_le q g w t
    have := h2 z
    omega
  obtain ⟨b, hb⟩ := Tn.ex hg hT'
  have hTv : To1 g v := ⟨v0, by have := hT.2.1; grind, fun z => by have := hT.2.2 z; grind⟩
  refine ⟨b, hb, ?_⟩
  have L := hv.lip hb hTv hT'
  have pw := two_pos w
  have e : (t : R) / 2 ^ w * 2 ^ w = t := div_mul (by grind)
  have e' : (hst q g w t : R) / 2 ^ w * 2 ^ w = hst q g w t := div_mul (by grind)
  -- the root
  have hN : (hstN g w t : R) = 2 ^ w * 2 ^ w - g * ((t : R) * t) := by
    have tt := Nat.mul_le_mul ht ht
    have z : ((hstN g w t : Nat) : Int) = ((2 ^ w * 2 ^ w : Nat) : Int) - g * ((t * t : Nat) : Int) := by
      unfold hstN
      rcases hg with rfl | rfl <;> omega
    have z2 := congrArg (fun i : Int => (i : R)) z
    rw [cast_sub, cast_mul] at z2
    rw [cast_nat, cast_nat, cast_nat, nat_mul, nat_mul, nat_pow, nat2] at z2
    exact z2
  have s := hq (hstN g w t)
  have s1 := nat_le s.1
  have s2 := nat_lt s.2
  rw [nat_mul, hN] at s1
  rw [nat_mul, nat_succ, hN] at s2
  have q0 := nat_nn (q (hstN g w t))
  have fl := nat_fl (t * 2 ^ w) (show 0 < 2 ^ w + q (hstN g w t) by have : 0 < 2 ^ w := Nat.pow_pos (by decide); omega)
  have eh : t * 2 ^ w / (2 ^ w + q (hstN g w t)) = hst q g w t := rfl
  rw [eh, nat_mul, nat_add, nat_pow, nat2] at fl
  have tn := nat_nn (hst q g w t)
  generalize (hst q g w t : R) = t' at *
  generalize t' / 2 ^ w = u' at *
  generalize (q (hstN g w t) : R) = ro at *
  generalize (t : R) / 2 ^ w = u at *
  rw [← e] at s1 s2 fl
  generalize (2 : R) ^ w = W at *
  generalize (g : R) = gg at *
  have k : (W * r) * (W * r) = W * W - gg * (u * W * (u * W)) := by
    have : (W * r) * (W * r) = W * W * (r * r) := by grind
    rw [this, rr]
    grind
  have r1 : ro ≤ W * r := sq_le (nn_mul (Std.le_of_lt pw) r0) (by rw [k]; exact s1)
  have r2 : W * r < ro + 1 := sq_lt (by grind) (by rw [k]; exact s2)
  -- v W (W + W r) = u W W
  have k2 : v * W * (W + W * r) = u * W * W := by
    have : v * W * (W + W * r) = v * (1 + r) * W * W := by grind
    rw [this, vr]
  have pq : 0 < W + ro := by grind
  have vW := nn_mul v0 (Std.le_of_lt pw)
  have a1 : v * W ≤ t' + 1 := by
    apply div_le pq
    have := nn_mul vW (show 0 ≤ W * r - ro by grind)
    grind
  have a2 : t' ≤ v * W + 1 := by
    apply div_le pq
    have := nn_mul vW (show 0 ≤ ro + 1 - W * r by grind)
    have vu1 := nn_mul (show 0 ≤ 1 - v by have := hTv.2.1; grind) (Std.le_of_lt pw)
    grind
  have a3 : W * ab (v - u') ≤ 1 := by
    have : W * ab (v - u') = ab (v * W - t') := by
      rw [← e', show v * W - u' * W = W * (v - u') by grind, ab_mul, ab_pos (Std.le_of_lt pw)]
    rw [this]
    exact ab_le.mpr ⟨by grind, by grind⟩
  have := nn_mul (Std.le_of_lt pw) (show 0 ≤ 2 * ab (v - u') - ab (a / 2 - b) by grind)
  grind
/-- all halvings -/
def hsts (q : Nat → Nat) (g : Int) (w t : Nat) : Nat → Nat
  | 0 => t
  | k + 1 => hst q g w (hsts q g w t k)
theorem hsts_le (q : Nat → Nat) (g : Int) (w t : Nat) : ∀ k, hsts q g w t k ≤ t
  | 0 => Nat.le_refl _
  | k + 1 => Nat.le_trans (hst_le q g w _) (hsts_le q g w t k)
theorem hsts_near {q : Nat → Nat} (hq : IsRt q) {g : Int} (hg : g = 1 ∨ g = -1) {w t : Nat} (ht : t ≤ 2 ^ w) (h2 : g = 1 → 2 * t ≤ 2 ^ w) {a : R} (h : Tn g ((t : R) / 2 ^ w) a) : ∀ k, ∃ b, Tn g ((hsts q g w t k : R) / 2 ^ w) b ∧ 2 ^ w * ab (2 ^ k * b - a) ≤ 4 * (2 ^ k - 1)
  | 0 => ⟨a, h, by rw [pw_zero, show 1 * a - a = 0 by grind, ab_zero]; grind⟩
  | k + 1 => by
    obtain ⟨b, hb, n⟩ := hsts_near hq hg ht h2 h k
    have le := hsts_le q g w t k
    obtain ⟨c, hc, m⟩ := hst_near hq hg (show hsts q g w t k ≤ 2 ^ w by omega) (fun z => by have := h2 z; omega) hb
    refine ⟨c, hc, ?_⟩
    have pw := two_pos w
    have pk := two_pos k
    rw [pw_succ]
    have e : 2 ^ k * 2 * c - a = (2 ^ k * b - a) + -(2 ^ k * 2 * (b / 2 - c)) := by grind
    rw [e]
    have t1 := ab_add (2 ^ k * b - a) (-(2 ^ k * 2 * (b / 2 - c)))
    rw [ab_minus, ab_mul (2 ^ k * 2), ab_pos (show (0 : R) ≤ 2 ^ k * 2 by grind)] at t1
    have m1 := nn_mul (Std.le_of_lt pk) (show 0 ≤ 2 - 2 ^ w * ab (b / 2 - c) by grind)
    have m2 := nn_mul (Std.le_of_lt pw) (show 0 ≤ ab (2 ^ k * b - a) + 2 ^ k * 2 * ab (b / 2 - c) - ab (2 ^ k * b - a + -(2 ^ k * 2 * (b / 2 - c))) by grind)
    grind
/-- what inverse_tangent answers -/
def invT (q : Nat → Nat) (h b : Nat) (g : Int) (t : Nat) : Int := near (odS g (oP (hsts q g (b + h + 32) (t * 2 ^ (h + 32)) h) (b + h + 32)) (b + h + 32)) 32
theorem e32 : (2 : R) ^ 32 = 4294967296 := by
  have := pow_cast 32
  exact this.symm
theorem invT_near {q : Nat → Nat} (hq : IsRt q) {g : Int} (hg : g = 1 ∨ g = -1) {h b t : Nat} (hh : 1 ≤ h) (hw : b + h + 32 ≤ 1000) (ht : t ≤ 2 ^ b) (h2 : g = 1 → 2 * t ≤ 2 ^ b) {a : R} (ha : Tn g ((t : R) / 2 ^ b) a) : ab ((invT q h b g t : R) - 2 ^ b * a) ≤ 1 / 2 + 1 / 1048576 := by
  have eW : 2 ^ (b + h + 32) = 2 ^ b * 2 ^ (h + 32) := by rw [← Nat.pow_add, Nat.add_assoc]
  have pk : 0 < 2 ^ (h + 32) := Nat.pow_pos (by decide)
  have ht0 : t * 2 ^ (h + 32) ≤ 2 ^ (b + h + 32) := by rw [eW]; exact Nat.mul_le_mul_right _ ht
  have h20 : g = 1 → 2 * (t * 2 ^ (h + 32)) ≤ 2 ^ (b + h + 32) := fun z => by
    rw [eW, ← Nat.mul_assoc]
    exact Nat.mul_le_mul_right _ (h2 z)
  have pw := two_pos (b + h + 32)
  have pb := two_pos b
  have ph := two_pos h
  have eR : (2 : R) ^ (b + h + 32) = 2 ^ b * (2 ^ h * 4294967296) := by
    rw [show b + h + 32 = b + (h + 32) by omega, pw_add, pw_add, e32]
  have et : ((t * 2 ^ (h + 32) : Nat) : R) / 2 ^ (b + h + 32) = (t : R) / 2 ^ b := by
    rw [nat_mul, nat_pow, nat2, pw_add, e32, eR]
    have i1 := mul_inv (x := (2 : R) ^ b) (by grind)
    have i2 := mul_inv (x := (2 : R) ^ b * (2 ^ h * 4294967296)) (by have := mul_pos' pb ph; grind)
    show (t : R) * (2 ^ h * 4294967296) * (2 ^ b * (2 ^ h * 4294967296))⁻¹ = (t : R) * (2 ^ b)⁻¹
    generalize ((2 : R) ^ b * (2 ^ h * 4294967296))⁻¹ = j at *
    generalize ((2 : R) ^ b)⁻¹ = i at *
    have : (t : R) * (2 ^ h * 4294967296) * j = (t : R) * i * (2 ^ b * (2 ^ h * 4294967296) * j) := by
      have z : (t : R) * i * (2 ^ b * (2 ^ h * 4294967296) * j) = (t : R) * (2 ^ b * i) * (2 ^ h * 4294967296) * j := by grind
      rw [z, i1]
      grind
    rw [this, i2]
    grind
  rw [← et] at ha
  obtain ⟨c, hc, n⟩ := hsts_near hq hg ht0 h20 ha h
  have le := hsts_le q g (b + h + 32) (t * 2 ^ (h + 32)) h
  have half : 2 * hsts q g (b + h + 32) (t * 2 ^ (h + 32)) h ≤ 2 ^ (b + h + 32) := by
    rcases hg with rfl | rfl
    · have := h20 rfl
      omega
    · rw [show h = h - 1 + 1 by omega]
      show 2 * hst q (-1) _ (hsts q (-1) _ _ (h - 1)) ≤ _
      refine hst_half hq ?_
      rw [show h - 1 + 1 = h by omega]
      exact Nat.le_trans (hsts_le q (-1) _ _ _) ht0
  unfold invT
  generalize hsts q g (b + h + 32) (t * 2 ^ (h + 32)) h = s at *
  have hs := to1_nat (g := g) (w := b + h + 32) (t := s) (by omega) fun _ => half
  have s2 : (s : R) / 2 ^ (b + h + 32) ≤ 1 / 2 := by
    have h' := nat_le half
    rw [nat_mul, nat_pow, nat2] at h'
    have e : (s : R) / 2 ^ (b + h + 32) * 2 ^ (b + h + 32) = s := div_mul (by grind)
    exact div_le pw (by grind)
  have hA := Tn.A hg hs.1 s2
  have ec : c = A (g : R) ((s : R) / 2 ^ (b + h + 32)) := hc.same hA hs
  have o := odS_A hg (Pw := oP s (b + h + 32)) pw hs.1 s2 (n := b + h + 32) (fun k _ => oP_near half k) (oP_zero half (by omega))
  rw [← ec] at o
  have nb := near_R (odS g (oP s (b + h + 32)) (b + h + 32)) (b := 32) (by decide)
  rw [e32] at nb
  have wl : ((b + h + 32 : Nat) : R) ≤ 1000 := nat_le hw
  generalize near (odS g (oP s (b + h + 32)) (b + h + 32)) 32 = V at *
  generalize ((odS g (oP s (b + h + 32)) (b + h + 32) : Int) : R) = D at *
  generalize ((b + h + 32 : Nat) : R) = wr at *
  rw [eR] at n o
  have n2 : 2 ^ b * 4294967296 * ab (2 ^ h * c - a) ≤ 4 := by
    apply div_le ph
    grind
  have n3 : ab (2 ^ b * 4294967296 * (2 ^ h * c) - 2 ^ b * 4294967296 * a) ≤ 4 := by
    rw [show 2 ^ b * 4294967296 * (2 ^ h * c) - 2 ^ b * 4294967296 * a = 2 ^ b * 4294967296 * (2 ^ h * c - a) by grind, ab_mul, ab_pos (show (0 : R) ≤ 2 ^ b * 4294967296 by grind)]
    exact n2
  have e5 : 2 ^ b * (2 ^ h * 4294967296) * c = 2 ^ b * 4294967296 * (2 ^ h * c) := by grind
  rw [e5] at o
  generalize 2 ^ b * 4294967296 * (2 ^ h * c) = X at *
  have e6 : 2 ^ b * 4294967296 * a = 4294967296 * (2 ^ b * a) := by grind
  rw [e6] at n3
  generalize 2 ^ b * a = Y at *
  have n3 := ab_le.mp n3
  have o := ab_le.mp o
  have nb := ab_le.mp (show ab (4294967296 * (V : R) - D) ≤ 2147483648 by grind)
  exact ab_le.mpr ⟨by grind, by grind⟩
end Re.R

/-! Own: arctan, arcsine, arccosine and log with floors, and what lies between the ends told; no program in it. -/
namespace Re.R
theorem e16 : (2 : R) ^ 16 = 65536 := by
  have := pow_cast 16
  exact this.symm
theorem near16 {V : Int} {b : Nat} {a e : R} (h : ab ((V : R) - 2 ^ (b + 16) * a) ≤ e) : ab ((near V 16 : R) - 2 ^ b * a) ≤ 1 / 2 + e / 65536 := by
  have n := near_R V (b := 16) (by decide)
  rw [e16] at n
  rw [pw_add, e16] at h
  have n := ab_le.mp (show ab (65536 * (near V 16 : R) - V) ≤ 32768 by grind)
  have h := ab_le.mp h
  have d : e / 65536 * 65536 = e := div_mul (by grind)
  generalize e / 65536 = q at *
  exact ab_le.mpr ⟨by grind, by grind⟩
/-- the angle of a ratio that is rounded down -/
theorem ratio_ang {q : Nat → Nat} (hq : IsRt q) {h w y x : Nat} (hh : 1 ≤ h) (hw : w + h + 32 ≤ 1000) (hx : 0 < x) (hy : y ≤ x) {a : R} (a0 : 0 ≤ a) (a1 : a ≤ hp) (e : (x : R) * S a = y * C a) : ab ((invT q h w (-1) (y * 2 ^ w / x) : R) - 2 ^ w * a) ≤ 26 / 10 := by
  have x0 := nat_pos hx
  have yx := nat_le hy
  have y0 := nat_nn y
  have pw := two_pos w
  have d : (y : R) / x * x = y := div_mul (by grind)
  have hu : To1 (-1) ((y : R) / x) := ⟨nn_mul y0 (Std.le_of_lt (inv_pos x0)), div_le x0 (by grind), fun z => by omega⟩
  have ha : Tn (-1) ((y : R) / x) a := by
    refine ⟨a0, .inl ⟨rfl, a1, ?_⟩⟩
    generalize (y : R) / x = u at *
    have : (x : R) * (S a - u * C a) = 0 := by grind
    have i := mul_inv (x := (x : R)) (by grind)
    generalize (x : R)⁻¹ = j at *
    have : (x : R) * j * (S a - u * C a) = 0 := by
      have z : (x : R) * j * (S a - u * C a) = j * ((x : R) * (S a - u * C a)) := by grind
      rw [z, this]
      grind
    rw [i] at this
    grind
  have ht : y * 2 ^ w / x ≤ 2 ^ w := Nat.div_le_of_le_mul (Nat.mul_le_mul_right _ hy)
  have hT := to1_nat (g := -1) ht (fun z => by omega)
  obtain ⟨b, hb⟩ := Tn.ex (.inr rfl) hT
  have i := invT_near hq (.inr rfl) hh hw ht (fun z => by omega) hb
  have L := ha.lip hb hu hT
  have fl := nat_fl (y * 2 ^ w) hx
  rw [nat_mul, nat_pow, nat2] at fl
  have d2 : ((y * 2 ^ w / x : Nat) : R) / 2 ^ w * 2 ^ w = ((y * 2 ^ w / x : Nat) : R) := div_mul (by grind)
  generalize ((y * 2 ^ w / x : Nat) : R) = t at *
  generalize t / 2 ^ w = u' at *
  generalize (y : R) / x = u at *
  rw [← d] at fl
  have b1 : 2 ^ w * ab (u - u') ≤ 1 := by
    have : 2 ^ w * ab (u - u') = ab (2 ^ w * u - t) := by
      rw [← d2, show 2 ^ w * u - u' * 2 ^ w = 2 ^ w * (u - u') by grind, ab_mul, ab_pos (Std.le_of_lt pw)]
    rw [this]
    have k1 : t ≤ 2 ^ w * u := div_le x0 (by grind)
    have k2 : 2 ^ w * u ≤ t + 1 := div_le x0 (by grind)
    exact ab_le.mpr ⟨by grind, by grind⟩
  have m := nn_mul (Std.le_of_lt pw) (show 0 ≤ 2 * ab (u - u') - ab (a - b) by grind)
  have b2 : ab (2 ^ w * a - 2 ^ w * b) ≤ 2 := by
    rw [show 2 ^ w * a - 2 ^ w * b = 2 ^ w * (a - b) by grind, ab_mul, ab_pos (Std.le_of_lt pw)]
    grind
  have i := ab_le.mp i
  have b2 := ab_le.mp b2
  exact ab_le.mpr ⟨by grind, by grind⟩
/-- the angle of a point -/
def angS (q : Nat → Nat) (h y x b : Nat) : Int := near (if y ≤ x then invT q h (b + 16) (-1) (y * 2 ^ (b + 16) / x) else piS (b + 15) - invT q h (b + 16) (-1) (x * 2 ^ (b + 16) / y)) 16
theorem angS_near {q : Nat → Nat} (hq : IsRt q) {h b y x : Nat} (hh : 1 ≤ h) (hw : b + h + 48 ≤ 900) (hxy : 0 < x ∨ 0 < y) {a : R} (a0 : 0 ≤ a) (a1 : a ≤ hp) (e : (x : R) * S a = y * C a) : ab ((angS q h y x b : R) - 2 ^ b * a) ≤ 1 / 2 + 1 / 16384 := by
  unfold angS
  have k : ab (((if y ≤ x then invT q h (b + 16) (-1) (y * 2 ^ (b + 16) / x) else piS (b + 15) - invT q h (b + 16) (-1) (x * 2 ^ (b + 16) / y) : Int) : R) - 2 ^ (b + 16) * a) ≤ 4 := by
    split
    · next c =>
      have := ratio_ang hq hh (w := b + 16) (by omega) (show 0 < x by omega) c a0 a1 e
      grind
    · next c =>
      have e' : (y : R) * S (hp - a) = x * C (hp - a) := by
        rw [S_sub, C_sub, S_hp, C_hp]
        grind
      have := ratio_ang hq hh (w := b + 16) (by omega) (show 0 < y by omega) (show x ≤ y by omega) (a := hp - a) (by grind) (by grind) e'
      have p := piS_near (b := b + 15) (by omega)
      have e2 : (2 : R) ^ (b + 16) = 2 ^ (b + 15) * 2 := by rw [show b + 16 = b + 15 + 1 by omega, pw_succ]
      rw [cast_sub]
      rw [e2] at this ⊢
      have := ab_le.mp this
      have p := ab_le.mp p
      generalize (2 : R) ^ (b + 15) = W at *
      generalize ((piS (b + 15) : Int) : R) = p0 at *
      generalize ((invT q h (b + 16) (-1) (x * 2 ^ (b + 16) / y) : Int) : R) = i0 at *
      exact ab_le.mpr ⟨by grind, by grind⟩
  have := near16 k
  grind
/-! ### the angles as functions of whole numbers -/
noncomputable def atn (B m : Nat) : R := Classical.choose (ang_ex (x := (B : R)) (y := (m : R)) (nat_nn B) (nat_nn m))
theorem atn_ok (B m : Nat) : 0 ≤ atn B m ∧ atn B m ≤ hp ∧ (B : R) * S (atn B m) = m * C (atn B m) := Classical.choose_spec (ang_ex (x := (B : R)) (y := (m : R)) (nat_nn B) (nat_nn m))
theorem atn_mono {B m n : Nat} (hB : 0 < B) (h : m ≤ n) : atn B m ≤ atn B n := by
  obtain ⟨m0, m1, me⟩ := atn_ok B m
  obtain ⟨n0, n1, ne⟩ := atn_ok B n
  apply Classical.byContradiction
  intro c
  have B0 := nat_pos hB
  have cm := C_gt B0 m0 m1 me
  have cn := C_gt B0 n0 n1 ne
  have i := mul_inv (x := (B : R)) (by grind)
  have ip := inv_pos B0
  have hmn := nat_le h
  generalize (B : R)⁻¹ = j at *
  have e1 : S (atn B m) = m * j * C (atn B m) := by
    have : (B : R) * j * S (atn B m) = j * ((B : R) * S (atn B m)) := by grind
    rw [i, me] at this
    grind
  have e2 : S (atn B n) = n * j * C (atn B n) := by
    have : (B : R) * j * S (atn B n) = j * ((B : R) * S (atn B n)) := by grind
    rw [i, ne] at this
    grind
  have := tan_lip1 n0 (show atn B n ≤ atn B m by grind) m1 cn cm e2 e1
  have := nn_mul (Std.le_of_lt ip) (show 0 ≤ (n : R) - m by grind)
  grind
theorem S_hp_le (t : R) : S t ≤ 1 := (S_le1 t).2
open Classical in
noncomputable def asn (B m : Nat) : R := if h : (m : R) / B ≤ 1 then Classical.choose (sin_ex (s := (m : R) / B) (nn_mul (nat_nn m) (by
  rcases Nat.eq_zero_or_pos B with z | z
  · subst z
    show (0 : R) ≤ (0 : R)⁻¹
    rw [inv_zero']
    grind
  · exact Std.le_of_lt (inv_pos (nat_pos z)))) h) else 0
theorem asn_ok {B m : Nat} (hB : 0 < B) (h : m ≤ B) : 0 ≤ asn B m ∧ asn B m ≤ hp ∧ (B : R) * S (asn B m) = m := by
  have B0 := nat_pos hB
  have d : (m : R) / B * B = m := div_mul (by grind)
  have l : (m : R) / B ≤ 1 := div_le B0 (by have := nat_le h; grind)
  unfold asn
  rw [dif_pos l]
  have k := Classical.choose_spec (sin_ex (s := (m : R) / B) (nn_mul (nat_nn m) (Std.le_of_lt (inv_pos B0))) l)
  refine ⟨k.1, k.2.1, ?_⟩
  have := k.2.2
  rw [this]
  grind
theorem asn_mono {B m n : Nat} (hB : 0 < B) (hn : n ≤ B) (h : m ≤ n) : asn B m ≤ asn B n := by
  obtain ⟨m0, m1, me⟩ := asn_ok hB (show m ≤ B by omega)
  obtain ⟨n0, n1, ne⟩ := asn_ok hB hn
  rcases Nat.lt_or_ge m n with c | c
  · apply Classical.byContradiction
    intro z
    have s := S_rise n0 (show asn B n ≤ asn B m by grind) m1
    have B0 := nat_pos hB
    have := nn_mul (Std.le_of_lt B0) (show 0 ≤ S (asn B m) - S (asn B n) by grind)
    have := nat_lt c
    grind
  · rw [show m = n by omega]
    exact Std.le_refl _
/-- both ways from 0 -/
noncomputable def odd (f : Nat → R) (n : Int) : R := if 0 ≤ n then f n.natAbs else -f n.natAbs
theorem odd_mono {f : Nat → R} {M : Nat} (h0 : ∀ m, m ≤ M → 0 ≤ f m) (h : ∀ m n, m ≤ n → n ≤ M → f m ≤ f n) {a b : Int} (ha : a.natAbs ≤ M) (hb : b.natAbs ≤ M) (hab : a ≤ b) : odd f a ≤ odd f b := by
  unfold odd
  split
  · rw [if_pos (by omega)]
    exact h _ _ (by omega) hb
  · split
    · have := h0 _ ha
      have := h0 _ hb
      grind
    · have := h b.natAbs a.natAbs (by omega) ha
      grind
theorem odd_near {f : Nat → R} {n v : Int} {W e : R} (h : ab ((v : R) - W * f n.natAbs) ≤ e) : ab (((if 0 ≤ n then v else -v : Int) : R) - W * odd f n) ≤ e := by
  unfold odd
  split
  · exact h
  · rw [cast_neg, show -(v : R) - W * -f n.natAbs = -((v : R) - W * f n.natAbs) by grind, ab_minus]
    exact h
/-- arctangent_scaled -/
def atS (q : Nat → Nat) (h : Nat) (n : Int) (b w : Nat) : Int := if 0 ≤ n then angS q h n.natAbs (2 ^ b) w else -angS q h n.natAbs (2 ^ b) w
theorem atS_near {q : Nat → Nat} (hq : IsRt q) {h b w : Nat} {n : Int} (hh : 1 ≤ h) (hw : w + h + 48 ≤ 900) : ab ((atS q h n b w : R) - 2 ^ w * odd (atn (2 ^ b)) n) ≤ 1 / 2 + 1 / 16384 := by
  obtain ⟨a0, a1, e⟩ := atn_ok (2 ^ b) n.natAbs
  exact odd_near (angS_near hq hh hw (.inl (Nat.pow_pos (by decide))) a0 a1 e)
/-- arcsine_scaled; m = work - bits + 16 -/
def asS (q : Nat → Nat) (h : Nat) (n : Int) (b w : Nat) : Int := if 0 ≤ n then near (angS q h (n.natAbs * 2 ^ (w - b + 16)) (q ((2 ^ (2 * b) - n.natAbs * n.natAbs) * 2 ^ (2 * (w - b + 16)))) (w + 16)) 16 else -near (angS q h (n.natAbs * 2 ^ (w - b + 16)) (q ((2 ^ (2 * b) - n.natAbs * n.natAbs) * 2 ^ (2 * (w - b + 16)))) (w + 16)) 16
/-- a point whose x is the whole root: its angle -/
theorem root_ang {M X o th ph : R} (hM : 0 < M) (t0 : 0 ≤ th) (t1 : th ≤ hp) (p0 : 0 ≤ ph) (p1 : ph ≤ hp) (hX : M * S th = X) (o1 : o ≤ M * C th) (o2 : M * C th ≤ o + 1) (e : o * S ph = X * C ph) : M * ab (ph - th) ≤ 2 := by
  have hd := hp_near
  have s := S_sub ph th
  have sp := S_nn p0 (show ph ≤ 2 * hp by grind)
  have sp1 := (S_le1 ph).2
  -- M S (ph - th) = S ph (M C th - o)
  have k : M * S (ph - th) = S ph * (M * C th - o) := by
    rw [s]
    have : M * (S ph * C th - C ph * S th) = S ph * (M * C th) - C ph * (M * S th) := by grind
    rw [this, hX]
    grind
  have m1 := nn_mul sp (show 0 ≤ M * C th - o by grind)
  have m2 := mul_mono sp1 (show M * C th - o ≤ 1 by grind) sp (by grind)
  rcases Std.le_total (a := th) (b := ph) with c | c
  · have g := S_half (x := ph - th) (by grind) (by grind)
    rw [ab_pos (by grind)]
    have := nn_mul (Std.le_of_lt hM) (show 0 ≤ 2 * S (ph - th) - (ph - th) by grind)
    grind
  · have g := S_half (x := th - ph) (by grind) (by grind)
    rw [show th - ph = -(ph - th) by grind, S_neg] at g
    rw [ab_neg (by grind)]
    have := nn_mul (Std.le_of_lt hM) (show 0 ≤ 2 * -S (ph - th) - -(ph - th) by grind)
    grind
theorem root_pos {q : Nat → Nat} (hq : IsRt q) {n : Nat} (h : 0 < n) : 0 < q n := by
  have := (hq n).2
  rcases Nat.eq_zero_or_pos (q n) with z | z
  · rw [z] at this
    omega
  · exact z
theorem asS_near {q : Nat → Nat} (hq : IsRt q) {h b w : Nat} {n : Int} (hh : 1 ≤ h) (hbw : b ≤ w) (hw : w + h + 64 ≤ 900) (hn : n.natAbs ≤ 2 ^ b) : ab ((asS q h n b w : R) - 2 ^ w * odd (asn (2 ^ b)) n) ≤ 1 / 2 + 1 / 16384 := by
  refine odd_near (f := asn (2 ^ b)) (v := near _ 16) ?_
  generalize n.natAbs = m at *
  have pb : 0 < 2 ^ b := Nat.pow_pos (by decide)
  obtain ⟨t0, t1, te⟩ := asn_ok pb hn
  generalize asn (2 ^ b) m = th at *
  have hmm : m * m ≤ 2 ^ (2 * b) := by
    have := Nat.mul_le_mul hn hn
    rw [← Nat.pow_add] at this
    rwa [show 2 * b = b + b by omega]
  have s := hq ((2 ^ (2 * b) - m * m) * 2 ^ (2 * (w - b + 16)))
  have hpos : 0 < q ((2 ^ (2 * b) - m * m) * 2 ^ (2 * (w - b + 16))) ∨ 0 < m * 2 ^ (w - b + 16) := by
    rcases Nat.eq_zero_or_pos m with z | z
    · refine .inl (root_pos hq ?_)
      rw [z]
      exact Nat.mul_pos (by have : 0 < 2 ^ (2 * b) := Nat.pow_pos (by decide); omega) (Nat.pow_pos (by decide))
    · exact .inr (Nat.mul_pos z (Nat.pow_pos (by decide)))
  have hN : (((2 ^ (2 * b) - m * m) * 2 ^ (2 * (w - b + 16)) : Nat) : R) = (2 ^ b * 2 ^ b - m * m) * (2 ^ (w - b + 16) * 2 ^ (w - b + 16)) := by
    rw [nat_mul, nat_pow, nat2]
    have e1 : ((2 ^ (2 * b) - m * m : Nat) : R) = 2 ^ b * 2 ^ b - m * m := by
      have z : ((2 ^ (2 * b) - m * m : Nat) : R) + ((m * m : Nat) : R) = ((2 ^ (2 * b) : Nat) : R) := by
        rw [← nat_add]
        congr 1
        omega
      rw [nat_mul, nat_pow, nat2, show 2 * b = b + b by omega, pw_add] at z
      rw [show 2 * b = b + b by omega]
      grind
    rw [e1, show 2 * (w - b + 16) = (w - b + 16) + (w - b + 16) by omega, pw_add]
  have s1 := nat_le s.1
  have s2 := nat_lt s.2
  rw [hN, nat_mul] at s1
  rw [hN, nat_mul, nat_succ] at s2
  obtain ⟨ph, p0, p1, pe⟩ := ang_ex (x := ((q ((2 ^ (2 * b) - m * m) * 2 ^ (2 * (w - b + 16))) : Nat) : R)) (y := ((m * 2 ^ (w - b + 16) : Nat) : R)) (nat_nn _) (nat_nn _)
  have A := angS_near hq (b := w + 16) hh (by omega) hpos p0 p1 pe
  have q0 := nat_nn (q ((2 ^ (2 * b) - m * m) * 2 ^ (2 * (w - b + 16))))
  rw [nat_pow, nat2] at te
  rw [nat_mul, nat_pow, nat2] at pe
  generalize ((q ((2 ^ (2 * b) - m * m) * 2 ^ (2 * (w - b + 16))) : Nat) : R) = o at *
  have pB := two_pos b
  have pm := two_pos (w - b + 16)
  have eM : (2 : R) ^ (w + 16) = 2 ^ b * 2 ^ (w - b + 16) := by rw [← pw_add]; congr 1; omega
  have M0 : (0 : R) < 2 ^ b * 2 ^ (w - b + 16) := mul_pos' pB pm
  have cn := C_nn t0 t1
  have cs := CS1 th
  have hX : 2 ^ b * 2 ^ (w - b + 16) * S th = (m : R) * 2 ^ (w - b + 16) := by
    have : 2 ^ b * 2 ^ (w - b + 16) * S th = (2 ^ b * S th) * 2 ^ (w - b + 16) := by grind
    rw [this, te]
  have k : (2 ^ b * 2 ^ (w - b + 16) * C th) * (2 ^ b * 2 ^ (w - b + 16) * C th) = (2 ^ b * 2 ^ b - (m : R) * m) * (2 ^ (w - b + 16) * 2 ^ (w - b + 16)) := by
    rw [← te]
    generalize (2 : R) ^ b = B at *
    generalize (2 : R) ^ (w - b + 16) = G at *
    generalize C th = c at *
    generalize S th = s at *
    have : (B * B - B * s * (B * s)) * (G * G) = B * B * (G * G) * (1 - s * s) := by grind
    rw [this, ← cs]
    grind
  have o1 : o ≤ 2 ^ b * 2 ^ (w - b + 16) * C th := sq_le (nn_mul (Std.le_of_lt M0) cn) (by rw [k]; exact s1)
  have o2 : 2 ^ b * 2 ^ (w - b + 16) * C th < o + 1 := sq_lt (by grind) (by rw [k]; exact s2)
  have r := root_ang M0 t0 t1 p0 p1 hX o1 (Std.le_of_lt o2) pe
  have r2 : ab (2 ^ (w + 16) * ph - 2 ^ (w + 16) * th) ≤ 2 := by
    rw [show 2 ^ (w + 16) * ph - 2 ^ (w + 16) * th = 2 ^ (w + 16) * (ph - th) by grind, ab_mul, ab_pos (Std.le_of_lt (two_pos _)), eM]
    exact r
  have A := ab_le.mp A
  have r2 := ab_le.mp r2
  have := near16 (V := angS q h (m * 2 ^ (w - b + 16)) (q ((2 ^ (2 * b) - m * m) * 2 ^ (2 * (w - b + 16)))) (w + 16)) (b := w) (a := th) (e := 3) (ab_le.mpr ⟨by grind, by grind⟩)
  grind
/-- arccosine_scaled -/
def acS (q : Nat → Nat) (h : Nat) (n : Int) (b w : Nat) : Int := near (piS (w + 15) - asS q h n b (w + 16)) 16
theorem acS_near {q : Nat → Nat} (hq : IsRt q) {h b w : Nat} {n : Int} (hh : 1 ≤ h) (hbw : b ≤ w) (hw : w + h + 80 ≤ 900) (hn : n.natAbs ≤ 2 ^ b) : ab ((acS q h n b w : R) - 2 ^ w * (hp - odd (asn (2 ^ b)) n)) ≤ 1 / 2 + 1 / 16384 := by
  have p := piS_near (b := w + 15) (by omega)
  have s := asS_near hq (n := n) (b := b) (w := w + 16) hh (by omega) (by omega) hn
  have e2 : (2 : R) ^ (w + 16) = 2 ^ (w + 15) * 2 := by rw [show w + 16 = w + 15 + 1 by omega, pw_succ]
  have k : ab (((piS (w + 15) - asS q h n b (w + 16) : Int) : R) - 2 ^ (w + 16) * (hp - odd (asn (2 ^ b)) n)) ≤ 2 := by
    rw [cast_sub]
    rw [e2] at s ⊢
    have s := ab_le.mp s
    have p := ab_le.mp p
    generalize (2 : R) ^ (w + 15) = W at *
    generalize ((piS (w + 15) : Int) : R) = p0 at *
    generalize ((asS q h n b (w + 16) : Int) : R) = i0 at *
    exact ab_le.mpr ⟨by grind, by grind⟩
  have := near16 k
  unfold acS
  grind
end Re.R

/-! Own: log with floors; ends that are told, and the other side's two values; no program in it. -/
namespace Re.R
theorem near_sc {V : Int} {b k : Nat} {a e : R} (hk : 1 ≤ k) (h : ab ((V : R) - 2 ^ (b + k) * a) ≤ e * 2 ^ k) : ab ((near V k : R) - 2 ^ b * a) ≤ 1 / 2 + e := by
  have n := near_R V (b := k) hk
  rw [pw_add] at h
  have pk := two_pos k
  have n := ab_le.mp (show ab (2 ^ k * (near V k : R) - V) ≤ 2 ^ k / 2 by grind)
  have h := ab_le.mp h
  generalize (2 : R) ^ k = K at *
  refine ab_le.mpr ⟨?_, ?_⟩
  · have : -((near V k : R) - 2 ^ b * a) ≤ 1 / 2 + e := div_le pk (by grind)
    grind
  · exact div_le pk (by grind)
/-- log 2 -/
noncomputable def ln2 : R := 2 * A 1 (1 / 3)
theorem E_ln2 : E ln2 = 2 := by
  have := A_exp (t := 1 / 3) (by rw [ab_pos (by grind)]; grind)
  unfold ln2
  grind
def rP (n w k : Nat) : Nat := 2 ^ w / n ^ (2 * k + 1)
theorem rP_near {n w : Nat} (hn : 0 < n) (k : Nat) : ab ((rP n w k : R) - 2 ^ w * (1 / (n : R)) ^ (2 * k + 1)) ≤ 2 := by
  have n0 := nat_pos hn
  have fl := nat_fl (2 ^ w) (show 0 < n ^ (2 * k + 1) from Nat.pow_pos hn)
  rw [nat_pow, nat_pow, nat2] at fl
  have ip := inv_pw (n := (n : R)) (by grind) (2 * k + 1)
  have nk := pw_pos n0 (2 * k + 1)
  show ab (((2 ^ w / n ^ (2 * k + 1) : Nat) : R) - _) ≤ _
  generalize ((2 ^ w / n ^ (2 * k + 1) : Nat) : R) = t at *
  generalize (n : R) ^ (2 * k + 1) = B at *
  generalize (1 / (n : R)) ^ (2 * k + 1) = I at *
  generalize (2 : R) ^ w = W at *
  have e : B * (W * I) = W := by
    have : B * (W * I) = W * (I * B) := by grind
    rw [this, ip]
    grind
  have k1 : t ≤ W * I := div_le nk (by grind)
  have k2 : W * I ≤ t + 1 := div_le nk (by grind)
  exact ab_le.mpr ⟨by grind, by grind⟩
theorem rP_zero {n w k : Nat} (hn : 2 ≤ n) (hk : w ≤ 2 * k) : rP n w k = 0 := by
  refine Nat.div_eq_of_lt ?_
  have h1 : 2 ^ w < 2 ^ (2 * k + 1) := Nat.pow_lt_pow_right (by decide) (by omega)
  have h2 : 2 ^ (2 * k + 1) ≤ n ^ (2 * k + 1) := Nat.pow_le_pow_left hn _
  omega
theorem rsum_A {g : Int} (hg : g = 1 ∨ g = -1) {n w k : Nat} (hn : 2 ≤ n) (hk : w ≤ 2 * k) : ab ((odS g (rP n w) k : R) - 2 ^ w * A (g : R) (1 / (n : R))) ≤ 3 * (k : R) + 4 := by
  have n0 : (2 : R) ≤ n := nat_le hn
  have i1 : 1 / (n : R) * n = 1 := div_mul (by grind)
  have i0 : 0 < 1 / (n : R) := div_pos (by grind) (by grind)
  have i2 : 1 / (n : R) ≤ 1 / 2 := by
    apply Classical.byContradiction
    intro c
    have := mul_pos' (show 0 < 1 / (n : R) - 1 / 2 by grind) (show 0 < (n : R) by grind)
    grind
  exact odS_A hg (two_pos w) (Std.le_of_lt i0) i2 (fun j _ => rP_near (by omega) j) (rP_zero hn hk)
def lt2 (b : Nat) : Int := near (2 * odS 1 (rP 3 (b + 32)) (b + 32)) 32
theorem lt2_near {b : Nat} (hb : b ≤ 900) : ab ((lt2 b : R) - 2 ^ b * ln2) ≤ 51 / 100 := by
  have s := rsum_A (g := 1) (.inl rfl) (n := 3) (w := b + 32) (k := b + 32) (by decide) (by omega)
  have e1 : ((1 : Int) : R) = 1 := rfl
  have e3 : ((3 : Nat) : R) = 3 := rfl
  rw [e1, e3] at s
  have bl : ((b + 32 : Nat) : R) ≤ ((932 : Nat) : R) := nat_le (by omega)
  have e9 : ((932 : Nat) : R) = 932 := rfl
  rw [e9] at bl
  have k : ab (((2 * odS 1 (rP 3 (b + 32)) (b + 32) : Int) : R) - 2 ^ (b + 32) * ln2) ≤ 1 / 100 * 2 ^ 32 := by
    have e2 : ((2 : Int) : R) = 2 := rfl
    rw [cast_mul, e2, e32]
    unfold ln2
    generalize ((odS 1 (rP 3 (b + 32)) (b + 32) : Int) : R) = D at *
    have s := ab_le.mp s
    exact ab_le.mpr ⟨by grind, by grind⟩
  have := near_sc (by decide) k
  unfold lt2
  grind
/-- logarithm_scaled: s + 1 the bits of n, c those of s - b -/
def lgR (n s m : Nat) : Nat := (n * 2 ^ m / 2 ^ s - 2 ^ m) * 2 ^ m / (n * 2 ^ m / 2 ^ s + 2 ^ m)
def lgS (q : Nat → Nat) (h n s b w c : Nat) : Int := near (2 * invT q h (w + 16 + c) 1 (lgR n s (w + 16 + c)) + ((s : Int) - (b : Int)) * lt2 (w + 16 + c)) (16 + c)
theorem E_mulnat (x : R) : ∀ n : Nat, E (n * x) = E x ^ n
  | 0 => by
    show E ((0 : R) * x) = _
    rw [show (0 : R) * x = 0 by grind, E0, pw_zero]
  | n + 1 => by
    rw [nat_succ, show ((n : R) + 1) * x = n * x + x by grind, E_add, E_mulnat x n, pw_succ]
theorem lgR_le {n s m : Nat} (h1 : 2 ^ s ≤ n) (h2 : n < 2 ^ (s + 1)) : 2 ^ m ≤ n * 2 ^ m / 2 ^ s ∧ n * 2 ^ m / 2 ^ s ≤ 2 * 2 ^ m ∧ 2 * lgR n s m ≤ 2 ^ m := by
  have ps : 0 < 2 ^ s := Nat.pow_pos (by decide)
  have pm : 0 < 2 ^ m := Nat.pow_pos (by decide)
  have a1 : 2 ^ m ≤ n * 2 ^ m / 2 ^ s := (Nat.le_div_iff_mul_le ps).mpr (by rw [Nat.mul_comm]; exact Nat.mul_le_mul_right _ h1)
  have a2 : n * 2 ^ m / 2 ^ s ≤ 2 * 2 ^ m := Nat.div_le_of_le_mul (by
    have : 2 ^ s * (2 * 2 ^ m) = 2 ^ (s + 1) * 2 ^ m := by rw [Nat.pow_succ]; grind
    rw [this]
    exact Nat.mul_le_mul_right _ (by omega))
  refine ⟨a1, a2, ?_⟩
  unfold lgR
  generalize n * 2 ^ m / 2 ^ s = M at *
  generalize 2 ^ m = W at *
  have h : (M - W) * W / (M + W) * (M + W) ≤ (M - W) * W := Nat.div_mul_le_self _ _
  refine Nat.le_of_mul_le_mul_right (c := M + W) ?_ (by omega)
  have h3 : 2 * ((M - W) * W) ≤ W * (M + W) := by
    have : 2 * (M - W) ≤ M + W := by omega
    have := Nat.mul_le_mul_right W this
    rw [Nat.mul_comm W]
    rw [← Nat.mul_assoc]
    exact this
  rw [Nat.mul_assoc]
  omega
theorem lgS_near {q : Nat → Nat} (hq : IsRt q) {h n s b w c : Nat} (hh : 1 ≤ h) (hw : w + 16 + c + h + 32 ≤ 900) (h1 : 2 ^ s ≤ n) (h2 : n < 2 ^ (s + 1)) (c1 : ((s : Int) - (b : Int)).natAbs ≤ 2 ^ c) {L : R} (hL : 2 ^ b * E L = n) : ab ((lgS q h n s b w c : R) - 2 ^ w * L) ≤ 1 / 2 + 1 / 1024 := by
  obtain ⟨m1, m2, m3⟩ := lgR_le (m := w + 16 + c) h1 h2
  have pm := two_pos (w + 16 + c)
  have ps := two_pos s
  have pb := two_pos b
  have f1 := nat_fl (n * 2 ^ (w + 16 + c)) (show 0 < 2 ^ s from Nat.pow_pos (by decide))
  have f2 := nat_fl ((n * 2 ^ (w + 16 + c) / 2 ^ s - 2 ^ (w + 16 + c)) * 2 ^ (w + 16 + c)) (show 0 < n * 2 ^ (w + 16 + c) / 2 ^ s + 2 ^ (w + 16 + c) by have : 0 < 2 ^ (w + 16 + c) := Nat.pow_pos (by decide); omega)
  have es : ((n * 2 ^ (w + 16 + c) / 2 ^ s - 2 ^ (w + 16 + c) : Nat) : R) = ((n * 2 ^ (w + 16 + c) / 2 ^ s : Nat) : R) - 2 ^ (w + 16 + c) := by
    have z : ((n * 2 ^ (w + 16 + c) / 2 ^ s - 2 ^ (w + 16 + c) : Nat) : R) + ((2 ^ (w + 16 + c) : Nat) : R) = ((n * 2 ^ (w + 16 + c) / 2 ^ s : Nat) : R) := by
      rw [← nat_add]
      congr 1
      omega
    rw [nat_pow, nat2] at z
    grind
  rw [nat_mul, nat_pow, nat_pow, nat2] at f1
  rw [nat_mul, nat_add, es, nat_pow, nat2] at f2
  have er : (n * 2 ^ (w + 16 + c) / 2 ^ s - 2 ^ (w + 16 + c)) * 2 ^ (w + 16 + c) / (n * 2 ^ (w + 16 + c) / 2 ^ s + 2 ^ (w + 16 + c)) = lgR n s (w + 16 + c) := rfl
  rw [er] at f2
  have M1 := nat_le m1
  have M2 := nat_le m2
  rw [nat_pow, nat2] at M1
  rw [nat_mul, nat_pow, nat2] at M2
  have n1 := nat_le h1
  rw [nat_pow, nat2] at n1
  have n2 := nat_lt h2
  rw [nat_pow, nat2, pw_succ] at n2
  have ht := to1_nat (g := 1) (w := w + 16 + c) (t := lgR n s (w + 16 + c)) (by omega) fun _ => m3
  obtain ⟨v, hv⟩ := Tn.ex (g := 1) (.inl rfl) ht
  have I := invT_near hq (g := 1) (.inl rfl) hh (by omega) (show lgR n s (w + 16 + c) ≤ 2 ^ (w + 16 + c) by omega) (fun _ => m3) hv
  have dt : (lgR n s (w + 16 + c) : R) / 2 ^ (w + 16 + c) * 2 ^ (w + 16 + c) = lgR n s (w + 16 + c) := div_mul (by grind)
  -- rho
  have dr : ((n : R) - 2 ^ s) / (n + 2 ^ s) * (n + 2 ^ s) = n - 2 ^ s := div_mul (by grind)
  have r0 : 0 ≤ ((n : R) - 2 ^ s) / (n + 2 ^ s) := nn_mul (by grind) (Std.le_of_lt (inv_pos (by grind)))
  have r1 : ((n : R) - 2 ^ s) / (n + 2 ^ s) ≤ 1 / 2 := div_le (d := (n : R) + 2 ^ s) (by grind) (by grind)
  have hr : To1 1 (((n : R) - 2 ^ s) / (n + 2 ^ s)) := ⟨r0, by grind, fun _ => r1⟩
  obtain ⟨a, ha⟩ := Tn.ex (g := 1) (.inl rfl) hr
  have lip := ha.lip hv hr ht
  have hE : E (2 * a) * 2 ^ s = n := by
    rcases ha with ⟨_, ⟨z, _⟩ | ⟨_, k⟩⟩
    · omega
    · generalize ((n : R) - 2 ^ s) / (n + 2 ^ s) = u at *
      generalize E (2 * a) = x at *
      generalize (2 : R) ^ s = B at *
      have nb : 0 < (n : R) + B := by grind
      -- x (1 - u) = 1 + u, u (n + B) = n - B
      have e1 : x * (1 - u) * (n + B) = (1 + u) * (n + B) := by rw [k]
      have e2 : (1 - u) * ((n : R) + B) = 2 * B := by grind
      have e3 : (1 + u) * ((n : R) + B) = 2 * n := by grind
      have e4 : x * (1 - u) * (n + B) = x * ((1 - u) * (n + B)) := by grind
      rw [e4, e2, e3] at e1
      grind
  have eL : L = 2 * a + ((s : R) - b) * ln2 := by
    have k1 : E (L + b * ln2) = n := by rw [E_add, E_mulnat, E_ln2]; grind
    have k2 : E (2 * a + s * ln2) = n := by rw [E_add, E_mulnat, E_ln2]; exact hE
    have := E_inj (k1.trans k2.symm)
    grind
  have l2 := lt2_near (b := w + 16 + c) (by omega)
  have pc := two_pos c
  have K1 : (1 : R) ≤ 2 ^ c := by
    have := pw_mono (show (0 : R) ≤ 1 by grind) (show (1 : R) ≤ 2 by grind) c
    rw [pw_one] at this
    exact this
  have hc := nat_le c1
  rw [nat_pow, nat2] at hc
  have ek : (((s : Int) - (b : Int) : Int) : R) = (s : R) - b := by rw [cast_sub]; rfl
  have habs : ((((s : Int) - (b : Int)).natAbs : Nat) : R) = ab ((s : R) - b) := by
    rw [← ek]
    generalize (s : Int) - (b : Int) = z
    rcases (by omega : 0 ≤ z ∨ z ≤ 0) with y | y
    · rw [ab_pos (cast_le (a := 0) |>.mpr y)]
      rw [← cast_nat]
      congr 1
      omega
    · rw [ab_neg (cast_le (b := 0) |>.mpr y), ← cast_neg]
      rw [← cast_nat]
      congr 1
      omega
  rw [habs] at hc
  have key : ab (((2 * invT q h (w + 16 + c) 1 (lgR n s (w + 16 + c)) + ((s : Int) - (b : Int)) * lt2 (w + 16 + c) : Int) : R) - 2 ^ (w + (16 + c)) * L) ≤ 1 / 1024 * 2 ^ (16 + c) := by
    rw [cast_add, cast_mul, cast_mul, ek, eL, show w + (16 + c) = w + 16 + c by omega]
    have e2 : ((2 : Int) : R) = 2 := rfl
    rw [e2, pw_add 2 16 c, e16]
    generalize ((invT q h (w + 16 + c) 1 (lgR n s (w + 16 + c)) : Int) : R) = V at *
    generalize ((lt2 (w + 16 + c) : Int) : R) = D at *
    generalize (lgR n s (w + 16 + c) : R) = t at *
    generalize t / 2 ^ (w + 16 + c) = u' at *
    generalize ((n : R) - 2 ^ s) / (n + 2 ^ s) = u at *
    generalize ((n * 2 ^ (w + 16 + c) / 2 ^ s : Nat) : R) = M at *
    generalize (2 : R) ^ (w + 16 + c) = W at *
    generalize (2 : R) ^ s = B at *
    generalize (n : R) = N at *
    generalize (s : R) - b = k at *
    generalize ln2 = l at *
    generalize (2 : R) ^ c = K at *
    -- u within 2 / W of u'
    have d1 : ab (u * W - t) ≤ 2 := by
      -- (N + B) u = N - B ; (M + W) t near (M - W) W ; B M near N W
      have p1 : 0 < M + W := by grind
      have p2 : 0 < N + B := by grind
      have g : (M + W) * (N + B) * (u * W) = (M + W) * W * (N - B) := by
        have : (M + W) * (N + B) * (u * W) = (M + W) * W * (u * (N + B)) := by grind
        rw [this, dr]
      -- (M + W) W (N - B) - (N + B) (M - W) W = 2 W (N W - M B)
      have g2 : (M + W) * W * (N - B) = (N + B) * ((M - W) * W) + 2 * W * (N * W - B * M) := by grind
      have q2 := mul_pos' p1 p2
      have z1 := nn_mul (Std.le_of_lt pm) (show 0 ≤ N * W - B * M by grind)
      have z2 := nn_mul (Std.le_of_lt pm) (show 0 ≤ B - (N * W - B * M) by grind)
      have z3 := nn_mul (Std.le_of_lt p2) (show 0 ≤ (M - W) * W - (M + W) * t by grind)
      have z4 := nn_mul (Std.le_of_lt p2) (show 0 ≤ (M + W) * t + (M + W) - (M - W) * W by grind)
      have z5 := nn_mul (show 0 ≤ N - B by grind) (Std.le_of_lt pm)
      have z6 := nn_mul (show 0 ≤ M - W by grind) (Std.le_of_lt p2)
      have c1 : t ≤ u * W := div_le q2 (by grind)
      have c2 : u * W ≤ t + 2 := div_le q2 (by grind)
      exact ab_le.mpr ⟨by grind, by grind⟩
    have d2 : W * ab (u - u') ≤ 2 := by
      have : W * ab (u - u') = ab (u * W - t) := by
        rw [← dt, show u * W - u' * W = W * (u - u') by grind, ab_mul, ab_pos (Std.le_of_lt pm)]
      rw [this]
      exact d1
    have d3 : ab (W * a - W * v) ≤ 4 := by
      rw [show W * a - W * v = W * (a - v) by grind, ab_mul, ab_pos (Std.le_of_lt pm)]
      have := nn_mul (Std.le_of_lt pm) (show 0 ≤ 2 * ab (u - u') - ab (a - v) by grind)
      grind
    have d4 : ab (k * (D - W * l)) ≤ K := by
      rw [ab_mul]
      have := mul_mono hc l2 (ab_nn k) (by grind)
      grind
    have d3 := ab_le.mp d3
    have d4 := ab_le.mp d4
    have I := ab_le.mp I
    exact ab_le.mpr ⟨by grind, by grind⟩
  have := near_sc (by omega) key
  unfold lgS
  exact this
/-! ### log as a function of whole numbers; ends; the other side -/
noncomputable def lgn (B n : Nat) : R := 2 * A 1 (((n : R) - B) / (n + B))
theorem lgn_ok {B n : Nat} (hB : 0 < B) (hn : 0 < n) : (B : R) * E (lgn B n) = n := by
  have B0 := nat_pos hB
  have n0 := nat_pos hn
  have dr : ((n : R) - B) / (n + B) * (n + B) = n - B := div_mul (by grind)
  have u1 : ((n : R) - B) / (n + B) < 1 := by
    apply Classical.byContradiction
    intro z
    have := nn_mul (show 0 ≤ ((n : R) - B) / (n + B) - 1 by grind) (show 0 ≤ (n : R) + B by grind)
    grind
  have u2 : -1 < ((n : R) - B) / (n + B) := by
    apply Classical.byContradiction
    intro z
    have := nn_mul (show 0 ≤ -1 - ((n : R) - B) / (n + B) by grind) (show 0 ≤ (n : R) + B by grind)
    grind
  have k := A_exp (t := ((n : R) - B) / (n + B)) (by have := ab_cases (((n : R) - B) / (n + B)); grind)
  unfold lgn
  generalize ((n : R) - B) / (n + B) = u at *
  generalize E (2 * A 1 u) = x at *
  generalize (n : R) = n at *
  generalize (B : R) = B at *
  have nb : 0 < n + B := by grind
  have e1 : x * (1 - u) * (n + B) = (1 + u) * (n + B) := by rw [k]
  have e2 : (1 - u) * (n + B) = 2 * B := by grind
  have e3 : (1 + u) * (n + B) = 2 * n := by grind
  have e4 : x * (1 - u) * (n + B) = x * ((1 - u) * (n + B)) := by grind
  rw [e4, e2, e3] at e1
  grind
theorem lgn_mono {B m n : Nat} (hB : 0 < B) (hm : 0 < m) (h : m ≤ n) : lgn B m ≤ lgn B n := by
  have e1 := lgn_ok hB hm
  have e2 := lgn_ok hB (show 0 < n by omega)
  rcases Nat.lt_or_ge m n with c | c
  · apply Classical.byContradiction
    intro z
    have s := E_mono (show lgn B n ≤ lgn B m by grind)
    have B0 := nat_pos hB
    have := nn_mul (Std.le_of_lt B0) (show 0 ≤ E (lgn B m) - E (lgn B n) by grind)
    have := nat_lt c
    grind
  · rw [show m = n by omega]
    exact Std.le_refl _
theorem lgn_one {B : Nat} (hB : 0 < B) : lgn B B = 0 := by
  have e := lgn_ok hB hB
  have B0 := nat_pos hB
  apply E_inj
  rw [E0]
  have i := mul_inv (x := (B : R)) (by grind)
  generalize (B : R)⁻¹ = j at *
  have : (B : R) * j * E (lgn B B) = j * ((B : R) * E (lgn B B)) := by grind
  rw [e, i] at this
  grind
theorem atn_zero {B : Nat} (hB : 0 < B) : atn B 0 = 0 := by
  obtain ⟨a0, a1, e⟩ := atn_ok B 0
  have B0 := nat_pos hB
  have e0 : ((0 : Nat) : R) = 0 := rfl
  rw [e0] at e
  have s := S_half a0 a1
  apply Classical.byContradiction
  intro z
  have := mul_pos' B0 (show 0 < S (atn B 0) by grind)
  grind
theorem asn_zero {B : Nat} (hB : 0 < B) : asn B 0 = 0 := by
  obtain ⟨a0, a1, e⟩ := asn_ok hB (Nat.zero_le B)
  have B0 := nat_pos hB
  have e0 : ((0 : Nat) : R) = 0 := rfl
  rw [e0] at e
  have s := S_half a0 a1
  apply Classical.byContradiction
  intro z
  have := mul_pos' B0 (show 0 < S (asn B 0) by grind)
  grind
theorem S_inj {s t : R} (s0 : 0 ≤ s) (s1 : s ≤ hp) (t0 : 0 ≤ t) (t1 : t ≤ hp) (h : S s = S t) : s = t := by
  have cs := C_nn s0 s1
  have ct := C_nn t0 t1
  have e1 := CS1 s
  have e2 := CS1 t
  rw [h] at e1
  have c1 : C s ≤ C t := sq_le ct (by grind)
  have c2 : C t ≤ C s := sq_le cs (by grind)
  have ce : C s = C t := by grind
  have d := S_sub s t
  rw [h, ce] at d
  rcases Std.le_total (a := s) (b := t) with c | c
  · have g := S_half (x := t - s) (by grind) (by grind)
    rw [show t - s = -(s - t) by grind, S_neg] at g
    grind
  · have g := S_half (x := s - t) (by grind) (by grind)
    grind
theorem asn_one {B : Nat} (hB : 0 < B) : asn B B = hp := by
  obtain ⟨a0, a1, e⟩ := asn_ok hB (Nat.le_refl B)
  have B0 := nat_pos hB
  have hd := hp_near
  refine S_inj a0 a1 (by grind) (Std.le_refl _) ?_
  rw [S_hp]
  have i := mul_inv (x := (B : R)) (by grind)
  generalize (B : R)⁻¹ = j at *
  have : (B : R) * j * S (asn B B) = j * ((B : R) * S (asn B B)) := by grind
  rw [e, i] at this
  grind
theorem encl_zero {B : R} : Encl B 0 (0, 0) := by
  have e0 : ((0 : Int) : R) = 0 := rfl
  refine ⟨?_, ?_, ?_, ?_⟩ <;> simp only [e0] <;> grind
theorem encl_max {B f : R} {p : Int × Int} (pB : 0 ≤ B) (h : Encl B f p) (f0 : 0 ≤ f) : Encl B f (max p.1 0, p.2) := by
  have e0 : ((0 : Int) : R) = 0 := rfl
  have m := nn_mul pB f0
  have h1 := h.lo
  have h2 := h.lo2
  have c : ((max p.1 0 : Int) : R) ≤ B * f ∧ B * f ≤ ((max p.1 0 : Int) : R) + 11 / 10 := by
    rcases Int.le_total p.1 0 with z | z
    · rw [Int.max_eq_right z, e0]
      have := cast_le.mpr z
      rw [e0] at this
      exact ⟨m, by grind⟩
    · rw [Int.max_eq_left z]
      exact ⟨h1, h2⟩
  exact ⟨c.1, h.hi, c.2, h.hi2⟩
def Good6 (lo hi : Int) (mn mx : Int) : Prop := lo * 2 ^ 100 ≤ mn + 2 ^ 60 ∧ mx - 2 ^ 60 ≤ hi * 2 ^ 100 ∧ hi - lo ≤ mx / 2 ^ 100 - mn / 2 ^ 100 + 7
theorem e60 : ((2 ^ 60 : Int) : R) = 1152921504606846976 := rfl
theorem two_good {bits : Nat} {f0 f1 : R} {p0 p1 : Int × Int} (h0 : Encl (2 ^ bits) f0 p0) (h1 : Encl (2 ^ bits) f1 p1) (hx : f0 ≤ f1) {u v : Int} (n0 : ab ((u : R) - 2 ^ (bits + 100) * f0) ≤ 1000000) (n1 : ab ((v : R) - 2 ^ (bits + 100) * f1) ≤ 1000000)
    {mn mx : Int} (m1 : mn = u ∨ mn = v) (m2 : mx = u ∨ mx = v) (l1 : mn ≤ u ∧ mn ≤ v) (l2 : u ≤ mx ∧ v ≤ mx) : Good6 p0.1 p1.2 mn mx := by
  have pb := two_pos bits
  have e : ∀ y : R, 2 ^ (bits + 100) * y = 1267650600228229401496703205376 * (2 ^ bits * y) := fun y => by rw [pw100]; grind
  rw [e] at n0 n1
  have n0 := ab_le.mp n0
  have n1 := ab_le.mp n1
  have m := nn_mul (Std.le_of_lt pb) (show 0 ≤ f1 - f0 by grind)
  have i0 := h0.lo
  have i1 := h1.hi
  have j0 := h0.lo2
  have j1 := h1.hi2
  have a1 := cast_le.mpr l1.1
  have a2 := cast_le.mpr l2.2
  refine ⟨?_, ?_, ?_⟩
  · apply cast_le.mp
    rw [cast_mul, cast_add, e100, e60]
    rcases m1 with rfl | rfl <;> grind
  · apply cast_le.mp
    rw [cast_mul, cast_sub, e100, e60]
    rcases m2 with rfl | rfl <;> grind
  · have g1 := int_fl mx (show (0 : Int) < 2 ^ 100 from Int.pow_pos (by decide))
    have g2 := int_fl mn (show (0 : Int) < 2 ^ 100 from Int.pow_pos (by decide))
    rw [e100] at g1 g2
    apply cast_le.mp
    rw [cast_sub, cast_add, cast_sub]
    have e7 : ((7 : Int) : R) = 7 := rfl
    rw [e7]
    grind
end Re.R

/-! Own: the other side's log, arctan and arcsine; no program in it. -/
namespace Re.R
def lP (p q b : Nat) : Nat → Nat
  | 0 => p * 2 ^ b / q
  | k + 1 => lP p q b k * p * p / (q * q)
theorem lP_near {p q b : Nat} (hq : 0 < q) (h : 2 * p ≤ q) (k : Nat) : ab ((lP p q b k : R) - 2 ^ b * ((p : R) / q) ^ (2 * k + 1)) ≤ 2 := by
  have q0 := nat_pos hq
  have p0 := nat_nn p
  have pb := two_pos b
  have d : (p : R) / q * q = p := div_mul (by grind)
  have h' := nat_le h
  rw [nat_mul, nat2] at h'
  refine pow_near pb (nn_mul p0 (Std.le_of_lt (inv_pos q0))) (div_le q0 (by grind)) ?_ (fun k => ?_) k
  · show ab (((p * 2 ^ b / q : Nat) : R) - 2 ^ b * ((p : R) / q)) ≤ 1
    have f := nat_fl (p * 2 ^ b) hq
    rw [nat_mul, nat_pow, nat2] at f
    generalize ((p * 2 ^ b / q : Nat) : R) = t at *
    generalize (p : R) / q = u at *
    rw [← d] at f
    have k1 : t ≤ 2 ^ b * u := div_le q0 (by grind)
    have k2 : 2 ^ b * u ≤ t + 1 := div_le q0 (by grind)
    exact ab_le.mpr ⟨by grind, by grind⟩
  · show ab (((lP p q b k * p * p / (q * q) : Nat) : R) - (lP p q b k : R) * ((p : R) / q * ((p : R) / q))) ≤ 3 / 2
    have f := nat_fl (lP p q b k * p * p) (show 0 < q * q from Nat.mul_pos hq hq)
    rw [nat_mul, nat_mul, nat_mul] at f
    generalize ((lP p q b k * p * p / (q * q) : Nat) : R) = t at *
    generalize (lP p q b k : R) = a at *
    generalize (p : R) / q = u at *
    generalize (q : R) = c at *
    have qq := mul_pos' q0 q0
    rw [← d] at f
    have k1 : t ≤ a * (u * u) := div_le qq (by grind)
    have k2 : a * (u * u) ≤ t + 1 := div_le qq (by grind)
    exact ab_le.mpr ⟨by grind, by grind⟩
theorem lP_half {p q b : Nat} (hq : 0 < q) (h : 2 * p ≤ q) : ∀ k, lP p q b k * 2 ^ (2 * k + 1) ≤ 2 ^ b
  | 0 => by
    show p * 2 ^ b / q * 2 ≤ 2 ^ b
    have h1 : p * 2 ^ b / q * q ≤ p * 2 ^ b := Nat.div_mul_le_self _ _
    refine Nat.le_of_mul_le_mul_right (c := q) ?_ hq
    have h2 := Nat.mul_le_mul_right (2 ^ b) h
    generalize p * 2 ^ b / q = t at *
    generalize 2 ^ b = W at *
    have e1 : t * 2 * q = 2 * (t * q) := by grind
    have e2 : 2 * p * W = 2 * (p * W) := by grind
    have e3 : W * q = q * W := Nat.mul_comm _ _
    omega
  | k + 1 => by
    have ih := lP_half (b := b) hq h k
    have h1 : lP p q b k * p * p / (q * q) * (q * q) ≤ lP p q b k * p * p := Nat.div_mul_le_self _ _
    show lP p q b k * p * p / (q * q) * 2 ^ (2 * (k + 1) + 1) ≤ 2 ^ b
    have e : (2 : Nat) ^ (2 * (k + 1) + 1) = 4 * 2 ^ (2 * k + 1) := by
      rw [show 2 * (k + 1) + 1 = 2 * k + 1 + 2 by omega, Nat.pow_add, Nat.mul_comm]
    rw [e]
    have h4 := Nat.mul_le_mul h h
    generalize lP p q b k = a at *
    generalize a * p * p / (q * q) = t at *
    generalize 2 ^ (2 * k + 1) = c at *
    generalize 2 ^ b = W at *
    refine Nat.le_of_mul_le_mul_right (c := q * q) ?_ (Nat.mul_pos hq hq)
    have a1 := Nat.mul_le_mul_right (4 * c) h1
    have a2 := Nat.mul_le_mul ih h4
    have e2 : a * p * p * (4 * c) = a * c * (2 * p * (2 * p)) := by grind
    have e3 : t * (q * q) * (4 * c) = t * (4 * c) * (q * q) := by grind
    rw [e2, e3] at a1
    omega
theorem lP_zero {p q b k : Nat} (hq : 0 < q) (h : 2 * p ≤ q) (hk : b ≤ 2 * k) : lP p q b k = 0 := by
  have h1 := lP_half (b := b) hq h k
  have e : (2 : Nat) ^ b < 2 ^ (2 * k + 1) := Nat.pow_lt_pow_right (by decide) (by omega)
  rcases Nat.eq_zero_or_pos (lP p q b k) with z | z
  · exact z
  · have := Nat.mul_le_mul_right (2 ^ (2 * k + 1)) (show 1 ≤ lP p q b k from z)
    omega
def lsum (g : Int) (p q b : Nat) : Int := odS g (lP p q b) (20 + b)
theorem lsum_near {g : Int} (hg : g = 1 ∨ g = -1) {p q b : Nat} (hq : 0 < q) (h : 2 * p ≤ q) (hb : b ≤ 900) : ab ((lsum g p q b : R) - 2 ^ b * A (g : R) ((p : R) / q)) ≤ 3000 := by
  have q0 := nat_pos hq
  have d : (p : R) / q * q = p := div_mul (by grind)
  have h' := nat_le h
  rw [nat_mul, nat2] at h'
  have o := odS_A hg (Pw := lP p q b) (two_pos b) (nn_mul (nat_nn p) (Std.le_of_lt (inv_pos q0))) (div_le q0 (by grind)) (n := 20 + b) (fun k _ => lP_near hq h k) (lP_zero hq h (by omega))
  have bl : ((20 + b : Nat) : R) ≤ ((920 : Nat) : R) := nat_le (by omega)
  have e9 : ((920 : Nat) : R) = 920 := rfl
  rw [e9] at bl
  unfold lsum
  grind
theorem shr32 {D : Int} {b : Nat} {a e : R} (h : ab ((D : R) - 2 ^ (b + 32) * a) ≤ e * 4294967296) : ab (((D / 2 ^ 32 : Int) : R) - 2 ^ b * a) ≤ 1 + e := by
  have f := int_fl D (show (0 : Int) < 2 ^ 32 from Int.pow_pos (by decide))
  have e3 : ((2 ^ 32 : Int) : R) = 4294967296 := rfl
  rw [e3] at f
  rw [pw_add, e32] at h
  have h := ab_le.mp h
  generalize ((D / 2 ^ 32 : Int) : R) = t at *
  exact ab_le.mpr ⟨by grind, by grind⟩
def lPi (b : Nat) : Int := (16 * lsum (-1) 1 5 (b + 32) - 4 * lsum (-1) 1 239 (b + 32)) / 2 ^ 32
theorem lPi_near {b : Nat} (hb : b ≤ 800) : ab ((lPi b : R) - 2 ^ b * (2 * hp)) ≤ 2 := by
  have s1 := lsum_near (g := -1) (.inr rfl) (p := 1) (q := 5) (b := b + 32) (by decide) (by decide) (by omega)
  have s2 := lsum_near (g := -1) (.inr rfl) (p := 1) (q := 239) (b := b + 32) (by decide) (by decide) (by omega)
  have e1 : ((-1 : Int) : R) = -1 := rfl
  have e2 : ((1 : Nat) : R) / ((5 : Nat) : R) = 1 / 5 := rfl
  have e3 : ((1 : Nat) : R) / ((239 : Nat) : R) = 1 / 239 := rfl
  rw [e1, e2] at s1
  rw [e1, e3] at s2
  have k : ab (((16 * lsum (-1) 1 5 (b + 32) - 4 * lsum (-1) 1 239 (b + 32) : Int) : R) - 2 ^ (b + 32) * (2 * hp)) ≤ 1 / 10000 * 4294967296 := by
    have e4 : ((16 : Int) : R) = 16 := rfl
    have e5 : ((4 : Int) : R) = 4 := rfl
    rw [cast_sub, cast_mul, cast_mul, e4, e5]
    unfold hp u5 v239
    have s1 := ab_le.mp s1
    have s2 := ab_le.mp s2
    generalize ((lsum (-1) 1 5 (b + 32) : Int) : R) = x at *
    generalize ((lsum (-1) 1 239 (b + 32) : Int) : R) = y at *
    exact ab_le.mpr ⟨by grind, by grind⟩
  have := shr32 k
  unfold lPi
  grind
theorem half_near {b : Nat} {V : Int} {a : R} (h : ab ((V : R) - 2 ^ b * (2 * a)) ≤ 2) : ab (((V / 2 : Int) : R) - 2 ^ b * a) ≤ 2 := by
  have f := int_fl V (show (0 : Int) < 2 by decide)
  have e3 : ((2 : Int) : R) = 2 := rfl
  rw [e3] at f
  have h := ab_le.mp h
  generalize ((V / 2 : Int) : R) = t at *
  exact ab_le.mpr ⟨by grind, by grind⟩
/-- arctan; m is the size of x -/
def latA (q : Nat → Nat) (y w : Nat) : Int := 16 * lsum (-1) (hsts q (-1) w y 4) (2 ^ w) w / 2 ^ 32
theorem latA_near {q : Nat → Nat} (hq : IsRt q) {y b : Nat} (hb : b ≤ 800) (hy : y ≤ 2 ^ (b + 32)) {a v : R} (ha : Tn (-1) ((y : R) / 2 ^ (b + 32)) a) (hv : 2 ^ (b + 32) * ab (a - v) ≤ 2) : ab ((latA q y (b + 32) : R) - 2 ^ b * v) ≤ 2 := by
  obtain ⟨c, hc, n⟩ := hsts_near hq (g := -1) (.inr rfl) hy (fun z => by omega) ha 4
  have half : 2 * hsts q (-1) (b + 32) y 4 ≤ 2 ^ (b + 32) := hst_half hq (Nat.le_trans (hsts_le q (-1) _ _ 3) hy)
  unfold latA
  generalize hsts q (-1) (b + 32) y 4 = s at *
  have hs := to1_nat (g := -1) (w := b + 32) (t := s) (by omega) fun _ => half
  have pw := two_pos (b + 32)
  have s2 : (s : R) / 2 ^ (b + 32) ≤ 1 / 2 := by
    have h' := nat_le half
    rw [nat_mul, nat_pow, nat2] at h'
    have e : (s : R) / 2 ^ (b + 32) * 2 ^ (b + 32) = s := div_mul (by grind)
    exact div_le pw (by grind)
  have hA := Tn.A (g := -1) (.inr rfl) hs.1 s2
  have ec := hc.same hA hs
  have o := lsum_near (g := -1) (.inr rfl) (p := s) (q := 2 ^ (b + 32)) (b := b + 32) (Nat.pow_pos (by decide)) half (by omega)
  rw [nat_pow, nat2, ← ec] at o
  have e4 : (2 : R) ^ 4 = 16 := by have := pow_cast 4; exact this.symm
  rw [e4] at n
  have n2 : ab (2 ^ (b + 32) * (16 * c) - 2 ^ (b + 32) * a) ≤ 60 := by
    rw [show 2 ^ (b + 32) * (16 * c) - 2 ^ (b + 32) * a = 2 ^ (b + 32) * (16 * c - a) by grind, ab_mul, ab_pos (Std.le_of_lt pw)]
    grind
  have n3 : ab (2 ^ (b + 32) * a - 2 ^ (b + 32) * v) ≤ 2 := by
    rw [show 2 ^ (b + 32) * a - 2 ^ (b + 32) * v = 2 ^ (b + 32) * (a - v) by grind, ab_mul, ab_pos (Std.le_of_lt pw)]
    exact hv
  have k : ab (((16 * lsum (-1) s (2 ^ (b + 32)) (b + 32) : Int) : R) - 2 ^ (b + 32) * v) ≤ 1 / 10 * 4294967296 := by
    have e5 : ((16 : Int) : R) = 16 := rfl
    rw [cast_mul, e5]
    generalize ((lsum (-1) s (2 ^ (b + 32)) (b + 32) : Int) : R) = x at *
    have o := ab_le.mp o
    have n2 := ab_le.mp n2
    have n3 := ab_le.mp n3
    exact ab_le.mpr ⟨by grind, by grind⟩
  have := shr32 k
  grind
def latN (q : Nat → Nat) (m b : Nat) : Int := if 2 ^ (b + 32) < m * 2 ^ 32 then lPi b / 2 - latA q (2 ^ (b + 32) * 2 ^ (b + 32) / (m * 2 ^ 32)) (b + 32) else latA q (m * 2 ^ 32) (b + 32)
theorem tn_of {x y a : R} (x0 : 0 < x) (a0 : 0 ≤ a) (a1 : a ≤ hp) (e : x * S a = y * C a) : Tn (-1) (y / x) a := by
  refine ⟨a0, .inl ⟨rfl, a1, ?_⟩⟩
  have d : y / x * x = y := div_mul (by grind)
  have i := mul_inv (x := x) (by grind)
  generalize y / x = u at *
  generalize x⁻¹ = j at *
  have : x * (S a - u * C a) = 0 := by grind
  have : x * j * (S a - u * C a) = 0 := by
    have z : x * j * (S a - u * C a) = j * (x * (S a - u * C a)) := by grind
    rw [z, this]
    grind
  rw [i] at this
  grind
theorem latN_near {q : Nat → Nat} (hq : IsRt q) {m b : Nat} (hb : b ≤ 800) {a : R} (a0 : 0 ≤ a) (a1 : a ≤ hp) (e : 2 ^ b * S a = m * C a) : ab ((latN q m b : R) - 2 ^ b * a) ≤ 4 := by
  have pw := two_pos (b + 32)
  have eW : (2 : R) ^ (b + 32) = 2 ^ b * 4294967296 := by rw [pw_add, e32]
  have e3 : ((2 ^ 32 : Nat) : R) = 4294967296 := by rw [nat_pow, nat2, e32]
  have e' : 2 ^ (b + 32) * S a = ((m * 2 ^ 32 : Nat) : R) * C a := by
    rw [nat_mul, e3, eW]
    grind
  unfold latN
  split
  · next c =>
    have hm0 : 0 < m * 2 ^ 32 := Nat.lt_of_le_of_lt (Nat.zero_le _) c
    clear e3 e
    generalize m * 2 ^ 32 = Y at *
    have y0 := nat_pos hm0
    have c' := nat_lt c
    rw [nat_pow, nat2] at c'
    have r : ((Y : Nat) : R) * S (hp - a) = 2 ^ (b + 32) * C (hp - a) := by
      rw [S_sub, C_sub, S_hp, C_hp]
      grind
    have tn := tn_of y0 (show 0 ≤ hp - a by grind) (show hp - a ≤ hp by grind) r
    have dq : 2 ^ (b + 32) / ((Y : Nat) : R) * ((Y : Nat) : R) = 2 ^ (b + 32) := div_mul (by grind)
    have hu : To1 (-1) (2 ^ (b + 32) / ((Y : Nat) : R)) := ⟨nn_mul (Std.le_of_lt pw) (Std.le_of_lt (inv_pos y0)), div_le y0 (by grind), fun z => by omega⟩
    have hy : 2 ^ (b + 32) * 2 ^ (b + 32) / Y ≤ 2 ^ (b + 32) := Nat.div_le_of_le_mul (Nat.mul_le_mul_right _ (by omega))
    have hT := to1_nat (g := -1) hy (fun z => by omega)
    obtain ⟨v, hv⟩ := Tn.ex (.inr rfl) hT
    have L := hv.lip tn hT hu
    have fl := nat_fl (2 ^ (b + 32) * 2 ^ (b + 32)) hm0
    rw [nat_mul, nat_pow, nat2] at fl
    have d2 : ((2 ^ (b + 32) * 2 ^ (b + 32) / Y : Nat) : R) / 2 ^ (b + 32) * 2 ^ (b + 32) = ((2 ^ (b + 32) * 2 ^ (b + 32) / Y : Nat) : R) := div_mul (by grind)
    have b1 : 2 ^ (b + 32) * ab (v - (hp - a)) ≤ 2 := by
      generalize ((2 ^ (b + 32) * 2 ^ (b + 32) / Y : Nat) : R) = t at *
      generalize ((Y : Nat) : R) = y at *
      generalize t / 2 ^ (b + 32) = u' at *
      generalize 2 ^ (b + 32) / y = u at *
      generalize (2 : R) ^ (b + 32) = W at *
      have ey : y * (u * W) = W * W := by
        have : y * (u * W) = (u * y) * W := by grind
        rw [this, dq]
      have k1 : t ≤ u * W := div_le y0 (by rw [ey]; exact fl.1)
      have k2 : u * W ≤ t + 1 := div_le y0 (by rw [ey]; have := fl.2; grind)
      have b2 : W * ab (u' - u) ≤ 1 := by
        have : W * ab (u' - u) = ab (t - u * W) := by
          rw [← d2, show u' * W - u * W = W * (u' - u) by grind, ab_mul, ab_pos (Std.le_of_lt pw)]
        rw [this]
        exact ab_le.mpr ⟨by grind, by grind⟩
      have := nn_mul (Std.le_of_lt pw) (show 0 ≤ 2 * ab (u' - u) - ab (v - (hp - a)) by grind)
      grind
    have A := latA_near hq hb hy hv b1
    have p := half_near (lPi_near (b := b) hb)
    rw [cast_sub]
    have A := ab_le.mp A
    have p := ab_le.mp p
    exact ab_le.mpr ⟨by grind, by grind⟩
  · next c =>
    have tn := tn_of pw a0 a1 e'
    have A := latA_near hq hb (show m * 2 ^ 32 ≤ 2 ^ (b + 32) by omega) tn (v := a) (by rw [show a - a = 0 by grind, ab_zero]; grind)
    grind
def lat (q : Nat → Nat) (x : Int) (b : Nat) : Int := if x < 0 then -latN q x.natAbs b else latN q x.natAbs b
/-- arcsine -/
def las (q : Nat → Nat) (x : Int) (b : Nat) : Int :=
  if (2 : Int) ^ (2 * b) - x * x ≤ 0 then lPi b / 2 * (if x < 0 then -1 else 1)
  else lat q (x * 2 ^ (b + 64) / (q (((2 : Int) ^ (2 * b) - x * x).toNat * 2 ^ 128) : Int)) b
theorem pw_add' (b : Nat) : (2 : R) ^ (b + 64) = 2 ^ b * 18446744073709551616 := by
  rw [pw_add]
  have : (2 : R) ^ 64 = 18446744073709551616 := by have := pow_cast 64; exact this.symm
  rw [this]
theorem las_nn {q : Nat → Nat} (hq : IsRt q) {m b z : Nat} (hb : b ≤ 800) (hm : m < 2 ^ b) {th : R} (t0 : 0 ≤ th) (t1 : th ≤ hp) (te : 2 ^ b * S th = m) (hz : m * 2 ^ (b + 64) ≤ (z + 1) * q ((2 ^ b * 2 ^ b - m * m) * 2 ^ 128) ∧ z * q ((2 ^ b * 2 ^ b - m * m) * 2 ^ 128) ≤ m * 2 ^ (b + 64) + q ((2 ^ b * 2 ^ b - m * m) * 2 ^ 128)) : ab ((latN q z b : R) - 2 ^ b * th) ≤ 7 := by
  have pb := two_pos b
  have hmm : m * m < 2 ^ b * 2 ^ b := Nat.mul_lt_mul'' hm hm
  have s := hq ((2 ^ b * 2 ^ b - m * m) * 2 ^ 128)
  have hpos := root_pos hq (show 0 < (2 ^ b * 2 ^ b - m * m) * 2 ^ 128 from Nat.mul_pos (by omega) (by decide))
  have hN : (((2 ^ b * 2 ^ b - m * m) * 2 ^ 128 : Nat) : R) = (2 ^ b * 2 ^ b - m * m) * (18446744073709551616 * 18446744073709551616) := by
    have e1 : ((2 ^ b * 2 ^ b - m * m : Nat) : R) = 2 ^ b * 2 ^ b - m * m := by
      have z : ((2 ^ b * 2 ^ b - m * m : Nat) : R) + ((m * m : Nat) : R) = ((2 ^ b * 2 ^ b : Nat) : R) := by
        rw [← nat_add]
        congr 1
        omega
      rw [nat_mul, nat_mul, nat_pow, nat2] at z
      grind
    have e2 : ((2 ^ 128 : Nat) : R) = 18446744073709551616 * 18446744073709551616 := by
      have : 2 ^ 128 = 18446744073709551616 * 18446744073709551616 := by decide
      rw [this, nat_mul]
      rfl
    rw [nat_mul, e1, e2]
  have s1 := nat_le s.1
  have s2 := nat_lt s.2
  rw [hN, nat_mul] at s1
  rw [hN, nat_mul, nat_succ] at s2
  have z1 := nat_le hz.1
  have z2 := nat_le hz.2
  rw [nat_mul, nat_mul, nat_succ, nat_pow, nat2, pw_add'] at z1
  rw [nat_mul, nat_add, nat_mul, nat_pow, nat2, pw_add'] at z2
  have o0 := nat_pos hpos
  generalize ((q ((2 ^ b * 2 ^ b - m * m) * 2 ^ 128) : Nat) : R) = o at *
  obtain ⟨ph, p0, p1, pe⟩ := ang_ex (x := o) (y := (m : R) * 18446744073709551616) (Std.le_of_lt o0) (nn_mul (nat_nn m) (by grind))
  obtain ⟨v, v0, v1, ve⟩ := ang_ex (x := (2 : R) ^ b) (y := (z : R)) (Std.le_of_lt pb) (nat_nn z)
  have N := latN_near hq hb v0 v1 ve
  have cn := C_nn t0 t1
  have cs := CS1 th
  have M0 : (0 : R) < 2 ^ b * 18446744073709551616 := mul_pos' pb (by grind)
  have k : (2 ^ b * 18446744073709551616 * C th) * (2 ^ b * 18446744073709551616 * C th) = (2 ^ b * 2 ^ b - (m : R) * m) * (18446744073709551616 * 18446744073709551616) := by
    rw [← te]
    generalize (2 : R) ^ b = B at *
    generalize C th = c at *
    generalize S th = s at *
    have : (B * B - B * s * (B * s)) * (18446744073709551616 * 18446744073709551616) = B * B * (18446744073709551616 * 18446744073709551616) * (1 - s * s) := by grind
    rw [this, ← cs]
    grind
  have o1 : o ≤ 2 ^ b * 18446744073709551616 * C th := sq_le (nn_mul (Std.le_of_lt M0) cn) (by rw [k]; exact s1)
  have o2 : 2 ^ b * 18446744073709551616 * C th < o + 1 := sq_lt (by grind) (by rw [k]; exact s2)
  have r := root_ang M0 t0 t1 p0 p1 (X := (m : R) * 18446744073709551616) (by rw [← te]; grind) o1 (Std.le_of_lt o2) pe
  -- tangents of v and ph
  have tv := tn_of pb v0 v1 ve
  have tp := tn_of o0 p0 p1 pe
  have dv : (z : R) / 2 ^ b * 2 ^ b = z := div_mul (by grind)
  have dp : (m : R) * 18446744073709551616 / o * o = (m : R) * 18446744073709551616 := div_mul (by grind)
  have cv := C_gt pb v0 v1 ve
  have cp := C_gt o0 p0 p1 pe
  have L := tan_lip v0 v1 p0 p1 cv cp (s := (z : R) / 2 ^ b) (t := (m : R) * 18446744073709551616 / o) (by
    rcases tv with ⟨_, ⟨_, _, h⟩ | ⟨h, _⟩⟩
    · exact h
    · omega) (by
    rcases tp with ⟨_, ⟨_, _, h⟩ | ⟨h, _⟩⟩
    · exact h
    · omega)
  generalize (z : R) / 2 ^ b = uv at *
  generalize (m : R) * 18446744073709551616 / o = up at *
  have d1 : 2 ^ b * ab (uv - up) ≤ 1 := by
    have e1 : o * (up * 2 ^ b) = m * (2 ^ b * 18446744073709551616) := by
      have : o * (up * 2 ^ b) = (up * o) * 2 ^ b := by grind
      rw [this, dp]
      grind
    have k1 : uv * 2 ^ b ≤ up * 2 ^ b + 1 := div_le o0 (by
      have : o * (up * 2 ^ b + 1) = o * (up * 2 ^ b) + o := by grind
      rw [this, e1, dv]
      grind)
    have k2 : up * 2 ^ b ≤ uv * 2 ^ b + 1 := div_le o0 (by rw [e1, dv]; grind)
    have : 2 ^ b * ab (uv - up) = ab (uv * 2 ^ b - up * 2 ^ b) := by
      rw [show uv * 2 ^ b - up * 2 ^ b = 2 ^ b * (uv - up) by grind, ab_mul, ab_pos (Std.le_of_lt pb)]
    rw [this]
    exact ab_le.mpr ⟨by grind, by grind⟩
  have d2 : ab (2 ^ b * v - 2 ^ b * ph) ≤ 1 := by
    rw [show 2 ^ b * v - 2 ^ b * ph = 2 ^ b * (v - ph) by grind, ab_mul, ab_pos (Std.le_of_lt pb)]
    have := nn_mul (Std.le_of_lt pb) (show 0 ≤ ab (uv - up) - ab (v - ph) by grind)
    grind
  have d3 : ab (2 ^ b * ph - 2 ^ b * th) ≤ 2 := by
    rw [show 2 ^ b * ph - 2 ^ b * th = 2 ^ b * (ph - th) by grind, ab_mul, ab_pos (Std.le_of_lt pb)]
    have := nn_mul (Std.le_of_lt pb) (ab_nn (ph - th))
    grind
  have N := ab_le.mp N
  have d2 := ab_le.mp d2
  have d3 := ab_le.mp d3
  exact ab_le.mpr ⟨by grind, by grind⟩
end Re.R

/-! Own: the two sides of k05 compared; no program in it. -/
namespace Re.R
theorem odd_lat {f : Nat → R} {x : Int} {v : Int} {W e : R} (h : ab ((v : R) - W * f x.natAbs) ≤ e) : ab (((if x < 0 then -v else v : Int) : R) - W * odd f x) ≤ e := by
  have := odd_near (n := x) h
  by_cases c : x < 0
  · rw [if_pos c]
    rwa [if_neg (by omega)] at this
  · rw [if_neg c]
    rwa [if_pos (by omega)] at this
theorem las_near {q : Nat → Nat} (hq : IsRt q) {x : Int} {b : Nat} (hb : b ≤ 800) (hx : x.natAbs ≤ 2 ^ b) {f : Nat → R} (t0 : 0 ≤ f x.natAbs) (t1 : f x.natAbs ≤ hp) (te : 2 ^ b * S (f x.natAbs) = (x.natAbs : R)) : ab ((las q x b : R) - 2 ^ b * odd f x) ≤ 7 := by
  have e2 : ((2 ^ b * 2 ^ b : Nat) : Int) = (2 : Int) ^ (2 * b) := by
    rw [← Nat.pow_add, show b + b = 2 * b by omega, Int.natCast_pow]
    rfl
  have ex : ((x.natAbs * x.natAbs : Nat) : Int) = x * x := Int.natAbs_mul_self
  unfold las
  split
  · next c =>
    have hm : x.natAbs = 2 ^ b := by
      refine Nat.le_antisymm hx (Nat.le_of_not_lt fun z => ?_)
      have := Nat.mul_lt_mul'' z z
      omega
    have hp1 : f x.natAbs = hp := by
      have hd := hp_near
      refine S_inj t0 t1 (by grind) (Std.le_refl _) ?_
      rw [S_hp]
      have pb := two_pos b
      rw [hm, nat_pow, nat2] at te
      rw [hm]
      generalize S (f (2 ^ b)) = s at *
      have i := mul_inv (x := (2 : R) ^ b) (by grind)
      generalize ((2 : R) ^ b)⁻¹ = j at *
      have : (2 : R) ^ b * j * s = j * ((2 : R) ^ b * s) := by grind
      rw [te, i] at this
      grind
    have p := half_near (lPi_near (b := b) hb)
    have := odd_lat (f := f) (x := x) (v := lPi b / 2) (W := 2 ^ b) (e := 2) (by rw [hp1]; exact p)
    have e : lPi b / 2 * (if x < 0 then -1 else 1) = if x < 0 then -(lPi b / 2) else lPi b / 2 := by split <;> omega
    rw [e]
    grind
  · next c =>
    have hm : x.natAbs < 2 ^ b := by
      refine Nat.lt_of_le_of_ne hx fun z => c ?_
      rw [← e2, ← ex, z]
      omega
    have hmm : x.natAbs * x.natAbs < 2 ^ b * 2 ^ b := Nat.mul_lt_mul'' hm hm
    have eN : ((2 : Int) ^ (2 * b) - x * x).toNat = 2 ^ b * 2 ^ b - x.natAbs * x.natAbs := by
      rw [← e2, ← ex]
      omega
    rw [eN]
    have hpos := root_pos hq (show 0 < (2 ^ b * 2 ^ b - x.natAbs * x.natAbs) * 2 ^ 128 from Nat.mul_pos (by omega) (by decide))
    generalize ho : q ((2 ^ b * 2 ^ b - x.natAbs * x.natAbs) * 2 ^ 128) = o at *
    have hz : (x * 2 ^ (b + 64) / (o : Int) < 0 ↔ x < 0) ∧ x.natAbs * 2 ^ (b + 64) ≤ ((x * 2 ^ (b + 64) / (o : Int)).natAbs + 1) * o ∧ (x * 2 ^ (b + 64) / (o : Int)).natAbs * o ≤ x.natAbs * 2 ^ (b + 64) + o := by
      have hX : ∃ X : Nat, X = x.natAbs * 2 ^ (b + 64) := ⟨_, rfl⟩
      obtain ⟨X, hX⟩ := hX
      have p64 : 0 < 2 ^ (b + 64) := Nat.pow_pos (by decide)
      have f1 := Int.mul_ediv_add_emod (x * 2 ^ (b + 64)) (o : Int)
      have f2 := Int.emod_nonneg (x * 2 ^ (b + 64)) (show (o : Int) ≠ 0 by omega)
      have f3 := Int.emod_lt_of_pos (x * 2 ^ (b + 64)) (show 0 < (o : Int) by omega)
      have e64 : ((2 ^ (b + 64) : Nat) : Int) = 2 ^ (b + 64) := by rw [Int.natCast_pow]; rfl
      rw [← hX]
      rcases (by omega : x < 0 ∨ 0 ≤ x) with z | z
      · have eX : x * 2 ^ (b + 64) = -(X : Int) := by
          rw [hX, Int.natCast_mul, e64, ← Int.neg_mul]
          congr 1
          omega
        have X0 : 0 < X := by rw [hX]; exact Nat.mul_pos (by omega) p64
        rw [eX] at f1 f2 f3 ⊢
        generalize -(X : Int) / (o : Int) = d at *
        generalize -(X : Int) % (o : Int) = r at *
        -- o d + r = -X
        have d0 : d < 0 := by
          refine Int.lt_of_not_ge fun y => ?_
          have := Int.mul_nonneg (show 0 ≤ (o : Int) by omega) y
          omega
        obtain ⟨D, hD⟩ : ∃ D : Nat, d = -(D : Int) := ⟨d.natAbs, by omega⟩
        subst hD
        have e1 : (o : Int) * -(D : Int) = -((D * o : Nat) : Int) := by rw [Int.mul_neg, Int.natCast_mul, Int.mul_comm]
        rw [e1] at f1
        have e2 : (-(D : Int)).natAbs = D := by omega
        rw [e2, Nat.add_mul, Nat.one_mul]
        generalize D * o = G at *
        exact ⟨by omega, by omega, by omega⟩
      · have eX : x * 2 ^ (b + 64) = (X : Int) := by
          rw [hX, Int.natCast_mul, e64]
          congr 1
          omega
        rw [eX] at f1 f2 f3 ⊢
        have e3 : (X : Int) / (o : Int) = ((X / o : Nat) : Int) := (Int.natCast_ediv _ _).symm
        have g1 : X / o * o ≤ X := Nat.div_mul_le_self _ _
        have g2 := Nat.lt_mul_div_succ X hpos
        rw [e3]
        have e2 : (((X / o : Nat) : Int)).natAbs = X / o := Int.natAbs_natCast _
        have nn : (0 : Int) ≤ ((X / o : Nat) : Int) := Int.natCast_nonneg _
        rw [e2, Nat.mul_comm (X / o + 1)]
        exact ⟨by omega, by omega, by omega⟩
    obtain ⟨hz0, hz1, hz2⟩ := hz
    unfold lat
    generalize x * 2 ^ (b + 64) / (o : Int) = z at *
    subst ho
    have L := las_nn hq hb hm t0 t1 te ⟨hz1, hz2⟩
    have := odd_lat (f := f) (x := x) (W := 2 ^ b) (e := 7) L
    by_cases y : x < 0
    · rw [if_pos (hz0.mpr y)]
      rwa [if_pos y] at this
    · rw [if_neg (fun k => y (hz0.mp k))]
      rwa [if_neg y] at this
/-- log; n are the bits of x -/
def llog (x n b : Nat) : Int := (2 * ((n : Int) - (b : Int)) * lsum 1 1 3 (b + 32) + 2 * -lsum 1 (2 ^ n - x) (x + 2 ^ n) (b + 32)) / 2 ^ 32
theorem llog_near {x n b : Nat} (hb : b ≤ 800) (h1 : 2 ^ n ≤ 2 * x) (h2 : x < 2 ^ n) (hn : ((n : Int) - (b : Int)).natAbs ≤ 1000) {L : R} (hL : 2 ^ b * E L = x) : ab ((llog x n b : R) - 2 ^ b * L) ≤ 2 := by
  have s1 := lsum_near (g := 1) (.inl rfl) (p := 1) (q := 3) (b := b + 32) (by decide) (by decide) (by omega)
  have s2 := lsum_near (g := 1) (.inl rfl) (p := 2 ^ n - x) (q := x + 2 ^ n) (b := b + 32) (by omega) (by omega) (by omega)
  have e1 : ((1 : Int) : R) = 1 := rfl
  have e2 : ((1 : Nat) : R) / ((3 : Nat) : R) = 1 / 3 := rfl
  have es : ((2 ^ n - x : Nat) : R) = 2 ^ n - x := by
    have z : ((2 ^ n - x : Nat) : R) + (x : R) = ((2 ^ n : Nat) : R) := by
      rw [← nat_add]
      congr 1
      omega
    rw [nat_pow, nat2] at z
    grind
  rw [e1, e2] at s1
  rw [e1, es, nat_add, nat_pow, nat2] at s2
  have pn := two_pos n
  have pb := two_pos b
  have h1' := nat_le h1
  rw [nat_pow, nat_mul, nat2] at h1'
  have h2' := nat_lt h2
  rw [nat_pow, nat2] at h2'
  have d : ((2 : R) ^ n - x) / (x + 2 ^ n) * (x + 2 ^ n) = 2 ^ n - x := div_mul (by grind)
  have u0 : 0 ≤ ((2 : R) ^ n - x) / (x + 2 ^ n) := nn_mul (by grind) (Std.le_of_lt (inv_pos (by grind)))
  have u1 : ((2 : R) ^ n - x) / (x + 2 ^ n) ≤ 1 / 2 := div_le (d := (x : R) + 2 ^ n) (by grind) (by grind)
  have k := A_exp (t := ((2 : R) ^ n - x) / (x + 2 ^ n)) (by rw [ab_pos u0]; grind)
  generalize ((2 : R) ^ n - x) / (x + 2 ^ n) = u at *
  have eA : E (2 * A 1 u) * x = 2 ^ n := by
    generalize E (2 * A 1 u) = y at *
    generalize (2 : R) ^ n = N at *
    generalize (x : R) = x at *
    have nb : 0 < x + N := by grind
    have e1 : y * (1 - u) * (x + N) = (1 + u) * (x + N) := by rw [k]
    have e2 : (1 - u) * (x + N) = 2 * x := by grind
    have e3 : (1 + u) * (x + N) = 2 * N := by grind
    have e4 : y * (1 - u) * (x + N) = y * ((1 - u) * (x + N)) := by grind
    rw [e4, e2, e3] at e1
    grind
  have eL : L = ((n : R) - b) * ln2 - 2 * A 1 u := by
    have k1 : E (L + b * ln2 + 2 * A 1 u) = 2 ^ n := by
      rw [E_add, E_add, E_mulnat, E_ln2, ← eA, ← hL]
      grind
    have k2 : E (n * ln2) = 2 ^ n := by rw [E_mulnat, E_ln2]
    have := E_inj (k1.trans k2.symm)
    grind
  have ek : (((n : Int) - (b : Int) : Int) : R) = (n : R) - b := by rw [cast_sub]; rfl
  have hc : ab ((n : R) - b) ≤ 1000 := by
    rw [← ek]
    have h3 : (n : Int) - b ≤ 1000 ∧ -1000 ≤ (n : Int) - b := by omega
    have a1 := cast_le.mpr h3.1
    have a2 := cast_le.mpr h3.2
    have c1 : ((1000 : Int) : R) = 1000 := rfl
    have c2 : ((-1000 : Int) : R) = -1000 := rfl
    rw [c1] at a1
    rw [c2] at a2
    exact ab_le.mpr ⟨a2, a1⟩
  have key : ab (((2 * ((n : Int) - (b : Int)) * lsum 1 1 3 (b + 32) + 2 * -lsum 1 (2 ^ n - x) (x + 2 ^ n) (b + 32) : Int) : R) - 2 ^ (b + 32) * L) ≤ 1 / 100 * 4294967296 := by
    have c2 : ((2 : Int) : R) = 2 := rfl
    rw [cast_add, cast_mul, cast_mul, cast_mul, cast_neg, ek, eL, c2]
    unfold ln2
    generalize ((lsum 1 1 3 (b + 32) : Int) : R) = D at *
    generalize ((lsum 1 (2 ^ n - x) (x + 2 ^ n) (b + 32) : Int) : R) = F at *
    generalize (2 : R) ^ (b + 32) = W at *
    generalize (n : R) - b = g at *
    have m := mul_mono hc s1 (ab_nn g) (by grind)
    rw [← ab_mul] at m
    have m := ab_le.mp m
    have s2 := ab_le.mp s2
    exact ab_le.mpr ⟨by grind, by grind⟩
  have := shr32 key
  unfold llog
  grind
/-! ### what is told at one number -/
def atAt (q : Nat → Nat) (h : Nat) (n : Int) (b : Nat) : Int × Int := if n = 0 then (0, 0) else outw (atS q h n b (b + 32))
def asAt (q : Nat → Nat) (h : Nat) (n : Int) (b : Nat) : Int × Int := if n = 0 then (0, 0) else outw (asS q h n b (b + 32))
def acAt (q : Nat → Nat) (h : Nat) (n : Int) (b : Nat) : Int × Int := if n = 2 ^ b then (0, 0) else outw (acS q h n b (b + 32))
def lgAt (q : Nat → Nat) (h : Nat) (n : Nat) (s b c : Nat) : Int × Int := if n = 2 ^ b then (0, 0) else outw (lgS q h n s b (b + 32) c)
theorem up32 {v : Int} {b : Nat} {a e : R} (h : ab ((v : R) - 2 ^ (b + 32) * a) ≤ 1 / 2 + e) (he : e ≤ 1 / 100) : Encl (2 ^ b) a (outw v) := by
  rw [pw_add, e32] at h
  exact outw_ok (by grind)
theorem atAt_ok {q : Nat → Nat} (hq : IsRt q) {h b : Nat} {n : Int} (hh : 1 ≤ h) (hw : b + h + 80 ≤ 900) : Encl (2 ^ b) (odd (atn (2 ^ b)) n) (atAt q h n b) := by
  unfold atAt
  split
  · next c =>
    have e : odd (atn (2 ^ b)) n = 0 := by
      rw [c]
      exact atn_zero (Nat.pow_pos (by decide))
    rw [e]
    exact encl_zero
  · exact up32 (atS_near hq (w := b + 32) hh (by omega)) (by grind)
theorem asAt_ok {q : Nat → Nat} (hq : IsRt q) {h b : Nat} {n : Int} (hh : 1 ≤ h) (hw : b + h + 96 ≤ 900) (hn : n.natAbs ≤ 2 ^ b) : Encl (2 ^ b) (odd (asn (2 ^ b)) n) (asAt q h n b) := by
  unfold asAt
  split
  · next c =>
    have e : odd (asn (2 ^ b)) n = 0 := by
      rw [c]
      exact asn_zero (Nat.pow_pos (by decide))
    rw [e]
    exact encl_zero
  · exact up32 (asS_near hq (w := b + 32) hh (by omega) (by omega) hn) (by grind)
theorem acAt_ok {q : Nat → Nat} (hq : IsRt q) {h b : Nat} {n : Int} (hh : 1 ≤ h) (hw : b + h + 112 ≤ 900) (hn : n.natAbs ≤ 2 ^ b) : Encl (2 ^ b) (hp - odd (asn (2 ^ b)) n) (acAt q h n b) := by
  unfold acAt
  split
  · next c =>
    have pb : 0 < 2 ^ b := Nat.pow_pos (by decide)
    have e2 : ((2 ^ b : Nat) : Int) = 2 ^ b := by rw [Int.natCast_pow]; rfl
    have e : odd (asn (2 ^ b)) n = hp := by
      have e3 : n.natAbs = 2 ^ b := by omega
      unfold odd
      rw [if_pos (by omega), e3]
      exact asn_one pb
    rw [e, show hp - hp = 0 by grind]
    exact encl_zero
  · exact up32 (acS_near hq (w := b + 32) hh (by omega) (by omega) hn) (by grind)
theorem lgAt_ok {q : Nat → Nat} (hq : IsRt q) {h b n s c : Nat} (hh : 1 ≤ h) (hw : b + c + h + 112 ≤ 900) (h1 : 2 ^ s ≤ n) (h2 : n < 2 ^ (s + 1)) (c1 : ((s : Int) - (b : Int)).natAbs ≤ 2 ^ c) : Encl (2 ^ b) (lgn (2 ^ b) n) (lgAt q h n s b c) := by
  have pb : 0 < 2 ^ b := Nat.pow_pos (by decide)
  have n0 : 0 < n := by have : 0 < 2 ^ s := Nat.pow_pos (by decide); omega
  unfold lgAt
  split
  · next c =>
    rw [c, lgn_one pb]
    exact encl_zero
  · have e := lgn_ok pb n0
    rw [nat_pow, nat2] at e
    exact up32 (lgS_near hq (w := b + 32) hh (by omega) h1 h2 c1 e) (by grind)
theorem pi_good {b : Nat} (hb : b ≤ 600) : (outw (piS (b + 32))).1 * 2 ^ 100 ≤ lPi (b + 100) + 1024 ∧ lPi (b + 100) ≤ (outw (piS (b + 32))).2 * 2 ^ 100 + 1024 ∧ 0 ≤ (outw (piS (b + 32))).2 - (outw (piS (b + 32))).1 ∧ (outw (piS (b + 32))).2 - (outw (piS (b + 32))).1 ≤ 5 := by
  have E := up32 (piS_near (b := b + 32) (by omega)) (by grind)
  have o := ab_le.mp (lPi_near (b := b + 100) (by omega))
  rw [pw100] at o
  have e4 : ((1024 : Int) : R) = 1024 := rfl
  have e5 : ((5 : Int) : R) = 5 := rfl
  have e0 : ((0 : Int) : R) = 0 := rfl
  have i1 := E.lo
  have i2 := E.hi
  have i3 := E.lo2
  have i4 := E.hi2
  refine ⟨?_, ?_, ?_, ?_⟩ <;> apply cast_le.mp
  · rw [cast_mul, cast_add, e100, e4]
    grind
  · rw [cast_add, cast_mul, e100, e4]
    grind
  · rw [e0, cast_sub]
    grind
  · rw [cast_sub, e5]
    grind
/-! ### all of it -/
theorem llog_a {a n b : Nat} (hb : b ≤ 600) (h0 : 0 < a) (h1 : 2 ^ n ≤ 2 * (a * 2 ^ 100)) (h2 : a * 2 ^ 100 < 2 ^ n) (hn : ((n : Int) - ((b + 100 : Nat) : Int)).natAbs ≤ 1000) : ab ((llog (a * 2 ^ 100) n (b + 100) : R) - 2 ^ (b + 100) * lgn (2 ^ b) a) ≤ 1000000 := by
  have e := lgn_ok (B := 2 ^ b) (Nat.pow_pos (by decide)) h0
  rw [nat_pow, nat2] at e
  have := llog_near (x := a * 2 ^ 100) (b := b + 100) (by omega) h1 h2 hn (L := lgn (2 ^ b) a) (by
    rw [nat_mul, nat_pow, nat2, pw_add]
    generalize (2 : R) ^ 100 = G at *
    have : 2 ^ b * G * E (lgn (2 ^ b) a) = (2 ^ b * E (lgn (2 ^ b) a)) * G := by grind
    rw [this, e])
  grind
theorem way0 {q : Nat → Nat} (hq : IsRt q) {b : Nat} (hb : b ≤ 200) {a0 a1 h0 h1 s0 s1 c0 c1 n0 n1 : Nat} (hle : a0 ≤ a1) (p0 : 0 < a0)
    (hh0 : 1 ≤ h0) (hw0 : b + c0 + h0 + 112 ≤ 900) (x0 : 2 ^ s0 ≤ a0) (y0 : a0 < 2 ^ (s0 + 1)) (z0 : ((s0 : Int) - (b : Int)).natAbs ≤ 2 ^ c0)
    (hh1 : 1 ≤ h1) (hw1 : b + c1 + h1 + 112 ≤ 900) (x1 : 2 ^ s1 ≤ a1) (y1 : a1 < 2 ^ (s1 + 1)) (z1 : ((s1 : Int) - (b : Int)).natAbs ≤ 2 ^ c1)
    (u0 : 2 ^ n0 ≤ 2 * (a0 * 2 ^ 100)) (v0 : a0 * 2 ^ 100 < 2 ^ n0) (w0 : ((n0 : Int) - ((b + 100 : Nat) : Int)).natAbs ≤ 1000)
    (u1 : 2 ^ n1 ≤ 2 * (a1 * 2 ^ 100)) (v1 : a1 * 2 ^ 100 < 2 ^ n1) (w1 : ((n1 : Int) - ((b + 100 : Nat) : Int)).natAbs ≤ 1000)
    {mn mx : Int} (m1 : mn = llog (a0 * 2 ^ 100) n0 (b + 100) ∨ mn = llog (a1 * 2 ^ 100) n1 (b + 100)) (m2 : mx = llog (a0 * 2 ^ 100) n0 (b + 100) ∨ mx = llog (a1 * 2 ^ 100) n1 (b + 100)) (l1 : mn ≤ llog (a0 * 2 ^ 100) n0 (b + 100) ∧ mn ≤ llog (a1 * 2 ^ 100) n1 (b + 100)) (l2 : llog (a0 * 2 ^ 100) n0 (b + 100) ≤ mx ∧ llog (a1 * 2 ^ 100) n1 (b + 100) ≤ mx) :
    Good6 (lgAt q h0 a0 s0 b c0).1 (lgAt q h1 a1 s1 b c1).2 mn mx :=
  two_good (lgAt_ok hq hh0 hw0 x0 y0 z0) (lgAt_ok hq hh1 hw1 x1 y1 z1) (lgn_mono (Nat.pow_pos (by decide)) p0 hle) (llog_a (by omega) p0 u0 v0 w0) (llog_a (by omega) (by omega) u1 v1 w1) m1 m2 l1 l2
theorem way1 {q : Nat → Nat} (hq : IsRt q) {h b : Nat} (hh : 1 ≤ h) (hw : b + h + 80 ≤ 900) (hb : b ≤ 700) {a0 a1 : Int} (hle : a0 ≤ a1) {mn mx : Int} (m1 : mn = lat q (a0 * 2 ^ 100) (b + 100) ∨ mn = lat q (a1 * 2 ^ 100) (b + 100)) (m2 : mx = lat q (a0 * 2 ^ 100) (b + 100) ∨ mx = lat q (a1 * 2 ^ 100) (b + 100)) (l1 : mn ≤ lat q (a0 * 2 ^ 100) (b + 100) ∧ mn ≤ lat q (a1 * 2 ^ 100) (b + 100)) (l2 : lat q (a0 * 2 ^ 100) (b + 100) ≤ mx ∧ lat q (a1 * 2 ^ 100) (b + 100) ≤ mx) : Good6 (atAt q h a0 b).1 (atAt q h a1 b).2 mn mx := by
  have pb : 0 < 2 ^ b := Nat.pow_pos (by decide)
  have n : ∀ a : Int, ab ((lat q (a * 2 ^ 100) (b + 100) : R) - 2 ^ (b + 100) * odd (atn (2 ^ b)) a) ≤ 1000000 := fun a => by
    obtain ⟨t0, t1, te⟩ := atn_ok (2 ^ b) a.natAbs
    rw [nat_pow, nat2] at te
    have k := latN_near hq (m := (a * 2 ^ 100).natAbs) (b := b + 100) (by omega) t0 t1 (by
      rw [Int.natAbs_mul, show ((2 : Int) ^ 100).natAbs = 2 ^ 100 by decide, nat_mul, nat_pow, nat2, pw_add]
      generalize (2 : R) ^ 100 = G at *
      have : 2 ^ b * G * S (atn (2 ^ b) a.natAbs) = (2 ^ b * S (atn (2 ^ b) a.natAbs)) * G := by grind
      rw [this, te]
      grind)
    have := odd_lat (f := atn (2 ^ b)) (x := a) k
    have e : (a * 2 ^ 100 < 0) ↔ a < 0 := by omega
    unfold lat
    simp only [e]
    grind
  exact two_good (atAt_ok hq hh hw) (atAt_ok hq hh hw) (odd_mono (M := max a0.natAbs a1.natAbs) (fun m _ => (atn_ok _ m).1) (fun m n h _ => atn_mono pb h) (by omega) (by omega) hle) (n a0) (n a1) m1 m2 l1 l2
theorem las_a {q : Nat → Nat} (hq : IsRt q) {b : Nat} (hb : b ≤ 700) {a : Int} (ha : a.natAbs ≤ 2 ^ b) : ab ((las q (a * 2 ^ 100) (b + 100) : R) - 2 ^ (b + 100) * odd (asn (2 ^ b)) a) ≤ 7 := by
  have pb : 0 < 2 ^ b := Nat.pow_pos (by decide)
  have na : (a * 2 ^ 100).natAbs = a.natAbs * 2 ^ 100 := by rw [Int.natAbs_mul]; rfl
  obtain ⟨t0, t1, te⟩ := asn_ok pb ha
  rw [nat_pow, nat2] at te
  have k := las_near hq (x := a * 2 ^ 100) (b := b + 100) (by omega) (by rw [na, Nat.pow_add]; exact Nat.mul_le_mul_right _ ha) (f := fun _ => asn (2 ^ b) a.natAbs) t0 t1 (by
    rw [na, nat_mul, nat_pow, nat2, pw_add]
    generalize (2 : R) ^ 100 = G at *
    show 2 ^ b * G * S (asn (2 ^ b) a.natAbs) = _
    have : 2 ^ b * G * S (asn (2 ^ b) a.natAbs) = (2 ^ b * S (asn (2 ^ b) a.natAbs)) * G := by grind
    rw [this, te])
  have e : odd (fun _ => asn (2 ^ b) a.natAbs) (a * 2 ^ 100) = odd (asn (2 ^ b)) a := by
    unfold odd
    have e : (0 ≤ a * 2 ^ 100) ↔ 0 ≤ a := by omega
    simp only [e]
  rw [e] at k
  exact k
theorem way2 {q : Nat → Nat} (hq : IsRt q) {h b : Nat} (hh : 1 ≤ h) (hw : b + h + 96 ≤ 900) (hb : b ≤ 700) {a0 a1 : Int} (hle : a0 ≤ a1) (n0 : a0.natAbs ≤ 2 ^ b) (n1 : a1.natAbs ≤ 2 ^ b) {mn mx : Int} (m1 : mn = las q (a0 * 2 ^ 100) (b + 100) ∨ mn = las q (a1 * 2 ^ 100) (b + 100)) (m2 : mx = las q (a0 * 2 ^ 100) (b + 100) ∨ mx = las q (a1 * 2 ^ 100) (b + 100)) (l1 : mn ≤ las q (a0 * 2 ^ 100) (b + 100) ∧ mn ≤ las q (a1 * 2 ^ 100) (b + 100)) (l2 : las q (a0 * 2 ^ 100) (b + 100) ≤ mx ∧ las q (a1 * 2 ^ 100) (b + 100) ≤ mx) : Good6 (asAt q h a0 b).1 (asAt q h a1 b).2 mn mx := by
  have pb : 0 < 2 ^ b := Nat.pow_pos (by decide)
  have k0 := las_a hq hb n0
  have k1 := las_a hq hb n1
  exact two_good (asAt_ok hq hh hw n0) (asAt_ok hq hh hw n1) (odd_mono (M := 2 ^ b) (fun m hm => (asn_ok pb hm).1) (fun m n h hn => asn_mono pb hn h) n0 n1 hle) (by grind) (by grind) m1 m2 l1 l2
theorem way3 {q : Nat → Nat} (hq : IsRt q) {h b : Nat} (hh : 1 ≤ h) (hw : b + h + 112 ≤ 900) (hb : b ≤ 600) {a0 a1 : Int} (hle : a0 ≤ a1) (n0 : a0.natAbs ≤ 2 ^ b) (n1 : a1.natAbs ≤ 2 ^ b) {mn mx : Int} (m1 : mn = lPi (b + 100) / 2 - las q (a0 * 2 ^ 100) (b + 100) ∨ mn = lPi (b + 100) / 2 - las q (a1 * 2 ^ 100) (b + 100)) (m2 : mx = lPi (b + 100) / 2 - las q (a0 * 2 ^ 100) (b + 100) ∨ mx = lPi (b + 100) / 2 - las q (a1 * 2 ^ 100) (b + 100)) (l1 : mn ≤ lPi (b + 100) / 2 - las q (a0 * 2 ^ 100) (b + 100) ∧ mn ≤ lPi (b + 100) / 2 - las q (a1 * 2 ^ 100) (b + 100)) (l2 : lPi (b + 100) / 2 - las q (a0 * 2 ^ 100) (b + 100) ≤ mx ∧ lPi (b + 100) / 2 - las q (a1 * 2 ^ 100) (b + 100) ≤ mx) :
    Good6 (max (acAt q h a1 b).1 0) (acAt q h a0 b).2 mn mx := by
  have pb : 0 < 2 ^ b := Nat.pow_pos (by decide)
  have p := ab_le.mp (half_near (lPi_near (b := b + 100) (by omega)))
  have n : ∀ a : Int, a.natAbs ≤ 2 ^ b → ab (((lPi (b + 100) / 2 - las q (a * 2 ^ 100) (b + 100) : Int) : R) - 2 ^ (b + 100) * (hp - odd (asn (2 ^ b)) a)) ≤ 1000000 := fun a ha => by
    have k := ab_le.mp (las_a hq (by omega) ha)
    rw [cast_sub]
    generalize ((lPi (b + 100) / 2 : Int) : R) = x at *
    generalize ((las q (a * 2 ^ 100) (b + 100) : Int) : R) = y at *
    exact ab_le.mpr ⟨by grind, by grind⟩
  have le1 : odd (asn (2 ^ b)) a1 ≤ hp := by
    unfold odd
    obtain ⟨t0, t1, _⟩ := asn_ok pb n1
    split
    · exact t1
    · grind
  have mo := odd_mono (f := asn (2 ^ b)) (M := 2 ^ b) (fun m hm => (asn_ok pb hm).1) (fun m n h hn => asn_mono pb hn h) n0 n1 hle
  have e1 := encl_max (Std.le_of_lt (two_pos b)) (acAt_ok hq hh hw n1) (by grind)
  exact two_good e1 (acAt_ok hq hh hw n0) (by grind) (n a1 n1) (n a0 n0) m1.symm m2.symm ⟨l1.2, l1.1⟩ ⟨l2.2, l2.1⟩
end Re.R


namespace K05
open PySem PySem.Spec PyProof.Rows L2 Evl Cm Et Fm Td Mi Ja Ln
open Ld hiding hu65
open Re.R (near outw odS rP oP hst hsts hstN invT angS atS asS acS lgS lgR lt2 atAt asAt acAt lgAt lP lsum lPi latA latN lat las llog IsRt)
open NdefX LamX
def topS (i : Nat) : Stmt := PySem.Challenge.pw_portolan_k05_inverse_functions.main.body.getD i (.Pass ⟨0, 0, 0, 0⟩)
abbrev s_nearest : Stmt := topS 7
theorem sc_nearest : FnScope ["n", "bits"] ["n", "bits"] (defScope s_nearest) := ⟨rfl, rfl, rfl, by decide +kernel, rfl, by decide +kernel, by decide +kernel⟩
abbrev s_halvings_for : Stmt := topS 8
theorem sc_halvings_for : FnScope ["bits"] ["bits"] (defScope s_halvings_for) := ⟨rfl, rfl, rfl, by decide +kernel, rfl, by decide +kernel, by decide +kernel⟩
abbrev s_reciprocal_series : Stmt := topS 9
theorem sc_reciprocal_series : FnScope ["n", "bits", "sign", "square", "power", "total", "direction", "divisor"] ["n", "bits", "sign"] (defScope s_reciprocal_series) := ⟨rfl, rfl, rfl, by decide +kernel, rfl, by decide +kernel, by decide +kernel⟩
abbrev s_pi_scaled : Stmt := topS 10
theorem sc_pi_scaled : FnScope ["bits", "work", "quarter"] ["bits"] (defScope s_pi_scaled) := ⟨rfl, rfl, rfl, by decide +kernel, rfl, by decide +kernel, by decide +kernel⟩
abbrev s_log_of_two : Stmt := topS 11
theorem sc_log_of_two : FnScope ["bits"] ["bits"] (defScope s_log_of_two) := ⟨rfl, rfl, rfl, by decide +kernel, rfl, by decide +kernel, by decide +kernel⟩
abbrev s_inverse_tangent : Stmt := topS 12
theorem sc_inverse_tangent : FnScope ["t", "bits", "sign", "halvings", "work", "one", "square_of_one", "_", "root"] ["t", "bits", "sign"] (defScope s_inverse_tangent) := ⟨rfl, rfl, rfl, by decide +kernel, rfl, by decide +kernel, by decide +kernel⟩
abbrev s_odd_series : Stmt := topS 13
theorem sc_odd_series : FnScope ["t", "bits", "sign", "square", "power", "total", "direction", "divisor"] ["t", "bits", "sign"] (defScope s_odd_series) := ⟨rfl, rfl, rfl, by decide +kernel, rfl, by decide +kernel, by decide +kernel⟩
abbrev s_angle_scaled : Stmt := topS 14
theorem sc_angle_scaled : FnScope ["y", "x", "bits", "work", "angle"] ["y", "x", "bits"] (defScope s_angle_scaled) := ⟨rfl, rfl, rfl, by decide +kernel, rfl, by decide +kernel, by decide +kernel⟩
abbrev s_arctangent_scaled : Stmt := topS 15
theorem sc_arctangent_scaled : FnScope ["n", "bits", "work", "angle"] ["n", "bits", "work"] (defScope s_arctangent_scaled) := ⟨rfl, rfl, rfl, by decide +kernel, rfl, by decide +kernel, by decide +kernel⟩
abbrev s_arcsine_scaled : Stmt := topS 16
theorem sc_arcsine_scaled : FnScope ["n", "bits", "work", "more", "other", "angle"] ["n", "bits", "work"] (defScope s_arcsine_scaled) := ⟨rfl, rfl, rfl, by decide +kernel, rfl, by decide +kernel, by decide +kernel⟩
abbrev s_arccosine_scaled : Stmt := topS 17
theorem sc_arccosine_scaled : FnScope ["n", "bits", "work", "more"] ["n", "bits", "work"] (defScope s_arccosine_scaled) := ⟨rfl, rfl, rfl, by decide +kernel, rfl, by decide +kernel, by decide +kernel⟩
abbrev s_logarithm_scaled : Stmt := topS 18
theorem sc_logarithm_scaled : FnScope ["n", "bits", "work", "size", "power", "more", "one", "mantissa", "ratio", "value"] ["n", "bits", "work"] (defScope s_logarithm_scaled) := ⟨rfl, rfl, rfl, by decide +kernel, rfl, by decide +kernel, by decide +kernel⟩
abbrev s_pi_enclosed : Stmt := topS 21
theorem sc_pi_enclosed : FnScope ["bits"] ["bits"] (defScope s_pi_enclosed) := ⟨rfl, rfl, rfl, by decide +kernel, rfl, by decide +kernel, by decide +kernel⟩
abbrev s_logarithm : Stmt := topS 22
theorem sc_logarithm : FnScope ["a", "bits"] ["a", "bits"] (defScope s_logarithm) := ⟨rfl, rfl, rfl, by decide +kernel, rfl, by decide +kernel, by decide +kernel⟩
abbrev s_arctangent : Stmt := topS 23
theorem sc_arctangent : FnScope ["a", "bits"] ["a", "bits"] (defScope s_arctangent) := ⟨rfl, rfl, rfl, by decide +kernel, rfl, by decide +kernel, by decide +kernel⟩
abbrev s_arcsine : Stmt := topS 24
theorem sc_arcsine : FnScope ["a", "bits"] ["a", "bits"] (defScope s_arcsine) := ⟨rfl, rfl, rfl, by decide +kernel, rfl, by decide +kernel, by decide +kernel⟩
abbrev s_arccosine : Stmt := topS 25
theorem sc_arccosine : FnScope ["a", "bits", "low", "high"] ["a", "bits"] (defScope s_arccosine) := ⟨rfl, rfl, rfl, by decide +kernel, rfl, by decide +kernel, by decide +kernel⟩
abbrev s_demand_sines : Stmt := topS 26
theorem sc_demand_sines : FnScope ["a", "bits", "one"] ["a", "bits"] (defScope s_demand_sines) := ⟨rfl, rfl, rfl, by decide +kernel, rfl, by decide +kernel, by decide +kernel⟩
abbrev s_outwards : Stmt := topS 27
theorem sc_outwards : FnScope ["value"] ["value"] (defScope s_outwards) := ⟨rfl, rfl, rfl, by decide +kernel, rfl, by decide +kernel, by decide +kernel⟩
abbrev s_rising : Stmt := topS 28
theorem sc_rising : FnScope ["enclosed_at", "a", "bits", "first"] ["enclosed_at", "a", "bits"] (defScope s_rising) := ⟨rfl, rfl, rfl, by decide +kernel, rfl, by decide +kernel, by decide +kernel⟩
abbrev s_logarithm_at : Stmt := topS 29
theorem sc_logarithm_at : FnScope ["n", "bits"] ["n", "bits"] (defScope s_logarithm_at) := ⟨rfl, rfl, rfl, by decide +kernel, rfl, by decide +kernel, by decide +kernel⟩
abbrev s_arctangent_at : Stmt := topS 30
theorem sc_arctangent_at : FnScope ["n", "bits"] ["n", "bits"] (defScope s_arctangent_at) := ⟨rfl, rfl, rfl, by decide +kernel, rfl, by decide +kernel, by decide +kernel⟩
abbrev s_arcsine_at : Stmt := topS 31
theorem sc_arcsine_at : FnScope ["n", "bits"] ["n", "bits"] (defScope s_arcsine_at) := ⟨rfl, rfl, rfl, by decide +kernel, rfl, by decide +kernel, by decide +kernel⟩
abbrev s_arccosine_at : Stmt := topS 32
theorem sc_arccosine_at : FnScope ["n", "bits"] ["n", "bits"] (defScope s_arccosine_at) := ⟨rfl, rfl, rfl, by decide +kernel, rfl, by decide +kernel, by decide +kernel⟩
abbrev s_law_cell : Stmt := topS 34
theorem sc_law_cell : FnScope ["script", "k"] ["script", "k"] (defScope s_law_cell) := ⟨rfl, rfl, rfl, by decide +kernel, rfl, by decide +kernel, by decide +kernel⟩
abbrev s_law_is_integer : Stmt := topS 35
theorem sc_law_is_integer : FnScope ["actual"] ["actual"] (defScope s_law_is_integer) := ⟨rfl, rfl, rfl, by decide +kernel, rfl, by decide +kernel, by decide +kernel⟩
abbrev s_law_isqrt : Stmt := topS 36
theorem sc_law_isqrt : FnScope ["figure", "root", "k", "better"] ["figure"] (defScope s_law_isqrt) := ⟨rfl, rfl, rfl, by decide +kernel, rfl, by decide +kernel, by decide +kernel⟩
abbrev s_law_atan_sum : Stmt := topS 37
theorem sc_law_atan_sum : FnScope ["p", "q", "b", "power", "total", "k"] ["p", "q", "b"] (defScope s_law_atan_sum) := ⟨rfl, rfl, rfl, by decide +kernel, rfl, by decide +kernel, by decide +kernel⟩
abbrev s_law_pi : Stmt := topS 38
theorem sc_law_pi : FnScope ["b"] ["b"] (defScope s_law_pi) := ⟨rfl, rfl, rfl, by decide +kernel, rfl, by decide +kernel, by decide +kernel⟩
abbrev s_law_terms : Stmt := topS 39
theorem sc_law_terms : FnScope ["x", "b", "wide", "parts", "term", "k", "part"] ["x", "b"] (defScope s_law_terms) := ⟨rfl, rfl, rfl, by decide +kernel, rfl, by decide +kernel, by decide +kernel⟩
abbrev s_law_sine : Stmt := topS 40
theorem sc_law_sine : FnScope ["x", "b", "parts"] ["x", "b"] (defScope s_law_sine) := ⟨rfl, rfl, rfl, by decide +kernel, rfl, by decide +kernel, by decide +kernel⟩
abbrev s_law_cosine : Stmt := topS 41
theorem sc_law_cosine : FnScope ["x", "b", "parts"] ["x", "b"] (defScope s_law_cosine) := ⟨rfl, rfl, rfl, by decide +kernel, rfl, by decide +kernel, by decide +kernel⟩
abbrev s_law_exp : Stmt := topS 42
theorem sc_law_exp : FnScope ["x", "b"] ["x", "b"] (defScope s_law_exp) := ⟨rfl, rfl, rfl, by decide +kernel, rfl, by decide +kernel, by decide +kernel⟩
abbrev s_law_log : Stmt := topS 43
theorem sc_law_log : FnScope ["x", "b", "turns", "wide", "one", "total"] ["x", "b"] (defScope s_law_log) := ⟨rfl, rfl, rfl, by decide +kernel, rfl, by decide +kernel, by decide +kernel⟩
abbrev s_law_artanh : Stmt := topS 44
theorem sc_law_artanh : FnScope ["p", "q", "b", "sign", "power", "total", "k"] ["p", "q", "b"] (defScope s_law_artanh) := ⟨rfl, rfl, rfl, by decide +kernel, rfl, by decide +kernel, by decide +kernel⟩
abbrev s_law_atan : Stmt := topS 45
theorem sc_law_atan : FnScope ["x", "b", "wide", "one", "y", "turned", "k", "angle"] ["x", "b"] (defScope s_law_atan) := ⟨rfl, rfl, rfl, by decide +kernel, rfl, by decide +kernel, by decide +kernel⟩
abbrev s_law_asin : Stmt := topS 46
theorem sc_law_asin : FnScope ["x", "b", "rest", "root"] ["x", "b"] (defScope s_law_asin) := ⟨rfl, rfl, rfl, by decide +kernel, rfl, by decide +kernel, by decide +kernel⟩
abbrev s_law_spread : Stmt := topS 47
theorem sc_law_spread : FnScope ["figure", "most", "big"] ["figure", "most"] (defScope s_law_spread) := ⟨rfl, rfl, rfl, by decide +kernel, rfl, by decide +kernel, by decide +kernel⟩
abbrev s_law_at : Stmt := topS 48
theorem sc_law_at : FnScope ["way", "x", "bits", "b"] ["way", "x", "bits"] (defScope s_law_at) := ⟨rfl, rfl, rfl, by decide +kernel, rfl, by decide +kernel, by decide +kernel⟩
abbrev s_law_told : Stmt := topS 49
theorem sc_law_told : FnScope ["way", "a", "bits", "e"] ["way", "a", "bits"] (defScope s_law_told) := ⟨rfl, rfl, rfl, by decide +kernel, rfl, by decide +kernel, by decide +kernel⟩
abbrev s_law : Stmt := topS 50
theorem sc_law : FnScope ["script", "one", "two", "bits", "unit", "low", "way", "width", "a", "k", "missing", "told", "values", "room", "pi", "own"] ["script"] (defScope s_law) := ⟨rfl, rfl, rfl, by decide +kernel, rfl, by decide +kernel, by decide +kernel⟩
section
variable {P : Program} {w : World} {K : PySem.W.Frag} {mg : Str → Option Value} {base : Heap}
/-! ### pi, by data -/
theorem lg40 {n : Int} {k : Nat} (h : n.natAbs < 2 ^ k) (hk : 0 < k ∧ k ≤ 9000) : n.natAbs.log2 < 9000 := Nat.lt_of_lt_of_le (lg h hk.1) hk.2
theorem tsum_fin {n w k : Nat} (hn : 2 ≤ n) (hk : k ≤ 1000) (h : 2 ^ w / n ^ (2 * k + 1) = 0) : Lp.tsum n w k = Lp.tsum n w 1000 := by
  have hp : 0 < n ^ (2 * k + 1) := Nat.pow_pos (by omega)
  have h2 : 2 ^ w < n ^ (2 * k + 1) := by
    rcases (Nat.div_eq_zero_iff).mp h with z | z
    · omega
    · exact z
  have e := Lp.tsum_stays (n := n) (w := w) (k0 := k) (by omega) h2 (1000 - k)
  rw [show k + (1000 - k) = 1000 by omega] at e
  exact e.symm
theorem pow_room {n w k : Nat} (hn : 2 ≤ n) (h : 2 ^ w / n ^ (2 * k + 1) ≠ 0) : 2 * k + 1 ≤ w := by
  refine Nat.le_of_not_lt fun z => h ?_
  refine Nat.div_eq_of_lt ?_
  have h1 : 2 ^ w < 2 ^ (2 * k + 1) := Nat.pow_lt_pow_right (by decide) z
  have h2 : 2 ^ (2 * k + 1) ≤ n ^ (2 * k + 1) := Nat.pow_le_pow_left hn _
  omega
theorem sg_next (k : Nat) : Lp.sg k * (-1) = Lp.sg (k + 1) := by
  unfold Lp.sg
  by_cases h : k % 2 = 0
  · rw [if_pos h, if_neg (by omega)]
    rfl
  · rw [if_neg h, if_pos (by omega)]
    rfl
theorem sg_abs (k : Nat) : (Lp.sg k).natAbs = 1 := by
  unfold Lp.sg
  split <;> rfl
abbrev spRec (K : PySem.W.Frag) : Sp := SpF K (fun a : Nat × Nat => [nI (a.1 : Int), nI (a.2 : Int), nI (-1)]) (fun a => 2 ≤ a.1 ∧ a.1 < 1000 ∧ a.2 ≤ 1000) fun a => .int (Lp.tsum a.1 a.2 1000)
theorem ok_rec {f : Addr} {fd : FuncData} (F : Fun K "reciprocal_series" "reciprocal_series" s_reciprocal_series f fd) : FnOk P w K mg base CX0 1 f fd ["n", "bits", "sign"] (spRec K) := by
  refine F.ok sc_reciprocal_series (fun vs H Q E ⟨_, _, _, iv, _⟩ => iv.len) (fun cdv A outer s H vs Q E hr h => ⟨_, (pss_cons (ps_set (i := 3) sc_reciprocal_series.nd rfl (.inl rfl) (pe_op op_mulX (pv 0) (pv 0)))
        (pss_cons (ps_set (i := 4) sc_reciprocal_series.nd rfl (.inl rfl) (pe_op op_fdivA (pe_op op_oneShl pe_int (pv 1)) (pv 0)))
        (pss_cons (ps_set (i := 5) sc_reciprocal_series.nd rfl (.inl rfl) pe_int)
        (pss_cons (ps_set (i := 6) sc_reciprocal_series.nd rfl (.inl rfl) pe_int)
        (pss_cons (ps_set (i := 7) sc_reciprocal_series.nd rfl (.inl rfl) pe_int)
        (pss_cons (ps_while PassesOwn.never (pt_truth (pv 4) (fun _ => rfl)) (pss_cons (ps_set (i := 5) sc_reciprocal_series.nd rfl (.inl rfl) (pe_op op_add (pv 5) (pe_op op_mulX (pv 6) (pe_op op_fdivA (pv 4) (pv 7)))))
        (pss_cons (ps_set (i := 4) sc_reciprocal_series.nd rfl (.inl rfl) (pe_op op_fdivA (pv 4) (pv 3)))
        (pss_cons (ps_set (i := 6) sc_reciprocal_series.nd rfl (.inl rfl) (pe_op op_mulX (pv 6) (pv 2)))
        (pss_one (ps_set (i := 7) sc_reciprocal_series.nd rfl (.inl rfl) (pe_op op_add (pv 7) pe_int)))))))
        (pss_one (ps_ret (pv 5))))))))), run_body h fun a B hp => ?_⟩)
  obtain ⟨n, b⟩ := a
  obtain ⟨h1, h2, h3⟩ := hp
  simp only at h1 h2 h3
  have hsq : n * n < 2 ^ 40 := by
    have := Nat.mul_le_mul (show n ≤ 1000 by omega) (show n ≤ 1000 by omega)
    omega
  have lgN : ∀ m : Nat, m < 2 ^ 40 → ((m : Nat) : Int).natAbs.log2 < 9000 := fun m hm => lg40 (k := 40) (by omega) (by decide)
  refine sd_env (δ1 := [nI (n : Int), nI (b : Int), nI (-1), .no, .no, .no, .no, .no]) rfl ?_
  refine q_asg [_, _, _, nI ((n * n : Nat) : Int), _, _, _, _] (d_isI (d_iC (d_var rfl) (d_var rfl) (mulx_ok (a := 40) (b := 40) (by omega) (by omega) (by decide))) (Int.natCast_mul n n).symm) ?_
  refine q_asg [_, _, _, _, nI ((2 ^ b / n ^ (2 * 0 + 1) : Nat) : Int), _, _, _] (d_isI (j := ((2 ^ b / n ^ (2 * 0 + 1) : Nat) : Int)) (d_fdivA (d_one (k := b) d_ci (d_var rfl) (by omega)) (d_var rfl) (by omega) (lgN n (by omega))) (by
    rw [Nat.mul_zero, Nat.zero_add, Nat.pow_one]
    push_cast
    rfl)) ?_
  refine q_asg [_, _, _, _, _, nI (Lp.tsum n b 0), _, _] d_ci ?_
  refine q_asg [_, _, _, _, _, _, nI (Lp.sg 0), _] d_ci ?_
  refine q_asg [_, _, _, _, _, _, _, nI ((2 * 0 + 1 : Nat) : Int)] d_ci ?_
  refine q_while (fun m δ => ∃ k, k ≤ b ∧ m = b - k ∧ δ = [nI (n : Int), nI (b : Int), nI (-1), nI ((n * n : Nat) : Int), nI ((2 ^ b / n ^ (2 * k + 1) : Nat) : Int), nI (Lp.tsum n b k), nI (Lp.sg k), nI ((2 * k + 1 : Nat) : Int)]) b ⟨0, by omega, by omega, rfl⟩ (fun m δ' hq => ?_)
  obtain ⟨k, hk, rfl, rfl⟩ := hq
  refine ⟨_, b_truth (d_var (s := nI ((2 ^ b / n ^ (2 * k + 1) : Nat) : Int)) rfl), fun hb => ?_, fun hb => ?_⟩
  · have hne : 2 ^ b / n ^ (2 * k + 1) ≠ 0 := fun z => by
      rw [z] at hb
      exact absurd hb (by decide)
    have hr := pow_room h1 hne
    have hsm : 2 ^ b / n ^ (2 * k + 1) / (2 * k + 1) < 2 ^ 1001 := by
      have e1 := Nat.div_le_self (2 ^ b / n ^ (2 * k + 1)) (2 * k + 1)
      have e2 := Nat.div_le_self (2 ^ b) (n ^ (2 * k + 1))
      have e3 : (2 : Nat) ^ b < 2 ^ 1001 := Nat.pow_lt_pow_right (by decide) (by omega)
      omega
    refine q_asg [_, _, _, _, _, nI (Lp.tsum n b (k + 1)), _, _] (d_isI (j := Lp.tsum n b (k + 1)) (d_i0 (d_var rfl) (d_iC (d_var (s := nI (Lp.sg k)) rfl) (d_isI (j := ((2 ^ b / n ^ (2 * k + 1) / (2 * k + 1) : Nat) : Int)) (d_fdivA (d_var rfl) (d_var rfl) (by omega) (lgN _ (by omega))) (Int.natCast_ediv _ _).symm) (mulx_ok (a := 2) (b := 1001) (by rw [sg_abs]; decide) (by rw [Int.natAbs_natCast]; exact hsm) (by decide)))) (by
      rw [Lp.tm_of]
      rfl)) ?_
    refine q_asg [_, _, _, _, nI ((2 ^ b / n ^ (2 * (k + 1) + 1) : Nat) : Int), _, _, _] (d_isI (j := ((2 ^ b / n ^ (2 * (k + 1) + 1) : Nat) : Int)) (d_fdivA (d_var rfl) (d_var (s := nI ((n * n : Nat) : Int)) rfl) (by
      have := Nat.mul_le_mul h1 h1
      omega) (lgN _ hsq)) (by
      rw [← Lp.pow_step]
      exact (Int.natCast_ediv _ _).symm)) ?_
    refine q_asg [_, _, _, _, _, _, nI (Lp.sg (k + 1)), _] (d_isI (d_iC (d_var (s := nI (Lp.sg k)) rfl) (d_var (s := nI (-1)) rfl) (mulx_ok (a := 2) (b := 2) (by rw [sg_abs]; decide) (by decide) (by decide))) (sg_next k)) ?_
    refine sd_asg (s := nI ((2 * (k + 1) + 1 : Nat) : Int)) (d_isI (d_i0 (d_var rfl) d_ci) (by omega)) ⟨b - (k + 1), by omega, k + 1, by omega, rfl, rfl⟩
  · have hz : 2 ^ b / n ^ (2 * k + 1) = 0 := Int.ofNat.inj (bne_eq_false_iff_eq.mp hb)
    exact sd_ret (d_var rfl) (by rw [tsum_fin h1 (by omega) hz])
def nearF (n : Int) (b : Nat) : Int := (n / 2 ^ (b - 1) + 1) / 2
abbrev spNear (K : PySem.W.Frag) : Sp := SpF K (fun a : Int × Nat => [nI a.1, nI (a.2 : Int)]) (fun a => 1 ≤ a.2) fun a => .int (nearF a.1 a.2)
theorem ok_near {f : Addr} {fd : FuncData} (F : Fun K "nearest" "nearest" s_nearest f fd) : FnOk P w K mg base CX0 1 f fd ["n", "bits"] (spNear K) := by
  refine F.ok sc_nearest (fun vs H Q E ⟨_, _, _, iv, _⟩ => iv.len) (fun cdv A outer s H vs Q E hr h => ⟨_, (pss_one (ps_ret (pe_op op_shrN (pe_op op_add (pe_op op_shrN (pv 0) (pe_op op_sub (pv 1) pe_int)) pe_int) pe_int))), run_body h fun a B hp => ?_⟩)
  obtain ⟨n, b⟩ := a
  have hp : 1 ≤ b := hp
  refine sd_env (δ1 := [nI n, nI (b : Int)]) rfl ?_
  exact sd_ret (d_isI (d_shr (k := 1) (d_i0 (d_shr (k := b - 1) (d_var rfl) (d_isI (d_i0 (d_var rfl) d_ci) (by omega))) d_ci) d_ci) (by unfold nearF; rw [show (2 : Int) ^ 1 = 2 from rfl])) rfl
/-- 16 arctan(1 / 5) - 4 arctan(1 / 239), the sums with w bits -/
def mach (w : Nat) : Int := 4 * (4 * Lp.tsum 5 w 1000 - Lp.tsum 239 w 1000)
def piS (b : Nat) : Int := nearF (mach (b + 32)) 32
theorem tsum_abs (n w : Nat) : ∀ k, (Lp.tsum n w k).natAbs ≤ k * 2 ^ w
  | 0 => by simp [Lp.tsum]
  | k + 1 => by
    have ih := tsum_abs n w k
    have h1 : Lp.tm n w k ≤ 2 ^ w := Nat.div_le_self _ _
    have h2 : (Lp.sg k * (Lp.tm n w k : Int)).natAbs ≤ 2 ^ w := by
      rw [Int.natAbs_mul, sg_abs, Nat.one_mul, Int.natAbs_natCast]
      exact h1
    have e : Lp.tsum n w (k + 1) = Lp.tsum n w k + Lp.sg k * (Lp.tm n w k : Int) := rfl
    rw [e, Nat.add_mul, Nat.one_mul]
    exact Nat.le_trans (Int.natAbs_add_le _ _) (Nat.add_le_add ih h2)
theorem tsum_small {n w : Nat} (hw : w ≤ 1000) : (Lp.tsum n w 1000).natAbs < 2 ^ 1100 := by
  have h1 := tsum_abs n w 1000
  have h2 : (2 : Nat) ^ w ≤ 2 ^ 1000 := Nat.pow_le_pow_right (by decide) hw
  have h3 : 1000 * 2 ^ w ≤ 1000 * 2 ^ 1000 := Nat.mul_le_mul_left _ h2
  have h4 : (1000 : Nat) * 2 ^ 1000 < 2 ^ 1100 := by decide +kernel
  exact Nat.lt_of_le_of_lt (Nat.le_trans h1 h3) h4
theorem sub_small {a b : Int} {n : Nat} (ha : a.natAbs < 2 ^ n) (hb : b.natAbs < 2 ^ n) : (a - b).natAbs < 2 ^ (n + 1) := by
  rw [Nat.pow_succ]
  generalize (2 : Nat) ^ n = m at ha hb
  omega
theorem mul_small {a b : Int} {n m : Nat} (ha : a.natAbs < 2 ^ n) (hb : b.natAbs < 2 ^ m) : (a * b).natAbs < 2 ^ (n + m) := by
  rw [Int.natAbs_mul, Nat.pow_add]
  exact Nat.mul_lt_mul'' ha hb
abbrev spPiS (K : PySem.W.Frag) : Sp := SpF K (fun b : Nat => [nI (b : Int)]) (fun b => b ≤ 900) fun b => .int (piS b)
theorem ok_piS {f f0 f1 : Addr} {fd fd0 fd1 : FuncData} {t0 : Tok} (F : Fun K "pi_scaled" "pi_scaled" s_pi_scaled f fd) (F_reciprocal_series : Fun K "reciprocal_series" "reciprocal_series" s_reciprocal_series f0 fd0) (b_reciprocal_series : Binds K fd0 ["n", "bits", "sign"] []) (g_reciprocal_series : mg "reciprocal_series" = some (.ref f0))
    (F_nearest : Fun K "nearest" "nearest" s_nearest f1 fd1) (b_nearest : Binds K fd1 ["n", "bits"] []) (g_nearest : mg "nearest" = some (.ref f1)) (g_GUARD : mg "GUARD" = some (.int 32 t0)) : FnOk P w K mg base CX0 2 f fd ["bits"] (spPiS K) := by
  have G_reciprocal_series : FnOk P w K mg base CX0 1 f0 fd0 ["n", "bits", "sign"] (spRec K) := ok_rec F_reciprocal_series
  have G_nearest : FnOk P w K mg base CX0 1 f1 fd1 ["n", "bits"] (spNear K) := ok_near F_nearest
  refine F.ok sc_pi_scaled (fun vs H Q E ⟨_, _, _, iv, _⟩ => iv.len) (fun cdv A outer s H vs Q E hr h => ⟨_, (pss_cons (ps_set (i := 1) sc_pi_scaled.nd rfl (.inl rfl) (pe_op op_add (pv 0) (pe_glob (by rfl) g_GUARD (show RelV (.int 32) _ from ⟨_, rfl⟩))))
        (pss_cons (ps_set (i := 2) sc_pi_scaled.nd rfl (.inl rfl) (pe_op op_sub (pe_op op_mulX pe_int (pe_call G_reciprocal_series (hr.mono (by decide)) (by rfl) g_reciprocal_series F_reciprocal_series.kp b_reciprocal_series .nil pass0 (pa_cons pe_int (pa_cons (pv 1) (pa_cons (pe_un un_neg pe_int) pa_nil))))) (pe_call G_reciprocal_series (hr.mono (by decide)) (by rfl) g_reciprocal_series F_reciprocal_series.kp b_reciprocal_series .nil pass0 (pa_cons pe_int (pa_cons (pv 1) (pa_cons (pe_un un_neg pe_int) pa_nil))))))
        (pss_one (ps_ret (pe_call G_nearest (hr.mono (by decide)) (by rfl) g_nearest F_nearest.kp b_nearest .nil pass0 (pa_cons (pe_op op_mulX pe_int (pv 2)) (pa_cons (pe_glob (by rfl) g_GUARD (show RelV (.int 32) _ from ⟨_, rfl⟩)) pa_nil))))))), run_body h fun b B hp => ?_⟩)
  have hp : b ≤ 900 := hp
  have t5 : (Lp.tsum 5 (b + 32) 1000).natAbs < 2 ^ 1100 := tsum_small (by omega)
  have t239 : (Lp.tsum 239 (b + 32) 1000).natAbs < 2 ^ 1100 := tsum_small (by omega)
  have q1 : (4 * Lp.tsum 5 (b + 32) 1000).natAbs < 2 ^ 1103 := mul_small (n := 3) (by decide) t5
  have q2 : (4 * Lp.tsum 5 (b + 32) 1000 - Lp.tsum 239 (b + 32) 1000).natAbs < 2 ^ 1104 := sub_small q1 (Nat.lt_trans t239 (Nat.pow_lt_pow_right (by decide) (by decide)))
  refine sd_env (δ1 := [nI (b : Int), .no, .no]) rfl ?_
  refine q_asg [_, nI ((b + 32 : Nat) : Int), _] (d_isI (i := (b : Int) + 32) (j := ((b + 32 : Nat) : Int)) (d_i0 (d_var rfl) d_ci) (by omega)) ?_
  refine q_asg [_, _, nI (4 * Lp.tsum 5 (b + 32) 1000 - Lp.tsum 239 (b + 32) 1000)] (d_i0 (d_iC d_ci (d_callF (5, b + 32) (a_cons d_ci (a_cons (d_var rfl) (a_cons (d_neg d_ci) a_nil))) ⟨show 2 ≤ 5 by decide, show 5 < 1000 by decide, show b + 32 ≤ 1000 by omega⟩) (mulx_ok (a := 3) (b := 1100) (by decide) t5 (by decide))) (d_callF (239, b + 32) (a_cons d_ci (a_cons (d_var rfl) (a_cons (d_neg d_ci) a_nil))) ⟨show 2 ≤ 239 by decide, show 239 < 1000 by decide, show b + 32 ≤ 1000 by omega⟩)) ?_
  exact sd_ret (d_callF (mach (b + 32), 32) (a_cons (d_iC d_ci (d_var rfl) (mulx_ok (a := 3) (b := 1104) (by decide) q2 (by decide))) (a_cons d_ci a_nil)) (show 1 ≤ 32 by decide)) rfl
def outE (v : Int) : PyData := .tuple [.int ((v - 1) / 2 ^ 32), .int (-(-(v + 1) / 2 ^ 32))]
abbrev spOutw (K : PySem.W.Frag) : Sp := SpF K (fun v : Int => [nI v]) (fun _ => True) fun v => outE v
theorem ok_outw {f : Addr} {fd : FuncData} {t0 : Tok} (F : Fun K "outwards" "outwards" s_outwards f fd) (g_EXTRA : mg "EXTRA" = some (.int 32 t0)) : FnOk P w K mg base CX0 1 f fd ["value"] (spOutw K) := by
  refine F.ok sc_outwards (fun vs H Q E ⟨_, _, _, iv, _⟩ => iv.len) (fun cdv A outer s H vs Q E hr h => ⟨_, (pss_one (ps_ret (pe_tup (pa_cons (pe_op op_shrN (pe_op op_sub (pv 0) pe_int) (pe_glob (by rfl) g_EXTRA (show RelV (.int 32) _ from ⟨_, rfl⟩))) (pa_cons (pe_un un_neg (pe_op op_shrN (pe_un un_neg (pe_op op_add (pv 0) pe_int)) (pe_glob (by rfl) g_EXTRA (show RelV (.int 32) _ from ⟨_, rfl⟩)))) pa_nil))))), run_body h fun v B hp => ?_⟩)
  refine sd_env (δ1 := [nI v]) rfl ?_
  exact sd_ret (d_tup (ds_cons (d_shr (k := 32) (d_i0 (d_var rfl) d_ci) d_ci) (ds_cons (d_neg (d_shr (k := 32) (d_neg (d_i0 (d_var rfl) d_ci)) d_ci)) ds_nil))) rfl
/-! ### cos with floors, by data -/
theorem isq_eq {n r : Nat} (h1 : r * r ≤ n) (h2 : n < (r + 1) * (r + 1)) : r = PySem.Float64.isqrt n := by
  have hs := PySem.Float64.isqrt_spec n
  generalize PySem.Float64.isqrt n = m at hs
  have a1 : m * m ≤ n := hs.1
  have a2 : n < (m + 1) * (m + 1) := hs.2
  rcases Nat.lt_trichotomy r m with c | c | c
  · have := Nat.mul_le_mul (show r + 1 ≤ m by omega) (show r + 1 ≤ m by omega)
    omega
  · exact c
  · have := Nat.mul_le_mul (show m + 1 ≤ r by omega) (show m + 1 ≤ r by omega)
    omega
theorem d_sqrt {B0 H0 : Hp} {δ : List Sl} {te : TE} {n : Nat} (h : EvS K B0 H0 te δ (nI (n : Int))) (hb : n < 2 ^ 4000) : EvS K B0 H0 (tCB rSqrt (tCons te tNil)) δ (nI ((PySem.Float64.isqrt n : Nat) : Int)) := d_cb1 h (.int (n : Int)) (fun _ H1 _ Q q => ⟨(n : Int), rfl, by omega, hb, fun r h1 h2 => by
  have e := isq_eq (n := n) (r := r) (by exact_mod_cast h1) (by exact_mod_cast h2)
  rw [e]
  exact q H1 (Ex.refl H1)⟩) (.int _)
def hv (b : Nat) : Nat := PySem.Float64.isqrt b / 2 + 2
abbrev spHv (K : PySem.W.Frag) : Sp := SpF K (fun b : Nat => [nI (b : Int)]) (fun b => b ≤ 2000) fun b => .int (hv b : Int)
theorem ok_hv {f : Addr} {fd : FuncData} (F : Fun K "halvings_for" "halvings_for" s_halvings_for f fd) (g_isqrt : mg "isqrt" = some (.builtin "math.isqrt")) : FnOk P w K mg base CX0 1 f fd ["bits"] (spHv K) := by
  refine F.ok sc_halvings_for (fun vs H Q E ⟨_, _, _, iv, _⟩ => iv.len) (fun cdv A outer s H vs Q E hr h => ⟨_, (pss_one (ps_ret (pe_op op_add (pe_op op_fdiv (pe_callBfun call_sqrt (by rfl) g_isqrt (pa_cons (pv 0) pa_nil)) pe_int) pe_int))), run_body h fun b B hp => ?_⟩)
  have hp : b ≤ 2000 := hp
  refine sd_env (δ1 := [nI (b : Int)]) rfl ?_
  refine sd_ret (d_i0 (d_iC (d_sqrt (d_var rfl) (Nat.lt_of_le_of_lt hp (by decide +kernel))) d_ci ⟨by decide, by decide⟩) d_ci) ?_
  show PyData.int _ = .int (hv b : Int)
  unfold hv
  congr 1
/-! ### roots, sums, by data -/
abbrev iq : Nat → Nat := PySem.Float64.isqrt
theorem iq_ok : IsRt iq := fun n => by
  have h := PySem.Float64.isqrt_spec n
  exact ⟨h.1, h.2⟩
theorem gabs {g : Int} (hg : g = 1 ∨ g = -1) (k : Nat) : (g ^ k).natAbs = 1 := by
  rw [Int.natAbs_pow]
  rcases hg with rfl | rfl
  · exact Nat.one_pow k
  · exact Nat.one_pow k
theorem odS_abs {g : Int} (hg : g = 1 ∨ g = -1) {Pw : Nat → Nat} {M : Nat} (h : ∀ k, Pw k ≤ M) : ∀ n, (odS g Pw n).natAbs ≤ n * M
  | 0 => by simp [odS]
  | n + 1 => by
    have ih := odS_abs hg h n
    have h1 : (g ^ n * ((Pw n / (2 * n + 1) : Nat) : Int)).natAbs ≤ M := by
      rw [Int.natAbs_mul, gabs hg, Nat.one_mul, Int.natAbs_natCast]
      exact Nat.le_trans (Nat.div_le_self _ _) (h n)
    rw [Nat.add_mul, Nat.one_mul]
    exact Nat.le_trans (Int.natAbs_add_le _ _) (Nat.add_le_add ih h1)
theorem odS_stays {g : Int} {Pw : Nat → Nat} {k : Nat} (hz : ∀ j, Pw j = 0 → Pw (j + 1) = 0) (z : Pw k = 0) : ∀ m, odS g Pw (k + m) = odS g Pw k
  | 0 => rfl
  | m + 1 => by
    have zs : ∀ m, Pw (k + m) = 0 := fun m => by
      induction m with
      | zero => exact z
      | succ m ih => exact hz _ ih
    show odS g Pw (k + m) + g ^ (k + m) * ((Pw (k + m) / (2 * (k + m) + 1) : Nat) : Int) = _
    rw [zs m, Nat.zero_div, odS_stays hz z m]
    simp
theorem odS_fin {g : Int} {Pw : Nat → Nat} {k n : Nat} (hz : ∀ j, Pw j = 0 → Pw (j + 1) = 0) (z : Pw k = 0) (h : k ≤ n) : odS g Pw n = odS g Pw k := by
  have := odS_stays (g := g) hz z (n - k)
  rwa [show k + (n - k) = n by omega] at this
theorem rP_step {n b j : Nat} (hn : 0 < n) : rP n b (j + 1) = rP n b j / (n * n) := by
  unfold Re.R.rP
  rw [Nat.div_div_eq_div_mul, show 2 * (j + 1) + 1 = 2 * j + 1 + 2 by omega, Nat.pow_add, Nat.pow_two]
theorem rP_z {n b : Nat} (hn : 0 < n) : ∀ j, rP n b j = 0 → rP n b (j + 1) = 0 := fun j z => by rw [rP_step hn, z, Nat.zero_div]
theorem pow_small {b k : Nat} (h : b < k) : (2 : Nat) ^ b < 2 ^ k := Nat.pow_lt_pow_right (by decide) h
theorem nat_small {a b k : Nat} (h : a ≤ 2 ^ b) (hk : b < k) : ((a : Nat) : Int).natAbs < 2 ^ k := by
  rw [Int.natAbs_natCast]
  exact Nat.lt_of_le_of_lt h (pow_small hk)
abbrev spRec1 (K : PySem.W.Frag) : Sp := SpF K (fun a : Nat × Nat => [nI (a.1 : Int), nI (a.2 : Int), nI 1]) (fun a => 2 ≤ a.1 ∧ a.1 < 1000 ∧ a.2 ≤ 1000) fun a => .int (odS 1 (rP a.1 a.2) a.2)
theorem ok_rec1 {f : Addr} {fd : FuncData} (F : Fun K "reciprocal_series" "reciprocal_series" s_reciprocal_series f fd) : FnOk P w K mg base CX0 1 f fd ["n", "bits", "sign"] (spRec1 K) := by
  refine F.ok sc_reciprocal_series (fun vs H Q E ⟨_, _, _, iv, _⟩ => iv.len) (fun cdv A outer s H vs Q E hr h => ⟨_, (pss_cons (ps_set (i := 3) sc_reciprocal_series.nd rfl (.inl rfl) (pe_op op_mulX (pv 0) (pv 0)))
        (pss_cons (ps_set (i := 4) sc_reciprocal_series.nd rfl (.inl rfl) (pe_op op_fdivA (pe_op op_oneShl pe_int (pv 1)) (pv 0)))
        (pss_cons (ps_set (i := 5) sc_reciprocal_series.nd rfl (.inl rfl) pe_int)
        (pss_cons (ps_set (i := 6) sc_reciprocal_series.nd rfl (.inl rfl) pe_int)
        (pss_cons (ps_set (i := 7) sc_reciprocal_series.nd rfl (.inl rfl) pe_int)
        (pss_cons (ps_while PassesOwn.never (pt_truth (pv 4) (fun _ => rfl)) (pss_cons (ps_set (i := 5) sc_reciprocal_series.nd rfl (.inl rfl) (pe_op op_add (pv 5) (pe_op op_mulX (pv 6) (pe_op op_fdivA (pv 4) (pv 7)))))
        (pss_cons (ps_set (i := 4) sc_reciprocal_series.nd rfl (.inl rfl) (pe_op op_fdivA (pv 4) (pv 3)))
        (pss_cons (ps_set (i := 6) sc_reciprocal_series.nd rfl (.inl rfl) (pe_op op_mulX (pv 6) (pv 2)))
        (pss_one (ps_set (i := 7) sc_reciprocal_series.nd rfl (.inl rfl) (pe_op op_add (pv 7) pe_int)))))))
        (pss_one (ps_ret (pv 5))))))))), run_body h fun a B hp => ?_⟩)
  obtain ⟨n, b⟩ := a
  obtain ⟨h1, h2, h3⟩ := hp
  simp only at h1 h2 h3
  have hsq : n * n < 2 ^ 40 := by
    have := Nat.mul_le_mul (show n ≤ 1000 by omega) (show n ≤ 1000 by omega)
    omega
  have lgN : ∀ m : Nat, m < 2 ^ 40 → ((m : Nat) : Int).natAbs.log2 < 9000 := fun m hm => lg40 (k := 40) (by omega) (by decide)
  show SD K B H _ _ _ { nx := _, rt := fun d => d = .int (odS 1 (rP n b) b) }
  refine sd_env (δ1 := [nI (n : Int), nI (b : Int), nI 1, .no, .no, .no, .no, .no]) rfl ?_
  refine q_asg [_, _, _, nI ((n * n : Nat) : Int), _, _, _, _] (d_isI (d_iC (d_var rfl) (d_var rfl) (mulx_ok (a := 40) (b := 40) (by omega) (by omega) (by decide))) (Int.natCast_mul n n).symm) ?_
  refine q_asg [_, _, _, _, nI ((rP n b 0 : Nat) : Int), _, _, _] (d_isI (j := ((rP n b 0 : Nat) : Int)) (d_fdivA (d_one (k := b) d_ci (d_var rfl) (by omega)) (d_var rfl) (by omega) (lgN n (by omega))) (by
    unfold Re.R.rP
    rw [Nat.mul_zero, Nat.zero_add, Nat.pow_one]
    push_cast
    rfl)) ?_
  refine q_asg [_, _, _, _, _, nI (odS 1 (rP n b) 0), _, _] d_ci ?_
  refine q_asg [_, _, _, _, _, _, nI 1, _] d_ci ?_
  refine q_asg [_, _, _, _, _, _, _, nI ((2 * 0 + 1 : Nat) : Int)] d_ci ?_
  refine q_while (fun m δ => ∃ k, k ≤ b ∧ m = b - k ∧ δ = [nI (n : Int), nI (b : Int), nI 1, nI ((n * n : Nat) : Int), nI ((rP n b k : Nat) : Int), nI (odS 1 (rP n b) k), nI 1, nI ((2 * k + 1 : Nat) : Int)]) b ⟨0, by omega, by omega, rfl⟩ (fun m δ' hq => ?_)
  obtain ⟨k, hk, rfl, rfl⟩ := hq
  refine ⟨_, b_truth (d_var (s := nI ((rP n b k : Nat) : Int)) rfl), fun hb => ?_, fun hb => ?_⟩
  · have hne : rP n b k ≠ 0 := fun z => by
      rw [z] at hb
      exact absurd hb (by decide)
    have hr : 2 * k + 1 ≤ b := pow_room h1 hne
    have hsm : ((rP n b k / (2 * k + 1) : Nat) : Int).natAbs < 2 ^ 1001 := nat_small (b := b) (Nat.le_trans (Nat.div_le_self _ _) (Nat.div_le_self _ _)) (by omega)
    refine q_asg [_, _, _, _, _, nI (odS 1 (rP n b) (k + 1)), _, _] (d_isI (j := odS 1 (rP n b) (k + 1)) (d_i0 (d_var rfl) (d_iC (d_var (s := nI 1) rfl) (d_isI (j := ((rP n b k / (2 * k + 1) : Nat) : Int)) (d_fdivA (d_var rfl) (d_var rfl) (by omega) (lgN _ (by omega))) (Int.natCast_ediv _ _).symm) (mulx_ok (a := 2) (b := 1001) (by decide) hsm (by decide)))) (by
      show _ = odS 1 (rP n b) k + 1 ^ k * ((rP n b k / (2 * k + 1) : Nat) : Int)
      rw [Int.one_pow])) ?_
    refine q_asg [_, _, _, _, nI ((rP n b (k + 1) : Nat) : Int), _, _, _] (d_isI (j := ((rP n b (k + 1) : Nat) : Int)) (d_fdivA (d_var (s := nI ((rP n b k : Nat) : Int)) rfl) (d_var (s := nI ((n * n : Nat) : Int)) rfl) (by
      have := Nat.mul_le_mul h1 h1
      omega) (lgN _ hsq)) (by
      rw [rP_step (by omega)]
      exact (Int.natCast_ediv _ _).symm)) ?_
    refine q_asg [_, _, _, _, _, _, nI 1, _] (d_isI (j := 1) (d_iC (d_var (s := nI 1) rfl) (d_var (s := nI 1) rfl) (mulx_ok (a := 2) (b := 2) (by decide) (by decide) (by decide))) (by decide)) ?_
    refine sd_asg (s := nI ((2 * (k + 1) + 1 : Nat) : Int)) (d_isI (j := ((2 * (k + 1) + 1 : Nat) : Int)) (d_i0 (d_var (s := nI ((2 * k + 1 : Nat) : Int)) rfl) d_ci) (by omega)) ⟨b - (k + 1), by omega, k + 1, by omega, rfl, rfl⟩
  · have hz : rP n b k = 0 := by
      have := bne_eq_false_iff_eq.mp hb
      omega
    refine sd_ret (d_var (s := nI (odS 1 (rP n b) k)) rfl) ?_
    rw [odS_fin (rP_z (by omega)) hz hk]
abbrev spLn2 (K : PySem.W.Frag) : Sp := SpF K (fun b : Nat => [nI (b : Int)]) (fun b => b ≤ 900) fun b => .int (lt2 b)
theorem ok_ln2 {f f0 f1 : Addr} {fd fd0 fd1 : FuncData} {t0 : Tok} (F : Fun K "log_of_two" "log_of_two" s_log_of_two f fd) (F_reciprocal_series : Fun K "reciprocal_series" "reciprocal_series" s_reciprocal_series f0 fd0) (b_reciprocal_series : Binds K fd0 ["n", "bits", "sign"] []) (g_reciprocal_series : mg "reciprocal_series" = some (.ref f0))
    (F_nearest : Fun K "nearest" "nearest" s_nearest f1 fd1) (b_nearest : Binds K fd1 ["n", "bits"] []) (g_nearest : mg "nearest" = some (.ref f1)) (g_GUARD : mg "GUARD" = some (.int 32 t0)) : FnOk P w K mg base CX0 2 f fd ["bits"] (spLn2 K) := by
  have G_reciprocal_series : FnOk P w K mg base CX0 1 f0 fd0 ["n", "bits", "sign"] (spRec1 K) := ok_rec1 F_reciprocal_series
  have G_nearest : FnOk P w K mg base CX0 1 f1 fd1 ["n", "bits"] (spNear K) := ok_near F_nearest
  refine F.ok sc_log_of_two (fun vs H Q E ⟨_, _, _, iv, _⟩ => iv.len) (fun cdv A outer s H vs Q E hr h => ⟨_, (pss_one (ps_ret (pe_call G_nearest (hr.mono (by decide)) (by rfl) g_nearest F_nearest.kp b_nearest .nil pass0 (pa_cons (pe_op op_mulX pe_int (pe_call G_reciprocal_series (hr.mono (by decide)) (by rfl) g_reciprocal_series F_reciprocal_series.kp b_reciprocal_series .nil pass0 (pa_cons pe_int (pa_cons (pe_op op_add (pv 0) (pe_glob (by rfl) g_GUARD (show RelV (.int 32) _ from ⟨_, rfl⟩))) (pa_cons pe_int pa_nil))))) (pa_cons (pe_glob (by rfl) g_GUARD (show RelV (.int 32) _ from ⟨_, rfl⟩)) pa_nil))))), run_body h fun b B hp => ?_⟩)
  have hp : b ≤ 900 := hp
  have sm : (odS 1 (rP 3 (b + 32)) (b + 32)).natAbs < 2 ^ 2000 := by
    have h1 := odS_abs (g := 1) (.inl rfl) (Pw := rP 3 (b + 32)) (M := 2 ^ (b + 32)) (fun k => Nat.div_le_self _ _) (b + 32)
    have h2 : (b + 32) * 2 ^ (b + 32) ≤ 2 ^ 10 * 2 ^ 932 := Nat.mul_le_mul (by omega) (Nat.pow_le_pow_right (by decide) (by omega))
    have h3 : (2 : Nat) ^ 10 * 2 ^ 932 < 2 ^ 2000 := by decide +kernel
    exact Nat.lt_of_le_of_lt (Nat.le_trans h1 h2) h3
  refine sd_env (δ1 := [nI (b : Int)]) rfl ?_
  exact sd_ret (d_callF (2 * odS 1 (rP 3 (b + 32)) (b + 32), 32) (a_cons (d_iC d_ci (d_callF (3, b + 32) (a_cons d_ci (a_cons (d_isI (j := ((b + 32 : Nat) : Int)) (d_i0 (d_var (s := nI (b : Int)) rfl) d_ci) (by omega)) (a_cons d_ci a_nil))) ⟨show 2 ≤ 3 by decide, show 3 < 1000 by decide, show b + 32 ≤ 1000 by omega⟩) (mulx_ok (a := 3) (b := 2000) (by decide) sm (by decide))) (a_cons d_ci a_nil)) (show 1 ≤ 32 by decide)) rfl
/-! ### arctan and artanh, by data -/
theorem oP_z {t b : Nat} : ∀ j, oP t b j = 0 → oP t b (j + 1) = 0 := fun j z => by
  show oP t b j * (t * t / 2 ^ b) / 2 ^ b = 0
  rw [z, Nat.zero_mul, Nat.zero_div]
abbrev spOdd (K : PySem.W.Frag) : Sp := SpF K (fun a : Nat × Nat × Int => [nI (a.1 : Int), nI (a.2.1 : Int), nI a.2.2]) (fun a => 2 * a.1 ≤ 2 ^ a.2.1 ∧ a.2.1 ≤ 1000 ∧ (a.2.2 = 1 ∨ a.2.2 = -1)) fun a => .int (odS a.2.2 (oP a.1 a.2.1) a.2.1)
theorem ok_odd {f : Addr} {fd : FuncData} (F : Fun K "odd_series" "odd_series" s_odd_series f fd) : FnOk P w K mg base CX0 1 f fd ["t", "bits", "sign"] (spOdd K) := by
  refine F.ok sc_odd_series (fun vs H Q E ⟨_, _, _, iv, _⟩ => iv.len) (fun cdv A outer s H vs Q E hr h => ⟨_, (pss_cons (ps_set (i := 3) sc_odd_series.nd rfl (.inl rfl) (pe_op op_shrN (pe_op op_mulX (pv 0) (pv 0)) (pv 1)))
        (pss_cons (ps_set (i := 4) sc_odd_series.nd rfl (.inl rfl) (pv 0))
        (pss_cons (ps_set (i := 5) sc_odd_series.nd rfl (.inl rfl) pe_int)
        (pss_cons (ps_set (i := 6) sc_odd_series.nd rfl (.inl rfl) pe_int)
        (pss_cons (ps_set (i := 7) sc_odd_series.nd rfl (.inl rfl) pe_int)
        (pss_cons (ps_while PassesOwn.never (pt_truth (pv 4) (fun _ => rfl)) (pss_cons (ps_set (i := 5) sc_odd_series.nd rfl (.inl rfl) (pe_op op_add (pv 5) (pe_op op_mulX (pv 6) (pe_op op_fdivA (pv 4) (pv 7)))))
        (pss_cons (ps_set (i := 4) sc_odd_series.nd rfl (.inl rfl) (pe_op op_shrN (pe_op op_mulX (pv 4) (pv 3)) (pv 1)))
        (pss_cons (ps_set (i := 6) sc_odd_series.nd rfl (.inl rfl) (pe_op op_mulX (pv 6) (pv 2)))
        (pss_one (ps_set (i := 7) sc_odd_series.nd rfl (.inl rfl) (pe_op op_add (pv 7) pe_int)))))))
        (pss_one (ps_ret (pv 5))))))))), run_body h fun a B hp => ?_⟩)
  obtain ⟨t, b, g⟩ := a
  obtain ⟨h1, h2, hg⟩ := hp
  simp only at h1 h2 hg
  have tl : t ≤ 2 ^ b := by omega
  have sq : t * t / 2 ^ b ≤ 2 ^ b := Nat.div_le_of_le_mul (Nat.mul_le_mul tl tl)
  have lgN : ∀ m : Nat, m < 2 ^ 40 → ((m : Nat) : Int).natAbs.log2 < 9000 := fun m hm => lg40 (k := 40) (by omega) (by decide)
  have shn : ∀ m : Nat, ((m : Nat) : Int) / 2 ^ b = ((m / 2 ^ b : Nat) : Int) := fun m => by
    rw [Int.natCast_ediv, Int.natCast_pow]
    rfl
  show SD K B H _ _ _ { nx := _, rt := fun d => d = .int (odS g (oP t b) b) }
  refine sd_env (δ1 := [nI (t : Int), nI (b : Int), nI g, .no, .no, .no, .no, .no]) rfl ?_
  refine q_asg [_, _, _, nI ((t * t / 2 ^ b : Nat) : Int), _, _, _, _] (d_isI (j := ((t * t / 2 ^ b : Nat) : Int)) (d_shr (k := b) (d_iC (d_var (s := nI (t : Int)) rfl) (d_var (s := nI (t : Int)) rfl) (mulx_ok (a := 1001) (b := 1001) (nat_small tl (by omega)) (nat_small tl (by omega)) (by decide))) (d_var (s := nI (b : Int)) rfl)) (by rw [← Int.natCast_mul, shn])) ?_
  refine q_asg [_, _, _, _, nI ((oP t b 0 : Nat) : Int), _, _, _] (d_var (s := nI (t : Int)) rfl) ?_
  refine q_asg [_, _, _, _, _, nI (odS g (oP t b) 0), _, _] d_ci ?_
  refine q_asg [_, _, _, _, _, _, nI (g ^ 0), _] (d_isI (j := g ^ 0) d_ci (Int.pow_zero g).symm) ?_
  refine q_asg [_, _, _, _, _, _, _, nI ((2 * 0 + 1 : Nat) : Int)] d_ci ?_
  refine q_while (fun m δ => ∃ k, k ≤ b ∧ m = b - k ∧ δ = [nI (t : Int), nI (b : Int), nI g, nI ((t * t / 2 ^ b : Nat) : Int), nI ((oP t b k : Nat) : Int), nI (odS g (oP t b) k), nI (g ^ k), nI ((2 * k + 1 : Nat) : Int)]) b ⟨0, by omega, by omega, rfl⟩ (fun m δ' hq => ?_)
  obtain ⟨k, hk, rfl, rfl⟩ := hq
  refine ⟨_, b_truth (d_var (s := nI ((oP t b k : Nat) : Int)) rfl), fun hb => ?_, fun hb => ?_⟩
  · have hne : oP t b k ≠ 0 := fun z => by
      rw [z] at hb
      exact absurd hb (by decide)
    have hr : 2 * k < b := Nat.lt_of_not_le fun z => hne (Re.R.oP_zero h1 z)
    have pl : oP t b k ≤ 2 ^ b := Re.R.oP_le tl k
    have hsm : ((oP t b k / (2 * k + 1) : Nat) : Int).natAbs < 2 ^ 1001 := nat_small (b := b) (Nat.le_trans (Nat.div_le_self _ _) pl) (by omega)
    refine q_asg [_, _, _, _, _, nI (odS g (oP t b) (k + 1)), _, _] (d_isI (j := odS g (oP t b) (k + 1)) (d_i0 (d_var rfl) (d_iC (d_var (s := nI (g ^ k)) rfl) (d_isI (j := ((oP t b k / (2 * k + 1) : Nat) : Int)) (d_fdivA (d_var rfl) (d_var rfl) (by omega) (lgN _ (by omega))) (Int.natCast_ediv _ _).symm) (mulx_ok (a := 2) (b := 1001) (by rw [gabs hg]; decide) hsm (by decide)))) rfl) ?_
    refine q_asg [_, _, _, _, nI ((oP t b (k + 1) : Nat) : Int), _, _, _] (d_isI (j := ((oP t b (k + 1) : Nat) : Int)) (d_shr (k := b) (d_iC (d_var (s := nI ((oP t b k : Nat) : Int)) rfl) (d_var (s := nI ((t * t / 2 ^ b : Nat) : Int)) rfl) (mulx_ok (a := 1001) (b := 1001) (nat_small pl (by omega)) (nat_small sq (by omega)) (by decide))) (d_var (s := nI (b : Int)) rfl)) (by rw [← Int.natCast_mul, shn]; rfl)) ?_
    refine q_asg [_, _, _, _, _, _, nI (g ^ (k + 1)), _] (d_isI (j := g ^ (k + 1)) (d_iC (d_var (s := nI (g ^ k)) rfl) (d_var (s := nI g) rfl) (mulx_ok (a := 2) (b := 2) (by rw [gabs hg]; decide) (by rcases hg with rfl | rfl <;> decide) (by decide))) (Int.pow_succ g k).symm) ?_
    refine sd_asg (s := nI ((2 * (k + 1) + 1 : Nat) : Int)) (d_isI (j := ((2 * (k + 1) + 1 : Nat) : Int)) (d_i0 (d_var (s := nI ((2 * k + 1 : Nat) : Int)) rfl) d_ci) (by omega)) ⟨b - (k + 1), by omega, k + 1, by omega, rfl, rfl⟩
  · have hz : oP t b k = 0 := by
      have := bne_eq_false_iff_eq.mp hb
      omega
    refine sd_ret (d_var (s := nI (odS g (oP t b) k)) rfl) ?_
    rw [odS_fin oP_z hz hk]
theorem hv_bd {b : Nat} (hb : b ≤ 1000) : 2 ≤ hv b ∧ 2 * hv b ≤ b + 6 := by
  have h : iq b * iq b ≤ b := (iq_ok b).1
  have e : hv b = iq b / 2 + 2 := rfl
  rw [e]
  generalize iq b = r at *
  rcases Nat.lt_or_ge r 3 with c | c
  · omega
  · have := Nat.mul_le_mul_right r c
    omega
theorem inv_half {g : Int} (hg : g = 1 ∨ g = -1) {h b t : Nat} (hh : 1 ≤ h) (ht : t ≤ 2 ^ b) (h2 : g = 1 → 2 * t ≤ 2 ^ b) : t * 2 ^ (h + 32) ≤ 2 ^ (b + h + 32) ∧ 2 * hsts iq g (b + h + 32) (t * 2 ^ (h + 32)) h ≤ 2 ^ (b + h + 32) := by
  have eW : 2 ^ (b + h + 32) = 2 ^ b * 2 ^ (h + 32) := by rw [← Nat.pow_add, Nat.add_assoc]
  have ht0 : t * 2 ^ (h + 32) ≤ 2 ^ (b + h + 32) := by rw [eW]; exact Nat.mul_le_mul_right _ ht
  refine ⟨ht0, ?_⟩
  rcases hg with rfl | rfl
  · have := Re.R.hsts_le iq 1 (b + h + 32) (t * 2 ^ (h + 32)) h
    have h20 : 2 * (t * 2 ^ (h + 32)) ≤ 2 ^ (b + h + 32) := by
      rw [eW, ← Nat.mul_assoc]
      exact Nat.mul_le_mul_right _ (h2 rfl)
    omega
  · rw [show h = h - 1 + 1 by omega]
    show 2 * hst iq (-1) _ (hsts iq (-1) _ _ (h - 1)) ≤ _
    refine Re.R.hst_half iq_ok ?_
    rw [show h - 1 + 1 = h by omega]
    exact Nat.le_trans (Re.R.hsts_le iq (-1) _ _ _) ht0
theorem hstN_ok {g : Int} (hg : g = 1 ∨ g = -1) {w t : Nat} (ht : t ≤ 2 ^ w) : ((hstN g w t : Nat) : Int) = ((2 ^ w * 2 ^ w : Nat) : Int) - g * ((t * t : Nat) : Int) ∧ hstN g w t ≤ 2 ^ (2 * w + 1) := by
  have tt := Nat.mul_le_mul ht ht
  have e : (2 : Nat) ^ (2 * w + 1) = 2 * (2 ^ w * 2 ^ w) := by rw [Nat.pow_succ, ← Nat.pow_add, Nat.mul_comm, show w + w = 2 * w by omega]
  rw [e]
  unfold Re.R.hstN
  rcases hg with rfl | rfl <;> omega
theorem iq_le {n w : Nat} (h : n ≤ 2 ^ (2 * w + 1)) : iq n ≤ 2 ^ (w + 1) := by
  have s := (iq_ok n).1
  refine Nat.le_of_not_lt fun c => ?_
  have := Nat.mul_le_mul (show 2 ^ (w + 1) + 1 ≤ iq n by omega) (show 2 ^ (w + 1) + 1 ≤ iq n by omega)
  have e : (2 : Nat) ^ (2 * w + 1) ≤ 2 ^ (w + 1) * 2 ^ (w + 1) := by
    rw [← Nat.pow_add]
    exact Nat.pow_le_pow_right (by decide) (by omega)
  have e2 : (2 ^ (w + 1) + 1) * (2 ^ (w + 1) + 1) = 2 ^ (w + 1) * 2 ^ (w + 1) + 2 * 2 ^ (w + 1) + 1 := by grind
  omega
theorem pow_cast (n : Nat) : ((2 ^ n : Nat) : Int) = 2 ^ n := by rw [Int.natCast_pow]; rfl
abbrev preInv : Nat × Nat × Int → Prop := fun a => a.1 ≤ 2 ^ a.2.1 ∧ (a.2.2 = 1 → 2 * a.1 ≤ 2 ^ a.2.1) ∧ a.2.1 ≤ 600 ∧ (a.2.2 = 1 ∨ a.2.2 = -1)
abbrev spInv (K : PySem.W.Frag) : Sp := SpF K (fun a : Nat × Nat × Int => [nI (a.1 : Int), nI (a.2.1 : Int), nI (-a.2.2)]) preInv fun a => .int (invT iq (hv a.2.1) a.2.1 a.2.2 a.1)
theorem ok_inv {f f0 f1 f2 : Addr} {fd fd0 fd1 fd2 : FuncData} {t0 : Tok} (F : Fun K "inverse_tangent" "inverse_tangent" s_inverse_tangent f fd) (F_halvings_for : Fun K "halvings_for" "halvings_for" s_halvings_for f0 fd0) (b_halvings_for : Binds K fd0 ["bits"] []) (g_halvings_for : mg "halvings_for" = some (.ref f0))
    (F_nearest : Fun K "nearest" "nearest" s_nearest f1 fd1) (b_nearest : Binds K fd1 ["n", "bits"] []) (g_nearest : mg "nearest" = some (.ref f1))
    (F_odd_series : Fun K "odd_series" "odd_series" s_odd_series f2 fd2) (b_odd_series : Binds K fd2 ["t", "bits", "sign"] []) (g_odd_series : mg "odd_series" = some (.ref f2))
    (g_GUARD : mg "GUARD" = some (.int 32 t0)) (g_isqrt : mg "isqrt" = some (.builtin "math.isqrt")) (m_range : mg "range" = none) : FnOk P w K mg base CX0 2 f fd ["t", "bits", "sign"] (spInv K) := by
  have G_halvings_for : FnOk P w K mg base CX0 1 f0 fd0 ["bits"] (spHv K) := ok_hv F_halvings_for g_isqrt
  have G_nearest : FnOk P w K mg base CX0 1 f1 fd1 ["n", "bits"] (spNear K) := ok_near F_nearest
  have G_odd_series : FnOk P w K mg base CX0 1 f2 fd2 ["t", "bits", "sign"] (spOdd K) := ok_odd F_odd_series
  refine F.ok sc_inverse_tangent (fun vs H Q E ⟨_, _, _, iv, _⟩ => iv.len) (fun cdv A outer s H vs Q E hr h => ⟨_, (pss_cons (ps_set (i := 3) sc_inverse_tangent.nd rfl (.inl rfl) (pe_call G_halvings_for (hr.mono (by decide)) (by rfl) g_halvings_for F_halvings_for.kp b_halvings_for .nil pass0 (pa_cons (pv 1) pa_nil)))
        (pss_cons (ps_set (i := 4) sc_inverse_tangent.nd rfl (.inl rfl) (pe_op op_add (pe_op op_add (pv 1) (pv 3)) (pe_glob (by rfl) g_GUARD (show RelV (.int 32) _ from ⟨_, rfl⟩))))
        (pss_cons (ps_set (i := 5) sc_inverse_tangent.nd rfl (.inl rfl) (pe_op op_oneShl pe_int (pv 4)))
        (pss_cons (ps_set (i := 6) sc_inverse_tangent.nd rfl (.inl rfl) (pe_op op_shlN (pv 5) (pv 4)))
        (pss_cons (ps_set (i := 0) sc_inverse_tangent.nd rfl (.inl rfl) (pe_op op_shlN (pv 0) (pe_op op_add (pv 3) (pe_glob (by rfl) g_GUARD (show RelV (.int 32) _ from ⟨_, rfl⟩)))))
        (pss_cons (ps_for PassesOwn.never rfl (pi_range1 (by rfl) m_range (pa_cons (pv 3) pa_nil)) (pg_name (i := 7) sc_inverse_tangent.nd rfl (.inl rfl)) (pss_cons (ps_set (i := 8) sc_inverse_tangent.nd rfl (.inl rfl) (pe_callBfun call_sqrt (by rfl) g_isqrt (pa_cons (pe_op op_add (pv 6) (pe_op op_mulX (pe_op op_mulX (pv 2) (pv 0)) (pv 0))) pa_nil)))
        (pss_one (ps_set (i := 0) sc_inverse_tangent.nd rfl (.inl rfl) (pe_op op_fdivA (pe_op op_shlN (pv 0) (pv 4)) (pe_op op_add (pv 5) (pv 8)))))))
        (pss_one (ps_ret (pe_call G_nearest (hr.mono (by decide)) (by rfl) g_nearest F_nearest.kp b_nearest .nil pass0 (pa_cons (pe_call G_odd_series (hr.mono (by decide)) (by rfl) g_odd_series F_odd_series.kp b_odd_series .nil pass0 (pa_cons (pv 0) (pa_cons (pv 4) (pa_cons (pe_un un_neg (pv 2)) pa_nil)))) (pa_cons (pe_glob (by rfl) g_GUARD (show RelV (.int 32) _ from ⟨_, rfl⟩)) pa_nil))))))))))), run_body h fun a B hp => ?_⟩)
  obtain ⟨t, b, g⟩ := a
  obtain ⟨h1, h2, h3, hg⟩ := hp
  simp only at h1 h2 h3 hg
  obtain ⟨hb1, hb2⟩ := hv_bd (b := b) (by omega)
  obtain ⟨i1, i2⟩ := inv_half (h := hv b) hg (by omega) h1 h2
  show SD K B H _ _ _ { nx := _, rt := fun d => d = .int (near (odS g (oP (hsts iq g (b + hv b + 32) (t * 2 ^ (hv b + 32)) (hv b)) (b + hv b + 32)) (b + hv b + 32)) 32) }
  refine sd_env (δ1 := [nI (t : Int), nI (b : Int), nI (-g), .no, .no, .no, .no, .no, .no]) rfl ?_
  refine q_asg [_, _, _, nI ((hv b : Nat) : Int), _, _, _, _, _] (d_callF b (a_cons (d_var (s := nI (b : Int)) rfl) a_nil) (show b ≤ 2000 by omega)) ?_
  generalize hv b = h at *
  refine q_asg [_, _, _, _, nI ((b + h + 32 : Nat) : Int), _, _, _, _] (d_isI (j := ((b + h + 32 : Nat) : Int)) (d_i0 (d_i0 (d_var (s := nI (b : Int)) rfl) (d_var (s := nI (h : Int)) rfl)) d_ci) (by omega)) ?_
  generalize hw : b + h + 32 = w at *
  refine q_asg [_, _, _, _, _, nI ((2 ^ w : Nat) : Int), _, _, _] (d_isI (j := ((2 ^ w : Nat) : Int)) (d_one (k := w) d_ci (d_var (s := nI (w : Int)) rfl) (by omega)) (pow_cast w).symm) ?_
  refine q_asg [_, _, _, _, _, _, nI ((2 ^ w * 2 ^ w : Nat) : Int), _, _] (d_isI (j := ((2 ^ w * 2 ^ w : Nat) : Int)) (d_shl (k := w) (d_var (s := nI ((2 ^ w : Nat) : Int)) rfl) (d_var (s := nI (w : Int)) rfl) (shl_ok (n := 1100) (nat_small (Nat.le_refl _) (by omega)) (by omega))) (by rw [Int.natCast_mul, pow_cast])) ?_
  refine q_asg [nI ((hsts iq g w (t * 2 ^ (h + 32)) 0 : Nat) : Int), _, _, _, _, _, _, _, _] (d_isI (j := ((t * 2 ^ (h + 32) : Nat) : Int)) (d_shl (k := h + 32) (d_var (s := nI (t : Int)) rfl) (d_isI (j := ((h + 32 : Nat) : Int)) (d_i0 (d_var (s := nI (h : Int)) rfl) d_ci) (by omega)) (shl_ok (n := 1100) (nat_small h1 (by omega)) (by omega))) (by rw [Int.natCast_mul, pow_cast])) ?_
  generalize t * 2 ^ (h + 32) = T at *
  refine q_for (w_rng1 (n := (h : Int)) (ds_cons (d_var (s := nI (h : Int)) rfl) ds_nil) (by omega) (by omega)) (fun i δ => ∃ s7 s8, δ = [nI ((hsts iq g w T i : Nat) : Int), nI (b : Int), nI (-g), nI (h : Int), nI (w : Int), nI ((2 ^ w : Nat) : Int), nI ((2 ^ w * 2 ^ w : Nat) : Int), s7, s8]) ⟨_, _, rfl⟩ (fun i d δ' hd hq => ?_) (fun δ' hq => ?_)
  · obtain ⟨s7, s8, rfl⟩ := hq
    obtain ⟨hi, rfl⟩ := upto_get hd
    have tl : hsts iq g w T i ≤ 2 ^ w := Nat.le_trans (Re.R.hsts_le iq g w T i) i1
    have e1 : hsts iq g w T (i + 1) = hsts iq g w T i * 2 ^ w / (2 ^ w + iq (hstN g w (hsts iq g w T i))) := rfl
    obtain ⟨hN, hN2⟩ := hstN_ok hg tl
    have rl := iq_le hN2
    rw [e1]
    generalize hsts iq g w T i = u at *
    refine ⟨[7], [_, _, _, _, _, _, _, nI (0 + (i : Int)), _], g_name, ?_⟩
    refine q_asg [_, _, _, _, _, _, _, _, nI ((iq (hstN g w u) : Nat) : Int)] (d_sqrt (d_isI (j := ((hstN g w u : Nat) : Int)) (d_i0 (d_var (s := nI ((2 ^ w * 2 ^ w : Nat) : Int)) rfl) (d_iC (d_iC (d_var (s := nI (-g)) rfl) (d_var (s := nI (u : Int)) rfl) (mulx_ok (a := 2) (b := 1100) (by rcases hg with rfl | rfl <;> decide) (nat_small tl (by omega)) (by decide))) (d_var (s := nI (u : Int)) rfl) (mulx_ok (a := 1102) (b := 1100) (mul_small (n := 2) (m := 1100) (by rcases hg with rfl | rfl <;> decide) (nat_small tl (by omega))) (nat_small tl (by omega)) (by decide)))) (by
      rw [hN, Int.natCast_mul u u, Int.neg_mul, Int.neg_mul, Int.mul_assoc]
      omega)) (Nat.lt_of_le_of_lt hN2 (pow_small (by omega)))) ?_
    have pw : 0 < 2 ^ w := Nat.pow_pos (by decide)
    exact sd_asg (s := nI ((u * 2 ^ w / (2 ^ w + iq (hstN g w u)) : Nat) : Int)) (d_isI (j := ((u * 2 ^ w / (2 ^ w + iq (hstN g w u)) : Nat) : Int)) (d_fdivA (d_shl (k := w) (d_var (s := nI (u : Int)) rfl) (d_var (s := nI (w : Int)) rfl) (shl_ok (n := 1100) (nat_small tl (by omega)) (by omega))) (d_isI (j := ((2 ^ w + iq (hstN g w u) : Nat) : Int)) (d_i0 (d_var (s := nI ((2 ^ w : Nat) : Int)) rfl) (d_var (s := nI ((iq (hstN g w u) : Nat) : Int)) rfl)) (by omega)) (by omega) (lg40 (k := 1200) (nat_small (b := w + 2) (by
      have e2 : (2 : Nat) ^ (w + 2) = 4 * 2 ^ w := by rw [Nat.pow_add, Nat.mul_comm]
      have e3 : (2 : Nat) ^ (w + 1) = 2 * 2 ^ w := by rw [Nat.pow_add, Nat.mul_comm]
      omega) (by omega)) (by decide))) (by rw [Int.natCast_ediv, Int.natCast_mul, pow_cast])) ⟨_, _, rfl⟩
  · obtain ⟨s7, s8, rfl⟩ := hq
    have eh : (upto 0 (h : Int).toNat).length = h := by rw [upto_len]; omega
    rw [eh]
    exact sd_ret (d_callF (odS g (oP (hsts iq g w T h) w) w, 32) (a_cons (d_callF (hsts iq g w T h, w, g) (a_cons (d_var (s := nI ((hsts iq g w T h : Nat) : Int)) rfl) (a_cons (d_var (s := nI (w : Int)) rfl) (a_cons (d_isI (j := g) (d_neg (d_var (s := nI (-g)) rfl)) (Int.neg_neg g)) a_nil))) ⟨i2, show w ≤ 1000 by omega, hg⟩) (a_cons d_ci a_nil)) (show 1 ≤ 32 by decide)) rfl
/-! ### angles, by data -/
abbrev preAng : Nat × Nat × Nat → Prop := fun a => (0 < a.2.1 ∨ 0 < a.1) ∧ a.1 < 2 ^ 1500 ∧ a.2.1 < 2 ^ 1500 ∧ a.2.2 ≤ 400
abbrev spAngle (K : PySem.W.Frag) : Sp := SpF K (fun a : Nat × Nat × Nat => [nI (a.1 : Int), nI (a.2.1 : Int), nI (a.2.2 : Int)]) preAng fun a => .int (angS iq (hv (a.2.2 + 16)) a.1 a.2.1 a.2.2)
theorem ratio_le {y x w : Nat} (h : y ≤ x) : y * 2 ^ w / x ≤ 2 ^ w := Nat.div_le_of_le_mul (Nat.mul_le_mul_right _ h)
theorem nsm {a k : Nat} (h : a < 2 ^ k) : ((a : Nat) : Int).natAbs < 2 ^ k := by rw [Int.natAbs_natCast]; exact h
theorem ok_angle {f f0 f1 f2 f3 : Addr} {fd fd0 fd1 fd2 fd3 : FuncData} {t0 t1 : Tok} (F : Fun K "angle_scaled" "angle_scaled" s_angle_scaled f fd)
    (F_inverse_tangent : Fun K "inverse_tangent" "inverse_tangent" s_inverse_tangent f0 fd0) (b_inverse_tangent : Binds K fd0 ["t", "bits", "sign"] []) (g_inverse_tangent : mg "inverse_tangent" = some (.ref f0)) (G_inverse_tangent : FnOk P w K mg base CX0 2 f0 fd0 ["t", "bits", "sign"] (spInv K))
    (F_nearest : Fun K "nearest" "nearest" s_nearest f1 fd1) (b_nearest : Binds K fd1 ["n", "bits"] []) (g_nearest : mg "nearest" = some (.ref f1))
    (F_reciprocal_series : Fun K "reciprocal_series" "reciprocal_series" s_reciprocal_series f2 fd2) (b_reciprocal_series : Binds K fd2 ["n", "bits", "sign"] []) (g_reciprocal_series : mg "reciprocal_series" = some (.ref f2))
    (F_pi_scaled : Fun K "pi_scaled" "pi_scaled" s_pi_scaled f3 fd3) (b_pi_scaled : Binds K fd3 ["bits"] []) (g_pi_scaled : mg "pi_scaled" = some (.ref f3))
    (g_GUARD : mg "GUARD" = some (.int 32 t0)) (g_SPARE : mg "SPARE" = some (.int 16 t1)) : FnOk P w K mg base CX0 3 f fd ["y", "x", "bits"] (spAngle K) := by
  have G_nearest : FnOk P w K mg base CX0 1 f1 fd1 ["n", "bits"] (spNear K) := ok_near F_nearest
  have G_pi_scaled : FnOk P w K mg base CX0 2 f3 fd3 ["bits"] (spPiS K) := ok_piS F_pi_scaled F_reciprocal_series b_reciprocal_series g_reciprocal_series F_nearest b_nearest g_nearest g_GUARD
  refine F.ok sc_angle_scaled (fun vs H Q E ⟨_, _, _, iv, _⟩ => iv.len) (fun cdv A outer s H vs Q E hr h => ⟨_, (pss_cons (ps_set (i := 3) sc_angle_scaled.nd rfl (.inl rfl) (pe_op op_add (pv 2) (pe_glob (by rfl) g_SPARE (show RelV (.int 16) _ from ⟨_, rfl⟩))))
        (pss_cons (ps_if (pt_cmpR op_le (pv 0) (pv 1) (nomark _)) (pss_one (ps_set (i := 4) sc_angle_scaled.nd rfl (.inl rfl) (pe_call G_inverse_tangent (hr.mono (by decide)) (by rfl) g_inverse_tangent F_inverse_tangent.kp b_inverse_tangent .nil pass0 (pa_cons (pe_op op_fdivA (pe_op op_shlN (pv 0) (pv 3)) (pv 1)) (pa_cons (pv 3) (pa_cons pe_int pa_nil)))))) (pss_one (ps_set (i := 4) sc_angle_scaled.nd rfl (.inl rfl) (pe_op op_sub (pe_call G_pi_scaled (hr.mono (by decide)) (by rfl) g_pi_scaled F_pi_scaled.kp b_pi_scaled .nil pass0 (pa_cons (pe_op op_sub (pv 3) pe_int) pa_nil)) (pe_call G_inverse_tangent (hr.mono (by decide)) (by rfl) g_inverse_tangent F_inverse_tangent.kp b_inverse_tangent .nil pass0 (pa_cons (pe_op op_fdivA (pe_op op_shlN (pv 1) (pv 3)) (pv 0)) (pa_cons (pv 3) (pa_cons pe_int pa_nil))))))))
        (pss_one (ps_ret (pe_call G_nearest (hr.mono (by decide)) (by rfl) g_nearest F_nearest.kp b_nearest .nil pass0 (pa_cons (pv 4) (pa_cons (pe_glob (by rfl) g_SPARE (show RelV (.int 16) _ from ⟨_, rfl⟩)) pa_nil))))))), run_body h fun a B hp => ?_⟩)
  obtain ⟨y, x, b⟩ := a
  obtain ⟨h1, h2, h3, h4⟩ := hp
  simp only at h1 h2 h3 h4
  have lgN : ∀ m : Nat, m < 2 ^ 1500 → ((m : Nat) : Int).natAbs.log2 < 9000 := fun m hm => lg40 (k := 1500) (nsm hm) (by decide)
  have val : angS iq (hv (b + 16)) y x b = near (if y ≤ x then invT iq (hv (b + 16)) (b + 16) (-1) (y * 2 ^ (b + 16) / x) else piS (b + 15) - invT iq (hv (b + 16)) (b + 16) (-1) (x * 2 ^ (b + 16) / y)) 16 := rfl
  show SD K B H _ _ _ { nx := _, rt := fun d => d = .int (angS iq (hv (b + 16)) y x b) }
  rw [val]
  refine sd_env (δ1 := [nI (y : Int), nI (x : Int), nI (b : Int), .no, .no]) rfl ?_
  refine q_asg [_, _, _, nI ((b + 16 : Nat) : Int), _] (d_isI (j := ((b + 16 : Nat) : Int)) (d_i0 (d_var (s := nI (b : Int)) rfl) d_ci) (by omega)) ?_
  refine q_if (b_test (d_b0 (d_var (s := nI (y : Int)) rfl) (d_var (s := nI (x : Int)) rfl))) (fun hb => ?_) (fun hb => ?_)
  · have c : y ≤ x := by have := of_decide_eq_true hb; omega
    rw [if_pos c]
    refine sd_asg (s := nI (invT iq (hv (b + 16)) (b + 16) (-1) (y * 2 ^ (b + 16) / x))) (d_callF (y * 2 ^ (b + 16) / x, b + 16, -1) (a_cons (d_isI (j := ((y * 2 ^ (b + 16) / x : Nat) : Int)) (d_fdivA (d_shl (k := b + 16) (d_var (s := nI (y : Int)) rfl) (d_var (s := nI ((b + 16 : Nat) : Int)) rfl) (shl_ok (n := 1500) (nsm h2) (by omega))) (d_var (s := nI (x : Int)) rfl) (by omega) (lgN x h3)) (by rw [Int.natCast_ediv, Int.natCast_mul, pow_cast])) (a_cons (d_var (s := nI ((b + 16 : Nat) : Int)) rfl) (a_cons (d_isI (j := - -1) d_ci (by decide)) a_nil))) ⟨ratio_le c, fun z => absurd z (show ¬ (-1 : Int) = 1 by decide), show b + 16 ≤ 600 by omega, .inr rfl⟩) ?_
    refine sd_env (δ1 := [nI (y : Int), nI (x : Int), nI (b : Int), nI ((b + 16 : Nat) : Int), nI (invT iq (hv (b + 16)) (b + 16) (-1) (y * 2 ^ (b + 16) / x))]) rfl ?_
    exact sd_ret (d_callF (invT iq (hv (b + 16)) (b + 16) (-1) (y * 2 ^ (b + 16) / x), 16) (a_cons (d_var rfl) (a_cons d_ci a_nil)) (show 1 ≤ 16 by decide)) rfl
  · have c : ¬ y ≤ x := by have := of_decide_eq_false hb; omega
    rw [if_neg c]
    refine sd_asg (s := nI (piS (b + 15) - invT iq (hv (b + 16)) (b + 16) (-1) (x * 2 ^ (b + 16) / y))) (d_i0 (d_callF (b + 15) (a_cons (d_isI (j := ((b + 15 : Nat) : Int)) (d_i0 (d_var (s := nI ((b + 16 : Nat) : Int)) rfl) d_ci) (by omega)) a_nil) (show b + 15 ≤ 900 by omega)) (d_callF (x * 2 ^ (b + 16) / y, b + 16, -1) (a_cons (d_isI (j := ((x * 2 ^ (b + 16) / y : Nat) : Int)) (d_fdivA (d_shl (k := b + 16) (d_var (s := nI (x : Int)) rfl) (d_var (s := nI ((b + 16 : Nat) : Int)) rfl) (shl_ok (n := 1500) (nsm h3) (by omega))) (d_var (s := nI (y : Int)) rfl) (by omega) (lgN y h2)) (by rw [Int.natCast_ediv, Int.natCast_mul, pow_cast])) (a_cons (d_var (s := nI ((b + 16 : Nat) : Int)) rfl) (a_cons (d_isI (j := - -1) d_ci (by decide)) a_nil))) ⟨ratio_le (show x ≤ y by omega), fun z => absurd z (show ¬ (-1 : Int) = 1 by decide), show b + 16 ≤ 600 by omega, .inr rfl⟩)) ?_
    refine sd_env (δ1 := [nI (y : Int), nI (x : Int), nI (b : Int), nI ((b + 16 : Nat) : Int), nI (piS (b + 15) - invT iq (hv (b + 16)) (b + 16) (-1) (x * 2 ^ (b + 16) / y))]) rfl ?_
    exact sd_ret (d_callF (piS (b + 15) - invT iq (hv (b + 16)) (b + 16) (-1) (x * 2 ^ (b + 16) / y), 16) (a_cons (d_var rfl) (a_cons d_ci a_nil)) (show 1 ≤ 16 by decide)) rfl
abbrev spAtS (K : PySem.W.Frag) : Sp := SpF K (fun a : Int × Nat × Nat => [nI a.1, nI (a.2.1 : Int), nI (a.2.2 : Int)]) (fun a => a.1.natAbs < 2 ^ 1500 ∧ a.2.1 ≤ 1000 ∧ a.2.2 ≤ 400) fun a => .int (atS iq (hv (a.2.2 + 16)) a.1 a.2.1 a.2.2)
theorem ok_atS {f f0 : Addr} {fd fd0 : FuncData} (F : Fun K "arctangent_scaled" "arctangent_scaled" s_arctangent_scaled f fd)
    (F_angle_scaled : Fun K "angle_scaled" "angle_scaled" s_angle_scaled f0 fd0) (b_angle_scaled : Binds K fd0 ["y", "x", "bits"] []) (g_angle_scaled : mg "angle_scaled" = some (.ref f0)) (G_angle_scaled : FnOk P w K mg base CX0 3 f0 fd0 ["y", "x", "bits"] (spAngle K)) (m_abs : mg "abs" = none) : FnOk P w K mg base CX0 4 f fd ["n", "bits", "work"] (spAtS K) := by
  refine F.ok sc_arctangent_scaled (fun vs H Q E ⟨_, _, _, iv, _⟩ => iv.len) (fun cdv A outer s H vs Q E hr h => ⟨_, (pss_cons (ps_set (i := 3) sc_arctangent_scaled.nd rfl (.inl rfl) (pe_call G_angle_scaled (hr.mono (by decide)) (by rfl) g_angle_scaled F_angle_scaled.kp b_angle_scaled .nil pass0 (pa_cons (pe_callB call_abs (by rfl) m_abs (by decide +kernel) (pa_cons (pv 0) pa_nil)) (pa_cons (pe_op op_oneShl pe_int (pv 1)) (pa_cons (pv 2) pa_nil)))))
        (pss_one (ps_ret (pe_ifExp (pt_cmpR op_ge (pv 0) pe_int (nomark _)) (pv 3) (pe_un un_neg (pv 3)))))), run_body h fun a B hp => ?_⟩)
  obtain ⟨n, b, wk⟩ := a
  obtain ⟨h1, h2, h3⟩ := hp
  simp only at h1 h2 h3
  have val : atS iq (hv (wk + 16)) n b wk = if 0 ≤ n then angS iq (hv (wk + 16)) n.natAbs (2 ^ b) wk else -angS iq (hv (wk + 16)) n.natAbs (2 ^ b) wk := rfl
  show SD K B H _ _ _ { nx := _, rt := fun d => d = .int (atS iq (hv (wk + 16)) n b wk) }
  rw [val]
  refine sd_env (δ1 := [nI n, nI (b : Int), nI (wk : Int), .no]) rfl ?_
  refine q_asg [_, _, _, nI (angS iq (hv (wk + 16)) n.natAbs (2 ^ b) wk)] (d_callF (n.natAbs, 2 ^ b, wk) (a_cons (d_abs (d_var (s := nI n) rfl)) (a_cons (d_isI (j := ((2 ^ b : Nat) : Int)) (d_one (k := b) d_ci (d_var (s := nI (b : Int)) rfl) (by omega)) (pow_cast b).symm) (a_cons (d_var (s := nI (wk : Int)) rfl) a_nil))) ⟨.inl (Nat.pow_pos (by decide)), h1, pow_small (by omega), h3⟩) ?_
  generalize angS iq (hv (wk + 16)) n.natAbs (2 ^ b) wk = v at *
  refine sd_ret (d_if (s := nI (if 0 ≤ n then v else -v)) (b_test (d_b0 (d_var (s := nI n) rfl) d_ci)) (fun hb => ?_) (fun hb => ?_)) rfl
  · have c : 0 ≤ n := of_decide_eq_true hb
    rw [if_pos c]
    exact d_var rfl
  · have c : ¬ 0 ≤ n := of_decide_eq_false hb
    rw [if_neg c]
    exact d_neg (d_var (s := nI v) rfl)
abbrev spAsS (K : PySem.W.Frag) : Sp := SpF K (fun a : Int × Nat × Nat => [nI a.1, nI (a.2.1 : Int), nI (a.2.2 : Int)]) (fun a => a.1.natAbs ≤ 2 ^ a.2.1 ∧ a.2.1 ≤ a.2.2 ∧ a.2.2 ≤ 300) fun a => .int (asS iq (hv (a.2.2 + 32)) a.1 a.2.1 a.2.2)
theorem ok_asS {f f0 f1 : Addr} {fd fd0 fd1 : FuncData} {t1 : Tok} (F : Fun K "arcsine_scaled" "arcsine_scaled" s_arcsine_scaled f fd)
    (F_angle_scaled : Fun K "angle_scaled" "angle_scaled" s_angle_scaled f0 fd0) (b_angle_scaled : Binds K fd0 ["y", "x", "bits"] []) (g_angle_scaled : mg "angle_scaled" = some (.ref f0)) (G_angle_scaled : FnOk P w K mg base CX0 3 f0 fd0 ["y", "x", "bits"] (spAngle K))
    (F_nearest : Fun K "nearest" "nearest" s_nearest f1 fd1) (b_nearest : Binds K fd1 ["n", "bits"] []) (g_nearest : mg "nearest" = some (.ref f1)) (g_SPARE : mg "SPARE" = some (.int 16 t1)) (g_isqrt : mg "isqrt" = some (.builtin "math.isqrt")) (m_abs : mg "abs" = none) : FnOk P w K mg base CX0 4 f fd ["n", "bits", "work"] (spAsS K) := by
  have G_nearest : FnOk P w K mg base CX0 1 f1 fd1 ["n", "bits"] (spNear K) := ok_near F_nearest
  refine F.ok sc_arcsine_scaled (fun vs H Q E ⟨_, _, _, iv, _⟩ => iv.len) (fun cdv A outer s H vs Q E hr h => ⟨_, (pss_cons (ps_set (i := 3) sc_arcsine_scaled.nd rfl (.inl rfl) (pe_op op_add (pe_op op_sub (pv 2) (pv 1)) (pe_glob (by rfl) g_SPARE (show RelV (.int 16) _ from ⟨_, rfl⟩))))
        (pss_cons (ps_set (i := 4) sc_arcsine_scaled.nd rfl (.inl rfl) (pe_callBfun call_sqrt (by rfl) g_isqrt (pa_cons (pe_op op_shlN (pe_op op_sub (pe_op op_oneShl pe_int (pe_op op_mulX pe_int (pv 1))) (pe_op op_mulX (pv 0) (pv 0))) (pe_op op_mulX pe_int (pv 3))) pa_nil)))
        (pss_cons (ps_set (i := 5) sc_arcsine_scaled.nd rfl (.inl rfl) (pe_call G_nearest (hr.mono (by decide)) (by rfl) g_nearest F_nearest.kp b_nearest .nil pass0 (pa_cons (pe_call G_angle_scaled (hr.mono (by decide)) (by rfl) g_angle_scaled F_angle_scaled.kp b_angle_scaled .nil pass0 (pa_cons (pe_op op_shlN (pe_callB call_abs (by rfl) m_abs (by decide +kernel) (pa_cons (pv 0) pa_nil)) (pv 3)) (pa_cons (pv 4) (pa_cons (pe_op op_add (pv 2) (pe_glob (by rfl) g_SPARE (show RelV (.int 16) _ from ⟨_, rfl⟩))) pa_nil)))) (pa_cons (pe_glob (by rfl) g_SPARE (show RelV (.int 16) _ from ⟨_, rfl⟩)) pa_nil))))
        (pss_one (ps_ret (pe_ifExp (pt_cmpR op_ge (pv 0) pe_int (nomark _)) (pv 5) (pe_un un_neg (pv 5)))))))), run_body h fun a B hp => ?_⟩)
  obtain ⟨n, b, wk⟩ := a
  obtain ⟨h1, h2, h3⟩ := hp
  simp only at h1 h2 h3
  have val : asS iq (hv (wk + 32)) n b wk = if 0 ≤ n then near (angS iq (hv (wk + 32)) (n.natAbs * 2 ^ (wk - b + 16)) (iq ((2 ^ (2 * b) - n.natAbs * n.natAbs) * 2 ^ (2 * (wk - b + 16)))) (wk + 16)) 16 else -near (angS iq (hv (wk + 32)) (n.natAbs * 2 ^ (wk - b + 16)) (iq ((2 ^ (2 * b) - n.natAbs * n.natAbs) * 2 ^ (2 * (wk - b + 16)))) (wk + 16)) 16 := rfl
  show SD K B H _ _ _ { nx := _, rt := fun d => d = .int (asS iq (hv (wk + 32)) n b wk) }
  rw [val]
  obtain ⟨m, hm⟩ : ∃ m : Nat, m = wk - b + 16 := ⟨_, rfl⟩
  rw [← hm]
  have hnn : n.natAbs * n.natAbs ≤ 2 ^ (2 * b) := by
    have := Nat.mul_le_mul h1 h1
    rw [← Nat.pow_add] at this
    rwa [show 2 * b = b + b by omega]
  have hnI : ((n.natAbs * n.natAbs : Nat) : Int) = n * n := Int.natAbs_mul_self
  have hN : ((((2 ^ (2 * b) - n.natAbs * n.natAbs) * 2 ^ (2 * m)) : Nat) : Int) = (2 ^ (2 * b) - n * n) * 2 ^ (2 * m) := by
    rw [Int.natCast_mul, pow_cast, Int.natCast_sub hnn, pow_cast, hnI]
  have hNs : (2 ^ (2 * b) - n.natAbs * n.natAbs) * 2 ^ (2 * m) ≤ 2 ^ (2 * (b + m)) := by
    rw [show 2 * (b + m) = 2 * b + 2 * m by omega, Nat.pow_add]
    exact Nat.mul_le_mul_right _ (Nat.sub_le _ _)
  have hnr : n.natAbs < 2 ^ 400 := Nat.lt_of_le_of_lt h1 (pow_small (by omega))
  refine sd_env (δ1 := [nI n, nI (b : Int), nI (wk : Int), .no, .no, .no]) rfl ?_
  refine q_asg [_, _, _, nI (m : Int), _, _] (d_isI (j := (m : Int)) (d_i0 (d_i0 (d_var (s := nI (wk : Int)) rfl) (d_var (s := nI (b : Int)) rfl)) d_ci) (by omega)) ?_
  have hsm : (2 ^ (2 * b) - n * n : Int).natAbs < 2 ^ 700 := by
    have e : (2 ^ (2 * b) - n * n : Int) = ((2 ^ (2 * b) - n.natAbs * n.natAbs : Nat) : Int) := by rw [Int.natCast_sub hnn, pow_cast, hnI]
    rw [e]
    exact nat_small (b := 2 * b) (Nat.sub_le _ _) (by omega)
  refine q_asg [_, _, _, _, nI ((iq ((2 ^ (2 * b) - n.natAbs * n.natAbs) * 2 ^ (2 * m)) : Nat) : Int), _] (d_sqrt (d_isI (j := (((2 ^ (2 * b) - n.natAbs * n.natAbs) * 2 ^ (2 * m) : Nat) : Int)) (d_shl (k := 2 * m) (d_i0 (d_one (k := 2 * b) d_ci (d_isI (j := ((2 * b : Nat) : Int)) (d_iC d_ci (d_var (s := nI (b : Int)) rfl) (mulx_ok (a := 3) (b := 20) (by decide) (by omega) (by decide))) (by omega)) (by omega)) (d_iC (d_var (s := nI n) rfl) (d_var (s := nI n) rfl) (mulx_ok (a := 400) (b := 400) hnr hnr (by decide)))) (d_isI (j := ((2 * m : Nat) : Int)) (d_iC d_ci (d_var (s := nI (m : Int)) rfl) (mulx_ok (a := 3) (b := 20) (by decide) (by omega) (by decide))) (by omega)) (shl_ok (n := 700) hsm (by omega))) hN.symm) (Nat.lt_of_le_of_lt hNs (pow_small (by omega)))) ?_
  have hq : iq ((2 ^ (2 * b) - n.natAbs * n.natAbs) * 2 ^ (2 * m)) ≤ 2 ^ (b + m + 1) := iq_le (Nat.le_trans hNs (Nat.pow_le_pow_right (by decide) (by omega)))
  have hpos : 0 < iq ((2 ^ (2 * b) - n.natAbs * n.natAbs) * 2 ^ (2 * m)) ∨ 0 < n.natAbs * 2 ^ m := by
    rcases Nat.eq_zero_or_pos n.natAbs with z | z
    · refine .inl (Re.R.root_pos iq_ok ?_)
      rw [z]
      exact Nat.mul_pos (by have : 0 < 2 ^ (2 * b) := Nat.pow_pos (by decide); omega) (Nat.pow_pos (by decide))
    · exact .inr (Nat.mul_pos z (Nat.pow_pos (by decide)))
  generalize iq ((2 ^ (2 * b) - n.natAbs * n.natAbs) * 2 ^ (2 * m)) = o at *
  have hX : n.natAbs * 2 ^ m ≤ 2 ^ (b + m) := by rw [Nat.pow_add]; exact Nat.mul_le_mul_right _ h1
  refine q_asg [_, _, _, _, _, nI (near (angS iq (hv (wk + 32)) (n.natAbs * 2 ^ m) o (wk + 16)) 16)] (d_callF (angS iq (hv (wk + 16 + 16)) (n.natAbs * 2 ^ m) o (wk + 16), 16) (a_cons (d_callF (n.natAbs * 2 ^ m, o, wk + 16) (a_cons (d_isI (j := ((n.natAbs * 2 ^ m : Nat) : Int)) (d_shl (k := m) (d_abs (d_var (s := nI n) rfl)) (d_var (s := nI (m : Int)) rfl) (shl_ok (n := 400) (nsm hnr) (by omega))) (by rw [Int.natCast_mul, pow_cast])) (a_cons (d_var (s := nI (o : Int)) rfl) (a_cons (d_isI (j := ((wk + 16 : Nat) : Int)) (d_i0 (d_var (s := nI (wk : Int)) rfl) d_ci) (by omega)) a_nil))) ⟨hpos, Nat.lt_of_le_of_lt hX (pow_small (by omega)), Nat.lt_of_le_of_lt hq (pow_small (by omega)), show wk + 16 ≤ 400 by omega⟩) (a_cons d_ci a_nil)) (show 1 ≤ 16 by decide)) ?_
  generalize near (angS iq (hv (wk + 32)) (n.natAbs * 2 ^ m) o (wk + 16)) 16 = v at *
  refine sd_ret (d_if (s := nI (if 0 ≤ n then v else -v)) (b_test (d_b0 (d_var (s := nI n) rfl) d_ci)) (fun hb => ?_) (fun hb => ?_)) rfl
  · have c : 0 ≤ n := of_decide_eq_true hb
    rw [if_pos c]
    exact d_var rfl
  · have c : ¬ 0 ≤ n := of_decide_eq_false hb
    rw [if_neg c]
    exact d_neg (d_var (s := nI v) rfl)
abbrev spAcS (K : PySem.W.Frag) : Sp := SpF K (fun a : Int × Nat × Nat => [nI a.1, nI (a.2.1 : Int), nI (a.2.2 : Int)]) (fun a => a.1.natAbs ≤ 2 ^ a.2.1 ∧ a.2.1 ≤ a.2.2 ∧ a.2.2 ≤ 280) fun a => .int (acS iq (hv (a.2.2 + 48)) a.1 a.2.1 a.2.2)
theorem ok_acS {f f0 f1 f2 f3 : Addr} {fd fd0 fd1 fd2 fd3 : FuncData} {t0 t1 : Tok} (F : Fun K "arccosine_scaled" "arccosine_scaled" s_arccosine_scaled f fd)
    (F_arcsine_scaled : Fun K "arcsine_scaled" "arcsine_scaled" s_arcsine_scaled f0 fd0) (b_arcsine_scaled : Binds K fd0 ["n", "bits", "work"] []) (g_arcsine_scaled : mg "arcsine_scaled" = some (.ref f0)) (G_arcsine_scaled : FnOk P w K mg base CX0 4 f0 fd0 ["n", "bits", "work"] (spAsS K))
    (F_nearest : Fun K "nearest" "nearest" s_nearest f1 fd1) (b_nearest : Binds K fd1 ["n", "bits"] []) (g_nearest : mg "nearest" = some (.ref f1))
    (F_reciprocal_series : Fun K "reciprocal_series" "reciprocal_series" s_reciprocal_series f2 fd2) (b_reciprocal_series : Binds K fd2 ["n", "bits", "sign"] []) (g_reciprocal_series : mg "reciprocal_series" = some (.ref f2))
    (F_pi_scaled : Fun K "pi_scaled" "pi_scaled" s_pi_scaled f3 fd3) (b_pi_scaled : Binds K fd3 ["bits"] []) (g_pi_scaled : mg "pi_scaled" = some (.ref f3))
    (g_GUARD : mg "GUARD" = some (.int 32 t0)) (g_SPARE : mg "SPARE" = some (.int 16 t1)) : FnOk P w K mg base CX0 5 f fd ["n", "bits", "work"] (spAcS K) := by
  have G_nearest : FnOk P w K mg base CX0 1 f1 fd1 ["n", "bits"] (spNear K) := ok_near F_nearest
  have G_pi_scaled : FnOk P w K mg base CX0 2 f3 fd3 ["bits"] (spPiS K) := ok_piS F_pi_scaled F_reciprocal_series b_reciprocal_series g_reciprocal_series F_nearest b_nearest g_nearest g_GUARD
  refine F.ok sc_arccosine_scaled (fun vs H Q E ⟨_, _, _, iv, _⟩ => iv.len) (fun cdv A outer s H vs Q E hr h => ⟨_, (pss_cons (ps_set (i := 3) sc_arccosine_scaled.nd rfl (.inl rfl) (pe_op op_add (pv 2) (pe_glob (by rfl) g_SPARE (show RelV (.int 16) _ from ⟨_, rfl⟩))))
        (pss_one (ps_ret (pe_call G_nearest (hr.mono (by decide)) (by rfl) g_nearest F_nearest.kp b_nearest .nil pass0 (pa_cons (pe_op op_sub (pe_call G_pi_scaled (hr.mono (by decide)) (by rfl) g_pi_scaled F_pi_scaled.kp b_pi_scaled .nil pass0 (pa_cons (pe_op op_sub (pv 3) pe_int) pa_nil)) (pe_call G_arcsine_scaled (hr.mono (by decide)) (by rfl) g_arcsine_scaled F_arcsine_scaled.kp b_arcsine_scaled .nil pass0 (pa_cons (pv 0) (pa_cons (pv 1) (pa_cons (pv 3) pa_nil))))) (pa_cons (pe_glob (by rfl) g_SPARE (show RelV (.int 16) _ from ⟨_, rfl⟩)) pa_nil)))))), run_body h fun a B hp => ?_⟩)
  obtain ⟨n, b, wk⟩ := a
  obtain ⟨h1, h2, h3⟩ := hp
  simp only at h1 h2 h3
  have val : acS iq (hv (wk + 48)) n b wk = near (piS (wk + 15) - asS iq (hv (wk + 16 + 32)) n b (wk + 16)) 16 := rfl
  show SD K B H _ _ _ { nx := _, rt := fun d => d = .int (acS iq (hv (wk + 48)) n b wk) }
  rw [val]
  refine sd_env (δ1 := [nI n, nI (b : Int), nI (wk : Int), .no]) rfl ?_
  refine q_asg [_, _, _, nI ((wk + 16 : Nat) : Int)] (d_isI (j := ((wk + 16 : Nat) : Int)) (d_i0 (d_var (s := nI (wk : Int)) rfl) d_ci) (by omega)) ?_
  exact sd_ret (d_callF (piS (wk + 15) - asS iq (hv (wk + 16 + 32)) n b (wk + 16), 16) (a_cons (d_i0 (d_callF (wk + 15) (a_cons (d_isI (j := ((wk + 15 : Nat) : Int)) (d_i0 (d_var (s := nI ((wk + 16 : Nat) : Int)) rfl) d_ci) (by omega)) a_nil) (show wk + 15 ≤ 900 by omega)) (d_callF (n, b, wk + 16) (a_cons (d_var (s := nI n) rfl) (a_cons (d_var (s := nI (b : Int)) rfl) (a_cons (d_var (s := nI ((wk + 16 : Nat) : Int)) rfl) a_nil))) ⟨h1, show b ≤ wk + 16 by omega, show wk + 16 ≤ 300 by omega⟩)) (a_cons d_ci a_nil)) (show 1 ≤ 16 by decide)) rfl
/-! ### log, by data -/
theorem bits_lt (n : Int) : n.natAbs < 2 ^ (Builtin.Int.intBits n : Nat) := by
  unfold Builtin.Int.intBits
  split
  · next h =>
    have h := eq_of_beq h
    rw [h]
    decide
  · exact Nat.lt_log2_self
theorem bits_le {n : Int} {k : Nat} (h : n.natAbs < 2 ^ k) : Builtin.Int.intBits n ≤ k := PyProof.Rows.intBits_le h
theorem bits_two {n : Nat} (h : 0 < n) : 1 ≤ Builtin.Int.intBits (n : Int) ∧ 2 ^ (Builtin.Int.intBits (n : Int) - 1) ≤ n ∧ n < 2 ^ (Builtin.Int.intBits (n : Int)) := by
  have a := bits_lt (n : Int)
  rw [Int.natAbs_natCast] at a
  have b : 1 ≤ Builtin.Int.intBits (n : Int) := by
    rcases Nat.eq_zero_or_pos (Builtin.Int.intBits (n : Int)) with z | z
    · rw [z] at a
      have : n < 1 := a
      omega
    · exact z
  refine ⟨b, Nat.le_of_not_lt fun c => ?_, a⟩
  have := bits_le (n := (n : Int)) (k := Builtin.Int.intBits (n : Int) - 1) (by rw [Int.natAbs_natCast]; exact c)
  omega
theorem near_abs {n : Int} {k : Nat} : (near n k).natAbs ≤ n.natAbs + 1 := by
  unfold Re.R.near
  have := Int.natAbs_ediv_le_natAbs n (2 ^ (k - 1))
  omega
theorem inv_abs {g : Int} (hg : g = 1 ∨ g = -1) {b t : Nat} (h1 : t ≤ 2 ^ b) (h2 : g = 1 → 2 * t ≤ 2 ^ b) (h3 : b ≤ 600) : (invT iq (hv b) b g t).natAbs < 2 ^ 2000 := by
  obtain ⟨hb1, hb2⟩ := hv_bd (b := b) (by omega)
  obtain ⟨i1, i2⟩ := inv_half (h := hv b) hg (by omega) h1 h2
  unfold Re.R.invT
  generalize hw : b + hv b + 32 = w at *
  have wl : w ≤ 1000 := by omega
  have h4 := odS_abs hg (Pw := oP (hsts iq g w (t * 2 ^ (hv b + 32)) (hv b)) w) (M := 2 ^ w) (fun k => Re.R.oP_le (by omega) k) w
  have h5 := near_abs (n := odS g (oP (hsts iq g w (t * 2 ^ (hv b + 32)) (hv b)) w) w) (k := 32)
  have h6 : w * 2 ^ w ≤ 2 ^ 10 * 2 ^ 1000 := Nat.mul_le_mul (by omega) (Nat.pow_le_pow_right (by decide) wl)
  have h7 : (2 : Nat) ^ 10 * 2 ^ 1000 + 1 < 2 ^ 2000 := by decide +kernel
  generalize (2 : Nat) ^ 10 * 2 ^ 1000 = A at *
  generalize (2 : Nat) ^ 2000 = C at *
  generalize w * 2 ^ w = D at *
  omega
theorem lt2_abs {b : Nat} (h : b ≤ 900) : (lt2 b).natAbs < 2 ^ 2000 := by
  unfold Re.R.lt2
  have h1 := odS_abs (g := 1) (.inl rfl) (Pw := rP 3 (b + 32)) (M := 2 ^ (b + 32)) (fun k => Nat.div_le_self _ _) (b + 32)
  have h2 : (b + 32) * 2 ^ (b + 32) ≤ 2 ^ 10 * 2 ^ 932 := Nat.mul_le_mul (by omega) (Nat.pow_le_pow_right (by decide) (by omega))
  have h3 : 2 * ((2 : Nat) ^ 10 * 2 ^ 932) + 1 < 2 ^ 2000 := by decide +kernel
  have h5 := near_abs (n := 2 * odS 1 (rP 3 (b + 32)) (b + 32)) (k := 32)
  generalize (2 : Nat) ^ 10 * 2 ^ 932 = A at *
  generalize (2 : Nat) ^ 2000 = C at *
  generalize (b + 32) * 2 ^ (b + 32) = D at *
  omega
def sOf (n : Nat) : Nat := Builtin.Int.intBits (n : Int) - 1
def cOf (n b : Nat) : Nat := Builtin.Int.intBits ((sOf n : Int) - (b : Int))
theorem sOf_ok {n : Nat} (h : 0 < n) : 2 ^ sOf n ≤ n ∧ n < 2 ^ (sOf n + 1) := by
  obtain ⟨h1, h2, h3⟩ := bits_two h
  unfold sOf
  rw [show Builtin.Int.intBits (n : Int) - 1 + 1 = Builtin.Int.intBits (n : Int) by omega]
  exact ⟨h2, h3⟩
theorem sOf_lt {n k : Nat} (h0 : 0 < n) (h : n < 2 ^ k) : sOf n < k := by
  have := bits_le (n := (n : Int)) (k := k) (by rw [Int.natAbs_natCast]; exact h)
  have := (bits_two h0).1
  unfold sOf
  omega
theorem cOf_ok (n b : Nat) : ((sOf n : Int) - (b : Int)).natAbs < 2 ^ cOf n b := bits_lt _
theorem cOf_le {n b : Nat} (h0 : 0 < n) (h : n < 2 ^ 400) (hb : b ≤ 400) : cOf n b ≤ 9 := by
  have := sOf_lt h0 h
  refine bits_le ?_
  show _ < 512
  omega
abbrev spLgS (K : PySem.W.Frag) : Sp := SpF K (fun a : Nat × Nat × Nat => [nI (a.1 : Int), nI (a.2.1 : Int), nI (a.2.2 : Int)]) (fun a => 0 < a.1 ∧ a.1 < 2 ^ 400 ∧ a.2.1 ≤ 200 ∧ a.2.2 ≤ 250) fun a => .int (lgS iq (hv (a.2.2 + 16 + cOf a.1 a.2.1)) a.1 (sOf a.1) a.2.1 a.2.2 (cOf a.1 a.2.1))
theorem ok_lgS {f f0 f1 f2 f3 : Addr} {fd fd0 fd1 fd2 fd3 : FuncData} {t0 t1 : Tok} (F : Fun K "logarithm_scaled" "logarithm_scaled" s_logarithm_scaled f fd)
    (F_inverse_tangent : Fun K "inverse_tangent" "inverse_tangent" s_inverse_tangent f0 fd0) (b_inverse_tangent : Binds K fd0 ["t", "bits", "sign"] []) (g_inverse_tangent : mg "inverse_tangent" = some (.ref f0)) (G_inverse_tangent : FnOk P w K mg base CX0 2 f0 fd0 ["t", "bits", "sign"] (spInv K))
    (F_nearest : Fun K "nearest" "nearest" s_nearest f1 fd1) (b_nearest : Binds K fd1 ["n", "bits"] []) (g_nearest : mg "nearest" = some (.ref f1))
    (F_reciprocal_series : Fun K "reciprocal_series" "reciprocal_series" s_reciprocal_series f2 fd2) (b_reciprocal_series : Binds K fd2 ["n", "bits", "sign"] []) (g_reciprocal_series : mg "reciprocal_series" = some (.ref f2))
    (F_log_of_two : Fun K "log_of_two" "log_of_two" s_log_of_two f3 fd3) (b_log_of_two : Binds K fd3 ["bits"] []) (g_log_of_two : mg "log_of_two" = some (.ref f3))
    (g_GUARD : mg "GUARD" = some (.int 32 t0)) (g_SPARE : mg "SPARE" = some (.int 16 t1)) : FnOk P w K mg base CX0 3 f fd ["n", "bits", "work"] (spLgS K) := by
  have G_nearest : FnOk P w K mg base CX0 1 f1 fd1 ["n", "bits"] (spNear K) := ok_near F_nearest
  have G_log_of_two : FnOk P w K mg base CX0 2 f3 fd3 ["bits"] (spLn2 K) := ok_ln2 F_log_of_two F_reciprocal_series b_reciprocal_series g_reciprocal_series F_nearest b_nearest g_nearest g_GUARD
  refine F.ok sc_logarithm_scaled (fun vs H Q E ⟨_, _, _, iv, _⟩ => iv.len) (fun cdv A outer s H vs Q E hr h => ⟨_, (pss_cons (ps_set (i := 3) sc_logarithm_scaled.nd rfl (.inl rfl) (pe_op op_sub (pe_bits (pv 0)) pe_int))
        (pss_cons (ps_set (i := 4) sc_logarithm_scaled.nd rfl (.inl rfl) (pe_op op_sub (pv 3) (pv 1)))
        (pss_cons (ps_set (i := 5) sc_logarithm_scaled.nd rfl (.inl rfl) (pe_op op_add (pe_op op_add (pv 2) (pe_glob (by rfl) g_SPARE (show RelV (.int 16) _ from ⟨_, rfl⟩))) (pe_bits (pv 4))))
        (pss_cons (ps_set (i := 6) sc_logarithm_scaled.nd rfl (.inl rfl) (pe_op op_oneShl pe_int (pv 5)))
        (pss_cons (ps_set (i := 7) sc_logarithm_scaled.nd rfl (.inl rfl) (pe_op op_shrN (pe_op op_shlN (pv 0) (pv 5)) (pv 3)))
        (pss_cons (ps_set (i := 8) sc_logarithm_scaled.nd rfl (.inl rfl) (pe_op op_fdivA (pe_op op_shlN (pe_op op_sub (pv 7) (pv 6)) (pv 5)) (pe_op op_add (pv 7) (pv 6))))
        (pss_cons (ps_set (i := 9) sc_logarithm_scaled.nd rfl (.inl rfl) (pe_op op_mulX pe_int (pe_call G_inverse_tangent (hr.mono (by decide)) (by rfl) g_inverse_tangent F_inverse_tangent.kp b_inverse_tangent .nil pass0 (pa_cons (pv 8) (pa_cons (pv 5) (pa_cons (pe_un un_neg pe_int) pa_nil))))))
        (pss_cons (ps_if (pt_cmpR op_ne (pv 4) pe_int (nomark _)) (pss_one (ps_set (i := 9) sc_logarithm_scaled.nd rfl (.inl rfl) (pe_op op_add (pv 9) (pe_op op_mulX (pv 4) (pe_call G_log_of_two (hr.mono (by decide)) (by rfl) g_log_of_two F_log_of_two.kp b_log_of_two .nil pass0 (pa_cons (pv 5) pa_nil)))))) pss_nil)
        (pss_one (ps_ret (pe_call G_nearest (hr.mono (by decide)) (by rfl) g_nearest F_nearest.kp b_nearest .nil pass0 (pa_cons (pv 9) (pa_cons (pe_op op_sub (pv 5) (pv 2)) pa_nil))))))))))))), run_body h fun a B hp => ?_⟩)
  obtain ⟨n, b, wk⟩ := a
  obtain ⟨h1, h2, h3, h4⟩ := hp
  simp only at h1 h2 h3 h4
  obtain ⟨s1, s2⟩ := sOf_ok h1
  have sl := sOf_lt h1 h2
  have cl := cOf_le h1 h2 (b := b) (by omega)
  have b1 := (bits_two h1).1
  have es : (Builtin.Int.intBits (n : Int) : Int) - 1 = (sOf n : Int) := by unfold sOf; omega
  have ec : (Builtin.Int.intBits ((sOf n : Int) - (b : Int)) : Int) = (cOf n b : Int) := rfl
  have val : lgS iq (hv (wk + 16 + cOf n b)) n (sOf n) b wk (cOf n b) = near (2 * invT iq (hv (wk + 16 + cOf n b)) (wk + 16 + cOf n b) 1 (lgR n (sOf n) (wk + 16 + cOf n b)) + ((sOf n : Int) - (b : Int)) * lt2 (wk + 16 + cOf n b)) (16 + cOf n b) := rfl
  show SD K B H _ _ _ { nx := _, rt := fun d => d = .int (lgS iq (hv (wk + 16 + cOf n b)) n (sOf n) b wk (cOf n b)) }
  rw [val]
  refine sd_env (δ1 := [nI (n : Int), nI (b : Int), nI (wk : Int), .no, .no, .no, .no, .no, .no, .no]) rfl ?_
  refine q_asg [_, _, _, nI (sOf n : Int), _, _, _, _, _, _] (d_isI (j := (sOf n : Int)) (d_i0 (d_bits (d_var (s := nI (n : Int)) rfl)) d_ci) es) ?_
  refine q_asg [_, _, _, _, nI ((sOf n : Int) - (b : Int)), _, _, _, _, _] (d_i0 (d_var (s := nI (sOf n : Int)) rfl) (d_var (s := nI (b : Int)) rfl)) ?_
  refine q_asg [_, _, _, _, _, nI ((wk + 16 + cOf n b : Nat) : Int), _, _, _, _] (d_isI (j := ((wk + 16 + cOf n b : Nat) : Int)) (d_i0 (d_i0 (d_var (s := nI (wk : Int)) rfl) d_ci) (d_bits (d_var (s := nI ((sOf n : Int) - (b : Int))) rfl))) (by rw [ec]; omega)) ?_
  generalize cOf n b = c at *
  generalize sOf n = s at *
  obtain ⟨M1, M2, M3⟩ := Re.R.lgR_le (m := wk + 16 + c) s1 s2
  have lgd : lgR n s (wk + 16 + c) = (n * 2 ^ (wk + 16 + c) / 2 ^ s - 2 ^ (wk + 16 + c)) * 2 ^ (wk + 16 + c) / (n * 2 ^ (wk + 16 + c) / 2 ^ s + 2 ^ (wk + 16 + c)) := rfl
  generalize hm : wk + 16 + c = m at *
  refine q_asg [_, _, _, _, _, _, nI ((2 ^ m : Nat) : Int), _, _, _] (d_isI (j := ((2 ^ m : Nat) : Int)) (d_one (k := m) d_ci (d_var (s := nI (m : Int)) rfl) (by omega)) (pow_cast m).symm) ?_
  refine q_asg [_, _, _, _, _, _, _, nI ((n * 2 ^ m / 2 ^ s : Nat) : Int), _, _] (d_isI (j := ((n * 2 ^ m / 2 ^ s : Nat) : Int)) (d_shr (k := s) (d_shl (k := m) (d_var (s := nI (n : Int)) rfl) (d_var (s := nI (m : Int)) rfl) (shl_ok (n := 400) (nsm h2) (by omega))) (d_var (s := nI (s : Int)) rfl)) (by rw [Int.natCast_ediv, Int.natCast_mul, pow_cast, pow_cast])) ?_
  generalize n * 2 ^ m / 2 ^ s = M at *
  have pm : 0 < 2 ^ m := Nat.pow_pos (by decide)
  refine q_asg [_, _, _, _, _, _, _, _, nI ((lgR n s m : Nat) : Int), _] (d_isI (j := ((lgR n s m : Nat) : Int)) (d_fdivA (d_shl (k := m) (d_isI (j := ((M - 2 ^ m : Nat) : Int)) (d_i0 (d_var (s := nI (M : Int)) rfl) (d_var (s := nI ((2 ^ m : Nat) : Int)) rfl)) (by omega)) (d_var (s := nI (m : Int)) rfl) (shl_ok (n := 400) (nat_small (b := m) (by omega) (by omega)) (by omega))) (d_isI (j := ((M + 2 ^ m : Nat) : Int)) (d_i0 (d_var (s := nI (M : Int)) rfl) (d_var (s := nI ((2 ^ m : Nat) : Int)) rfl)) (by omega)) (by omega) (lg40 (k := 400) (nat_small (b := m + 2) (by
    have e2 : (2 : Nat) ^ (m + 2) = 4 * 2 ^ m := by rw [Nat.pow_add, Nat.mul_comm]
    omega) (by omega)) (by decide))) (by rw [lgd, Int.natCast_ediv, Int.natCast_mul, pow_cast])) ?_
  generalize lgR n s m = t at *
  have ia := inv_abs (g := 1) (.inl rfl) (b := m) (t := t) (by omega) (fun _ => M3) (by omega)
  refine q_asg [_, _, _, _, _, _, _, _, _, nI (2 * invT iq (hv m) m 1 t)] (d_iC d_ci (d_callF (t, m, 1) (a_cons (d_var (s := nI (t : Int)) rfl) (a_cons (d_var (s := nI (m : Int)) rfl) (a_cons (d_neg d_ci) a_nil))) ⟨show t ≤ 2 ^ m by omega, fun _ => M3, show m ≤ 600 by omega, .inl rfl⟩) (mulx_ok (a := 3) (b := 2000) (by decide) ia (by decide))) ?_
  generalize 2 * invT iq (hv m) m 1 t = v at *
  refine q_when (b_test (d_neI (d_var (s := nI ((s : Int) - (b : Int))) rfl) d_ci)) (fun hb => ?_) (fun hb => ?_)
  · refine sd_asg (s := nI (v + ((s : Int) - (b : Int)) * lt2 m)) (d_i0 (d_var (s := nI v) rfl) (d_iC (d_var (s := nI ((s : Int) - (b : Int))) rfl) (d_callF m (a_cons (d_var (s := nI (m : Int)) rfl) a_nil) (show m ≤ 900 by omega)) (mulx_ok (a := 400) (b := 2000) (by
      have : (512 : Nat) < 2 ^ 400 := by decide +kernel
      generalize (2 : Nat) ^ 400 = A at *
      omega) (lt2_abs (by omega)) (by decide)))) ?_
    generalize v + ((s : Int) - (b : Int)) * lt2 m = U at *
    refine sd_env (δ1 := [nI (n : Int), nI (b : Int), nI (wk : Int), nI (s : Int), nI ((s : Int) - (b : Int)), nI (m : Int), nI ((2 ^ m : Nat) : Int), nI (M : Int), nI (t : Int), nI U]) rfl ?_
    exact sd_ret (d_callF (U, 16 + c) (a_cons (d_var (s := nI U) rfl) (a_cons (d_isI (j := ((16 + c : Nat) : Int)) (d_i0 (d_var (s := nI (m : Int)) rfl) (d_var (s := nI (wk : Int)) rfl)) (by omega)) a_nil)) (show 1 ≤ 16 + c by omega)) rfl
  · have z : (s : Int) - (b : Int) = 0 := by
      have hb : (!decide ((s : Int) - (b : Int) = 0)) = false := hb
      by_cases y : (s : Int) - (b : Int) = 0
      · exact y
      · rw [decide_eq_false y] at hb
        cases hb
    have ev : v + ((s : Int) - (b : Int)) * lt2 m = v := by rw [z, Int.zero_mul, Int.add_zero]
    rw [ev]
    exact sd_ret (d_callF (v, 16 + c) (a_cons (d_var (s := nI v) rfl) (a_cons (d_isI (j := ((16 + c : Nat) : Int)) (d_i0 (d_var (s := nI (m : Int)) rfl) (d_var (s := nI (wk : Int)) rfl)) (by omega)) a_nil)) (show 1 ≤ 16 + c by omega)) rfl
/-! ### what is told at one number and over a range, by data -/
def pairD (p : Int × Int) : PyData := .tuple [.int p.1, .int p.2]
abbrev Pr := Int → Nat → Prop
abbrev Fn2 := Int → Nat → Int × Int
abbrev spAtG (pre : Pr) (e : Fn2) (K : PySem.W.Frag) : Sp := SpF K (fun a : Int × Nat => [nI a.1, nI (a.2 : Int)]) (fun a => pre a.1 a.2) fun a => pairD (e a.1 a.2)
def pLg : Pr := fun n b => 0 < n ∧ n.natAbs < 2 ^ 400 ∧ b ≤ 160
def eLg : Fn2 := fun n b => lgAt iq (hv (b + 32 + 16 + cOf n.toNat b)) n.toNat (sOf n.toNat) b (cOf n.toNat b)
def pAt : Pr := fun n b => n.natAbs < 2 ^ 1500 ∧ b ≤ 160
def eAt : Fn2 := fun n b => atAt iq (hv (b + 32 + 16)) n b
def pAs : Pr := fun n b => n.natAbs ≤ 2 ^ b ∧ b ≤ 160
def eAs : Fn2 := fun n b => asAt iq (hv (b + 32 + 32)) n b
def eAc : Fn2 := fun n b => acAt iq (hv (b + 32 + 48)) n b
theorem ok_lgAt {f f0 f1 : Addr} {fd fd0 fd1 : FuncData} {t0 : Tok} (F : Fun K "logarithm_at" "logarithm_at" s_logarithm_at f fd)
    (F_logarithm_scaled : Fun K "logarithm_scaled" "logarithm_scaled" s_logarithm_scaled f0 fd0) (b_logarithm_scaled : Binds K fd0 ["n", "bits", "work"] []) (g_logarithm_scaled : mg "logarithm_scaled" = some (.ref f0)) (G_logarithm_scaled : FnOk P w K mg base CX0 3 f0 fd0 ["n", "bits", "work"] (spLgS K))
    (F_outwards : Fun K "outwards" "outwards" s_outwards f1 fd1) (b_outwards : Binds K fd1 ["value"] []) (g_outwards : mg "outwards" = some (.ref f1)) (g_EXTRA : mg "EXTRA" = some (.int 32 t0)) : FnOk P w K mg base CX0 6 f fd ["n", "bits"] (spAtG pLg eLg K) := by
  have G_outwards : FnOk P w K mg base CX0 1 f1 fd1 ["value"] (spOutw K) := ok_outw F_outwards g_EXTRA
  refine F.ok sc_logarithm_at (fun vs H Q E ⟨_, _, _, iv, _⟩ => iv.len) (fun cdv A outer s H vs Q E hr h => ⟨_, (pss_cons (ps_if (pt_cmpR op_eq (pv 0) (pe_op op_oneShl pe_int (pv 1)) (nomark _)) (pss_one (ps_ret (pe_tup (pa_cons pe_int (pa_cons pe_int pa_nil))))) pss_nil)
        (pss_one (ps_ret (pe_call G_outwards (hr.mono (by decide)) (by rfl) g_outwards F_outwards.kp b_outwards .nil pass0 (pa_cons (pe_call G_logarithm_scaled (hr.mono (by decide)) (by rfl) g_logarithm_scaled F_logarithm_scaled.kp b_logarithm_scaled .nil pass0 (pa_cons (pv 0) (pa_cons (pv 1) (pa_cons (pe_op op_add (pv 1) (pe_glob (by rfl) g_EXTRA (show RelV (.int 32) _ from ⟨_, rfl⟩))) pa_nil)))) pa_nil))))), run_body h fun a B hp => ?_⟩)
  obtain ⟨n, b⟩ := a
  obtain ⟨h1, h2, h3⟩ := hp
  simp only at h1 h2 h3
  obtain ⟨m, rfl⟩ : ∃ m : Nat, n = (m : Int) := ⟨n.toNat, by omega⟩
  have h2 : m < 2 ^ 400 := by rwa [Int.natAbs_natCast] at h2
  have val : eLg (m : Int) b = if m = 2 ^ b then (0, 0) else outw (lgS iq (hv (b + 32 + 16 + cOf m b)) m (sOf m) b (b + 32) (cOf m b)) := rfl
  show SD K B H _ _ _ { nx := _, rt := fun d => d = pairD (eLg (m : Int) b) }
  rw [val]
  refine sd_env (δ1 := [nI (m : Int), nI (b : Int)]) rfl ?_
  refine q_when (b_test (d_eqI (d_var (s := nI (m : Int)) rfl) (d_one (k := b) d_ci (d_var (s := nI (b : Int)) rfl) (by omega)))) (fun hb => ?_) (fun hb => ?_)
  · have c : m = 2 ^ b := by
      have := of_decide_eq_true hb
      rw [← pow_cast] at this
      omega
    rw [if_pos c]
    exact sd_ret (d := pairD (0, 0)) (d_tup (ds_cons d_ci (ds_cons d_ci ds_nil))) rfl
  · have c : m ≠ 2 ^ b := by
      have := of_decide_eq_false hb
      rw [← pow_cast] at this
      omega
    rw [if_neg c]
    exact sd_ret (d_callF (lgS iq (hv (b + 32 + 16 + cOf m b)) m (sOf m) b (b + 32) (cOf m b)) (a_cons (d_callF (m, b, b + 32) (a_cons (d_var (s := nI (m : Int)) rfl) (a_cons (d_var (s := nI (b : Int)) rfl) (a_cons (d_isI (j := ((b + 32 : Nat) : Int)) (d_i0 (d_var (s := nI (b : Int)) rfl) d_ci) (by omega)) a_nil))) ⟨show 0 < m by omega, h2, show b ≤ 200 by omega, show b + 32 ≤ 250 by omega⟩) a_nil) trivial) rfl
theorem ok_atAt {f f0 f1 : Addr} {fd fd0 fd1 : FuncData} {t0 : Tok} (F : Fun K "arctangent_at" "arctangent_at" s_arctangent_at f fd)
    (F_arctangent_scaled : Fun K "arctangent_scaled" "arctangent_scaled" s_arctangent_scaled f0 fd0) (b_arctangent_scaled : Binds K fd0 ["n", "bits", "work"] []) (g_arctangent_scaled : mg "arctangent_scaled" = some (.ref f0)) (G_arctangent_scaled : FnOk P w K mg base CX0 4 f0 fd0 ["n", "bits", "work"] (spAtS K))
    (F_outwards : Fun K "outwards" "outwards" s_outwards f1 fd1) (b_outwards : Binds K fd1 ["value"] []) (g_outwards : mg "outwards" = some (.ref f1)) (g_EXTRA : mg "EXTRA" = some (.int 32 t0)) : FnOk P w K mg base CX0 6 f fd ["n", "bits"] (spAtG pAt eAt K) := by
  have G_outwards : FnOk P w K mg base CX0 1 f1 fd1 ["value"] (spOutw K) := ok_outw F_outwards g_EXTRA
  refine F.ok sc_arctangent_at (fun vs H Q E ⟨_, _, _, iv, _⟩ => iv.len) (fun cdv A outer s H vs Q E hr h => ⟨_, (pss_cons (ps_if (pt_cmpR op_eq (pv 0) pe_int (nomark _)) (pss_one (ps_ret (pe_tup (pa_cons pe_int (pa_cons pe_int pa_nil))))) pss_nil)
        (pss_one (ps_ret (pe_call G_outwards (hr.mono (by decide)) (by rfl) g_outwards F_outwards.kp b_outwards .nil pass0 (pa_cons (pe_call G_arctangent_scaled (hr.mono (by decide)) (by rfl) g_arctangent_scaled F_arctangent_scaled.kp b_arctangent_scaled .nil pass0 (pa_cons (pv 0) (pa_cons (pv 1) (pa_cons (pe_op op_add (pv 1) (pe_glob (by rfl) g_EXTRA (show RelV (.int 32) _ from ⟨_, rfl⟩))) pa_nil)))) pa_nil))))), run_body h fun a B hp => ?_⟩)
  obtain ⟨n, b⟩ := a
  obtain ⟨h1, h2⟩ := hp
  simp only at h1 h2
  have val : eAt n b = if n = 0 then (0, 0) else outw (atS iq (hv (b + 32 + 16)) n b (b + 32)) := rfl
  show SD K B H _ _ _ { nx := _, rt := fun d => d = pairD (eAt n b) }
  rw [val]
  refine sd_env (δ1 := [nI n, nI (b : Int)]) rfl ?_
  refine q_when (b_test (d_eqI (d_var (s := nI n) rfl) d_ci)) (fun hb => ?_) (fun hb => ?_)
  · rw [if_pos (of_decide_eq_true hb)]
    exact sd_ret (d := pairD (0, 0)) (d_tup (ds_cons d_ci (ds_cons d_ci ds_nil))) rfl
  · rw [if_neg (of_decide_eq_false hb)]
    exact sd_ret (d_callF (atS iq (hv (b + 32 + 16)) n b (b + 32)) (a_cons (d_callF (n, b, b + 32) (a_cons (d_var (s := nI n) rfl) (a_cons (d_var (s := nI (b : Int)) rfl) (a_cons (d_isI (j := ((b + 32 : Nat) : Int)) (d_i0 (d_var (s := nI (b : Int)) rfl) d_ci) (by omega)) a_nil))) ⟨h1, show b ≤ 1000 by omega, show b + 32 ≤ 400 by omega⟩) a_nil) trivial) rfl
theorem ok_asAt {f f0 f1 : Addr} {fd fd0 fd1 : FuncData} {t0 : Tok} (F : Fun K "arcsine_at" "arcsine_at" s_arcsine_at f fd)
    (F_arcsine_scaled : Fun K "arcsine_scaled" "arcsine_scaled" s_arcsine_scaled f0 fd0) (b_arcsine_scaled : Binds K fd0 ["n", "bits", "work"] []) (g_arcsine_scaled : mg "arcsine_scaled" = some (.ref f0)) (G_arcsine_scaled : FnOk P w K mg base CX0 4 f0 fd0 ["n", "bits", "work"] (spAsS K))
    (F_outwards : Fun K "outwards" "outwards" s_outwards f1 fd1) (b_outwards : Binds K fd1 ["value"] []) (g_outwards : mg "outwards" = some (.ref f1)) (g_EXTRA : mg "EXTRA" = some (.int 32 t0)) : FnOk P w K mg base CX0 6 f fd ["n", "bits"] (spAtG pAs eAs K) := by
  have G_outwards : FnOk P w K mg base CX0 1 f1 fd1 ["value"] (spOutw K) := ok_outw F_outwards g_EXTRA
  refine F.ok sc_arcsine_at (fun vs H Q E ⟨_, _, _, iv, _⟩ => iv.len) (fun cdv A outer s H vs Q E hr h => ⟨_, (pss_cons (ps_if (pt_cmpR op_eq (pv 0) pe_int (nomark _)) (pss_one (ps_ret (pe_tup (pa_cons pe_int (pa_cons pe_int pa_nil))))) pss_nil)
        (pss_one (ps_ret (pe_call G_outwards (hr.mono (by decide)) (by rfl) g_outwards F_outwards.kp b_outwards .nil pass0 (pa_cons (pe_call G_arcsine_scaled (hr.mono (by decide)) (by rfl) g_arcsine_scaled F_arcsine_scaled.kp b_arcsine_scaled .nil pass0 (pa_cons (pv 0) (pa_cons (pv 1) (pa_cons (pe_op op_add (pv 1) (pe_glob (by rfl) g_EXTRA (show RelV (.int 32) _ from ⟨_, rfl⟩))) pa_nil)))) pa_nil))))), run_body h fun a B hp => ?_⟩)
  obtain ⟨n, b⟩ := a
  obtain ⟨h1, h2⟩ := hp
  simp only at h1 h2
  have val : eAs n b = if n = 0 then (0, 0) else outw (asS iq (hv (b + 32 + 32)) n b (b + 32)) := rfl
  show SD K B H _ _ _ { nx := _, rt := fun d => d = pairD (eAs n b) }
  rw [val]
  refine sd_env (δ1 := [nI n, nI (b : Int)]) rfl ?_
  refine q_when (b_test (d_eqI (d_var (s := nI n) rfl) d_ci)) (fun hb => ?_) (fun hb => ?_)
  · rw [if_pos (of_decide_eq_true hb)]
    exact sd_ret (d := pairD (0, 0)) (d_tup (ds_cons d_ci (ds_cons d_ci ds_nil))) rfl
  · rw [if_neg (of_decide_eq_false hb)]
    exact sd_ret (d_callF (asS iq (hv (b + 32 + 32)) n b (b + 32)) (a_cons (d_callF (n, b, b + 32) (a_cons (d_var (s := nI n) rfl) (a_cons (d_var (s := nI (b : Int)) rfl) (a_cons (d_isI (j := ((b + 32 : Nat) : Int)) (d_i0 (d_var (s := nI (b : Int)) rfl) d_ci) (by omega)) a_nil))) ⟨h1, show b ≤ b + 32 by omega, show b + 32 ≤ 300 by omega⟩) a_nil) trivial) rfl
theorem ok_acAt {f f0 f1 : Addr} {fd fd0 fd1 : FuncData} {t0 : Tok} (F : Fun K "arccosine_at" "arccosine_at" s_arccosine_at f fd)
    (F_arccosine_scaled : Fun K "arccosine_scaled" "arccosine_scaled" s_arccosine_scaled f0 fd0) (b_arccosine_scaled : Binds K fd0 ["n", "bits", "work"] []) (g_arccosine_scaled : mg "arccosine_scaled" = some (.ref f0)) (G_arccosine_scaled : FnOk P w K mg base CX0 5 f0 fd0 ["n", "bits", "work"] (spAcS K))
    (F_outwards : Fun K "outwards" "outwards" s_outwards f1 fd1) (b_outwards : Binds K fd1 ["value"] []) (g_outwards : mg "outwards" = some (.ref f1)) (g_EXTRA : mg "EXTRA" = some (.int 32 t0)) : FnOk P w K mg base CX0 6 f fd ["n", "bits"] (spAtG pAs eAc K) := by
  have G_outwards : FnOk P w K mg base CX0 1 f1 fd1 ["value"] (spOutw K) := ok_outw F_outwards g_EXTRA
  refine F.ok sc_arccosine_at (fun vs H Q E ⟨_, _, _, iv, _⟩ => iv.len) (fun cdv A outer s H vs Q E hr h => ⟨_, (pss_cons (ps_if (pt_cmpR op_eq (pv 0) (pe_op op_oneShl pe_int (pv 1)) (nomark _)) (pss_one (ps_ret (pe_tup (pa_cons pe_int (pa_cons pe_int pa_nil))))) pss_nil)
        (pss_one (ps_ret (pe_call G_outwards (hr.mono (by decide)) (by rfl) g_outwards F_outwards.kp b_outwards .nil pass0 (pa_cons (pe_call G_arccosine_scaled (hr.mono (by decide)) (by rfl) g_arccosine_scaled F_arccosine_scaled.kp b_arccosine_scaled .nil pass0 (pa_cons (pv 0) (pa_cons (pv 1) (pa_cons (pe_op op_add (pv 1) (pe_glob (by rfl) g_EXTRA (show RelV (.int 32) _ from ⟨_, rfl⟩))) pa_nil)))) pa_nil))))), run_body h fun a B hp => ?_⟩)
  obtain ⟨n, b⟩ := a
  obtain ⟨h1, h2⟩ := hp
  simp only at h1 h2
  have val : eAc n b = if n = 2 ^ b then (0, 0) else outw (acS iq (hv (b + 32 + 48)) n b (b + 32)) := rfl
  show SD K B H _ _ _ { nx := _, rt := fun d => d = pairD (eAc n b) }
  rw [val]
  refine sd_env (δ1 := [nI n, nI (b : Int)]) rfl ?_
  refine q_when (b_test (d_eqI (d_var (s := nI n) rfl) (d_one (k := b) d_ci (d_var (s := nI (b : Int)) rfl) (by omega)))) (fun hb => ?_) (fun hb => ?_)
  · rw [if_pos (of_decide_eq_true hb)]
    exact sd_ret (d := pairD (0, 0)) (d_tup (ds_cons d_ci (ds_cons d_ci ds_nil))) rfl
  · rw [if_neg (of_decide_eq_false hb)]
    exact sd_ret (d_callF (acS iq (hv (b + 32 + 48)) n b (b + 32)) (a_cons (d_callF (n, b, b + 32) (a_cons (d_var (s := nI n) rfl) (a_cons (d_var (s := nI (b : Int)) rfl) (a_cons (d_isI (j := ((b + 32 : Nat) : Int)) (d_i0 (d_var (s := nI (b : Int)) rfl) d_ci) (by omega)) a_nil))) ⟨h1, show b ≤ b + 32 by omega, show b + 32 ≤ 280 by omega⟩) a_nil) trivial) rfl
theorem d_callGF {B0 H0 : Hp} {δ : List Sl} {A : Type} {enc : A → List Sl} {pre : A → Prop} {g : A → PyData} {f : Addr} {i : Nat} {E : XK} {t : TA} (a : A) (hi : δ[i]? = some (.raw (.ref f))) (h : EvA K B0 H0 t δ (enc a)) (hp : pre a) :
    EvS K B0 H0 (Lg.tCallG f i (SpF K enc pre g) E t) δ (.dat (g a)) := fun B H σ S Q q => Lg.d_callG a hi h hp B H σ S Q fun v d B2 H2 p st dv => by
  have p : d = g a := p
  subst p
  exact q v B2 H2 st dv
def risP (e : Fn2) (a0 a1 : Int) (b : Nat) : Int × Int := ((e a0 b).1, (e a1 b).2)
abbrev spRis (fx : Addr) (pre : Pr) (e : Fn2) (K : PySem.W.Frag) : Sp := SpF K (fun a : Int × Int × Nat => [.raw (.ref fx), .dat (pairD (a.1, a.2.1)), nI (a.2.2 : Int)]) (fun a => pre a.1 a.2.2 ∧ pre a.2.1 a.2.2) fun a => pairD (risP e a.1 a.2.1 a.2.2)
theorem ok_rising {f fx : Addr} {fd fdx : FuncData} {pre : Pr} {e : Fn2} {nm : Str} {st : Stmt} (F : Fun K "rising" "rising" s_rising f fd)
    (F_exponential_at : Fun K nm nm st fx fdx) (b_exponential_at : Binds K fdx ["n", "bits"] []) (G_exponential_at : FnOk P w K mg base CX0 6 fx fdx ["n", "bits"] (spAtG pre e K)) : FnOk P w K mg base CX0 7 f fd ["enclosed_at", "a", "bits"] (spRis fx pre e K) := by
  refine F.ok sc_rising (fun vs H Q E ⟨_, _, _, iv, _⟩ => iv.len) (fun cdv A outer s H vs Q E hr h => ⟨_, (pss_cons (ps_set (i := 3) sc_rising.nd rfl (.inl rfl) (Lg.pe_callG (i := 0) G_exponential_at (hr.mono (by decide)) F_exponential_at.kp b_exponential_at pass0 rfl (.inl rfl) (pa_cons (pe_ix ix_tup (pv 1) pe_int (fun _ _ => rfl)) (pa_cons (pv 2) pa_nil))))
        (pss_cons (ps_if (pt_cmpR op_eq (pe_ix ix_tup (pv 1) pe_int (fun _ _ => rfl)) (pe_ix ix_tup (pv 1) pe_int (fun _ _ => rfl)) (nomark _)) (pss_one (ps_ret (pv 3))) pss_nil)
        (pss_one (ps_ret (pe_tup (pa_cons (pe_ix ix_tup (pv 3) pe_int (fun _ _ => rfl)) (pa_cons (pe_ix ix_tup (Lg.pe_callG (i := 0) G_exponential_at (hr.mono (by decide)) F_exponential_at.kp b_exponential_at pass0 rfl (.inl rfl) (pa_cons (pe_ix ix_tup (pv 1) pe_int (fun _ _ => rfl)) (pa_cons (pv 2) pa_nil))) pe_int (fun _ _ => rfl)) pa_nil))))))), run_body h fun a B hp => ?_⟩)
  obtain ⟨a0, a1, b⟩ := a
  obtain ⟨h0, h1⟩ := hp
  simp only at h0 h1
  refine sd_env (δ1 := [.raw (.ref fx), .dat (pairD (a0, a1)), nI (b : Int), .no]) rfl ?_
  show SD K B H _ _ _ { nx := _, rt := fun d => d = pairD (risP e a0 a1 b) }
  refine q_asg [_, _, _, .dat (pairD (e a0 b))] (d_callGF (a0, b) rfl (a_cons (d_ixT (d := .int a0) (d_var (s := .dat (pairD (a0, a1))) rfl) d_ci rfl) (a_cons (d_var (s := nI (b : Int)) rfl) a_nil)) h0) ?_
  refine q_when (b_test (d_eqI (d_ixT (d := .int a0) (d_var (s := .dat (pairD (a0, a1))) rfl) d_ci rfl) (d_ixT (d := .int a1) (d_var (s := .dat (pairD (a0, a1))) rfl) d_ci rfl))) (fun hb => ?_) (fun hb => ?_)
  · have e1 : a0 = a1 := of_decide_eq_true hb
    subst e1
    exact sd_ret (d_var (s := .dat (pairD (e a0 b))) rfl) rfl
  · exact sd_ret (d := pairD (risP e a0 a1 b)) (d_tup (ds_cons (d_ixT (d := .int (e a0 b).1) (d_var (s := .dat (pairD (e a0 b))) rfl) d_ci rfl) (ds_cons (d_ixT (d := .int (e a1 b).2) (d_callGF (a1, b) rfl (a_cons (d_ixT (d := .int a1) (d_var (s := .dat (pairD (a0, a1))) rfl) d_ci rfl) (a_cons (d_var (s := nI (b : Int)) rfl) a_nil)) h1) d_ci rfl) ds_nil))) rfl
/-! ### errors -/
/-- what the top says of an error class CU below CP -/
structure Errs (K : PySem.W.Frag) (mg : Str → Option Value) (nU : Str) (CU CP : Addr) : Prop where
  gU : mg nU = some (.ref CU)
  gP : mg "PortolanError" = some (.ref CP)
  xU : PySem.W.excIn K CU [.type "ValueError", .type "Exception", .type "BaseException", .type "object"] "ValueError.__new__" = true
  kU : PySem.W.keepIn K (.ref CU) = true
  bU : PySem.W.subIn K (.ref CU) (.type "BaseException") = some true
  tU : PySem.W.typeIn K (.ref CU) = some (.type "type")
  bP : PySem.W.subIn K (.ref CP) (.type "BaseException") = some true
  tP : PySem.W.typeIn K (.ref CP) = some (.type "type")
  iP : PySem.W.isClsIn K CP = true
  sUP : PySem.W.subIn K (.ref CU) (.ref CP) = some true
  ec : ExcC K CU
theorem Errs.caught {nU : Str} {CU CP : Addr} (T : Errs K mg nU CU CP) : PySem.W.exmOne K (.ref CU) (.ref CP) = some true := by
  have e1 : (PySem.W.subIn K (.ref CP) (.type "BaseException") == some true) = true := by rw [T.bP] <;> rfl
  have e2 : ((PySem.W.clsIn K CP).isSome && PySem.W.typeIn K (.ref CP) == some (.type "type")) = true := by
    have h2' : (PySem.W.clsIn K CP).isSome = true := T.iP
    rw [h2', T.tP] <;> rfl
  show (if (PySem.W.subIn K (.ref CP) (.type "BaseException") == some true) = true then (if ((PySem.W.clsIn K CP).isSome && PySem.W.typeIn K (.ref CP) == some (.type "type")) = true then PySem.W.subIn K (.ref CU) (.ref CP) else none) else none) = some true
  rw [if_pos e1, if_pos e2]
  exact T.sUP
/-- a statement whose reading says one thing more -/
theorem pss_if {X : Cx} {φ : Prop} {ss : List Stmt} {t : TS} (h : φ → PSs X ss t) : PSs X ss (fun D σ H => φ ∧ t D σ H) := ⟨fun pins s σ H D I q => (h q.1).run pins s σ H D I q.2⟩
theorem kit_self {CU : Addr} : PySem.W.kitOne K (.ref CU) (.ref CU) = some true := by
  unfold PySem.W.kitOne
  rw [if_pos (beq_self_eq_true _)]
theorem d_isE {B0 H0 : Hp} {δ : List Sl} {CU a : Addr} {i : Nat} (h : δ[i]? = some (Sl.raw (.ref a))) : EvS K B0 H0 (tCB (rIsE K CU a) (tCons (tVar i) (tCons (tC (.ref CU)) tNil))) δ (nB true) := fun B H σ S Q q => by
  obtain ⟨v, h1, h2⟩ := S.val i _ h rfl
  cases h2
  exact ⟨_, h1, .ref CU, .ref CU, true, rfl, fun u hu => hu, kit_self, q _ B H (.refl S.st.bh) (Dt.bl _)⟩
/-- a suite of an except clause: for the class D of what was caught -/
theorem pss_ex {X : Cx} {A : Type} {φ : A → Prop} {ss : List Stmt} {t : A → TS} (h : ∀ x, φ x → PSs X ss (t x)) : PSs X ss (fun D σ H => ∃ x, φ x ∧ t x D σ H) := ⟨fun pins s σ H D I ⟨x, hx, q⟩ => (h x hx).run pins s σ H D I q⟩
theorem sd_ex {B0 H0 : Hp} {W : WX} {δ : List Sl} {E : DE} {A : Type} {φ : A → Prop} {t : A → TS} (x : A) (hx : φ x) (h : SD K B0 H0 W (t x) δ E) : SD K B0 H0 W (fun D σ H => ∃ x, φ x ∧ t x D σ H) δ E := fun D B H σ S L => ⟨x, hx, h D B H σ S L⟩
theorem d_isED {B0 H0 : Hp} {δ : List Sl} {CU a C : Addr} {i : Nat} {b : Bool} (h : δ[i]? = some (Sl.raw (.ref a))) (hk : PySem.W.kitOne K (.ref CU) (.ref C) = some b) : EvS K B0 H0 (tCB (rIsE K CU a) (tCons (tVar i) (tCons (tC (.ref C)) tNil))) δ (nB b) := fun B H σ S Q q => by
  obtain ⟨v, h1, h2⟩ := S.val i _ h rfl
  cases h2
  exact ⟨_, h1, .ref C, .ref C, b, rfl, fun u hu => hu, hk, q _ B H (.refl S.st.bh) (Dt.bl _)⟩
theorem sd_dropX {B0 H0 : Hp} {W : WX} {δ : List Sl} {E : DE} {te : TE} {P' : PyData → Prop} {ex : Addr → Prop} (h : EvX K B0 H0 W te δ P' ex) (hx : ∀ C, ex C → E.ex C δ) (k : ∀ d, P' d → E.nx δ) : SD K B0 H0 W (tDrop te) δ E := fun D B H σ S L =>
  h B H σ S (fun C B' H' st hC => L.ex C B' H' σ δ st.b (S.go st) (hx C hC)) _ fun v d B1 H1 p s1 i1 => L.nx B1 H1 σ δ s1.b (S.go s1) (k d p)
/-! ### the four functions, by data -/
abbrev encR : Int × Int × Nat → List Sl := fun a => [.dat (pairD (a.1, a.2.1)), nI (a.2.2 : Int)]
abbrev spLog (K : PySem.W.Frag) (CI : Addr) : Sp := SpX K encR (fun a => a.1 ≤ a.2.1 ∧ (0 < a.1 → pLg a.1 a.2.2 ∧ pLg a.2.1 a.2.2)) (fun a => if a.1 ≤ 0 then some CI else none) fun a d => d = pairD (risP eLg a.1 a.2.1 a.2.2)
theorem ok_log {f f1 fx CI CP : Addr} {fd fd1 : FuncData} (F : Fun K "logarithm" "logarithm" s_logarithm f fd) (T : Errs K mg "Undefined" CI CP)
    (F_rising : Fun K "rising" "rising" s_rising f1 fd1) (b_rising : Binds K fd1 ["enclosed_at", "a", "bits"] []) (g_rising : mg "rising" = some (.ref f1)) (G_rising : FnOk P w K mg base CX0 7 f1 fd1 ["enclosed_at", "a", "bits"] (spRis fx pLg eLg K))
    (g_logarithm_at : mg "logarithm_at" = some (.ref fx)) : FnOk P w K mg base (L2.CX P w) 8 f fd ["a", "bits"] (spLog K CI) := by
  obtain ⟨g_Undefined, _, x_Undefined, k_Undefined, b_Undefined, t_Undefined, _, _, _, _, _⟩ := id T
  refine F.okX sc_logarithm (fun vs H Q E ⟨_, _, _, iv, _⟩ => iv.len) (fun cdv A outer s H vs Q E hr h => ⟨_, (pss_cons (ps_if (pt_cmpR op_le (pe_ix ix_tup (pv 0) pe_int (fun _ _ => rfl)) pe_int (nomark _)) (pss_one (ps_raise rfl (takes_of rfl rfl rfl rfl) (pmk_own PySem.F.excBase_ValueError x_Undefined g_Undefined k_Undefined (raises_own b_Undefined t_Undefined) (by rfl)))) pss_nil)
        (pss_one (ps_ret (pe_call G_rising (hr.mono (by decide)) (by rfl) g_rising F_rising.kp b_rising .nil pass0 (pa_cons (pe_glob (by rfl) g_logarithm_at (show RelV (.ref _) _ from rfl)) (pa_cons (pv 0) (pa_cons (pv 1) pa_nil))))))), run_bodyX h fun a B hp => ?_⟩)
  obtain ⟨a0, a1, b⟩ := a
  obtain ⟨h1, h2⟩ := hp
  simp only at h1 h2
  refine sd_env (δ1 := [.dat (pairD (a0, a1)), nI (b : Int)]) rfl ?_
  refine q_when (b_test (d_b0 (d_ixT (d := .int a0) (d_var rfl) d_ci rfl) d_ci)) (fun hb => ?_) (fun hb => ?_)
  · have c : a0 ≤ 0 := of_decide_eq_true hb
    refine sd_raise (C := CI) ?_
    show (if a0 ≤ 0 then some CI else none) = some CI
    rw [if_pos c]
  · have c : ¬ a0 ≤ 0 := of_decide_eq_false hb
    refine sd_ret (d_callF (a0, a1, b) (a_cons d_cr (a_cons (d_var rfl) (a_cons (d_var rfl) a_nil))) (h2 (by omega))) ?_
    show (if a0 ≤ 0 then some CI else none) = none ∧ _
    rw [if_neg c]
    exact ⟨rfl, rfl⟩
abbrev spAtn (K : PySem.W.Frag) : Sp := SpF K encR (fun a => pAt a.1 a.2.2 ∧ pAt a.2.1 a.2.2) fun a => pairD (risP eAt a.1 a.2.1 a.2.2)
theorem ok_atn {f f1 fx : Addr} {fd fd1 : FuncData} (F : Fun K "arctangent" "arctangent" s_arctangent f fd)
    (F_rising : Fun K "rising" "rising" s_rising f1 fd1) (b_rising : Binds K fd1 ["enclosed_at", "a", "bits"] []) (g_rising : mg "rising" = some (.ref f1)) (G_rising : FnOk P w K mg base CX0 7 f1 fd1 ["enclosed_at", "a", "bits"] (spRis fx pAt eAt K))
    (g_arctangent_at : mg "arctangent_at" = some (.ref fx)) : FnOk P w K mg base CX0 8 f fd ["a", "bits"] (spAtn K) := by
  refine F.ok sc_arctangent (fun vs H Q E ⟨_, _, _, iv, _⟩ => iv.len) (fun cdv A outer s H vs Q E hr h => ⟨_, (pss_one (ps_ret (pe_call G_rising (hr.mono (by decide)) (by rfl) g_rising F_rising.kp b_rising .nil pass0 (pa_cons (pe_glob (by rfl) g_arctangent_at (show RelV (.ref _) _ from rfl)) (pa_cons (pv 0) (pa_cons (pv 1) pa_nil)))))), run_body h fun a B hp => ?_⟩)
  obtain ⟨a0, a1, b⟩ := a
  refine sd_env (δ1 := [.dat (pairD (a0, a1)), nI (b : Int)]) rfl ?_
  exact sd_ret (d_callF (a0, a1, b) (a_cons d_cr (a_cons (d_var rfl) (a_cons (d_var rfl) a_nil))) hp) rfl
def Out (a0 a1 : Int) (b : Nat) : Prop := a0 < -(2 ^ b) ∨ 2 ^ b < a1
instance (a0 a1 : Int) (b : Nat) : Decidable (Out a0 a1 b) := by unfold Out; infer_instance
theorem not_out {a0 a1 : Int} {b : Nat} (h : ¬ Out a0 a1 b) (hle : a0 ≤ a1) : a0.natAbs ≤ 2 ^ b ∧ a1.natAbs ≤ 2 ^ b := by
  unfold Out at h
  have := pow_cast b
  omega
abbrev spDem (K : PySem.W.Frag) (CI : Addr) : Sp := SpX K encR (fun a => a.2.2 ≤ 160) (fun a => if Out a.1 a.2.1 a.2.2 then some CI else none) fun _ d => d = .none
theorem ok_dem {f CI CP : Addr} {fd : FuncData} (F : Fun K "demand_sines" "demand_sines" s_demand_sines f fd) (T : Errs K mg "Undefined" CI CP) : FnOk P w K mg base (L2.CX P w) 1 f fd ["a", "bits"] (spDem K CI) := by
  obtain ⟨g_Undefined, _, x_Undefined, k_Undefined, b_Undefined, t_Undefined, _, _, _, _, _⟩ := id T
  refine F.okX sc_demand_sines (fun vs H Q E ⟨_, _, _, iv, _⟩ => iv.len) (fun cdv A outer s H vs Q E hr h => ⟨_, (pss_cons (ps_set (i := 2) sc_demand_sines.nd rfl (.inl rfl) (pe_op op_oneShl pe_int (pv 1)))
        (pss_one (ps_if (PW.pt (pw_or (pt_cmpR op_lt (pe_ix ix_tup (pv 0) pe_int (fun _ _ => rfl)) (pe_un un_neg (pv 2)) (nomark _)) (pw_or1 (pt_cmpR op_gt (pe_ix ix_tup (pv 0) pe_int (fun _ _ => rfl)) (pv 2) (nomark _))))) (pss_one (ps_raise rfl (takes_of rfl rfl rfl rfl) (pmk_own PySem.F.excBase_ValueError x_Undefined g_Undefined k_Undefined (raises_own b_Undefined t_Undefined) (by rfl)))) pss_nil))), run_bodyX h fun a B hp => ?_⟩)
  obtain ⟨a0, a1, b⟩ := a
  have hp : b ≤ 160 := hp
  refine sd_env (δ1 := [.dat (pairD (a0, a1)), nI (b : Int), .no]) rfl ?_
  refine q_asg [_, _, nI (2 ^ b)] (d_one (k := b) d_ci (d_var (s := nI (b : Int)) rfl) (by omega)) ?_
  refine sd_when (b_or (b_test (d_b0 (d_ixT (d := .int a0) (d_var rfl) d_ci rfl) (d_neg (d_var (s := nI (2 ^ b)) rfl)))) fun _ => (b_test (d_b0 (d_ixT (d := .int a1) (d_var rfl) d_ci rfl) (d_var (s := nI (2 ^ b)) rfl)))) (fun hb => ?_) (fun hb => ?_)
  · have ho : Out a0 a1 b := by
      rcases Bool.or_eq_true_iff.mp hb with z | z
      · exact .inl (of_decide_eq_true z)
      · exact .inr (of_decide_eq_true z)
    refine sd_raise (C := CI) ?_
    show (if Out a0 a1 b then some CI else none) = some CI
    rw [if_pos ho]
  · have ho : ¬ Out a0 a1 b := fun z => by
      obtain ⟨z1, z2⟩ := Bool.or_eq_false_iff.mp hb
      rcases z with z | z
      · exact of_decide_eq_false z1 z
      · exact of_decide_eq_false z2 z
    show (if Out a0 a1 b then some CI else none) = none ∧ _
    rw [if_neg ho]
    exact ⟨rfl, rfl⟩
abbrev spAsn (g : Int → Int → Nat → Int × Int) (K : PySem.W.Frag) (CI : Addr) : Sp := SpX K encR (fun a => a.1 ≤ a.2.1 ∧ a.2.2 ≤ 160) (fun a => if Out a.1 a.2.1 a.2.2 then some CI else none) fun a d => d = pairD (g a.1 a.2.1 a.2.2)
def acP (a0 a1 : Int) (b : Nat) : Int × Int := (max (risP eAc a1 a0 b).1 0, (risP eAc a1 a0 b).2)
theorem ok_asn {f f0 f1 fx CI CP : Addr} {fd fd0 fd1 : FuncData} (F : Fun K "arcsine" "arcsine" s_arcsine f fd) (T : Errs K mg "Undefined" CI CP)
    (F_demand_sines : Fun K "demand_sines" "demand_sines" s_demand_sines f0 fd0) (b_demand_sines : Binds K fd0 ["a", "bits"] []) (g_demand_sines : mg "demand_sines" = some (.ref f0))
    (F_rising : Fun K "rising" "rising" s_rising f1 fd1) (b_rising : Binds K fd1 ["enclosed_at", "a", "bits"] []) (g_rising : mg "rising" = some (.ref f1)) (G_rising : FnOk P w K mg base CX0 7 f1 fd1 ["enclosed_at", "a", "bits"] (spRis fx pAs eAs K))
    (g_arcsine_at : mg "arcsine_at" = some (.ref fx)) : FnOk P w K mg base (L2.CX P w) 8 f fd ["a", "bits"] (spAsn (risP eAs) K CI) := by
  have G_demand_sines : FnOk P w K mg base (L2.CX P w) 1 f0 fd0 ["a", "bits"] (spDem K CI) := ok_dem F_demand_sines T
  refine F.okX sc_arcsine (fun vs H Q E ⟨_, _, _, iv, _⟩ => iv.len) (fun cdv A outer s H vs Q E hr h => ⟨_, (pss_cons (ps_expr (pe_callS G_demand_sines (hr.mono (by decide)) (by rfl) g_demand_sines F_demand_sines.kp b_demand_sines (fun σ => passAt (takes_of rfl rfl rfl rfl) σ) (pa_cons (pv 0) (pa_cons (pv 1) pa_nil))))
        (pss_one (ps_ret (pe_call G_rising (hr.mono (by decide)) (by rfl) g_rising F_rising.kp b_rising .nil pass0 (pa_cons (pe_glob (by rfl) g_arcsine_at (show RelV (.ref _) _ from rfl)) (pa_cons (pv 0) (pa_cons (pv 1) pa_nil))))))), run_bodyX h fun a B hp => ?_⟩)
  obtain ⟨a0, a1, b⟩ := a
  obtain ⟨h1, h2⟩ := hp
  simp only at h1 h2
  refine sd_env (δ1 := [.dat (pairD (a0, a1)), nI (b : Int)]) rfl ?_
  refine sd_seq (sd_dropX (x_callS (a0, a1, b) (a_cons (d_var rfl) (a_cons (d_var rfl) a_nil)) h2) (fun C hC => hC) fun d hd => ?_)
  obtain ⟨hno, _⟩ := hd
  have ho : ¬ Out a0 a1 b := fun z => by
    have hno : (if Out a0 a1 b then some CI else none) = none := hno
    rw [if_pos z] at hno
    cases hno
  obtain ⟨n0, n1⟩ := not_out ho h1
  have post : (if Out a0 a1 b then some CI else none) = none ∧ pairD (risP eAs a0 a1 b) = pairD (risP eAs a0 a1 b) := by
    rw [if_neg ho]
    exact ⟨rfl, rfl⟩
  exact sd_ret (d_callF (a0, a1, b) (a_cons d_cr (a_cons (d_var rfl) (a_cons (d_var rfl) a_nil))) ⟨⟨n0, h2⟩, ⟨n1, h2⟩⟩) post
theorem ok_acn {f f0 f1 fx CI CP : Addr} {fd fd0 fd1 : FuncData} (F : Fun K "arccosine" "arccosine" s_arccosine f fd) (T : Errs K mg "Undefined" CI CP)
    (F_demand_sines : Fun K "demand_sines" "demand_sines" s_demand_sines f0 fd0) (b_demand_sines : Binds K fd0 ["a", "bits"] []) (g_demand_sines : mg "demand_sines" = some (.ref f0))
    (F_rising : Fun K "rising" "rising" s_rising f1 fd1) (b_rising : Binds K fd1 ["enclosed_at", "a", "bits"] []) (g_rising : mg "rising" = some (.ref f1)) (G_rising : FnOk P w K mg base CX0 7 f1 fd1 ["enclosed_at", "a", "bits"] (spRis fx pAs eAc K))
    (g_arccosine_at : mg "arccosine_at" = some (.ref fx)) (m_max : mg "max" = none) : FnOk P w K mg base (L2.CX P w) 8 f fd ["a", "bits"] (spAsn acP K CI) := by
  have G_demand_sines : FnOk P w K mg base (L2.CX P w) 1 f0 fd0 ["a", "bits"] (spDem K CI) := ok_dem F_demand_sines T
  refine F.okX sc_arccosine (fun vs H Q E ⟨_, _, _, iv, _⟩ => iv.len) (fun cdv A outer s H vs Q E hr h => ⟨_, (pss_cons (ps_expr (pe_callS G_demand_sines (hr.mono (by decide)) (by rfl) g_demand_sines F_demand_sines.kp b_demand_sines (fun σ => passAt (takes_of rfl rfl rfl rfl) σ) (pa_cons (pv 0) (pa_cons (pv 1) pa_nil))))
        (pss_cons (ps_asg (pe_call G_rising (hr.mono (by decide)) (by rfl) g_rising F_rising.kp b_rising .nil pass0 (pa_cons (pe_glob (by rfl) g_arccosine_at (show RelV (.ref _) _ from rfl)) (pa_cons (pe_tup (pa_cons (pe_ix ix_tup (pv 0) pe_int (fun _ _ => rfl)) (pa_cons (pe_ix ix_tup (pv 0) pe_int (fun _ _ => rfl)) pa_nil))) (pa_cons (pv 1) pa_nil)))) (pg_tup rfl (pgs_cons (pg_name (i := 2) sc_arccosine.nd rfl (.inl rfl)) (pgs_cons (pg_name (i := 3) sc_arccosine.nd rfl (.inl rfl)) pgs_nil))))
        (pss_one (ps_ret (pe_tup (pa_cons (pe_callB (call_max2 rfl) (by rfl) m_max (by decide +kernel) (pa_cons (pv 2) (pa_cons pe_int pa_nil))) (pa_cons (pv 3) pa_nil))))))), run_bodyX h fun a B hp => ?_⟩)
  obtain ⟨a0, a1, b⟩ := a
  obtain ⟨h1, h2⟩ := hp
  simp only at h1 h2
  refine sd_env (δ1 := [.dat (pairD (a0, a1)), nI (b : Int), .no, .no]) rfl ?_
  refine sd_seq (sd_dropX (x_callS (a0, a1, b) (a_cons (d_var rfl) (a_cons (d_var rfl) a_nil)) h2) (fun C hC => hC) fun d hd => ?_)
  obtain ⟨hno, _⟩ := hd
  have ho : ¬ Out a0 a1 b := fun z => by
    have hno : (if Out a0 a1 b then some CI else none) = none := hno
    rw [if_pos z] at hno
    cases hno
  obtain ⟨n0, n1⟩ := not_out ho h1
  have post : (if Out a0 a1 b then some CI else none) = none ∧ pairD (acP a0 a1 b) = pairD (acP a0 a1 b) := by
    rw [if_neg ho]
    exact ⟨rfl, rfl⟩
  refine q_unp [_, _, nI (risP eAc a1 a0 b).1, nI (risP eAc a1 a0 b).2] (d_callF (a1, a0, b) (a_cons d_cr (a_cons (d_tup (ds_cons (d_ixT (d := .int a1) (d_var rfl) d_ci rfl) (ds_cons (d_ixT (d := .int a0) (d_var rfl) d_ci rfl) ds_nil))) (a_cons (d_var rfl) a_nil))) ⟨⟨n1, h2⟩, ⟨n0, h2⟩⟩) (g_tup (g_cons g_name (g_cons g_name g_nil))) ?_
  exact sd_ret (d := pairD (acP a0 a1 b)) (d_tup (ds_cons (d_max (d_var (s := nI (risP eAc a1 a0 b).1) rfl) d_ci) (ds_cons (d_var (s := nI (risP eAc a1 a0 b).2) rfl) ds_nil))) post
abbrev spPiE (K : PySem.W.Frag) : Sp := SpF K (fun b : Nat => [nI (b : Int)]) (fun b => b ≤ 800) fun b => pairD (outw (piS (b + 32)))
theorem ok_piE {f f0 f1 f2 f3 : Addr} {fd fd0 fd1 fd2 fd3 : FuncData} {t0 t1 : Tok} (F : Fun K "pi_enclosed" "pi_enclosed" s_pi_enclosed f fd)
    (F_reciprocal_series : Fun K "reciprocal_series" "reciprocal_series" s_reciprocal_series f2 fd2) (b_reciprocal_series : Binds K fd2 ["n", "bits", "sign"] []) (g_reciprocal_series : mg "reciprocal_series" = some (.ref f2))
    (F_nearest : Fun K "nearest" "nearest" s_nearest f3 fd3) (b_nearest : Binds K fd3 ["n", "bits"] []) (g_nearest : mg "nearest" = some (.ref f3))
    (F_pi_scaled : Fun K "pi_scaled" "pi_scaled" s_pi_scaled f0 fd0) (b_pi_scaled : Binds K fd0 ["bits"] []) (g_pi_scaled : mg "pi_scaled" = some (.ref f0))
    (F_outwards : Fun K "outwards" "outwards" s_outwards f1 fd1) (b_outwards : Binds K fd1 ["value"] []) (g_outwards : mg "outwards" = some (.ref f1)) (g_GUARD : mg "GUARD" = some (.int 32 t0)) (g_EXTRA : mg "EXTRA" = some (.int 32 t1)) : FnOk P w K mg base CX0 3 f fd ["bits"] (spPiE K) := by
  have G_outwards : FnOk P w K mg base CX0 1 f1 fd1 ["value"] (spOutw K) := ok_outw F_outwards g_EXTRA
  have G_pi_scaled : FnOk P w K mg base CX0 2 f0 fd0 ["bits"] (spPiS K) := ok_piS F_pi_scaled F_reciprocal_series b_reciprocal_series g_reciprocal_series F_nearest b_nearest g_nearest g_GUARD
  refine F.ok sc_pi_enclosed (fun vs H Q E ⟨_, _, _, iv, _⟩ => iv.len) (fun cdv A outer s H vs Q E hr h => ⟨_, (pss_one (ps_ret (pe_call G_outwards (hr.mono (by decide)) (by rfl) g_outwards F_outwards.kp b_outwards .nil pass0 (pa_cons (pe_call G_pi_scaled (hr.mono (by decide)) (by rfl) g_pi_scaled F_pi_scaled.kp b_pi_scaled .nil pass0 (pa_cons (pe_op op_add (pv 0) (pe_glob (by rfl) g_EXTRA (show RelV (.int 32) _ from ⟨_, rfl⟩))) pa_nil)) pa_nil)))), run_body h fun b B hp => ?_⟩)
  have hp : b ≤ 800 := hp
  refine sd_env (δ1 := [nI (b : Int)]) rfl ?_
  exact sd_ret (d_callF (piS (b + 32)) (a_cons (d_callF (b + 32) (a_cons (d_isI (j := ((b + 32 : Nat) : Int)) (d_i0 (d_var (s := nI (b : Int)) rfl) d_ci) (by omega)) a_nil) (show b + 32 ≤ 900 by omega)) a_nil) trivial) rfl
/-! ### the law's cells, by data -/
def cellOf (ns : List Int) (k : Nat) : Int := ns.getD k 0
abbrev spCell (K : PySem.W.Frag) : Sp := SpF K (fun a : List Int × Nat => [.sem (scrP K a.1), nI (a.2 : Int)]) (fun _ => True) fun a => .int (cellOf a.1 a.2)
theorem ok_cell {f : Addr} {fd : FuncData} (F : Fun K "_law_cell" "_law_cell" s_law_cell f fd) (m_len : mg "len" = none) : FnOk P w K mg base CX0 1 f fd ["script", "k"] (spCell K) := by
  refine F.ok sc_law_cell (fun vs H Q E ⟨_, _, _, iv, _⟩ => iv.len) (fun cdv A outer s H vs Q E hr h => ⟨_, (pss_cons (ps_if (pt_cmpR op_lt (pv 1) (pe_callB call_len (by rfl) m_len (by decide +kernel) (pa_cons (pv 0) pa_nil)) (nomark _)) (pss_one (ps_ret (pe_ix ix_list (pv 0) (pv 1) (fun _ _ => rfl)))) pss_nil)
        (pss_one (ps_ret pe_int))), run_body h fun a B _ => ?_⟩)
  obtain ⟨ns, k⟩ := a
  refine sd_env (δ1 := [.sem (scrP K ns), nI (k : Int)]) rfl ?_
  refine q_when (b_test (d_b0 (d_var rfl) (d_lenSc (d_var rfl)))) (fun hb => ?_) (fun hb => ?_)
  · have hk : k < ns.length := by
      have := of_decide_eq_true hb
      omega
    refine sd_ret (d_ixS (j := ns[k]) (d_var rfl) (d_var rfl) (atI_nat (List.getElem?_eq_getElem hk))) ?_
    show PyData.int _ = .int (ns.getD k 0)
    rw [List.getD_eq_getElem?_getD, List.getElem?_eq_getElem hk]
    rfl
  · have hk : ns.length ≤ k := by
      have := of_decide_eq_false hb
      omega
    refine sd_ret d_ci ?_
    show PyData.int 0 = .int (ns.getD k 0)
    rw [List.getD_eq_getElem?_getD, List.getElem?_eq_none hk]
    rfl
theorem mulc {x : Int} {c : Int} (h : x.natAbs < 2 ^ 100) (hc : c.natAbs < 2 ^ 100) : CMulX x c := mulx_ok (a := 100) (b := 100) h hc (by decide)
/-- the same, by a bound in figures -/
theorem mulk {x : Int} {k : Nat} (c : Int) (h : x.natAbs ≤ k) (hk : k < 2 ^ 100 := by decide +kernel) (hc : c.natAbs < 2 ^ 100 := by decide +kernel) : CMulX x c := mulc (Nat.lt_of_le_of_lt h hk) hc
/-! ### ints of a bounded number of bits -/
def Big (i : Int) : Prop := Builtin.Int.intBits i ≤ 1048576
theorem big_lt {i : Int} {a : Nat} (h : i.natAbs < 2 ^ a) (ha : a ≤ 1048576 := by decide) : Big i := Nat.le_trans (PyProof.Rows.intBits_le h) ha
theorem big_k {i : Int} {k : Nat} (h : i.natAbs ≤ k) (hk : k < 2 ^ 100 := by decide +kernel) : Big i := big_lt (Nat.lt_of_le_of_lt h hk)
theorem big_abs {i : Int} (h : Big i) : Big (i.natAbs : Int) := by
  unfold Big Builtin.Int.intBits at *
  have e : (((i.natAbs : Nat) : Int) == 0) = (i == 0) := by
    by_cases z : i = 0
    · subst z
      rfl
    · rw [beq_eq_false_iff_ne.mpr z, beq_eq_false_iff_ne.mpr (by omega)]
  rw [e, Int.natAbs_natCast]
  exact h
theorem mul_big {i : Int} (c : Int) (h : Big i) (hc : c.natAbs < 2 ^ 100 := by decide +kernel) : CMulX i c := by
  have := PyProof.Rows.intBits_le hc
  unfold Big at h
  unfold CMulX
  omega
theorem big_cell {ns : List Int} (h : ∀ z ∈ ns, Builtin.Int.intBits z ≤ 1048576) (k : Nat) : Big (cellOf ns k) := by
  unfold cellOf
  rw [List.getD_eq_getElem?_getD]
  cases e : ns[k]? with
  | none => exact big_k (k := 0) (Nat.le_refl _)
  | some z => exact h z (List.mem_of_getElem? e)
/-! ### the law's own defs -/
abbrev spIntg (K : PySem.W.Frag) : Sp := SpF K (fun i : Int => [nI i]) (fun _ => True) fun _ => .bool true
theorem ok_intg {f : Addr} {fd : FuncData} (F : Fun K "_law_is_integer" "_law_is_integer" s_law_is_integer f fd) (m_isinstance : mg "isinstance" = none) (m_int : mg "int" = none) (m_bool : mg "bool" = none) : FnOk P w K mg base CX0 1 f fd ["actual"] (spIntg K) := by
  refine F.ok sc_law_is_integer (fun vs H Q E ⟨_, _, _, iv, _⟩ => iv.len) (fun cdv A outer s H vs Q E hr h => ⟨_, (pss_one (ps_ret (pe_and (pe_callB call_isi (by rfl) m_isinstance (by decide +kernel) (pa_cons (pv 0) (pa_cons (pe_bltn (by rfl) m_int (by decide +kernel) (show RelV (.ty "int") _ from rfl)) pa_nil))) (pe_one (pe_not (pe_callB call_isi (by rfl) m_isinstance (by decide +kernel) (pa_cons (pv 0) (pa_cons (pe_bltn (by rfl) m_bool (by decide +kernel) (show RelV (.ty "bool") _ from rfl)) pa_nil)))))))), run_body h fun i B _ => ?_⟩)
  refine sd_env (δ1 := [nI i]) rfl ?_
  exact sd_ret (d_andV (d_isi (b := true) (d_var (s := nI i) rfl) rfl rfl) fun _ => d_notV (d_isi (b := false) (d_var (s := nI i) rfl) rfl rfl)) rfl
def spr (figure : Int) (most : Int) : Int := (2 * (figure.natAbs : Int) + 1) * 11400714819323198485 * 14029467366897019727 * 16095879293928391614 / 1021 % most
theorem ok_spread {f : Addr} {fd : FuncData} (F : Fun K "_law_spread" "_law_spread" s_law_spread f fd) (m_abs : mg "abs" = none) (m_int : mg "int" = none) :
    FnOk P w K mg base CX0 1 f fd ["figure", "most"] (SpF K (fun a : Int × Int => [nI a.1, nI a.2]) (fun a => a.1.natAbs < 2 ^ 1048576 ∧ 0 < a.2) fun a => .int (spr a.1 a.2)) := by
  refine F.ok sc_law_spread (fun vs H Q E ⟨_, _, _, iv, _⟩ => iv.len) (fun cdv A outer s H vs Q E hr h => ⟨_, (pss_cons (ps_set (i := 2) sc_law_spread.nd rfl (.inl rfl) (pe_op op_mulX (pe_op op_mulX (pe_op op_mulX (pe_op op_add (pe_op op_mulX pe_int (pe_callB call_abs (by rfl) m_abs (by decide +kernel) (pa_cons (pe_callTy call_int1 (by rfl) m_int (by decide +kernel) (pa_cons (pv 0) pa_nil)) pa_nil))) pe_int) pe_int) pe_int) pe_int))
        (pss_one (ps_ret (pe_op op_mod (pe_op op_fdiv (pv 2) pe_int) (pv 1))))), run_body h fun a B hp => ?_⟩)
  obtain ⟨x, m⟩ := a
  obtain ⟨h1, h2⟩ := hp
  simp only at h1 h2
  have s1 : (2 * (x.natAbs : Int)).natAbs < 2 ^ (3 + 1048576) := mul_small (n := 3) (by decide) (by rw [Int.natAbs_natCast]; exact h1)
  have s2 : (2 * (x.natAbs : Int) + 1).natAbs < 2 ^ 1048580 := by
    have : (2 * (x.natAbs : Int) + 1).natAbs ≤ (2 * (x.natAbs : Int)).natAbs + 1 := by omega
    have p : (2 : Nat) ^ (3 + 1048576) < 2 ^ 1048580 := Nat.pow_lt_pow_right (by decide) (by decide)
    generalize (2 : Nat) ^ (3 + 1048576) = u at *
    generalize (2 : Nat) ^ 1048580 = v at *
    omega
  have s3 := mul_small s2 (show (11400714819323198485 : Int).natAbs < 2 ^ 64 by decide)
  have s4 := mul_small s3 (show (14029467366897019727 : Int).natAbs < 2 ^ 64 by decide)
  refine sd_env (δ1 := [nI x, nI m, .no]) rfl ?_
  refine q_asg [_, _, nI ((2 * (x.natAbs : Int) + 1) * 11400714819323198485 * 14029467366897019727 * 16095879293928391614)] (d_iC (d_iC (d_iC (d_i0 (d_iC d_ci (d_abs (d_int (d_var (s := nI x) rfl))) (mulx_ok (a := 3) (b := 1048576) (by decide) (by rw [Int.natAbs_natCast]; exact h1) (by decide))) d_ci) d_ci (mulx_ok (a := 1048580) (b := 64) s2 (by decide) (by decide))) d_ci (mulx_ok (a := 1048580 + 64) (b := 64) s3 (by decide) (by decide))) d_ci (mulx_ok (a := 1048580 + 64 + 64) (b := 64) s4 (by decide) (by decide))) ?_
  exact sd_ret (d_iC (d_iC (d_var rfl) d_ci ⟨by decide, by decide⟩) (d_var (s := nI m) rfl) h2) rfl
/-! ### the law's roots and sums -/
theorem newton {n s r : Nat} (h1 : s * s ≤ n) (h2 : n < (s + 1) * (s + 1)) (hr : 1 ≤ r) (hs : s ≤ r) : s ≤ (r + n / r) / 2 ∧ (r ≤ (r + n / r) / 2 → r = s) ∧ ((r + n / r) / 2 < r → 2 * ((r + n / r) / 2 - s) ≤ r - s) := by
  have lo : 2 * s - r ≤ n / r := by
    refine (Nat.le_div_iff_mul_le hr).mpr (Nat.le_trans ?_ h1)
    obtain ⟨d, rfl⟩ : ∃ d, r = s + d := ⟨r - s, by omega⟩
    rcases Nat.lt_or_ge s d with c | c
    · rw [show 2 * s - (s + d) = 0 by omega, Nat.zero_mul]
      exact Nat.zero_le _
    · obtain ⟨e, rfl⟩ : ∃ e, s = d + e := ⟨s - d, by omega⟩
      rw [show 2 * (d + e) - (d + e + d) = e by omega]
      grind
  have hi : s + 1 ≤ r → n / r ≤ s := fun c => by
    have : n < (s + 1) * r := Nat.lt_of_lt_of_le h2 (Nat.mul_le_mul_left _ c)
    have := (Nat.div_lt_iff_lt_mul hr).mpr this
    omega
  refine ⟨by omega, fun c => ?_, fun c => ?_⟩
  · rcases Nat.lt_or_ge s r with z | z
    · have := hi z
      omega
    · omega
  · have := hi (by omega)
    omega
abbrev spRt (K : PySem.W.Frag) : Sp := SpF K (fun n : Nat => [nI (n : Int)]) (fun n => n < 2 ^ 2000) fun n => .int ((iq n : Nat) : Int)
theorem ok_isqrt {f : Addr} {fd : FuncData} (F : Fun K "_law_isqrt" "_law_isqrt" s_law_isqrt f fd) (m_range : mg "range" = none) : FnOk P w K mg base CX0 1 f fd ["figure"] (spRt K) := by
  refine F.ok sc_law_isqrt (fun vs H Q E ⟨_, _, _, iv, _⟩ => iv.len) (fun cdv A outer s H vs Q E hr h => ⟨_, (pss_cons (ps_if (pt_cmpR op_lt (pv 0) pe_int (nomark _)) (pss_one (ps_ret (pv 0))) pss_nil)
        (pss_cons (ps_set (i := 1) sc_law_isqrt.nd rfl (.inl rfl) (pe_op op_oneShl pe_int (pe_op op_fdiv (pe_op op_add (pe_bits (pv 0)) pe_int) pe_int)))
        (pss_cons (ps_for PassesOwn.never rfl (pi_range1 (by rfl) m_range (pa_cons pe_int pa_nil)) (pg_name (i := 2) sc_law_isqrt.nd rfl (.inl rfl)) (pss_cons (ps_set (i := 3) sc_law_isqrt.nd rfl (.inl rfl) (pe_op op_fdiv (pe_op op_add (pv 1) (pe_op op_fdivA (pv 0) (pv 1))) pe_int))
        (pss_cons (ps_if (pt_cmpR op_ge (pv 3) (pv 1) (nomark _)) (pss_one (ps_ret (pv 1))) pss_nil)
        (pss_one (ps_set (i := 1) sc_law_isqrt.nd rfl (.inl rfl) (pv 3))))))
        (pss_one (ps_ret (pv 1)))))), run_body h fun n B hp => ?_⟩)
  have hp : n < 2 ^ 2000 := hp
  obtain ⟨q1, q2⟩ := iq_ok n
  show SD K B H _ _ _ { nx := _, rt := fun d => d = .int ((iq n : Nat) : Int) }
  refine sd_env (δ1 := [nI (n : Int), .no, .no, .no]) rfl ?_
  refine q_when (b_test (d_b0 (d_var (s := nI (n : Int)) rfl) d_ci)) (fun hb => ?_) (fun hb => ?_)
  · have c : n < 2 := by have := of_decide_eq_true hb; omega
    have e : n = iq n := isq_eq (by
      rcases (by omega : n = 0 ∨ n = 1) with rfl | rfl <;> decide) (by
      rcases (by omega : n = 0 ∨ n = 1) with rfl | rfl <;> decide)
    exact sd_ret (d_var (s := nI (n : Int)) rfl) (by rw [← e])
  · have c : 2 ≤ n := by have := of_decide_eq_false hb; omega
    obtain ⟨b1, b2, b3⟩ := bits_two (n := n) (by omega)
    have bl : Builtin.Int.intBits (n : Int) ≤ 2000 := bits_le (by rw [Int.natAbs_natCast]; exact hp)
    generalize hbt : Builtin.Int.intBits (n : Int) = bt at *
    have s1 : 1 ≤ iq n := by
      refine Nat.le_of_not_lt fun z => ?_
      have z : iq n = 0 := by omega
      rw [z] at q2
      omega
    generalize hs : iq n = s at *
    obtain ⟨e, he⟩ : ∃ e : Nat, e = (bt + 1) / 2 := ⟨_, rfl⟩
    have sr : s < 2 ^ e := by
      refine Nat.lt_of_not_le fun z => ?_
      have h1 := Nat.mul_le_mul z z
      rw [← Nat.pow_add] at h1
      have h2 : (2 : Nat) ^ bt ≤ 2 ^ (e + e) := Nat.pow_le_pow_right (by decide) (by omega)
      omega
    refine q_asg [_, nI ((2 ^ e : Nat) : Int), _, _] (d_isI (j := ((2 ^ e : Nat) : Int)) (d_one (k := e) d_ci (d_isI (j := (e : Int)) (d_iC (d_i0 (d_bits (d_var (s := nI (n : Int)) rfl)) d_ci) d_ci ⟨by decide, by decide⟩) (by omega)) (by omega)) (pow_cast e).symm) ?_
    refine q_for (w_rng1 (n := 4000) (ds_cons d_ci ds_nil) (by decide) (by decide)) (fun i δ => ∃ (r : Nat) (s2 s3 : Sl), s ≤ r ∧ r ≤ 2 ^ e ∧ (r - s) * 2 ^ i ≤ 2 ^ e ∧ δ = [nI (n : Int), nI (r : Int), s2, s3]) ⟨2 ^ e, _, _, by omega, Nat.le_refl _, by rw [Nat.pow_zero]; omega, rfl⟩ (fun i d δ' hd hq => ?_) (fun δ' hq => ?_)
    · obtain ⟨r, s2, s3, r1, r2, r3, rfl⟩ := hq
      obtain ⟨n1, n2, n3⟩ := newton (r := r) q1 q2 (by omega) r1
      have dl : n / r ≤ n := Nat.div_le_self _ _
      have lgr : ((r : Nat) : Int).natAbs.log2 < 9000 := lg40 (k := 2001) (nat_small (b := e) r2 (by omega)) (by decide)
      refine ⟨[2], [nI (n : Int), nI (r : Int), .dat d, s3], g_name, ?_⟩
      refine q_asg [_, _, _, nI (((r + n / r) / 2 : Nat) : Int)] (d_isI (j := (((r + n / r) / 2 : Nat) : Int)) (d_iC (d_i0 (d_var (s := nI (r : Int)) rfl) (d_fdivA (d_var (s := nI (n : Int)) rfl) (d_var (s := nI (r : Int)) rfl) (by omega) lgr)) d_ci ⟨by decide, by decide⟩) (by rw [Int.natCast_ediv, Int.natCast_add, Int.natCast_ediv]; rfl)) ?_
      generalize (r + n / r) / 2 = u at *
      refine q_when (b_test (d_b0 (d_var (s := nI (u : Int)) rfl) (d_var (s := nI (r : Int)) rfl))) (fun hb => ?_) (fun hb => ?_)
      · have c : r ≤ u := by have := of_decide_eq_true hb; omega
        exact sd_ret (d_var (s := nI (r : Int)) rfl) (by rw [n2 c])
      · have c : u < r := by have := of_decide_eq_false hb; omega
        have k := n3 c
        refine sd_asg (s := nI (u : Int)) (d_var (s := nI (u : Int)) rfl) ⟨u, _, _, n1, by omega, ?_, rfl⟩
        have := Nat.mul_le_mul_right (2 ^ i) k
        rw [Nat.pow_succ]
        have e2 : (u - s) * (2 ^ i * 2) = 2 * (u - s) * 2 ^ i := by grind
        omega
    · obtain ⟨r, s2, s3, r1, r2, r3, rfl⟩ := hq
      rw [upto_len] at r3
      have r3 : (r - s) * 2 ^ 4000 ≤ 2 ^ e := r3
      have e4 : (2 : Nat) ^ e < 2 ^ 4000 := pow_small (by omega)
      have c : r = s := by
        rcases Nat.lt_or_ge s r with z | z
        · have := Nat.mul_le_mul_right (2 ^ 4000) (show 1 ≤ r - s by omega)
          generalize (2 : Nat) ^ 4000 = A at *
          omega
        · omega
      exact sd_ret (d_var (s := nI (r : Int)) rfl) (by rw [c])
theorem sz_ediv_nat {a : Nat} {c n : Nat} (h : ((a : Nat) : Int).natAbs < 2 ^ n) : ((a / c : Nat) : Int).natAbs < 2 ^ n := by
  rw [Int.natAbs_natCast] at h ⊢
  exact Nat.lt_of_le_of_lt (Nat.div_le_self _ _) h
/-! ### the law's sums, by data -/
theorem lP_z {p q b : Nat} : ∀ j, lP p q b j = 0 → lP p q b (j + 1) = 0 := fun j z => by
  show lP p q b j * p * p / (q * q) = 0
  rw [z, Nat.zero_mul, Nat.zero_mul, Nat.zero_div]
theorem lP_le {p q b : Nat} (hq : 0 < q) (h : 2 * p ≤ q) (k : Nat) : lP p q b k ≤ 2 ^ b := by
  have := Re.R.lP_half (b := b) hq h k
  exact Nat.le_trans (Nat.le_mul_of_pos_right _ (Nat.pow_pos (by decide))) this
theorem lsum_abs {g : Int} (hg : g = 1 ∨ g = -1) {p q b : Nat} (hq : 0 < q) (h : 2 * p ≤ q) (hb : b ≤ 900) : (lsum g p q b).natAbs < 2 ^ 2000 := by
  have h1 := odS_abs hg (Pw := lP p q b) (M := 2 ^ b) (fun k => lP_le hq h k) (20 + b)
  have h2 : (20 + b) * 2 ^ b ≤ 2 ^ 10 * 2 ^ 900 := Nat.mul_le_mul (by omega) (Nat.pow_le_pow_right (by decide) hb)
  have h3 : (2 : Nat) ^ 10 * 2 ^ 900 < 2 ^ 2000 := by decide +kernel
  exact Nat.lt_of_le_of_lt (Nat.le_trans h1 h2) h3
theorem sgn_pow (k : Nat) : (1 : Int) - (k : Int) % 2 * 2 = (-1) ^ k := by
  rcases (by omega : k % 2 = 0 ∨ k % 2 = 1) with h | h
  · have e : (-1 : Int) ^ k = 1 := by rw [show k = 2 * (k / 2) by omega, Int.pow_mul, show (-1 : Int) ^ 2 = 1 by decide, Int.one_pow]
    rw [e]
    omega
  · have e : (-1 : Int) ^ k = -1 := by rw [show k = 2 * (k / 2) + 1 by omega, Int.pow_succ, Int.pow_mul, show (-1 : Int) ^ 2 = 1 by decide, Int.one_pow, Int.one_mul]
    rw [e]
    omega
abbrev preSum : Nat × Nat × Nat → Prop := fun a => 0 < a.2.1 ∧ 2 * a.1 ≤ a.2.1 ∧ a.2.1 < 2 ^ 2000 ∧ a.2.2 ≤ 900
abbrev spAtan (K : PySem.W.Frag) : Sp := SpF K (fun a : Nat × Nat × Nat => [nI (a.1 : Int), nI (a.2.1 : Int), nI (a.2.2 : Int)]) preSum fun a => .int (lsum (-1) a.1 a.2.1 a.2.2)
theorem ok_atan {f : Addr} {fd : FuncData} (F : Fun K "_law_atan_sum" "_law_atan_sum" s_law_atan_sum f fd) (m_range : mg "range" = none) (m_int : mg "int" = none) : FnOk P w K mg base CX0 1 f fd ["p", "q", "b"] (spAtan K) := by
  refine F.ok sc_law_atan_sum (fun vs H Q E ⟨_, _, _, iv, _⟩ => iv.len) (fun cdv A outer s H vs Q E hr h => ⟨_, (pss_cons (ps_set (i := 3) sc_law_atan_sum.nd rfl (.inl rfl) (pe_op op_fdivA (pe_op op_shlN (pv 0) (pv 2)) (pv 1)))
        (pss_cons (ps_set (i := 4) sc_law_atan_sum.nd rfl (.inl rfl) pe_int)
        (pss_cons (ps_for PassesOwn.never rfl (pi_range1 (by rfl) m_range (pa_cons (pe_op op_add pe_int (pv 2)) pa_nil)) (pg_name (i := 5) sc_law_atan_sum.nd rfl (.inl rfl)) (pss_cons (ps_if (pt_cmpR op_eq (pv 3) pe_int (nomark _)) (pss_one ps_break) pss_nil)
        (pss_cons (ps_set (i := 4) sc_law_atan_sum.nd rfl (.inl rfl) (pe_op op_add (pv 4) (pe_op op_mulX (pe_op op_fdivA (pv 3) (pe_op op_add (pe_op op_mulX pe_int (pv 5)) pe_int)) (pe_op op_sub pe_int (pe_op op_mulX (pe_op op_mod (pe_callTy call_int1 (by rfl) m_int (by decide +kernel) (pa_cons (pv 5) pa_nil)) pe_int) pe_int)))))
        (pss_one (ps_set (i := 3) sc_law_atan_sum.nd rfl (.inl rfl) (pe_op op_fdivA (pe_op op_mulX (pe_op op_mulX (pv 3) (pv 0)) (pv 0)) (pe_op op_mulX (pv 1) (pv 1))))))))
        (pss_one (ps_ret (pv 4)))))), run_body h fun a B hp => ?_⟩)
  obtain ⟨p, q, b⟩ := a
  obtain ⟨h1, h2, h3, h4⟩ := hp
  simp only at h1 h2 h3 h4
  have ps : ((p : Nat) : Int).natAbs < 2 ^ 2000 := nsm (by omega)
  have qs : ((q : Nat) : Int).natAbs < 2 ^ 2000 := nsm h3
  have lgN : ∀ m : Nat, m < 2 ^ 40 → ((m : Nat) : Int).natAbs.log2 < 9000 := fun m hm => lg40 (k := 40) (by omega) (by decide)
  have pl : ∀ k, ((lP p q b k : Nat) : Int).natAbs < 2 ^ 901 := fun k => nat_small (lP_le h1 h2 k) (by omega)
  have val : lsum (-1) p q b = odS (-1) (lP p q b) (20 + b) := rfl
  show SD K B H _ _ _ { nx := _, rt := fun d => d = .int (lsum (-1) p q b) }
  rw [val]
  refine sd_env (δ1 := [nI (p : Int), nI (q : Int), nI (b : Int), .no, .no, .no]) rfl ?_
  refine q_asg [_, _, _, nI ((lP p q b 0 : Nat) : Int), _, _] (d_isI (j := ((lP p q b 0 : Nat) : Int)) (d_fdivA (d_shl (k := b) (d_var (s := nI (p : Int)) rfl) (d_var (s := nI (b : Int)) rfl) (shl_ok (n := 2000) ps (by omega))) (d_var (s := nI (q : Int)) rfl) (by omega) (lg40 (k := 2000) qs (by decide))) (by
    show _ = ((p * 2 ^ b / q : Nat) : Int)
    rw [Int.natCast_ediv, Int.natCast_mul, pow_cast])) ?_
  refine q_asg [_, _, _, _, nI (odS (-1) (lP p q b) 0), _] d_ci ?_
  refine q_for (w_rng1 (n := 20 + (b : Int)) (ds_cons (d_i0 d_ci (d_var (s := nI (b : Int)) rfl)) ds_nil) (by omega) (by omega)) (fun i δ => ∃ s, δ = [nI (p : Int), nI (q : Int), nI (b : Int), nI ((lP p q b i : Nat) : Int), nI (odS (-1) (lP p q b) i), s]) ⟨_, rfl⟩ (fun i d δ' hd hq => ?_) (fun δ' hq => ?_)
  · obtain ⟨s, rfl⟩ := hq
    obtain ⟨hi, rfl⟩ := upto_get hd
    rw [Int.zero_add]
    refine ⟨[5], [_, _, _, _, _, nI (i : Int)], g_name, ?_⟩
    refine q_when (b_test (d_eqI (d_var (s := nI ((lP p q b i : Nat) : Int)) rfl) d_ci)) (fun hb => ?_) (fun hb => ?_)
    · have hz : lP p q b i = 0 := Int.ofNat.inj (of_decide_eq_true hb)
      refine sd_break ?_
      refine sd_ret (d_var (s := nI (odS (-1) (lP p q b) i)) rfl) ?_
      rw [odS_fin lP_z hz (by omega)]
    · refine q_asg [_, _, _, _, nI (odS (-1) (lP p q b) (i + 1)), _] (d_isI (j := odS (-1) (lP p q b) (i + 1)) (d_i0 (d_var (s := nI (odS (-1) (lP p q b) i)) rfl) (d_iC (d_isI (j := ((lP p q b i / (2 * i + 1) : Nat) : Int)) (d_fdivA (d_var (s := nI ((lP p q b i : Nat) : Int)) rfl) (d_isI (j := ((2 * i + 1 : Nat) : Int)) (d_i0 (d_iC d_ci (d_var (s := nI (i : Int)) rfl) (mulx_ok (a := 3) (b := 100) (by decide) (by omega) (by decide))) d_ci) (by push_cast; rfl)) (by omega) (lgN _ (by omega))) (Int.natCast_ediv _ _).symm) (d_isI (j := (-1) ^ i) (d_i0 d_ci (d_iC (d_iC (d_int (d_var (s := nI (i : Int)) rfl)) d_ci (by decide)) d_ci (mulx_ok (a := 100) (b := 100) (by omega) (by decide) (by decide)))) (sgn_pow i)) (mulx_ok (a := 901) (b := 2) (sz_ediv_nat (pl i)) (by rw [gabs (.inr rfl)]; decide) (by decide)))) (by
        rw [Int.mul_comm]
        rfl)) ?_
      refine sd_asg (s := nI ((lP p q b (i + 1) : Nat) : Int)) (d_isI (j := ((lP p q b (i + 1) : Nat) : Int)) (d_fdivA (d_iC (d_iC (d_var (s := nI ((lP p q b i : Nat) : Int)) rfl) (d_var (s := nI (p : Int)) rfl) (mulx_ok (a := 901) (b := 2000) (pl i) ps (by decide))) (d_var (s := nI (p : Int)) rfl) (mulx_ok (a := 901 + 2000) (b := 2000) (mul_small (pl i) ps) ps (by decide))) (d_isI (j := ((q * q : Nat) : Int)) (d_iC (d_var (s := nI (q : Int)) rfl) (d_var (s := nI (q : Int)) rfl) (mulx_ok (a := 2000) (b := 2000) qs qs (by decide))) (Int.natCast_mul q q).symm) (by
        have := Nat.mul_pos h1 h1
        omega) (lg40 (k := 2000 + 2000) (by rw [Int.natCast_mul]; exact mul_small qs qs) (by decide))) (by
        show _ = ((lP p q b i * p * p / (q * q) : Nat) : Int)
        rw [Int.natCast_ediv (lP p q b i * p * p), Int.natCast_mul (lP p q b i * p), Int.natCast_mul (lP p q b i)])) ⟨_, rfl⟩
  · obtain ⟨s, rfl⟩ := hq
    have e : (upto 0 (20 + (b : Int)).toNat).length = 20 + b := by rw [upto_len]; omega
    rw [e]
    exact sd_ret (d_var (s := nI (odS (-1) (lP p q b) (20 + b))) rfl) rfl
def artV (p : Int) (q b : Nat) : Int := if p < 0 then -lsum 1 p.natAbs q b else lsum 1 p.natAbs q b
abbrev spArt (K : PySem.W.Frag) : Sp := SpF K (fun a : Int × Nat × Nat => [nI a.1, nI (a.2.1 : Int), nI (a.2.2 : Int)]) (fun a => preSum (a.1.natAbs, a.2.1, a.2.2)) fun a => .int (artV a.1 a.2.1 a.2.2)
theorem ok_art {f : Addr} {fd : FuncData} (F : Fun K "_law_artanh" "_law_artanh" s_law_artanh f fd) (m_range : mg "range" = none) : FnOk P w K mg base CX0 1 f fd ["p", "q", "b"] (spArt K) := by
  refine F.ok sc_law_artanh (fun vs H Q E ⟨_, _, _, iv, _⟩ => iv.len) (fun cdv A outer s H vs Q E hr h => ⟨_, (pss_cons (ps_set (i := 3) sc_law_artanh.nd rfl (.inl rfl) pe_int)
        (Evl.pss_cut (ps_if (pt_cmpR op_lt (pv 0) pe_int (nomark _)) (pss_cons (ps_set (i := 3) sc_law_artanh.nd rfl (.inl rfl) (pe_un un_neg pe_int))
        (pss_one (ps_set (i := 0) sc_law_artanh.nd rfl (.inl rfl) (pe_un un_neg (pv 0))))) pss_nil)
        (pss_cons (ps_set (i := 4) sc_law_artanh.nd rfl (.inl rfl) (pe_op op_fdivA (pe_op op_shlN (pv 0) (pv 2)) (pv 1)))
        (pss_cons (ps_set (i := 5) sc_law_artanh.nd rfl (.inl rfl) pe_int)
        (pss_cons (ps_for PassesOwn.never rfl (pi_range1 (by rfl) m_range (pa_cons (pe_op op_add pe_int (pv 2)) pa_nil)) (pg_name (i := 6) sc_law_artanh.nd rfl (.inl rfl)) (pss_cons (ps_if (pt_cmpR op_eq (pv 4) pe_int (nomark _)) (pss_one ps_break) pss_nil)
        (pss_cons (ps_set (i := 5) sc_law_artanh.nd rfl (.inl rfl) (pe_op op_add (pv 5) (pe_op op_fdivA (pv 4) (pe_op op_add (pe_op op_mulX pe_int (pv 6)) pe_int))))
        (pss_one (ps_set (i := 4) sc_law_artanh.nd rfl (.inl rfl) (pe_op op_fdivA (pe_op op_mulX (pe_op op_mulX (pv 4) (pv 0)) (pv 0)) (pe_op op_mulX (pv 1) (pv 1))))))))
        (pss_one (ps_ret (pe_op op_mulX (pv 3) (pv 5))))))))), run_body h fun a B hp => ?_⟩)
  obtain ⟨p0, q, b⟩ := a
  obtain ⟨h1, h2, h3, h4⟩ := hp
  simp only at h1 h2 h3 h4
  show SD K B H _ _ _ { nx := _, rt := fun d => d = .int (artV p0 q b) }
  refine sd_env (δ1 := [nI p0, nI (q : Int), nI (b : Int), .no, .no, .no, .no]) rfl ?_
  refine q_asg [_, _, _, nI 1, _, _, _] d_ci ?_
  refine sd_cut (M := fun δ => δ = [nI (p0.natAbs : Int), nI (q : Int), nI (b : Int), nI (if p0 < 0 then -1 else 1), .no, .no, .no]) (sd_when (b_test (d_b0 (d_var (s := nI p0) rfl) d_ci)) (fun hb => ?_) (fun hb => ?_)) fun δ' e => ?_
  · have c : p0 < 0 := of_decide_eq_true hb
    rw [if_pos c]
    refine q_asg [_, _, _, nI (-1), _, _, _] (d_neg d_ci) ?_
    refine sd_asg (s := nI (p0.natAbs : Int)) (d_isI (j := (p0.natAbs : Int)) (d_neg (d_var (s := nI p0) rfl)) (by omega)) rfl
  · have c : ¬ p0 < 0 := of_decide_eq_false hb
    rw [if_neg c]
    have e : (p0.natAbs : Int) = p0 := by omega
    rw [e]
  subst e
  have val : artV p0 q b = (if p0 < 0 then -1 else 1) * odS 1 (lP p0.natAbs q b) (20 + b) := by
    unfold artV
    have : lsum 1 p0.natAbs q b = odS 1 (lP p0.natAbs q b) (20 + b) := rfl
    rw [this]
    split <;> omega
  rw [val]
  have sg : ((if p0 < 0 then -1 else 1 : Int)).natAbs < 2 ^ 2 := by split <;> decide
  generalize (if p0 < 0 then -1 else 1 : Int) = sgn at *
  generalize p0.natAbs = p at *
  have ps : ((p : Nat) : Int).natAbs < 2 ^ 2000 := nsm (by omega)
  have qs : ((q : Nat) : Int).natAbs < 2 ^ 2000 := nsm h3
  have lgN : ∀ m : Nat, m < 2 ^ 40 → ((m : Nat) : Int).natAbs.log2 < 9000 := fun m hm => lg40 (k := 40) (by omega) (by decide)
  have pl : ∀ k, ((lP p q b k : Nat) : Int).natAbs < 2 ^ 901 := fun k => nat_small (lP_le h1 h2 k) (by omega)
  have la : (odS 1 (lP p q b) (20 + b)).natAbs < 2 ^ 2000 := lsum_abs (g := 1) (.inl rfl) h1 h2 h4
  refine q_asg [_, _, _, _, nI ((lP p q b 0 : Nat) : Int), _, _] (d_isI (j := ((lP p q b 0 : Nat) : Int)) (d_fdivA (d_shl (k := b) (d_var (s := nI (p : Int)) rfl) (d_var (s := nI (b : Int)) rfl) (shl_ok (n := 2000) ps (by omega))) (d_var (s := nI (q : Int)) rfl) (by omega) (lg40 (k := 2000) qs (by decide))) (by
    show _ = ((p * 2 ^ b / q : Nat) : Int)
    rw [Int.natCast_ediv, Int.natCast_mul, pow_cast])) ?_
  refine q_asg [_, _, _, _, _, nI (odS 1 (lP p q b) 0), _] d_ci ?_
  refine q_for (w_rng1 (n := 20 + (b : Int)) (ds_cons (d_i0 d_ci (d_var (s := nI (b : Int)) rfl)) ds_nil) (by omega) (by omega)) (fun i δ => ∃ s, δ = [nI (p : Int), nI (q : Int), nI (b : Int), nI sgn, nI ((lP p q b i : Nat) : Int), nI (odS 1 (lP p q b) i), s]) ⟨_, rfl⟩ (fun i d δ' hd hq => ?_) (fun δ' hq => ?_)
  · obtain ⟨s, rfl⟩ := hq
    obtain ⟨hi, rfl⟩ := upto_get hd
    rw [Int.zero_add]
    refine ⟨[6], [_, _, _, _, _, _, nI (i : Int)], g_name, ?_⟩
    refine q_when (b_test (d_eqI (d_var (s := nI ((lP p q b i : Nat) : Int)) rfl) d_ci)) (fun hb => ?_) (fun hb => ?_)
    · have hz : lP p q b i = 0 := Int.ofNat.inj (of_decide_eq_true hb)
      refine sd_break ?_
      have ef := odS_fin (g := 1) (n := 20 + b) lP_z hz (by omega)
      rw [ef] at la ⊢
      exact sd_ret (d_iC (d_var (s := nI sgn) rfl) (d_var (s := nI (odS 1 (lP p q b) i)) rfl) (mulx_ok (a := 2) (b := 2000) sg la (by decide))) rfl
    · refine q_asg [_, _, _, _, _, nI (odS 1 (lP p q b) (i + 1)), _] (d_isI (j := odS 1 (lP p q b) (i + 1)) (d_i0 (d_var (s := nI (odS 1 (lP p q b) i)) rfl) (d_isI (j := ((lP p q b i / (2 * i + 1) : Nat) : Int)) (d_fdivA (d_var (s := nI ((lP p q b i : Nat) : Int)) rfl) (d_isI (j := ((2 * i + 1 : Nat) : Int)) (d_i0 (d_iC d_ci (d_var (s := nI (i : Int)) rfl) (mulx_ok (a := 3) (b := 100) (by decide) (by omega) (by decide))) d_ci) (by push_cast; rfl)) (by omega) (lgN _ (by omega))) (Int.natCast_ediv _ _).symm)) (by
        show _ = odS 1 (lP p q b) i + 1 ^ i * ((lP p q b i / (2 * i + 1) : Nat) : Int)
        rw [Int.one_pow, Int.one_mul])) ?_
      refine sd_asg (s := nI ((lP p q b (i + 1) : Nat) : Int)) (d_isI (j := ((lP p q b (i + 1) : Nat) : Int)) (d_fdivA (d_iC (d_iC (d_var (s := nI ((lP p q b i : Nat) : Int)) rfl) (d_var (s := nI (p : Int)) rfl) (mulx_ok (a := 901) (b := 2000) (pl i) ps (by decide))) (d_var (s := nI (p : Int)) rfl) (mulx_ok (a := 901 + 2000) (b := 2000) (mul_small (pl i) ps) ps (by decide))) (d_isI (j := ((q * q : Nat) : Int)) (d_iC (d_var (s := nI (q : Int)) rfl) (d_var (s := nI (q : Int)) rfl) (mulx_ok (a := 2000) (b := 2000) qs qs (by decide))) (Int.natCast_mul q q).symm) (by
        have := Nat.mul_pos h1 h1
        omega) (lg40 (k := 2000 + 2000) (by rw [Int.natCast_mul]; exact mul_small qs qs) (by decide))) (by
        show _ = ((lP p q b i * p * p / (q * q) : Nat) : Int)
        rw [Int.natCast_ediv (lP p q b i * p * p), Int.natCast_mul (lP p q b i * p), Int.natCast_mul (lP p q b i)])) ⟨_, rfl⟩
  · obtain ⟨s, rfl⟩ := hq
    have e : (upto 0 (20 + (b : Int)).toNat).length = 20 + b := by rw [upto_len]; omega
    rw [e]
    exact sd_ret (d_iC (d_var (s := nI sgn) rfl) (d_var (s := nI (odS 1 (lP p q b) (20 + b))) rfl) (mulx_ok (a := 2) (b := 2000) sg la (by decide))) rfl
abbrev spLPi (K : PySem.W.Frag) : Sp := SpF K (fun b : Nat => [nI (b : Int)]) (fun b => b ≤ 800) fun b => .int (lPi b)
theorem ok_lpi {f f0 : Addr} {fd fd0 : FuncData} (F : Fun K "_law_pi" "_law_pi" s_law_pi f fd) (F_law_atan_sum : Fun K "_law_atan_sum" "_law_atan_sum" s_law_atan_sum f0 fd0) (b_law_atan_sum : Binds K fd0 ["p", "q", "b"] []) (g_law_atan_sum : mg "_law_atan_sum" = some (.ref f0)) (m_range : mg "range" = none) (m_int : mg "int" = none) : FnOk P w K mg base CX0 2 f fd ["b"] (spLPi K) := by
  have G_law_atan_sum : FnOk P w K mg base CX0 1 f0 fd0 ["p", "q", "b"] (spAtan K) := ok_atan F_law_atan_sum m_range m_int
  refine F.ok sc_law_pi (fun vs H Q E ⟨_, _, _, iv, _⟩ => iv.len) (fun cdv A outer s H vs Q E hr h => ⟨_, (pss_one (ps_ret (pe_op op_shrN (pe_op op_sub (pe_op op_mulX pe_int (pe_call G_law_atan_sum (hr.mono (by decide)) (by rfl) g_law_atan_sum F_law_atan_sum.kp b_law_atan_sum .nil pass0 (pa_cons pe_int (pa_cons pe_int (pa_cons (pe_op op_add (pv 0) pe_int) pa_nil))))) (pe_op op_mulX pe_int (pe_call G_law_atan_sum (hr.mono (by decide)) (by rfl) g_law_atan_sum F_law_atan_sum.kp b_law_atan_sum .nil pass0 (pa_cons pe_int (pa_cons pe_int (pa_cons (pe_op op_add (pv 0) pe_int) pa_nil)))))) pe_int))), run_body h fun b B hp => ?_⟩)
  have hp : b ≤ 800 := hp
  have t5 : (lsum (-1) 1 5 (b + 32)).natAbs < 2 ^ 2000 := lsum_abs (.inr rfl) (by decide) (by decide) (by omega)
  have t239 : (lsum (-1) 1 239 (b + 32)).natAbs < 2 ^ 2000 := lsum_abs (.inr rfl) (by decide) (by decide) (by omega)
  refine sd_env (δ1 := [nI (b : Int)]) rfl ?_
  have nb : EvS K B H (tOp (rI0 fun i j => .int (i + j)) (tVar 0) (tC (.int 32))) [nI (b : Int)] (nI ((b + 32 : Nat) : Int)) := d_isI (i := (b : Int) + 32) (d_i0 (d_var (s := nI (b : Int)) rfl) d_ci) (by omega)
  have k2000 : ∀ n : Nat, n < 1000 → n < 2 ^ 2000 := fun n hn => Nat.lt_of_lt_of_le (show n < 2 ^ 10 by omega) (Nat.pow_le_pow_right (by decide) (by decide))
  exact sd_ret (d_shr (k := 32) (d_i0 (d_iC d_ci (d_callF (1, 5, b + 32) (a_cons d_ci (a_cons d_ci (a_cons nb a_nil))) ⟨show 0 < 5 by decide, show 2 * 1 ≤ 5 by decide, k2000 5 (by decide), show b + 32 ≤ 900 by omega⟩) (mulx_ok (a := 5) (b := 2000) (by decide) t5 (by decide))) (d_iC d_ci (d_callF (1, 239, b + 32) (a_cons d_ci (a_cons d_ci (a_cons nb a_nil))) ⟨show 0 < 239 by decide, show 2 * 1 ≤ 239 by decide, k2000 239 (by decide), show b + 32 ≤ 900 by omega⟩) (mulx_ok (a := 3) (b := 2000) (by decide) t239 (by decide)))) d_ci) rfl
abbrev spLLog (K : PySem.W.Frag) : Sp := SpF K (fun a : Nat × Nat => [nI (a.1 : Int), nI (a.2 : Int)]) (fun a => 0 < a.1 ∧ a.1 < 2 ^ 600 ∧ a.2 ≤ 800) fun a => .int (llog a.1 (Builtin.Int.intBits (a.1 : Int)) a.2)
theorem ok_llog {f f0 : Addr} {fd fd0 : FuncData} (F : Fun K "_law_log" "_law_log" s_law_log f fd) (F_law_artanh : Fun K "_law_artanh" "_law_artanh" s_law_artanh f0 fd0) (b_law_artanh : Binds K fd0 ["p", "q", "b"] []) (g_law_artanh : mg "_law_artanh" = some (.ref f0)) (m_range : mg "range" = none) : FnOk P w K mg base CX0 2 f fd ["x", "b"] (spLLog K) := by
  have G_law_artanh : FnOk P w K mg base CX0 1 f0 fd0 ["p", "q", "b"] (spArt K) := ok_art F_law_artanh m_range
  refine F.ok sc_law_log (fun vs H Q E ⟨_, _, _, iv, _⟩ => iv.len) (fun cdv A outer s H vs Q E hr h => ⟨_, (pss_cons (ps_set (i := 2) sc_law_log.nd rfl (.inl rfl) (pe_op op_sub (pe_bits (pv 0)) (pv 1)))
        (pss_cons (ps_set (i := 3) sc_law_log.nd rfl (.inl rfl) (pe_op op_add (pv 1) pe_int))
        (pss_cons (ps_set (i := 4) sc_law_log.nd rfl (.inl rfl) (pe_op op_oneShl pe_int (pe_bits (pv 0))))
        (pss_cons (ps_set (i := 5) sc_law_log.nd rfl (.inl rfl) (pe_op op_add (pe_op op_mulX (pe_op op_mulX pe_int (pv 2)) (pe_call G_law_artanh (hr.mono (by decide)) (by rfl) g_law_artanh F_law_artanh.kp b_law_artanh .nil pass0 (pa_cons pe_int (pa_cons pe_int (pa_cons (pv 3) pa_nil))))) (pe_op op_mulX pe_int (pe_call G_law_artanh (hr.mono (by decide)) (by rfl) g_law_artanh F_law_artanh.kp b_law_artanh .nil pass0 (pa_cons (pe_op op_sub (pv 0) (pv 4)) (pa_cons (pe_op op_add (pv 0) (pv 4)) (pa_cons (pv 3) pa_nil)))))))
        (pss_one (ps_ret (pe_op op_shrN (pv 5) pe_int))))))), run_body h fun a B hp => ?_⟩)
  obtain ⟨x, b⟩ := a
  obtain ⟨h1, h2, h3⟩ := hp
  simp only at h1 h2 h3
  obtain ⟨b1, b2, b3⟩ := bits_two h1
  have bl : Builtin.Int.intBits (x : Int) ≤ 600 := bits_le (by rw [Int.natAbs_natCast]; exact h2)
  show SD K B H _ _ _ { nx := _, rt := fun d => d = .int (llog x (Builtin.Int.intBits (x : Int)) b) }
  generalize hbt : Builtin.Int.intBits (x : Int) = n at *
  have hx2 : 2 ^ n ≤ 2 * x := by
    have e : 2 ^ n = 2 ^ (n - 1) * 2 := by rw [← Nat.pow_succ]; congr 1; omega
    omega
  have q2000 : x + 2 ^ n < 2 ^ 2000 := by
    have h5 : (2 : Nat) ^ n ≤ 2 ^ 600 := Nat.pow_le_pow_right (by decide) bl
    have h6 : (2 : Nat) ^ 600 + 2 ^ 600 < 2 ^ 2000 := by decide +kernel
    generalize (2 : Nat) ^ 600 = A at *
    generalize (2 : Nat) ^ 2000 = C at *
    omega
  have en : ((x : Int) - ((2 ^ n : Nat) : Int)).natAbs = 2 ^ n - x := by omega
  have ea : artV ((x : Int) - ((2 ^ n : Nat) : Int)) (x + 2 ^ n) (b + 32) = -lsum 1 (2 ^ n - x) (x + 2 ^ n) (b + 32) := by
    unfold artV
    rw [if_pos (by omega), en]
  have l1 : (lsum 1 1 3 (b + 32)).natAbs < 2 ^ 2000 := lsum_abs (.inl rfl) (by decide) (by decide) (by omega)
  have l2 : (lsum 1 (2 ^ n - x) (x + 2 ^ n) (b + 32)).natAbs < 2 ^ 2000 := lsum_abs (.inl rfl) (by omega) (by omega) (by omega)
  have val : llog x n b = (2 * ((n : Int) - (b : Int)) * lsum 1 1 3 (b + 32) + 2 * -lsum 1 (2 ^ n - x) (x + 2 ^ n) (b + 32)) / 2 ^ 32 := rfl
  rw [val]
  refine sd_env (δ1 := [nI (x : Int), nI (b : Int), .no, .no, .no, .no]) rfl ?_
  refine q_asg [_, _, nI ((n : Int) - (b : Int)), _, _, _] (d_isI (j := (n : Int) - (b : Int)) (d_i0 (d_bits (d_var (s := nI (x : Int)) rfl)) (d_var (s := nI (b : Int)) rfl)) (by rw [hbt])) ?_
  refine q_asg [_, _, _, nI ((b + 32 : Nat) : Int), _, _] (d_isI (j := ((b + 32 : Nat) : Int)) (d_i0 (d_var (s := nI (b : Int)) rfl) d_ci) (by omega)) ?_
  refine q_asg [_, _, _, _, nI ((2 ^ n : Nat) : Int), _] (d_isI (j := ((2 ^ n : Nat) : Int)) (d_one (k := n) d_ci (d_isI (j := (n : Int)) (d_bits (d_var (s := nI (x : Int)) rfl)) (by rw [hbt])) (by omega)) (pow_cast n).symm) ?_
  refine q_asg [_, _, _, _, _, nI (2 * ((n : Int) - (b : Int)) * lsum 1 1 3 (b + 32) + 2 * -lsum 1 (2 ^ n - x) (x + 2 ^ n) (b + 32))] (d_i0 (d_iC (d_iC d_ci (d_var (s := nI ((n : Int) - (b : Int))) rfl) (mulx_ok (a := 3) (b := 20) (by decide) (by omega) (by decide))) (d_callF (1, 3, b + 32) (a_cons d_ci (a_cons d_ci (a_cons (d_var (s := nI ((b + 32 : Nat) : Int)) rfl) a_nil))) ⟨show 0 < 3 by decide, show 2 * (1 : Int).natAbs ≤ 3 by decide, Nat.lt_of_lt_of_le (show 3 < 2 ^ 2 by decide) (Nat.pow_le_pow_right (by decide) (by decide)), show b + 32 ≤ 900 by omega⟩) (mulx_ok (a := 30) (b := 2000) (by omega) l1 (by decide))) (d_iC d_ci (d_isI (j := -lsum 1 (2 ^ n - x) (x + 2 ^ n) (b + 32)) (d_callF ((x : Int) - ((2 ^ n : Nat) : Int), x + 2 ^ n, b + 32) (a_cons (d_i0 (d_var (s := nI (x : Int)) rfl) (d_var (s := nI ((2 ^ n : Nat) : Int)) rfl)) (a_cons (d_isI (j := ((x + 2 ^ n : Nat) : Int)) (d_i0 (d_var (s := nI (x : Int)) rfl) (d_var (s := nI ((2 ^ n : Nat) : Int)) rfl)) (by omega)) (a_cons (d_var (s := nI ((b + 32 : Nat) : Int)) rfl) a_nil))) ⟨show 0 < x + 2 ^ n by omega, by show 2 * ((x : Int) - ((2 ^ n : Nat) : Int)).natAbs ≤ x + 2 ^ n; omega, q2000, show b + 32 ≤ 900 by omega⟩) ea) (mulx_ok (a := 3) (b := 2000) (by decide) (by rw [Int.natAbs_neg]; exact l2) (by decide)))) ?_
  exact sd_ret (d_shr (k := 32) (d_var rfl) d_ci) rfl
/-! ### the law's arctan and arcsine, by data -/
theorem d_intB {B0 H0 : Hp} {δ : List Sl} {ta : TE} {k : Bool} (h : EvS K B0 H0 ta δ (nB k)) : EvS K B0 H0 (tCB (fun xs H Q => (∃ i, xs = [.int i] ∧ Q (.int i) H) ∨ ∃ k, xs = [.bl k] ∧ Q (.int (if k then 1 else 0)) H) (tCons ta tNil)) δ (nI (if k then 1 else 0)) := d_cb1 h (.bl k) (fun _ => rc_intB) (.int _)
theorem lPi_abs {b : Nat} (hb : b ≤ 800) : (lPi b).natAbs < 2 ^ 2010 := by
  have t5 : (lsum (-1) 1 5 (b + 32)).natAbs < 2 ^ 2000 := lsum_abs (.inr rfl) (by decide) (by decide) (by omega)
  have t239 : (lsum (-1) 1 239 (b + 32)).natAbs < 2 ^ 2000 := lsum_abs (.inr rfl) (by decide) (by decide) (by omega)
  unfold Re.R.lPi
  have h := Int.natAbs_ediv_le_natAbs (16 * lsum (-1) 1 5 (b + 32) - 4 * lsum (-1) 1 239 (b + 32)) (2 ^ 32)
  have e : (2 : Nat) ^ 2010 = 1024 * 2 ^ 2000 := by decide +kernel
  rw [e]
  generalize (2 : Nat) ^ 2000 = A at *
  omega
abbrev spLAt (K : PySem.W.Frag) : Sp := SpF K (fun a : Int × Nat => [nI a.1, nI (a.2 : Int)]) (fun a => a.1.natAbs < 2 ^ 1500 ∧ a.2 ≤ 300) fun a => .int (lat iq a.1 a.2)
theorem ok_latan {f f0 f1 f2 : Addr} {fd fd0 fd1 fd2 : FuncData} (F : Fun K "_law_atan" "_law_atan" s_law_atan f fd)
    (F_law_atan_sum : Fun K "_law_atan_sum" "_law_atan_sum" s_law_atan_sum f0 fd0) (b_law_atan_sum : Binds K fd0 ["p", "q", "b"] []) (g_law_atan_sum : mg "_law_atan_sum" = some (.ref f0))
    (F_law_pi : Fun K "_law_pi" "_law_pi" s_law_pi f1 fd1) (b_law_pi : Binds K fd1 ["b"] []) (g_law_pi : mg "_law_pi" = some (.ref f1))
    (F_law_isqrt : Fun K "_law_isqrt" "_law_isqrt" s_law_isqrt f2 fd2) (b_law_isqrt : Binds K fd2 ["figure"] []) (g_law_isqrt : mg "_law_isqrt" = some (.ref f2))
    (m_range : mg "range" = none) (m_int : mg "int" = none) (m_abs : mg "abs" = none) : FnOk P w K mg base CX0 3 f fd ["x", "b"] (spLAt K) := by
  have G_law_atan_sum : FnOk P w K mg base CX0 1 f0 fd0 ["p", "q", "b"] (spAtan K) := ok_atan F_law_atan_sum m_range m_int
  have G_law_pi : FnOk P w K mg base CX0 2 f1 fd1 ["b"] (spLPi K) := ok_lpi F_law_pi F_law_atan_sum b_law_atan_sum g_law_atan_sum m_range m_int
  have G_law_isqrt : FnOk P w K mg base CX0 1 f2 fd2 ["figure"] (spRt K) := ok_isqrt F_law_isqrt m_range
  refine F.ok sc_law_atan (fun vs H Q E ⟨_, _, _, iv, _⟩ => iv.len) (fun cdv A outer s H vs Q E hr h => ⟨_, (pss_cons (ps_set (i := 2) sc_law_atan.nd rfl (.inl rfl) (pe_op op_add (pv 1) pe_int))
        (pss_cons (ps_set (i := 3) sc_law_atan.nd rfl (.inl rfl) (pe_op op_oneShl pe_int (pv 2)))
        (pss_cons (ps_set (i := 4) sc_law_atan.nd rfl (.inl rfl) (pe_op op_shlN (pe_callB call_abs (by rfl) m_abs (by decide +kernel) (pa_cons (pv 0) pa_nil)) pe_int))
        (pss_cons (ps_set (i := 5) sc_law_atan.nd rfl (.inl rfl) (pe_cmpR op_gt (pv 4) (pv 3) (nomark _)))
        (Evl.pss_cut (ps_if (pt_val (pv 5)) (pss_one (ps_set (i := 4) sc_law_atan.nd rfl (.inl rfl) (pe_op op_fdivA (pe_op op_mulX (pv 3) (pv 3)) (pv 4)))) pss_nil)
        (pss_cons (ps_for PassesOwn.never rfl (pi_range1 (by rfl) m_range (pa_cons pe_int pa_nil)) (pg_name (i := 6) sc_law_atan.nd rfl (.inl rfl)) (pss_one (ps_set (i := 4) sc_law_atan.nd rfl (.inl rfl) (pe_op op_fdivA (pe_op op_shlN (pv 4) (pv 2)) (pe_op op_add (pv 3) (pe_call G_law_isqrt (hr.mono (by decide)) (by rfl) g_law_isqrt F_law_isqrt.kp b_law_isqrt .nil pass0 (pa_cons (pe_op op_add (pe_op op_mulX (pv 3) (pv 3)) (pe_op op_mulX (pv 4) (pv 4))) pa_nil)))))))
        (pss_cons (ps_set (i := 7) sc_law_atan.nd rfl (.inl rfl) (pe_op op_shrN (pe_op op_mulX pe_int (pe_call G_law_atan_sum (hr.mono (by decide)) (by rfl) g_law_atan_sum F_law_atan_sum.kp b_law_atan_sum .nil pass0 (pa_cons (pv 4) (pa_cons (pv 3) (pa_cons (pv 2) pa_nil))))) pe_int))
        (Evl.pss_cut (ps_if (pt_val (pv 5)) (pss_one (ps_set (i := 7) sc_law_atan.nd rfl (.inl rfl) (pe_op op_sub (pe_op op_fdiv (pe_call G_law_pi (hr.mono (by decide)) (by rfl) g_law_pi F_law_pi.kp b_law_pi .nil pass0 (pa_cons (pv 1) pa_nil)) pe_int) (pv 7)))) pss_nil)
        (pss_cons (ps_if (pt_cmpR op_lt (pv 0) pe_int (nomark _)) (pss_one (ps_ret (pe_un un_neg (pv 7)))) pss_nil)
        (pss_one (ps_ret (pv 7)))))))))))), run_body h fun a B hp => ?_⟩)
  obtain ⟨x, b⟩ := a
  obtain ⟨h1, h2⟩ := hp
  simp only at h1 h2
  show SD K B H _ _ _ { nx := _, rt := fun d => d = .int (lat iq x b) }
  obtain ⟨w, hw⟩ : ∃ w : Nat, w = b + 32 := ⟨_, rfl⟩
  obtain ⟨y, hy⟩ : ∃ y : Nat, y = x.natAbs * 2 ^ 32 := ⟨_, rfl⟩
  have pw : 0 < 2 ^ w := Nat.pow_pos (by decide)
  have wl : (2 : Nat) ^ w < 2 ^ 400 := pow_small (by omega)
  have ws : ((2 ^ w : Nat) : Int).natAbs < 2 ^ 400 := nsm wl
  have ys : y < 2 ^ (1500 + 32) := by
    rw [hy, Nat.pow_add]
    exact Nat.mul_lt_mul_of_pos_right h1 (by decide)
  have val : lat iq x b = if x < 0 then -(if 2 ^ w < y then lPi b / 2 - latA iq (2 ^ w * 2 ^ w / y) w else latA iq y w) else (if 2 ^ w < y then lPi b / 2 - latA iq (2 ^ w * 2 ^ w / y) w else latA iq y w) := by
    rw [hw, hy]
    rfl
  rw [val]
  refine sd_env (δ1 := [nI x, nI (b : Int), .no, .no, .no, .no, .no, .no]) rfl ?_
  refine q_asg [_, _, nI (w : Int), _, _, _, _, _] (d_isI (j := (w : Int)) (d_i0 (d_var (s := nI (b : Int)) rfl) d_ci) (by omega)) ?_
  refine q_asg [_, _, _, nI ((2 ^ w : Nat) : Int), _, _, _, _] (d_isI (j := ((2 ^ w : Nat) : Int)) (d_one (k := w) d_ci (d_var (s := nI (w : Int)) rfl) (by omega)) (pow_cast w).symm) ?_
  refine q_asg [_, _, _, _, nI (y : Int), _, _, _] (d_isI (j := (y : Int)) (d_shl (k := 32) (d_abs (d_var (s := nI x) rfl)) d_ci (shl_ok (n := 1500) (nsm h1) (by decide))) (by rw [hy, Int.natCast_mul, pow_cast])) ?_
  refine q_asg [_, _, _, _, _, nB (decide (2 ^ w < y)), _, _] (d_isB (c := decide (2 ^ w < y)) (d_b0 (d_var (s := nI (y : Int)) rfl) (d_var (s := nI ((2 ^ w : Nat) : Int)) rfl)) (decide_eq_decide.mpr ⟨fun z => by omega, fun z => by omega⟩)) ?_
  obtain ⟨y1, hy1⟩ : ∃ y1 : Nat, y1 = if 2 ^ w < y then 2 ^ w * 2 ^ w / y else y := ⟨_, rfl⟩
  have y1l : y1 ≤ 2 ^ w := by
    rw [hy1]
    split
    · exact Nat.div_le_of_le_mul (Nat.mul_le_mul_right _ (by omega))
    · omega
  have val2 : (if 2 ^ w < y then lPi b / 2 - latA iq (2 ^ w * 2 ^ w / y) w else latA iq y w) = if 2 ^ w < y then lPi b / 2 - latA iq y1 w else latA iq y1 w := by
    rw [hy1]
    split
    · rfl
    · rfl
  rw [val2]
  refine sd_cut (M := fun δ => δ = [nI x, nI (b : Int), nI (w : Int), nI ((2 ^ w : Nat) : Int), nI (y1 : Int), nB (decide (2 ^ w < y)), .no, .no]) (sd_when (b_val (d_var (s := nB (decide (2 ^ w < y))) rfl)) (fun hb => ?_) (fun hb => ?_)) fun δ' e => ?_
  · have c : 2 ^ w < y := of_decide_eq_true hb
    rw [if_pos c] at hy1
    refine sd_asg (s := nI (y1 : Int)) (d_isI (j := (y1 : Int)) (d_fdivA (d_iC (d_var (s := nI ((2 ^ w : Nat) : Int)) rfl) (d_var (s := nI ((2 ^ w : Nat) : Int)) rfl) (mulx_ok (a := 400) (b := 400) ws ws (by decide))) (d_var (s := nI (y : Int)) rfl) (by omega) (lg40 (k := 1500 + 32) (nsm ys) (by decide))) (by rw [hy1, Int.natCast_ediv, Int.natCast_mul])) rfl
  · have c : ¬ 2 ^ w < y := of_decide_eq_false hb
    rw [if_neg c] at hy1
    rw [hy1]
  subst e
  clear hy1 ys
  refine q_for (w_rng1 (n := 4) (ds_cons d_ci ds_nil) (by decide) (by decide)) (fun i δ => ∃ s6, δ = [nI x, nI (b : Int), nI (w : Int), nI ((2 ^ w : Nat) : Int), nI ((hsts iq (-1) w y1 i : Nat) : Int), nB (decide (2 ^ w < y)), s6, .no]) ⟨_, rfl⟩ (fun i d δ' hd hq => ?_) (fun δ' hq => ?_)
  · obtain ⟨s6, rfl⟩ := hq
    have tl : hsts iq (-1) w y1 i ≤ 2 ^ w := Nat.le_trans (Re.R.hsts_le iq (-1) w y1 i) y1l
    have e1 : hsts iq (-1) w y1 (i + 1) = hsts iq (-1) w y1 i * 2 ^ w / (2 ^ w + iq (hstN (-1) w (hsts iq (-1) w y1 i))) := rfl
    obtain ⟨hN, hN2⟩ := hstN_ok (g := -1) (.inr rfl) tl
    have rl := iq_le hN2
    rw [e1]
    generalize hsts iq (-1) w y1 i = u at *
    have us : ((u : Nat) : Int).natAbs < 2 ^ 400 := nsm (by omega)
    refine ⟨[6], [_, _, _, _, _, _, .dat d, _], g_name, ?_⟩
    exact sd_asg (s := nI ((u * 2 ^ w / (2 ^ w + iq (hstN (-1) w u)) : Nat) : Int)) (d_isI (j := ((u * 2 ^ w / (2 ^ w + iq (hstN (-1) w u)) : Nat) : Int)) (d_fdivA (d_shl (k := w) (d_var (s := nI (u : Int)) rfl) (d_var (s := nI (w : Int)) rfl) (shl_ok (n := 400) us (by omega))) (d_isI (j := ((2 ^ w + iq (hstN (-1) w u) : Nat) : Int)) (d_i0 (d_var (s := nI ((2 ^ w : Nat) : Int)) rfl) (d_callF (hstN (-1) w u) (a_cons (d_isI (j := ((hstN (-1) w u : Nat) : Int)) (d_i0 (d_iC (d_var (s := nI ((2 ^ w : Nat) : Int)) rfl) (d_var (s := nI ((2 ^ w : Nat) : Int)) rfl) (mulx_ok (a := 400) (b := 400) ws ws (by decide))) (d_iC (d_var (s := nI (u : Int)) rfl) (d_var (s := nI (u : Int)) rfl) (mulx_ok (a := 400) (b := 400) us us (by decide)))) (by
      rw [hN, Int.natCast_mul, Int.natCast_mul]
      omega)) a_nil) (Nat.lt_of_le_of_lt hN2 (pow_small (by omega))))) (by omega)) (by omega) (lg40 (k := 400) (nat_small (b := w + 2) (by
      have e2 : (2 : Nat) ^ (w + 2) = 4 * 2 ^ w := by rw [Nat.pow_add, Nat.mul_comm]
      have e3 : (2 : Nat) ^ (w + 1) = 2 * 2 ^ w := by rw [Nat.pow_add, Nat.mul_comm]
      omega) (by omega)) (by decide))) (by rw [Int.natCast_ediv, Int.natCast_mul, pow_cast])) ⟨_, rfl⟩
  · obtain ⟨s6, rfl⟩ := hq
    have eh : (upto 0 (4 : Int).toNat).length = 4 := rfl
    rw [eh]
    have half : 2 * hsts iq (-1) w y1 4 ≤ 2 ^ w := Re.R.hst_half iq_ok (Nat.le_trans (Re.R.hsts_le iq (-1) w y1 3) y1l)
    have vA : latA iq y1 w = 16 * lsum (-1) (hsts iq (-1) w y1 4) (2 ^ w) w / 2 ^ 32 := rfl
    rw [vA]
    have la : (lsum (-1) (hsts iq (-1) w y1 4) (2 ^ w) w).natAbs < 2 ^ 2000 := lsum_abs (.inr rfl) pw half (by omega)
    generalize hsts iq (-1) w y1 4 = u at *
    refine q_asg [_, _, _, _, _, _, _, nI (16 * lsum (-1) u (2 ^ w) w / 2 ^ 32)] (d_shr (k := 32) (d_iC d_ci (d_callF (u, 2 ^ w, w) (a_cons (d_var (s := nI (u : Int)) rfl) (a_cons (d_var (s := nI ((2 ^ w : Nat) : Int)) rfl) (a_cons (d_var (s := nI (w : Int)) rfl) a_nil))) ⟨pw, half, pow_small (show w < 2000 by omega), show w ≤ 900 by omega⟩) (mulx_ok (a := 5) (b := 2000) (by decide) la (by decide))) d_ci) ?_
    generalize 16 * lsum (-1) u (2 ^ w) w / 2 ^ 32 = v at *
    obtain ⟨v2, hv2⟩ : ∃ v2 : Int, v2 = if 2 ^ w < y then lPi b / 2 - v else v := ⟨_, rfl⟩
    rw [← hv2]
    refine sd_cut (M := fun δ => δ = [nI x, nI (b : Int), nI (w : Int), nI ((2 ^ w : Nat) : Int), nI (u : Int), nB (decide (2 ^ w < y)), s6, nI v2]) (sd_when (b_val (d_var (s := nB (decide (2 ^ w < y))) rfl)) (fun hb => ?_) (fun hb => ?_)) fun δ' e => ?_
    · have c : 2 ^ w < y := of_decide_eq_true hb
      rw [if_pos c] at hv2
      refine sd_asg (s := nI v2) (d_isI (j := v2) (d_i0 (d_iC (d_callF b (a_cons (d_var (s := nI (b : Int)) rfl) a_nil) (show b ≤ 800 by omega)) d_ci ⟨by decide, by decide⟩) (d_var (s := nI v) rfl)) hv2.symm) rfl
    · have c : ¬ 2 ^ w < y := of_decide_eq_false hb
      rw [if_neg c] at hv2
      rw [hv2]
    subst e
    refine q_when (b_test (d_b0 (d_var (s := nI x) rfl) d_ci)) (fun hb => ?_) (fun hb => ?_)
    · have c : x < 0 := of_decide_eq_true hb
      rw [if_pos c]
      exact sd_ret (d_neg (d_var (s := nI v2) rfl)) rfl
    · have c : ¬ x < 0 := of_decide_eq_false hb
      rw [if_neg c]
      exact sd_ret (d_var (s := nI v2) rfl) rfl
abbrev spLAs (K : PySem.W.Frag) : Sp := SpF K (fun a : Int × Nat => [nI a.1, nI (a.2 : Int)]) (fun a => a.1.natAbs ≤ 2 ^ a.2 ∧ a.2 ≤ 300) fun a => .int (las iq a.1 a.2)
theorem ok_lasin {f f0 f1 f2 f3 : Addr} {fd fd0 fd1 fd2 fd3 : FuncData} (F : Fun K "_law_asin" "_law_asin" s_law_asin f fd)
    (F_law_atan_sum : Fun K "_law_atan_sum" "_law_atan_sum" s_law_atan_sum f0 fd0) (b_law_atan_sum : Binds K fd0 ["p", "q", "b"] []) (g_law_atan_sum : mg "_law_atan_sum" = some (.ref f0))
    (F_law_pi : Fun K "_law_pi" "_law_pi" s_law_pi f1 fd1) (b_law_pi : Binds K fd1 ["b"] []) (g_law_pi : mg "_law_pi" = some (.ref f1))
    (F_law_isqrt : Fun K "_law_isqrt" "_law_isqrt" s_law_isqrt f2 fd2) (b_law_isqrt : Binds K fd2 ["figure"] []) (g_law_isqrt : mg "_law_isqrt" = some (.ref f2))
    (F_law_atan : Fun K "_law_atan" "_law_atan" s_law_atan f3 fd3) (b_law_atan : Binds K fd3 ["x", "b"] []) (g_law_atan : mg "_law_atan" = some (.ref f3))
    (m_range : mg "range" = none) (m_int : mg "int" = none) (m_abs : mg "abs" = none) (m_max : mg "max" = none) : FnOk P w K mg base CX0 4 f fd ["x", "b"] (spLAs K) := by
  have G_law_pi : FnOk P w K mg base CX0 2 f1 fd1 ["b"] (spLPi K) := ok_lpi F_law_pi F_law_atan_sum b_law_atan_sum g_law_atan_sum m_range m_int
  have G_law_isqrt : FnOk P w K mg base CX0 1 f2 fd2 ["figure"] (spRt K) := ok_isqrt F_law_isqrt m_range
  have G_law_atan : FnOk P w K mg base CX0 3 f3 fd3 ["x", "b"] (spLAt K) := ok_latan F_law_atan F_law_atan_sum b_law_atan_sum g_law_atan_sum F_law_pi b_law_pi g_law_pi F_law_isqrt b_law_isqrt g_law_isqrt m_range m_int m_abs
  refine F.ok sc_law_asin (fun vs H Q E ⟨_, _, _, iv, _⟩ => iv.len) (fun cdv A outer s H vs Q E hr h => ⟨_, (pss_cons (ps_set (i := 2) sc_law_asin.nd rfl (.inl rfl) (pe_op op_sub (pe_op op_oneShl pe_int (pe_op op_mulX pe_int (pv 1))) (pe_op op_mulX (pv 0) (pv 0))))
        (pss_cons (ps_if (pt_cmpR op_le (pv 2) pe_int (nomark _)) (pss_one (ps_ret (pe_op op_mulX (pe_op op_fdiv (pe_call G_law_pi (hr.mono (by decide)) (by rfl) g_law_pi F_law_pi.kp b_law_pi .nil pass0 (pa_cons (pv 1) pa_nil)) pe_int) (pe_op op_sub pe_int (pe_op op_mulX pe_int (pe_callTy call_int1 (by rfl) m_int (by decide +kernel) (pa_cons (pe_cmpR op_lt (pv 0) pe_int (nomark _)) pa_nil))))))) pss_nil)
        (pss_cons (ps_set (i := 3) sc_law_asin.nd rfl (.inl rfl) (pe_call G_law_isqrt (hr.mono (by decide)) (by rfl) g_law_isqrt F_law_isqrt.kp b_law_isqrt .nil pass0 (pa_cons (pe_op op_shlN (pv 2) pe_int) pa_nil)))
        (pss_one (ps_ret (pe_call G_law_atan (hr.mono (by decide)) (by rfl) g_law_atan F_law_atan.kp b_law_atan .nil pass0 (pa_cons (pe_op op_fdivA (pe_op op_shlN (pv 0) (pe_op op_add (pv 1) pe_int)) (pe_callB (call_max2 rfl) (by rfl) m_max (by decide +kernel) (pa_cons pe_int (pa_cons (pv 3) pa_nil)))) (pa_cons (pv 1) pa_nil)))))))), run_body h fun a B hp => ?_⟩)
  obtain ⟨x, b⟩ := a
  obtain ⟨h1, h2⟩ := hp
  simp only at h1 h2
  have xs : x.natAbs < 2 ^ 400 := Nat.lt_of_le_of_lt h1 (pow_small (by omega))
  have val : las iq x b = if (2 : Int) ^ (2 * b) - x * x ≤ 0 then lPi b / 2 * (if x < 0 then -1 else 1) else lat iq (x * 2 ^ (b + 64) / (iq (((2 : Int) ^ (2 * b) - x * x).toNat * 2 ^ 128) : Int)) b := rfl
  show SD K B H _ _ _ { nx := _, rt := fun d => d = .int (las iq x b) }
  rw [val]
  have xx : 0 ≤ x * x := by
    have : ((x.natAbs * x.natAbs : Nat) : Int) = x * x := Int.natAbs_mul_self
    omega
  have p2 := pow_cast (2 * b)
  have l2 : (2 : Nat) ^ (2 * b) < 2 ^ 700 := pow_small (by omega)
  refine sd_env (δ1 := [nI x, nI (b : Int), .no, .no]) rfl ?_
  refine q_asg [_, _, nI ((2 : Int) ^ (2 * b) - x * x), _] (d_i0 (d_one (k := 2 * b) d_ci (d_isI (j := ((2 * b : Nat) : Int)) (d_iC d_ci (d_var (s := nI (b : Int)) rfl) (mulx_ok (a := 3) (b := 20) (by decide) (by omega) (by decide))) (by omega)) (by omega)) (d_iC (d_var (s := nI x) rfl) (d_var (s := nI x) rfl) (mulx_ok (a := 400) (b := 400) xs xs (by decide)))) ?_
  have rb : (2 : Int) ^ (2 * b) - x * x ≤ ((2 ^ (2 * b) : Nat) : Int) := by omega
  generalize (2 : Int) ^ (2 * b) - x * x = r at *
  refine q_when (b_test (d_b0 (d_var (s := nI r) rfl) d_ci)) (fun hb => ?_) (fun hb => ?_)
  · have c : r ≤ 0 := of_decide_eq_true hb
    rw [if_pos c]
    have ls : (lPi b / 2).natAbs < 2 ^ 2010 := Nat.lt_of_le_of_lt (Int.natAbs_ediv_le_natAbs _ _) (lPi_abs (by omega))
    refine sd_ret (d_iC (d_iC (d_callF b (a_cons (d_var (s := nI (b : Int)) rfl) a_nil) (show b ≤ 800 by omega)) d_ci ⟨by decide, by decide⟩) (d_isI (j := if x < 0 then -1 else 1) (d_i0 d_ci (d_iC d_ci (d_intB (d_b0 (d_var (s := nI x) rfl) d_ci)) (mulx_ok (a := 3) (b := 3) (by decide) (by split <;> decide) (by decide)))) (by
      by_cases z : x < 0
      · rw [if_pos z, decide_eq_true z]
        rfl
      · rw [if_neg z, decide_eq_false z]
        rfl)) (mulx_ok (a := 2010) (b := 3) ls (by split <;> decide) (by decide))) rfl
  · have c : ¬ r ≤ 0 := of_decide_eq_false hb
    rw [if_neg c]
    obtain ⟨m, rfl⟩ : ∃ m : Nat, r = (m : Int) := ⟨r.toNat, by omega⟩
    have tn : ((m : Nat) : Int).toNat = m := rfl
    rw [tn]
    have ml : m < 2 ^ 700 := by omega
    obtain ⟨N, hN⟩ : ∃ N : Nat, N = m * 2 ^ 128 := ⟨_, rfl⟩
    rw [← hN]
    have m128 : N < 2 ^ (700 + 128) := by
      rw [hN, Nat.pow_add]
      exact Nat.mul_lt_mul_of_pos_right ml (by decide)
    have op := Re.R.root_pos iq_ok (show 0 < N by rw [hN]; exact Nat.mul_pos (by omega) (by decide))
    have ol : iq N ≤ N := by
      have s := (iq_ok N).1
      exact Nat.le_trans (Nat.le_mul_of_pos_right _ op) s
    refine q_asg [_, _, _, nI ((iq N : Nat) : Int)] (d_callF N (a_cons (d_isI (j := (N : Int)) (d_shl (k := 128) (d_var (s := nI (m : Int)) rfl) d_ci (shl_ok (n := 700) (nsm ml) (by decide))) (by rw [hN, Int.natCast_mul, pow_cast])) a_nil) (Nat.lt_of_lt_of_le m128 (Nat.pow_le_pow_right (by decide) (by decide)))) ?_
    generalize iq N = o at *
    have os : ((o : Nat) : Int).natAbs < 2 ^ (700 + 128) := nsm (by omega)
    have zs : (x * 2 ^ (b + 64) / (o : Int)).natAbs < 2 ^ 1500 := by
      refine Nat.lt_of_le_of_lt (Int.natAbs_ediv_le_natAbs _ _) ?_
      rw [Int.natAbs_mul, Int.natAbs_pow]
      have h3 : x.natAbs * (2 : Int).natAbs ^ (b + 64) < 2 ^ 400 * 2 ^ 400 := Nat.mul_lt_mul'' xs (pow_small (by omega))
      have h4 : (2 : Nat) ^ 400 * 2 ^ 400 < 2 ^ 1500 := by decide +kernel
      exact Nat.lt_trans h3 h4
    refine sd_ret (d_callF (x * 2 ^ (b + 64) / (o : Int), b) (a_cons (d_fdivA (d_shl (k := b + 64) (d_var (s := nI x) rfl) (d_isI (j := ((b + 64 : Nat) : Int)) (d_i0 (d_var (s := nI (b : Int)) rfl) d_ci) (by omega)) (shl_ok (n := 400) xs (by omega))) (d_isI (j := (o : Int)) (d_max d_ci (d_var (s := nI (o : Int)) rfl)) (by omega)) (by omega) (lg40 (k := 700 + 128) os (by decide))) (a_cons (d_var (s := nI (b : Int)) rfl) a_nil)) ⟨zs, h2⟩) rfl
/-! ### the values, and what is told, by data -/
def bitN (x : Nat) : Nat := Builtin.Int.intBits (x : Int)
def atV (way : Nat) (X : Int) (b : Nat) : Int :=
  if way = 0 then llog (X.toNat * 2 ^ 100) (bitN (X.toNat * 2 ^ 100)) (b + 100)
  else if way = 1 then lat iq (X * 2 ^ 100) (b + 100)
  else if way = 2 then las iq (X * 2 ^ 100) (b + 100)
  else lPi (b + 100) / 2 - las iq (X * 2 ^ 100) (b + 100)
abbrev preAt : Nat × Int × Nat → Prop := fun a => a.2.1.natAbs < 2 ^ 300 ∧ a.2.2 ≤ 160 ∧ (a.1 = 0 → 0 < a.2.1) ∧ (2 ≤ a.1 → a.2.1.natAbs ≤ 2 ^ a.2.2)
abbrev spAt (K : PySem.W.Frag) : Sp := SpF K (fun a : Nat × Int × Nat => [nI (a.1 : Int), nI a.2.1, nI (a.2.2 : Int)]) preAt fun a => .int (atV a.1 a.2.1 a.2.2)
theorem ok_at {f f0 f1 f2 f3 f4 f5 f6 : Addr} {fd fd0 fd1 fd2 fd3 fd4 fd5 fd6 : FuncData} (F : Fun K "_law_at" "_law_at" s_law_at f fd)
    (F_law_atan_sum : Fun K "_law_atan_sum" "_law_atan_sum" s_law_atan_sum f0 fd0) (b_law_atan_sum : Binds K fd0 ["p", "q", "b"] []) (g_law_atan_sum : mg "_law_atan_sum" = some (.ref f0))
    (F_law_pi : Fun K "_law_pi" "_law_pi" s_law_pi f1 fd1) (b_law_pi : Binds K fd1 ["b"] []) (g_law_pi : mg "_law_pi" = some (.ref f1))
    (F_law_isqrt : Fun K "_law_isqrt" "_law_isqrt" s_law_isqrt f2 fd2) (b_law_isqrt : Binds K fd2 ["figure"] []) (g_law_isqrt : mg "_law_isqrt" = some (.ref f2))
    (F_law_atan : Fun K "_law_atan" "_law_atan" s_law_atan f3 fd3) (b_law_atan : Binds K fd3 ["x", "b"] []) (g_law_atan : mg "_law_atan" = some (.ref f3))
    (F_law_asin : Fun K "_law_asin" "_law_asin" s_law_asin f4 fd4) (b_law_asin : Binds K fd4 ["x", "b"] []) (g_law_asin : mg "_law_asin" = some (.ref f4))
    (F_law_log : Fun K "_law_log" "_law_log" s_law_log f5 fd5) (b_law_log : Binds K fd5 ["x", "b"] []) (g_law_log : mg "_law_log" = some (.ref f5))
    (F_law_artanh : Fun K "_law_artanh" "_law_artanh" s_law_artanh f6 fd6) (b_law_artanh : Binds K fd6 ["p", "q", "b"] []) (g_law_artanh : mg "_law_artanh" = some (.ref f6))
    (m_range : mg "range" = none) (m_int : mg "int" = none) (m_abs : mg "abs" = none) (m_max : mg "max" = none) : FnOk P w K mg base CX0 5 f fd ["way", "x", "bits"] (spAt K) := by
  have G_law_pi : FnOk P w K mg base CX0 2 f1 fd1 ["b"] (spLPi K) := ok_lpi F_law_pi F_law_atan_sum b_law_atan_sum g_law_atan_sum m_range m_int
  have G_law_atan : FnOk P w K mg base CX0 3 f3 fd3 ["x", "b"] (spLAt K) := ok_latan F_law_atan F_law_atan_sum b_law_atan_sum g_law_atan_sum F_law_pi b_law_pi g_law_pi F_law_isqrt b_law_isqrt g_law_isqrt m_range m_int m_abs
  have G_law_asin : FnOk P w K mg base CX0 4 f4 fd4 ["x", "b"] (spLAs K) := ok_lasin F_law_asin F_law_atan_sum b_law_atan_sum g_law_atan_sum F_law_pi b_law_pi g_law_pi F_law_isqrt b_law_isqrt g_law_isqrt F_law_atan b_law_atan g_law_atan m_range m_int m_abs m_max
  have G_law_log : FnOk P w K mg base CX0 2 f5 fd5 ["x", "b"] (spLLog K) := ok_llog F_law_log F_law_artanh b_law_artanh g_law_artanh m_range
  refine F.ok sc_law_at (fun vs H Q E ⟨_, _, _, iv, _⟩ => iv.len) (fun cdv A outer s H vs Q E hr h => ⟨_, (pss_cons (ps_set (i := 3) sc_law_at.nd rfl (.inl rfl) (pe_op op_add (pv 2) pe_int))
        (pss_cons (ps_set (i := 1) sc_law_at.nd rfl (.inl rfl) (pe_op op_shlN (pv 1) pe_int))
        (pss_cons (ps_if (pt_cmpR op_eq (pv 0) pe_int (nomark _)) (pss_one (ps_ret (pe_call G_law_log (hr.mono (by decide)) (by rfl) g_law_log F_law_log.kp b_law_log .nil pass0 (pa_cons (pv 1) (pa_cons (pv 3) pa_nil))))) pss_nil)
        (pss_cons (ps_if (pt_cmpR op_eq (pv 0) pe_int (nomark _)) (pss_one (ps_ret (pe_call G_law_atan (hr.mono (by decide)) (by rfl) g_law_atan F_law_atan.kp b_law_atan .nil pass0 (pa_cons (pv 1) (pa_cons (pv 3) pa_nil))))) pss_nil)
        (pss_cons (ps_if (pt_cmpR op_eq (pv 0) pe_int (nomark _)) (pss_one (ps_ret (pe_call G_law_asin (hr.mono (by decide)) (by rfl) g_law_asin F_law_asin.kp b_law_asin .nil pass0 (pa_cons (pv 1) (pa_cons (pv 3) pa_nil))))) pss_nil)
        (pss_one (ps_ret (pe_op op_sub (pe_op op_fdiv (pe_call G_law_pi (hr.mono (by decide)) (by rfl) g_law_pi F_law_pi.kp b_law_pi .nil pass0 (pa_cons (pv 3) pa_nil)) pe_int) (pe_call G_law_asin (hr.mono (by decide)) (by rfl) g_law_asin F_law_asin.kp b_law_asin .nil pass0 (pa_cons (pv 1) (pa_cons (pv 3) pa_nil))))))))))), run_body h fun a B hp => ?_⟩)
  obtain ⟨way, X, b⟩ := a
  obtain ⟨h1, h2, h3, h4⟩ := hp
  simp only at h1 h2 h3 h4
  show SD K B H _ _ _ { nx := _, rt := fun d => d = .int (atV way X b) }
  refine sd_env (δ1 := [nI (way : Int), nI X, nI (b : Int), .no]) rfl ?_
  refine q_asg [_, _, _, nI ((b + 100 : Nat) : Int)] (d_isI (j := ((b + 100 : Nat) : Int)) (d_i0 (d_var (s := nI (b : Int)) rfl) d_ci) (by omega)) ?_
  refine q_asg [_, nI (X * 2 ^ 100), _, _] (d_shl (k := 100) (d_var (s := nI X) rfl) d_ci (shl_ok (n := 300) h1 (by decide))) ?_
  have xa : (X * 2 ^ 100).natAbs = X.natAbs * 2 ^ 100 := by rw [Int.natAbs_mul]; rfl
  have xl : (X * 2 ^ 100).natAbs < 2 ^ (300 + 100) := by
    rw [xa, Nat.pow_add]
    exact Nat.mul_lt_mul_of_pos_right h1 (by decide)
  unfold atV
  refine q_when (b_test (d_eqI (d_var rfl) d_ci)) (fun hb => ?_) (fun hb => ?_)
  · have hw : way = 0 := by have := of_decide_eq_true hb; omega
    rw [if_pos hw]
    have h3 := h3 hw
    have e : ((X.toNat * 2 ^ 100 : Nat) : Int) = X * 2 ^ 100 := by rw [Int.natCast_mul, Int.toNat_of_nonneg (by omega), pow_cast]
    have e2 : X.toNat * 2 ^ 100 < 2 ^ (300 + 100) := by
      rw [← e, Int.natAbs_natCast] at xl
      exact xl
    exact sd_ret (d_callF (X.toNat * 2 ^ 100, b + 100) (a_cons (d_isI (j := ((X.toNat * 2 ^ 100 : Nat) : Int)) (d_var (s := nI (X * 2 ^ 100)) rfl) e.symm) (a_cons (d_var (s := nI ((b + 100 : Nat) : Int)) rfl) a_nil)) ⟨Nat.mul_pos (by omega) (Nat.pow_pos (by decide)), Nat.lt_of_lt_of_le e2 (Nat.pow_le_pow_right (by decide) (by decide)), show b + 100 ≤ 800 by omega⟩) rfl
  have hw0 : way ≠ 0 := by have := of_decide_eq_false hb; omega
  rw [if_neg hw0]
  refine q_when (b_test (d_eqI (d_var rfl) d_ci)) (fun hb => ?_) (fun hb => ?_)
  · have hw : way = 1 := by have := of_decide_eq_true hb; omega
    rw [if_pos hw]
    exact sd_ret (d_callF (X * 2 ^ 100, b + 100) (a_cons (d_var rfl) (a_cons (d_var rfl) a_nil)) ⟨Nat.lt_of_lt_of_le xl (Nat.pow_le_pow_right (by decide) (by decide)), show b + 100 ≤ 300 by omega⟩) rfl
  have hw1 : way ≠ 1 := by have := of_decide_eq_false hb; omega
  rw [if_neg hw1]
  have h4 := h4 (by omega)
  have pa : (X * 2 ^ 100).natAbs ≤ 2 ^ (b + 100) := by
    rw [xa, Nat.pow_add]
    exact Nat.mul_le_mul_right _ h4
  refine q_when (b_test (d_eqI (d_var rfl) d_ci)) (fun hb => ?_) (fun hb => ?_)
  · have hw : way = 2 := by have := of_decide_eq_true hb; omega
    rw [if_pos hw]
    exact sd_ret (d_callF (X * 2 ^ 100, b + 100) (a_cons (d_var rfl) (a_cons (d_var rfl) a_nil)) ⟨pa, show b + 100 ≤ 300 by omega⟩) rfl
  have hw2 : way ≠ 2 := by have := of_decide_eq_false hb; omega
  rw [if_neg hw2]
  exact sd_ret (d_i0 (d_iC (d_callF (b + 100) (a_cons (d_var (s := nI ((b + 100 : Nat) : Int)) rfl) a_nil) (show b + 100 ≤ 800 by omega)) d_ci ⟨by decide, by decide⟩) (d_callF (X * 2 ^ 100, b + 100) (a_cons (d_var rfl) (a_cons (d_var rfl) a_nil)) ⟨pa, show b + 100 ≤ 300 by omega⟩)) rfl
def Miss (way : Nat) (a0 a1 : Int) (b : Nat) : Prop := if way = 0 then a0 ≤ 0 else if way = 1 then False else Out a0 a1 b
instance (way : Nat) (a0 a1 : Int) (b : Nat) : Decidable (Miss way a0 a1 b) := by unfold Miss; split; infer_instance; split <;> infer_instance
def resP (way : Nat) (a0 a1 : Int) (b : Nat) : Int × Int := if way = 0 then risP eLg a0 a1 b else if way = 1 then risP eAt a0 a1 b else if way = 2 then risP eAs a0 a1 b else acP a0 a1 b
def toldD (way : Nat) (a0 a1 : Int) (b : Nat) : PyData := if Miss way a0 a1 b then .bool true else pairD (resP way a0 a1 b)
abbrev spTold (K : PySem.W.Frag) : Sp := SpF K (fun a : Nat × Int × Int × Nat => [nI (a.1 : Int), .dat (pairD (a.2.1, a.2.2.1)), nI (a.2.2.2 : Int)]) (fun a => a.2.1 ≤ a.2.2.1 ∧ a.2.1.natAbs < 2 ^ 300 ∧ a.2.2.1.natAbs < 2 ^ 300 ∧ a.2.2.2 ≤ 160) fun a => toldD a.1 a.2.1 a.2.2.1 a.2.2.2
theorem ok_told {f f0 f1 f2 f3 CI CP : Addr} {fd fd0 fd1 fd2 fd3 : FuncData} (F : Fun K "_law_told" "_law_told" s_law_told f fd) (T : Errs K mg "Undefined" CI CP)
    (F_logarithm : Fun K "logarithm" "logarithm" s_logarithm f0 fd0) (b_logarithm : Binds K fd0 ["a", "bits"] []) (g_logarithm : mg "logarithm" = some (.ref f0)) (G_logarithm : FnOk P w K mg base (L2.CX P w) 8 f0 fd0 ["a", "bits"] (spLog K CI))
    (F_arctangent : Fun K "arctangent" "arctangent" s_arctangent f1 fd1) (b_arctangent : Binds K fd1 ["a", "bits"] []) (g_arctangent : mg "arctangent" = some (.ref f1)) (G_arctangent : FnOk P w K mg base CX0 8 f1 fd1 ["a", "bits"] (spAtn K))
    (F_arcsine : Fun K "arcsine" "arcsine" s_arcsine f2 fd2) (b_arcsine : Binds K fd2 ["a", "bits"] []) (g_arcsine : mg "arcsine" = some (.ref f2)) (G_arcsine : FnOk P w K mg base (L2.CX P w) 8 f2 fd2 ["a", "bits"] (spAsn (risP eAs) K CI))
    (F_arccosine : Fun K "arccosine" "arccosine" s_arccosine f3 fd3) (b_arccosine : Binds K fd3 ["a", "bits"] []) (g_arccosine : mg "arccosine" = some (.ref f3)) (G_arccosine : FnOk P w K mg base (L2.CX P w) 8 f3 fd3 ["a", "bits"] (spAsn acP K CI))
    (m_isinstance : mg "isinstance" = none) : FnOk P w K mg base CX0 9 f fd ["way", "a", "bits"] (spTold K) := by
  refine F.ok sc_law_told (fun vs H Q E ⟨_, _, _, iv, _⟩ => iv.len) (fun cdv A outer s H vs Q E hr h => ⟨_, (pss_one (ps_tryD (i := 3) (ts := fun a cls d => fun Dn σ H => ∃ D, (cls = .ref D ∧ d = none ∧ ExcC K D) ∧ tRet (tCB (rIsE K D a) (tCons (tVar 3) (tCons (tC (.ref CI)) tNil))) Dn σ H) (Wout := fun _ _ _ _ => False) rfl rfl sc_law_told.nd rfl rfl ⟨rfl, by decide, Or.inl T.gP⟩ L2.takes0
        (fun W pn xe tk _ => pss_cons (ps_if (pt_cmpR op_eq (pv 0) pe_int (nomark _)) (pss_one (ps_ret (pe_callS G_logarithm (hr.mono (by decide)) (by rfl) g_logarithm F_logarithm.kp b_logarithm (fun σ => passAt tk σ) (pa_cons (pv 1) (pa_cons (pv 2) pa_nil))))) pss_nil)
          (pss_cons (ps_if (pt_cmpR op_eq (pv 0) pe_int (nomark _)) (pss_one (ps_ret (pe_call G_arctangent (hr.mono (by decide)) (by rfl) g_arctangent F_arctangent.kp b_arctangent .nil pass0 (pa_cons (pv 1) (pa_cons (pv 2) pa_nil))))) pss_nil)
          (pss_cons (ps_if (pt_cmpR op_eq (pv 0) pe_int (nomark _)) (pss_one (ps_ret (pe_callS G_arcsine (hr.mono (by decide)) (by rfl) g_arcsine F_arcsine.kp b_arcsine (fun σ => passAt tk σ) (pa_cons (pv 1) (pa_cons (pv 2) pa_nil))))) pss_nil)
          (pss_one (ps_ret (pe_callS G_arccosine (hr.mono (by decide)) (by rfl) g_arccosine F_arccosine.kp b_arccosine (fun σ => passAt tk σ) (pa_cons (pv 1) (pa_cons (pv 2) pa_nil))))))))
        (fun a oe cls d pn hz hf => pss_ex (φ := fun D => cls = .ref D ∧ d = none ∧ ExcC K D) fun D hD => by
          obtain ⟨rfl, rfl, hE⟩ := hD
          exact pss_one (ps_ret (pe_callB (call_isE hE hz hf) (by rfl) m_isinstance (by decide +kernel) (pa_cons (pv 3) (pa_cons (pe_glob (by rfl) T.gU (show RelV (.ref CI) _ from rfl)) pa_nil))))))), run_body h fun a B ha => ?_⟩)
  obtain ⟨way, a0, a1, b⟩ := a
  obtain ⟨h1, h2, h3, h4⟩ := ha
  simp only at h1 h2 h3 h4
  refine sd_env (δ1 := [nI (way : Int), .dat (pairD (a0, a1)), nI (b : Int), .no]) rfl ?_
  have exc : ∀ {Q : Prop} [Decidable Q] {C : Addr}, (Q ↔ Miss way a0 a1 b) → (if Q then some CI else none) = some C → toldD way a0 a1 b = .bool true ∧ C = CI := fun {Q} _ {C} hq hC => by
    by_cases z : Q
    · rw [if_pos z] at hC
      exact ⟨by unfold toldD; rw [if_pos (hq.mp z)], (Option.some.inj hC).symm⟩
    · rw [if_neg z] at hC
      cases hC
  have okr : ∀ {Q : Prop} [Decidable Q], (Q ↔ Miss way a0 a1 b) → (if Q then some CI else none) = none → toldD way a0 a1 b = pairD (resP way a0 a1 b) := fun {Q} _ hq hC => by
    by_cases z : Q
    · rw [if_pos z] at hC
      cases hC
    · unfold toldD
      rw [if_neg (fun k => z (hq.mpr k))]
  refine sd_try (fun C δ' => toldD way a0 a1 b = .bool true ∧ C = CI ∧ δ' = [nI (way : Int), .dat (pairD (a0, a1)), nI (b : Int), .no]) (fun W' => ?_) fun C δ' hC => ?_
  · refine q_when (b_test (d_eqI (d_var rfl) d_ci)) (fun hb => ?_) (fun hb => ?_)
    · have hw : way = 0 := by have := of_decide_eq_true hb; omega
      have hm : a0 ≤ 0 ↔ Miss way a0 a1 b := by unfold Miss; rw [if_pos hw]
      refine sd_retX (x_callS (a0, a1, b) (a_cons (d_var rfl) (a_cons (d_var rfl) a_nil)) ⟨h1, fun z => ⟨⟨z, Nat.lt_of_lt_of_le h2 (Nat.pow_le_pow_right (by decide) (by decide)), h4⟩, ⟨show 0 < a1 from Int.lt_of_lt_of_le z h1, Nat.lt_of_lt_of_le h3 (Nat.pow_le_pow_right (by decide) (by decide)), h4⟩⟩⟩) (fun C hC => ⟨(exc hm hC).1, (exc hm hC).2, rfl⟩) fun d hd => ?_
      show d = toldD way a0 a1 b
      rw [okr hm hd.1, hd.2]
      unfold resP
      rw [if_pos hw]
    have hw0 : way ≠ 0 := by have := of_decide_eq_false hb; omega
    refine q_when (b_test (d_eqI (d_var rfl) d_ci)) (fun hb => ?_) (fun hb => ?_)
    · have hw : way = 1 := by have := of_decide_eq_true hb; omega
      refine sd_ret (d_callF (a0, a1, b) (a_cons (d_var rfl) (a_cons (d_var rfl) a_nil)) ⟨⟨Nat.lt_of_lt_of_le h2 (Nat.pow_le_pow_right (by decide) (by decide)), h4⟩, ⟨Nat.lt_of_lt_of_le h3 (Nat.pow_le_pow_right (by decide) (by decide)), h4⟩⟩) ?_
      show pairD (risP eAt a0 a1 b) = toldD way a0 a1 b
      have hm : ¬ Miss way a0 a1 b := by unfold Miss; rw [if_neg hw0, if_pos hw]; exact id
      unfold toldD
      rw [if_neg hm]
      unfold resP
      rw [if_neg hw0, if_pos hw]
    have hw1 : way ≠ 1 := by have := of_decide_eq_false hb; omega
    have hm : Out a0 a1 b ↔ Miss way a0 a1 b := by unfold Miss; rw [if_neg hw0, if_neg hw1]
    refine q_when (b_test (d_eqI (d_var rfl) d_ci)) (fun hb => ?_) (fun hb => ?_)
    · have hw : way = 2 := by have := of_decide_eq_true hb; omega
      refine sd_retX (x_callS (a0, a1, b) (a_cons (d_var rfl) (a_cons (d_var rfl) a_nil)) ⟨h1, h4⟩) (fun C hC => ⟨(exc hm hC).1, (exc hm hC).2, rfl⟩) fun d hd => ?_
      show d = toldD way a0 a1 b
      rw [okr hm hd.1, hd.2]
      unfold resP
      rw [if_neg hw0, if_neg hw1, if_pos hw]
    have hw2 : way ≠ 2 := by have := of_decide_eq_false hb; omega
    refine sd_retX (x_callS (a0, a1, b) (a_cons (d_var rfl) (a_cons (d_var rfl) a_nil)) ⟨h1, h4⟩) (fun C hC => ⟨(exc hm hC).1, (exc hm hC).2, rfl⟩) fun d hd => ?_
    show d = toldD way a0 a1 b
    rw [okr hm hd.1, hd.2]
    unfold resP
    rw [if_neg hw0, if_neg hw1, if_neg hw2]
  · obtain ⟨hb, rfl, rfl⟩ := hC
    refine ⟨T.caught, fun e => sd_ex C ⟨rfl, rfl, T.ec⟩ ?_⟩
    refine sd_env (δ1 := [_, _, _, _]) rfl ?_
    exact sd_ret (d_isE rfl) hb.symm
open Re.R (Good6)
theorem pow2k : (2 : Nat) ^ 2005 = 32 * 2 ^ 2000 ∧ (2 : Nat) ^ 2010 = 1024 * 2 ^ 2000 ∧ (2 : Nat) ^ 2020 = 1048576 * 2 ^ 2000 ∧ (2 : Nat) ^ 2030 = 1073741824 * 2 ^ 2000 := ⟨by decide +kernel, by decide +kernel, by decide +kernel, by decide +kernel⟩
theorem latA_abs {y w : Nat} (hy : y ≤ 2 ^ w) (hw : w ≤ 900) : (latA iq y w).natAbs < 2 ^ 2005 := by
  have half : 2 * hsts iq (-1) w y 4 ≤ 2 ^ w := Re.R.hst_half iq_ok (Nat.le_trans (Re.R.hsts_le iq (-1) w y 3) hy)
  have la : (lsum (-1) (hsts iq (-1) w y 4) (2 ^ w) w).natAbs < 2 ^ 2000 := lsum_abs (.inr rfl) (Nat.pow_pos (by decide)) half hw
  unfold Re.R.latA
  have h := Int.natAbs_ediv_le_natAbs (16 * lsum (-1) (hsts iq (-1) w y 4) (2 ^ w) w) (2 ^ 32)
  rw [pow2k.1]
  generalize (2 : Nat) ^ 2000 = A at *
  omega
theorem lat_abs {x : Int} {b : Nat} (hb : b ≤ 800) : (lat iq x b).natAbs < 2 ^ 2020 := by
  have h : (latN iq x.natAbs b).natAbs < 2 ^ 2020 := by
    have hp := lPi_abs hb
    have h2 := Int.natAbs_ediv_le_natAbs (lPi b) 2
    unfold Re.R.latN
    split
    · next c =>
      have h1 := latA_abs (y := 2 ^ (b + 32) * 2 ^ (b + 32) / (x.natAbs * 2 ^ 32)) (w := b + 32) (Nat.div_le_of_le_mul (Nat.mul_le_mul_right _ (Nat.le_of_lt c))) (by omega)
      rw [pow2k.1] at h1
      rw [pow2k.2.1] at hp
      rw [pow2k.2.2.1]
      have A0 : 0 < (2 : Nat) ^ 2000 := Nat.pow_pos (by decide)
      generalize (2 : Nat) ^ 2000 = A at *
      omega
    · next c =>
      have h1 := latA_abs (y := x.natAbs * 2 ^ 32) (w := b + 32) (Nat.le_of_not_lt c) (by omega)
      rw [pow2k.1] at h1
      rw [pow2k.2.2.1]
      generalize (2 : Nat) ^ 2000 = A at *
      omega
  unfold Re.R.lat
  split
  · rw [Int.natAbs_neg]
    exact h
  · exact h
theorem las_abs {x : Int} {b : Nat} (hb : b ≤ 800) : (las iq x b).natAbs < 2 ^ 2020 := by
  unfold Re.R.las
  split
  · have hp := lPi_abs hb
    have h2 := Int.natAbs_ediv_le_natAbs (lPi b) 2
    rw [pow2k.2.1] at hp
    rw [pow2k.2.2.1]
    have A0 : 0 < (2 : Nat) ^ 2000 := Nat.pow_pos (by decide)
    generalize (2 : Nat) ^ 2000 = A at *
    split <;> omega
  · exact lat_abs hb
theorem llog_abs {x n b : Nat} (hb : b ≤ 800) (h1 : 2 ^ n ≤ 2 * x) (h2 : x < 2 ^ n) (hn : ((n : Int) - (b : Int)).natAbs ≤ 1000) : (llog x n b).natAbs < 2 ^ 2025 := by
  have e25 : (2 : Nat) ^ 2025 = 33554432 * 2 ^ 2000 := by decide +kernel
  have l1 : (lsum 1 1 3 (b + 32)).natAbs < 2 ^ 2000 := lsum_abs (.inl rfl) (by decide) (by decide) (by omega)
  have l2 : (lsum 1 (2 ^ n - x) (x + 2 ^ n) (b + 32)).natAbs < 2 ^ 2000 := lsum_abs (.inl rfl) (by omega) (by omega) (by omega)
  unfold Re.R.llog
  rw [e25]
  generalize lsum 1 1 3 (b + 32) = u at *
  generalize lsum 1 (2 ^ n - x) (x + 2 ^ n) (b + 32) = v at *
  have h4 := Int.natAbs_ediv_le_natAbs (2 * ((n : Int) - (b : Int)) * u + 2 * -v) (2 ^ 32)
  have h3 : (2 * ((n : Int) - (b : Int)) * u).natAbs ≤ 2000 * u.natAbs := by
    rw [Int.natAbs_mul]
    exact Nat.mul_le_mul_right _ (by omega)
  generalize (2 * ((n : Int) - (b : Int)) * u + 2 * -v) / 2 ^ 32 = y at *
  generalize (2 : Nat) ^ 2000 = A at *
  generalize 2 * ((n : Int) - (b : Int)) * u = z at *
  omega
theorem side_ok {c b : Nat} (hc : 0 < c) (hl : c < 2 ^ 300) (hb : b ≤ 160) : 2 ^ bitN (c * 2 ^ 100) ≤ 2 * (c * 2 ^ 100) ∧ c * 2 ^ 100 < 2 ^ bitN (c * 2 ^ 100) ∧ ((bitN (c * 2 ^ 100) : Int) - ((b + 100 : Nat) : Int)).natAbs ≤ 1000 := by
  have hp : 0 < c * 2 ^ 100 := Nat.mul_pos hc (Nat.pow_pos (by decide))
  have hN : c * 2 ^ 100 < 2 ^ (300 + 100) := by rw [Nat.pow_add]; exact Nat.mul_lt_mul_of_pos_right hl (Nat.pow_pos (by decide))
  generalize c * 2 ^ 100 = N at *
  obtain ⟨b1, b2, b3⟩ := bits_two hp
  have bl : bitN N ≤ 400 := bits_le (by rw [Int.natAbs_natCast]; exact hN)
  have e : 2 ^ bitN N = 2 ^ (bitN N - 1) * 2 := by
    rw [← Nat.pow_succ]
    congr 1
    have : 1 ≤ bitN N := b1
    omega
  refine ⟨?_, b3, by omega⟩
  have b2 : 2 ^ (bitN N - 1) ≤ N := b2
  rw [e, Nat.mul_comm]
  exact Nat.mul_le_mul_left 2 b2
theorem acos_abs {X : Int} {b : Nat} (hb : b ≤ 800) : (lPi b / 2 - las iq X b).natAbs < 2 ^ 2025 := by
  have A0 : 0 < (2 : Nat) ^ 2000 := Nat.pow_pos (by decide)
  have e25 : (2 : Nat) ^ 2025 = 33554432 * 2 ^ 2000 := by decide +kernel
  have hp := lPi_abs hb
  have h2 := Int.natAbs_ediv_le_natAbs (lPi b) 2
  have h1 := las_abs (x := X) hb
  rw [pow2k.2.1] at hp
  rw [pow2k.2.2.1] at h1
  rw [e25]
  generalize las iq X b = y at *
  generalize lPi b / 2 = z at *
  generalize (2 : Nat) ^ 2000 = A at *
  omega
theorem atV_abs {way : Nat} {X : Int} {b : Nat} (hb : b ≤ 160) (h0 : way = 0 → 0 < X ∧ X.natAbs < 2 ^ 300) : (atV way X b).natAbs < 2 ^ 2025 := by
  have k : (2 : Nat) ^ 2020 ≤ 2 ^ 2025 := Nat.pow_le_pow_right (by decide) (by decide)
  unfold atV
  generalize hB : b + 100 = B
  split
  · next c =>
    obtain ⟨p, l⟩ := h0 c
    obtain ⟨s1, s2, s3⟩ := side_ok (c := X.toNat) (b := b) (by omega) (by omega) hb
    rw [hB] at s3
    exact llog_abs (by omega) s1 s2 s3
  · generalize X * 2 ^ 100 = Y
    split
    · exact Nat.lt_of_lt_of_le (lat_abs (by omega)) k
    · split
      · exact Nat.lt_of_lt_of_le (las_abs (by omega)) k
      · exact acos_abs (by omega)
theorem p_bd {lo hi mn mx : Int} (h : Good6 lo hi mn mx) (m : mn.natAbs < 2 ^ 2025) (x : mx.natAbs < 2 ^ 2025) : lo.natAbs < 2 ^ 2030 ∧ hi.natAbs < 2 ^ 2030 := by
  obtain ⟨g1, g2, g3⟩ := h
  have e25 : (2 : Nat) ^ 2030 = 32 * 2 ^ 2025 := by decide +kernel
  have e1 : (2 : Nat) ^ 2025 = 2 ^ 100 * 2 ^ 1925 := by decide +kernel
  have A0 : 0 < (2 : Nat) ^ 1925 := Nat.pow_pos (by decide)
  rw [e25]
  have e2 : 1000 ≤ (2 : Nat) ^ 2025 := by rw [e1]; omega
  generalize (2 : Nat) ^ 2025 = A at *
  omega
/-! ### what the law asks holds -/
theorem good_all {way : Nat} {a0 a1 : Int} {b : Nat} (hw : way < 4) (hle : a0 ≤ a1) (hb : b ≤ 160) (n0 : a0.natAbs < 2 ^ 300) (n1 : a1.natAbs < 2 ^ 300) (hm : ¬ Miss way a0 a1 b) {mn mx : Int}
    (m1 : mn = atV way a0 b ∨ mn = atV way a1 b) (m2 : mx = atV way a0 b ∨ mx = atV way a1 b) (l1 : mn ≤ atV way a0 b ∧ mn ≤ atV way a1 b) (l2 : atV way a0 b ≤ mx ∧ atV way a1 b ≤ mx) : Good6 (resP way a0 a1 b).1 (resP way a0 a1 b).2 mn mx := by
  rcases (by omega : way = 0 ∨ way = 1 ∨ way = 2 ∨ way = 3) with rfl | rfl | rfl | rfl
  · have p0 : 0 < a0 := by
      have hm : ¬ a0 ≤ 0 := hm
      omega
    obtain ⟨c0, rfl⟩ : ∃ c0 : Nat, a0 = (c0 : Int) := ⟨a0.toNat, by omega⟩
    obtain ⟨c1, rfl⟩ : ∃ c1 : Nat, a1 = (c1 : Int) := ⟨a1.toNat, by omega⟩
    rw [Int.natAbs_natCast] at n0 n1
    have side : ∀ c : Nat, 0 < c → c < 2 ^ 300 → 1 ≤ hv (b + 32 + 16 + cOf c b) ∧ b + cOf c b + hv (b + 32 + 16 + cOf c b) + 112 ≤ 900 ∧ 2 ^ sOf c ≤ c ∧ c < 2 ^ (sOf c + 1) ∧ ((sOf c : Int) - (b : Int)).natAbs ≤ 2 ^ cOf c b ∧ 2 ^ bitN (c * 2 ^ 100) ≤ 2 * (c * 2 ^ 100) ∧ c * 2 ^ 100 < 2 ^ bitN (c * 2 ^ 100) ∧ ((bitN (c * 2 ^ 100) : Int) - ((b + 100 : Nat) : Int)).natAbs ≤ 1000 := fun c hc hl => by
      have hl4 : c < 2 ^ 400 := Nat.lt_of_lt_of_le hl (Nat.pow_le_pow_right (by decide) (by decide))
      have k := cOf_le hc hl4 (b := b) (by omega)
      obtain ⟨g1, g2⟩ := hv_bd (b := b + 32 + 16 + cOf c b) (by omega)
      obtain ⟨s1, s2⟩ := sOf_ok hc
      have ck := cOf_ok c b
      obtain ⟨t1, t2, t3⟩ := side_ok hc hl hb
      exact ⟨by omega, by omega, s1, s2, by omega, t1, t2, t3⟩
    obtain ⟨h1, h2, h3, h4, h5, h6, h7, h8⟩ := side c0 (by omega) n0
    obtain ⟨k1, k2, k3, k4, k5, k6, k7, k8⟩ := side c1 (by omega) n1
    have ea : ∀ c : Nat, atV 0 (c : Int) b = llog (c * 2 ^ 100) (bitN (c * 2 ^ 100)) (b + 100) := fun c => by
      unfold atV
      rw [if_pos rfl, Int.toNat_natCast]
    have er : resP 0 (c0 : Int) (c1 : Int) b = ((lgAt iq (hv (b + 32 + 16 + cOf c0 b)) c0 (sOf c0) b (cOf c0 b)).1, (lgAt iq (hv (b + 32 + 16 + cOf c1 b)) c1 (sOf c1) b (cOf c1 b)).2) := by
      unfold resP
      rw [if_pos rfl]
      unfold risP eLg
      rw [Int.toNat_natCast, Int.toNat_natCast]
    rw [ea, ea] at m1 m2 l1 l2
    rw [er]
    have hle' : c0 ≤ c1 := by omega
    have hp0 : 0 < c0 := by omega
    have hb2 : b ≤ 200 := by omega
    clear ea er side hm p0
    exact Re.R.way0 iq_ok hb2 hle' hp0 h1 h2 h3 h4 h5 k1 k2 k3 k4 k5 h6 h7 h8 k6 k7 k8 m1 m2 l1 l2
  · obtain ⟨g1, g2⟩ := hv_bd (b := b + 32 + 16) (by omega)
    have ea : ∀ c : Int, atV 1 c b = lat iq (c * 2 ^ 100) (b + 100) := fun c => by
      unfold atV
      rw [if_neg (by decide), if_pos rfl]
    have er : resP 1 a0 a1 b = ((atAt iq (hv (b + 32 + 16)) a0 b).1, (atAt iq (hv (b + 32 + 16)) a1 b).2) := by
      unfold resP
      rw [if_neg (by decide), if_pos rfl]
      unfold risP eAt
      rfl
    rw [ea, ea] at m1 m2 l1 l2
    rw [er]
    exact Re.R.way1 iq_ok (h := hv (b + 32 + 16)) (by omega) (by omega) (by omega) hle m1 m2 l1 l2
  · obtain ⟨g1, g2⟩ := hv_bd (b := b + 32 + 32) (by omega)
    obtain ⟨o0, o1⟩ := not_out hm hle
    have ea : ∀ c : Int, atV 2 c b = las iq (c * 2 ^ 100) (b + 100) := fun c => by
      unfold atV
      rw [if_neg (by decide), if_neg (by decide), if_pos rfl]
    have er : resP 2 a0 a1 b = ((asAt iq (hv (b + 32 + 32)) a0 b).1, (asAt iq (hv (b + 32 + 32)) a1 b).2) := by
      unfold resP
      rw [if_neg (by decide), if_neg (by decide), if_pos rfl]
      unfold risP eAs
      rfl
    rw [ea, ea] at m1 m2 l1 l2
    rw [er]
    exact Re.R.way2 iq_ok (h := hv (b + 32 + 32)) (by omega) (by omega) (by omega) hle o0 o1 m1 m2 l1 l2
  · obtain ⟨g1, g2⟩ := hv_bd (b := b + 32 + 48) (by omega)
    obtain ⟨o0, o1⟩ := not_out hm hle
    have ea : ∀ c : Int, atV 3 c b = lPi (b + 100) / 2 - las iq (c * 2 ^ 100) (b + 100) := fun c => by
      unfold atV
      rw [if_neg (by decide), if_neg (by decide), if_neg (by decide)]
    have er : resP 3 a0 a1 b = (max (acAt iq (hv (b + 32 + 48)) a1 b).1 0, (acAt iq (hv (b + 32 + 48)) a0 b).2) := by
      unfold resP
      rw [if_neg (by decide), if_neg (by decide), if_neg (by decide)]
      unfold acP risP eAc
      rfl
    rw [ea, ea] at m1 m2 l1 l2
    rw [er]
    exact Re.R.way3 iq_ok (h := hv (b + 32 + 48)) (by omega) (by omega) (by omega) hle o0 o1 m1 m2 l1 l2
/-! ### the law -/
def spLaw (K : PySem.W.Frag) : Sp := fun vs H Q _ => ∃ (a : Addr) (ns : List Int), vs = [.ref a] ∧ SqL K H a (ns.map V.int) ∧ ns.length ≤ 63 ∧ (∀ z ∈ ns, Builtin.Int.intBits z ≤ 1048576) ∧ ∀ H', Q (.bl true) H'
theorem d_notB {B0 H0 : Hp} {δ : List Sl} {ta tb : TE} {b c : Bool} (ha : EvS K B0 H0 ta δ (nB b)) (hb : EvS K B0 H0 tb δ (nB c)) : EvS K B0 H0 (tOp rNotB ta tb) δ (nB (!decide (b = c))) := d_bbb ha hb fun _ => rv_notB
theorem mem_mn {l : List Int} (h : l ≠ []) : ∃ m, m ∈ l ∧ ∀ v ∈ l, m ≤ v := by
  induction l with
  | nil => exact absurd rfl h
  | cons a r ih =>
    rcases r with _ | ⟨c, r⟩
    · exact ⟨a, .head _, fun v hv => by rw [List.mem_singleton.mp hv]; omega⟩
    · obtain ⟨m, m1, m2⟩ := ih (by simp)
      rcases (by omega : a ≤ m ∨ m ≤ a) with z | z
      · exact ⟨a, .head _, fun v hv => by
          rcases List.mem_cons.mp hv with e | e
          · omega
          · have := m2 v e
            omega⟩
      · exact ⟨m, .tail _ m1, fun v hv => by
          rcases List.mem_cons.mp hv with e | e
          · omega
          · exact m2 v e⟩
theorem mem_mx {l : List Int} (h : l ≠ []) : ∃ m, m ∈ l ∧ ∀ v ∈ l, v ≤ m := by
  obtain ⟨m, m1, m2⟩ := mem_mn (l := l.map fun x => -x) (by simpa using h)
  obtain ⟨y, y1, rfl⟩ := List.mem_map.mp m1
  exact ⟨y, y1, fun v hv => by
    have := m2 (-v) (List.mem_map.mpr ⟨v, hv, rfl⟩)
    omega⟩
theorem cell_big {ns : List Int} (h : ∀ z ∈ ns, Builtin.Int.intBits z ≤ 1048576) (k : Nat) : (cellOf ns k).natAbs < 2 ^ 1048576 := by
  have hz : Builtin.Int.intBits (cellOf ns k) ≤ 1048576 := by
    unfold cellOf
    rw [List.getD_eq_getElem?_getD]
    rcases Nat.lt_or_ge k ns.length with c | c
    · rw [List.getElem?_eq_getElem c]
      exact h _ (List.getElem_mem c)
    · rw [List.getElem?_eq_none c]
      decide
  exact Nat.lt_of_lt_of_le (bits_lt _) (Nat.pow_le_pow_right (by decide) hz)
theorem spr_in (x : Int) {m : Int} (hm : 0 < m) : 0 ≤ spr x m ∧ spr x m < m := ⟨Int.emod_nonneg _ (by omega), Int.emod_lt_of_pos _ hm⟩
theorem or_no {p q : Prop} [Decidable p] [Decidable q] (h1 : ¬ p) (h2 : ¬ q) : (decide p || decide q) = false := by
  rw [decide_eq_false h1, decide_eq_false h2]
  rfl
def missL (a0 a1 u : Int) : List PyData := [.bool (decide (a0 ≤ 0)), .bool false, .bool (decide (a0 < -u) || decide (a1 > u)), .bool (decide (a0 < -u) || decide (a1 > u))]
theorem miss_at {a0 a1 : Int} {b i : Nat} (hi : i < 4) : atI (missL a0 a1 (2 ^ b)) (i : Int) = some (.bool (decide (Miss i a0 a1 b))) := by
  have ho : (decide (a0 < -(2 ^ b)) || decide (a1 > 2 ^ b)) = decide (Out a0 a1 b) := by
    have e : Out a0 a1 b ↔ (a0 < -(2 ^ b) ∨ a1 > 2 ^ b) := Iff.rfl
    rw [Bool.eq_iff_iff]
    simp only [Bool.or_eq_true, decide_eq_true_eq]
    exact e.symm
  unfold missL
  rw [ho]
  rcases (by omega : i = 0 ∨ i = 1 ∨ i = 2 ∨ i = 3) with rfl | rfl | rfl | rfl <;> rfl
theorem ok_law {f fe1 fe2 fe3 fe4 fe5 fe6 fe7 : Addr} {fd fde1 fde2 fde3 fde4 fde5 fde6 fde7 : FuncData} (F : Fun K "law" "law" s_law f fd)
    (F_law_cell : Fun K "_law_cell" "_law_cell" s_law_cell fe1 fde1) (b_law_cell : Binds K fde1 ["script", "k"] []) (g_law_cell : mg "_law_cell" = some (.ref fe1))
    (F_law_spread : Fun K "_law_spread" "_law_spread" s_law_spread fe2 fde2) (b_law_spread : Binds K fde2 ["figure", "most"] []) (g_law_spread : mg "_law_spread" = some (.ref fe2))
    (F_law_is_integer : Fun K "_law_is_integer" "_law_is_integer" s_law_is_integer fe3 fde3) (b_law_is_integer : Binds K fde3 ["actual"] []) (g_law_is_integer : mg "_law_is_integer" = some (.ref fe3))
    (F_law_pi : Fun K "_law_pi" "_law_pi" s_law_pi fe4 fde4) (b_law_pi : Binds K fde4 ["b"] []) (g_law_pi : mg "_law_pi" = some (.ref fe4)) (G_law_pi : FnOk P w K mg base CX0 2 fe4 fde4 ["b"] (spLPi K))
    (F_law_told : Fun K "_law_told" "_law_told" s_law_told fe5 fde5) (b_law_told : Binds K fde5 ["way", "a", "bits"] []) (g_law_told : mg "_law_told" = some (.ref fe5)) (G_law_told : FnOk P w K mg base CX0 9 fe5 fde5 ["way", "a", "bits"] (spTold K))
    (F_law_at : Fun K "_law_at" "_law_at" s_law_at fe6 fde6) (b_law_at : Binds K fde6 ["way", "x", "bits"] []) (g_law_at : mg "_law_at" = some (.ref fe6)) (G_law_at : FnOk P w K mg base CX0 5 fe6 fde6 ["way", "x", "bits"] (spAt K))
    (F_pi_enclosed : Fun K "pi_enclosed" "pi_enclosed" s_pi_enclosed fe7 fde7) (b_pi_enclosed : Binds K fde7 ["bits"] []) (g_pi_enclosed : mg "pi_enclosed" = some (.ref fe7)) (G_pi_enclosed : FnOk P w K mg base CX0 3 fe7 fde7 ["bits"] (spPiE K))
    (m_len : mg "len" = none) (m_abs : mg "abs" = none) (m_int : mg "int" = none) (m_bool : mg "bool" = none) (m_tuple : mg "tuple" = none) (m_range : mg "range" = none) (m_isinstance : mg "isinstance" = none) (m_min : mg "min" = none) (m_max : mg "max" = none) :
    FnOk P w K mg base CX0 10 f fd ["script"] (spLaw K) := by
  have G_law_cell : FnOk P w K mg base CX0 1 fe1 fde1 ["script", "k"] (spCell K) := ok_cell F_law_cell m_len
  have G_law_spread := ok_spread (P := P) (w := w) (base := base) F_law_spread m_abs m_int
  have G_law_is_integer : FnOk P w K mg base CX0 1 fe3 fde3 ["actual"] (spIntg K) := ok_intg F_law_is_integer m_isinstance m_int m_bool
  refine F.ok sc_law (fun vs H Q E h => ?_) (fun cdv A outer s H vs Q E hr h => ?_)
  · obtain ⟨a, ns, rfl, _⟩ := h
    rfl
  obtain ⟨sa, ns, rfl, hS, hl, hbits, fin⟩ := h
  refine ⟨_, (pss_cons (ps_set (i := 1) sc_law.nd rfl (.inl rfl) (pe_callB call_abs (by rfl) m_abs (by decide +kernel) (pa_cons (pe_call G_law_cell (hr.mono (by decide)) (by rfl) g_law_cell F_law_cell.kp b_law_cell .nil pass0 (pa_cons (pv 0) (pa_cons pe_int pa_nil))) pa_nil)))
        (pss_cons (ps_set (i := 2) sc_law.nd rfl (.inl rfl) (pe_callB call_abs (by rfl) m_abs (by decide +kernel) (pa_cons (pe_call G_law_cell (hr.mono (by decide)) (by rfl) g_law_cell F_law_cell.kp b_law_cell .nil pass0 (pa_cons (pv 0) (pa_cons pe_int pa_nil))) pa_nil)))
        (pss_cons (ps_set (i := 3) sc_law.nd rfl (.inl rfl) (pe_op op_add pe_int (pe_op op_mod (pe_callTy call_int1 (by rfl) m_int (by decide +kernel) (pa_cons (pv 1) pa_nil)) pe_int)))
        (pss_cons (ps_set (i := 4) sc_law.nd rfl (.inl rfl) (pe_op op_oneShl pe_int (pv 3)))
        (pss_cons (ps_set (i := 5) sc_law.nd rfl (.inl rfl) (pe_op op_sub (pe_call G_law_spread (hr.mono (by decide)) (by rfl) g_law_spread F_law_spread.kp b_law_spread .nil pass0 (pa_cons (pv 2) (pa_cons (pe_op op_mulX pe_int (pv 4)) pa_nil))) (pv 4)))
        (pss_cons (ps_set (i := 6) sc_law.nd rfl (.inl rfl) (pe_op op_mod (pe_op op_fdiv (pv 1) pe_int) pe_int))
        (Evl.pss_cut (ps_if (pt_cmpR op_eq (pv 6) pe_int (nomark _)) (pss_one (ps_set (i := 5) sc_law.nd rfl (.inl rfl) (pe_op op_sub (pe_call G_law_spread (hr.mono (by decide)) (by rfl) g_law_spread F_law_spread.kp b_law_spread .nil pass0 (pa_cons (pv 2) (pa_cons (pe_op op_mulX pe_int (pv 4)) pa_nil))) (pe_op op_mulX pe_int (pv 4))))) pss_nil)
        (Evl.pss_cut (ps_if (pt_cmpR op_eq (pv 6) pe_int (nomark _)) (pss_one (ps_set (i := 5) sc_law.nd rfl (.inl rfl) (pe_ix ix_list (pe_lst (pa_cons pe_int (pa_cons pe_int (pa_cons (pe_un un_neg (pv 4)) (pa_cons (pv 4) (pa_cons (pe_un un_neg pe_int) (pa_cons (pe_op op_sub (pv 4) pe_int) (pa_cons (pe_op op_sub (pe_un un_neg (pv 4)) pe_int) (pa_cons pe_int pa_nil))))))))) (pe_op op_mod (pe_callTy call_int1 (by rfl) m_int (by decide +kernel) (pa_cons (pv 2) pa_nil)) pe_int) (fun _ _ => rfl)))) pss_nil)
        (pss_cons (ps_set (i := 7) sc_law.nd rfl (.inl rfl) (pe_ix ix_list (pe_lst (pa_cons pe_int (pa_cons (pe_op op_mod (pe_op op_fdiv (pv 1) pe_int) pe_int) (pa_cons (pe_call G_law_spread (hr.mono (by decide)) (by rfl) g_law_spread F_law_spread.kp b_law_spread .nil pass0 (pa_cons (pv 1) (pa_cons (pv 4) pa_nil))) (pa_cons pe_int pa_nil))))) (pe_op op_mod (pe_op op_fdiv (pv 2) pe_int) pe_int) (fun _ _ => rfl)))
        (pss_cons (ps_set (i := 8) sc_law.nd rfl (.inl rfl) (pe_tup (pa_cons (pv 5) (pa_cons (pe_op op_add (pv 5) (pv 7)) pa_nil))))
        (pss_cons (ps_for PassesOwn.never rfl (pi_range1 (by rfl) m_range (pa_cons pe_int pa_nil)) (pg_name (i := 9) sc_law.nd rfl (.inl rfl)) (pss_cons (ps_set (i := 10) sc_law.nd rfl (.inl rfl) (pe_ix ix_list (pe_lst (pa_cons (pe_cmpR op_le (pe_ix ix_tup (pv 8) pe_int (fun _ _ => rfl)) pe_int (nomark _)) (pa_cons pe_bl (pa_cons (pe_or (pe_cmpR op_lt (pe_ix ix_tup (pv 8) pe_int (fun _ _ => rfl)) (pe_un un_neg (pv 4)) (nomark _)) (pe_one (pe_cmpR op_gt (pe_ix ix_tup (pv 8) pe_int (fun _ _ => rfl)) (pv 4) (nomark _)))) (pa_cons (pe_or (pe_cmpR op_lt (pe_ix ix_tup (pv 8) pe_int (fun _ _ => rfl)) (pe_un un_neg (pv 4)) (nomark _)) (pe_one (pe_cmpR op_gt (pe_ix ix_tup (pv 8) pe_int (fun _ _ => rfl)) (pv 4) (nomark _)))) pa_nil))))) (pv 9) (fun _ _ => rfl)))
        (pss_cons (ps_set (i := 11) sc_law.nd rfl (.inl rfl) (pe_call G_law_told (hr.mono (by decide)) (by rfl) g_law_told F_law_told.kp b_law_told .nil pass0 (pa_cons (pv 9) (pa_cons (pv 8) (pa_cons (pv 3) pa_nil)))))
        (pss_cons (ps_if (pt_val (pv 10)) (pss_cons (ps_if (pt_cmpR op_notBl (pv 11) pe_bl (nomark _)) (pss_one (ps_ret pe_bl)) pss_nil)
        (pss_one ps_continue)) pss_nil)
        (pss_cons (ps_if (PW.pt (pw_or (pt_not (pt_val (pe_callB call_isi (by rfl) m_isinstance (by decide +kernel) (pa_cons (pv 11) (pa_cons (pe_bltn (by rfl) m_tuple (by decide +kernel) (show RelV (.ty "tuple") _ from rfl)) pa_nil))))) (pw_or (pt_not (pt_val (pe_call G_law_is_integer (hr.mono (by decide)) (by rfl) g_law_is_integer F_law_is_integer.kp b_law_is_integer .nil pass0 (pa_cons (pe_ix ix_tup (pv 11) pe_int (fun _ _ => rfl)) pa_nil)))) (pw_or1 (pt_not (pt_val (pe_call G_law_is_integer (hr.mono (by decide)) (by rfl) g_law_is_integer F_law_is_integer.kp b_law_is_integer .nil pass0 (pa_cons (pe_ix ix_tup (pv 11) pe_int (fun _ _ => rfl)) pa_nil)))))))) (pss_one (ps_ret pe_bl)) pss_nil)
        (pss_cons (ps_set (i := 12) sc_law.nd rfl (.inl rfl) (pe_lst (pa_cons (pe_call G_law_at (hr.mono (by decide)) (by rfl) g_law_at F_law_at.kp b_law_at .nil pass0 (pa_cons (pv 9) (pa_cons (pe_ix ix_tup (pv 8) pe_int (fun _ _ => rfl)) (pa_cons (pv 3) pa_nil)))) (pa_cons (pe_call G_law_at (hr.mono (by decide)) (by rfl) g_law_at F_law_at.kp b_law_at .nil pass0 (pa_cons (pv 9) (pa_cons (pe_ix ix_tup (pv 8) pe_int (fun _ _ => rfl)) (pa_cons (pv 3) pa_nil)))) pa_nil))))
        (pss_cons (ps_set (i := 13) sc_law.nd rfl (.inl rfl) (pe_op op_oneShl pe_int pe_int))
        (pss_cons (ps_if (PW.pt (pw_or (pt_cmpR op_gt (pe_op op_shlN (pe_ix ix_tup (pv 11) pe_int (fun _ _ => rfl)) pe_int) (pe_op op_add (pe_callB (cr_min rfl) (by rfl) m_min (by decide +kernel) (pa_cons (pv 12) pa_nil)) (pv 13)) (nomark _)) (pw_or1 (pt_cmpR op_lt (pe_op op_shlN (pe_ix ix_tup (pv 11) pe_int (fun _ _ => rfl)) pe_int) (pe_op op_sub (pe_callB (cr_max rfl) (by rfl) m_max (by decide +kernel) (pa_cons (pv 12) pa_nil)) (pv 13)) (nomark _))))) (pss_one (ps_ret pe_bl)) pss_nil)
        (pss_one (ps_if (pt_cmpR op_gt (pe_op op_sub (pe_ix ix_tup (pv 11) pe_int (fun _ _ => rfl)) (pe_ix ix_tup (pv 11) pe_int (fun _ _ => rfl))) (pe_op op_add (pe_op op_sub (pe_op op_shrN (pe_callB (cr_max rfl) (by rfl) m_max (by decide +kernel) (pa_cons (pv 12) pa_nil)) pe_int) (pe_op op_shrN (pe_callB (cr_min rfl) (by rfl) m_min (by decide +kernel) (pa_cons (pv 12) pa_nil)) pe_int)) pe_int) (nomark _)) (pss_one (ps_ret pe_bl)) pss_nil))))))))))
        (pss_cons (ps_set (i := 14) sc_law.nd rfl (.inl rfl) (pe_call G_pi_enclosed (hr.mono (by decide)) (by rfl) g_pi_enclosed F_pi_enclosed.kp b_pi_enclosed .nil pass0 (pa_cons (pv 3) pa_nil)))
        (pss_cons (ps_set (i := 15) sc_law.nd rfl (.inl rfl) (pe_call G_law_pi (hr.mono (by decide)) (by rfl) g_law_pi F_law_pi.kp b_law_pi .nil pass0 (pa_cons (pe_op op_add (pv 3) pe_int) pa_nil)))
        (pss_one (ps_ret (pe_and (pe_cmpR op_le (pe_op op_shlN (pe_ix ix_tup (pv 14) pe_int (fun _ _ => rfl)) pe_int) (pe_op op_add (pv 15) pe_int) (nomark _)) (pe_and (pe_cmpR op_le (pv 15) (pe_op op_add (pe_op op_shlN (pe_ix ix_tup (pv 14) pe_int (fun _ _ => rfl)) pe_int) pe_int) (nomark _)) (pe_one (pe_chain op_le op_le pe_int (pe_op op_sub (pe_ix ix_tup (pv 14) pe_int (fun _ _ => rfl)) (pe_ix ix_tup (pv 14) pe_int (fun _ _ => rfl))) pe_int))))))))))))))))))), run_law hS fin (n := 15) rfl fun B => ?_⟩
  have o1 := cell_big hbits 0
  have o2 := cell_big hbits 1
  refine q_asg [_, nI (((cellOf ns 0).natAbs : Nat) : Int), _, _, _, _, _, _, _, _, _, _, _, _, _, _] (d_abs (d_callF (ns, 0) (a_cons (d_var rfl) (a_cons d_ci a_nil)) trivial)) ?_
  refine q_asg [_, _, nI (((cellOf ns 1).natAbs : Nat) : Int), _, _, _, _, _, _, _, _, _, _, _, _, _] (d_abs (d_callF (ns, 1) (a_cons (d_var rfl) (a_cons d_ci a_nil)) trivial)) ?_
  generalize (cellOf ns 0).natAbs = o at *
  generalize (cellOf ns 1).natAbs = t at *
  obtain ⟨b, hb, hb1, hb2⟩ : ∃ b : Nat, 8 + (o : Int) % 153 = (b : Int) ∧ 8 ≤ b ∧ b ≤ 160 := ⟨8 + o % 153, by omega, by omega, by omega⟩
  refine q_asg [_, _, _, nI (b : Int), _, _, _, _, _, _, _, _, _, _, _, _] (d_isI (j := (b : Int)) (d_i0 d_ci (d_iC (d_int (d_var (s := nI (o : Int)) rfl)) d_ci (by decide))) hb) ?_
  refine q_asg [_, _, _, _, nI (2 ^ b), _, _, _, _, _, _, _, _, _, _, _] (d_one (k := b) d_ci (d_var (s := nI (b : Int)) rfl) (by omega)) ?_
  have u0 : (0 : Int) < 2 ^ b := Int.pow_pos (by decide)
  have us : ((2 : Int) ^ b).natAbs < 2 ^ 161 := by
    rw [Int.natAbs_pow]
    exact Nat.pow_lt_pow_right (by decide) (by omega)
  have mu : ∀ c : Int, c.natAbs < 2 ^ 100 → CMulX c (2 ^ b) := fun c hc => mulx_ok (a := 100) (b := 161) hc us (by decide)
  have ob : ((o : Nat) : Int).natAbs < 2 ^ 1048576 := by rw [Int.natAbs_natCast]; exact o1
  have tb : ((t : Nat) : Int).natAbs < 2 ^ 1048576 := by rw [Int.natAbs_natCast]; exact o2
  generalize hu : (2 : Int) ^ b = u at *
  have spt : ∀ x c : Int, 0 < c → 0 ≤ spr x (c * u) ∧ spr x (c * u) < c * u := fun x c hc => spr_in _ (Int.mul_pos hc u0)
  have t2 := spt (t : Int) 2 (by decide)
  have t9 := spt (t : Int) 9000 (by decide)
  have s1 : 0 ≤ spr (o : Int) u ∧ spr (o : Int) u < u := spr_in _ u0
  refine q_asg [_, _, _, _, _, nI (spr (t : Int) (2 * u) - u), _, _, _, _, _, _, _, _, _, _] (d_i0 (d_callF ((t : Int), 2 * u) (a_cons (d_var (s := nI (t : Int)) rfl) (a_cons (d_iC d_ci (d_var (s := nI u) rfl) (mu 2 (by decide))) a_nil)) ⟨tb, Int.mul_pos (by decide) u0⟩) (d_var (s := nI u) rfl)) ?_
  refine q_asg [_, _, _, _, _, _, nI ((o : Int) / 256 % 6), _, _, _, _, _, _, _, _, _] (d_iC (d_iC (d_var (s := nI (o : Int)) rfl) d_ci ⟨by decide, by decide⟩) d_ci (by decide)) ?_
  refine sd_cut (M := fun δ => ∃ low : Int, low.natAbs ≤ (9000 * u).natAbs ∧ δ = [.sem (scrP K ns), nI (o : Int), nI (t : Int), nI (b : Int), nI u, nI low, nI ((o : Int) / 256 % 6), .no, .no, .no, .no, .no, .no, .no, .no, .no]) (sd_when (b_test (d_eqI (d_var (s := nI ((o : Int) / 256 % 6)) rfl) d_ci)) (fun _ => sd_asg (s := nI (spr (t : Int) (9000 * u) - 100 * u)) (d_i0 (d_callF ((t : Int), 9000 * u) (a_cons (d_var (s := nI (t : Int)) rfl) (a_cons (d_iC d_ci (d_var (s := nI u) rfl) (mu 9000 (by decide))) a_nil)) ⟨tb, Int.mul_pos (by decide) u0⟩) (d_iC d_ci (d_var (s := nI u) rfl) (mu 100 (by decide)))) ⟨_, by omega, rfl⟩) fun _ => ⟨_, by omega, rfl⟩) fun δ' ⟨low0, hl0, e⟩ => ?_
  subst e
  obtain ⟨l8, hl8, hl8b⟩ : ∃ l8 : Int, atI [PyData.int 0, .int 1, .int (-u), .int u, .int (-1), .int (u - 3), .int (-u - 1), .int 2] ((t : Int) % 8) = some (.int l8) ∧ l8.natAbs ≤ (9000 * u).natAbs := by
    have e : (t : Int) % 8 = ((t % 8 : Nat) : Int) := by omega
    rw [e]
    rcases (by omega : t % 8 = 0 ∨ t % 8 = 1 ∨ t % 8 = 2 ∨ t % 8 = 3 ∨ t % 8 = 4 ∨ t % 8 = 5 ∨ t % 8 = 6 ∨ t % 8 = 7) with h | h | h | h | h | h | h | h <;> rw [h] <;> exact ⟨_, rfl, by omega⟩
  refine sd_cut (M := fun δ => ∃ low : Int, low.natAbs ≤ (9000 * u).natAbs ∧ δ = [.sem (scrP K ns), nI (o : Int), nI (t : Int), nI (b : Int), nI u, nI low, nI ((o : Int) / 256 % 6), .no, .no, .no, .no, .no, .no, .no, .no, .no]) (sd_when (b_test (d_eqI (d_var (s := nI ((o : Int) / 256 % 6)) rfl) d_ci)) (fun _ => sd_asg (s := nI l8) (d_ixL (d_new (n_lst (ds_cons d_ci (ds_cons d_ci (ds_cons (d_neg (d_var (s := nI u) rfl)) (ds_cons (d_var (s := nI u) rfl) (ds_cons (d_neg d_ci) (ds_cons (d_i0 (d_var (s := nI u) rfl) d_ci) (ds_cons (d_i0 (d_neg (d_var (s := nI u) rfl)) d_ci) (ds_cons d_ci ds_nil)))))))))) (d_iC (d_int (d_var (s := nI (t : Int)) rfl)) d_ci (by decide)) hl8) ⟨_, hl8b, rfl⟩) fun _ => ⟨_, hl0, rfl⟩) fun δ' ⟨low, hlow, e⟩ => ?_
  subst e
  obtain ⟨wd, hwd, w0, w1⟩ : ∃ wd : Int, atI [PyData.int 0, .int ((o : Int) / 4096 % 20), .int (spr (o : Int) u), .int 1] ((t : Int) / 8 % 4) = some (.int wd) ∧ 0 ≤ wd ∧ wd ≤ u + 20 := by
    have e : (t : Int) / 8 % 4 = ((t / 8 % 4 : Nat) : Int) := by omega
    rw [e]
    rcases (by omega : t / 8 % 4 = 0 ∨ t / 8 % 4 = 1 ∨ t / 8 % 4 = 2 ∨ t / 8 % 4 = 3) with h | h | h | h <;> rw [h] <;> exact ⟨_, rfl, by omega, by omega⟩
  refine q_asg [_, _, _, _, _, _, _, nI wd, _, _, _, _, _, _, _, _] (d_ixL (d_new (n_lst (ds_cons d_ci (ds_cons (d_iC (d_iC (d_var (s := nI (o : Int)) rfl) d_ci ⟨by decide, by decide⟩) d_ci (by decide)) (ds_cons (d_callF ((o : Int), u) (a_cons (d_var (s := nI (o : Int)) rfl) (a_cons (d_var (s := nI u) rfl) a_nil)) ⟨ob, u0⟩) (ds_cons d_ci ds_nil)))))) (d_iC (d_iC (d_var (s := nI (t : Int)) rfl) d_ci ⟨by decide, by decide⟩) d_ci (by decide)) hwd) ?_
  refine q_asg [_, _, _, _, _, _, _, _, .dat (pairD (low, low + wd)), _, _, _, _, _, _, _] (d_tup (ds_cons (d_var (s := nI low) rfl) (ds_cons (d_i0 (d_var (s := nI low) rfl) (d_var (s := nI wd) rfl)) ds_nil))) ?_
  have hle : low ≤ low + wd := by omega
  have ul : u.natAbs < 2 ^ 161 := us
  have n0 : low.natAbs < 2 ^ 300 := by
    have : (2 : Nat) ^ 300 = 2 ^ 139 * 2 ^ 161 := by decide +kernel
    omega
  have n1 : (low + wd).natAbs < 2 ^ 300 := by
    have : (2 : Nat) ^ 300 = 2 ^ 139 * 2 ^ 161 := by decide +kernel
    omega
  generalize low + wd = a1 at *
  have gp := Re.R.pi_good (b := b) (by omega)
  refine q_for (w_rng1 (n := 4) (ds_cons d_ci ds_nil) (by decide) (by decide)) (fun i δ => ∃ s9 s10 s11 s12 s13, δ = [.sem (scrP K ns), nI (o : Int), nI (t : Int), nI (b : Int), nI u, nI low, nI ((o : Int) / 256 % 6), nI wd, .dat (pairD (low, a1)), s9, s10, s11, s12, s13, .no, .no]) ⟨_, _, _, _, _, rfl⟩ (fun i d δ' hd hq => ?_) (fun δ' hq => ?_)
  · obtain ⟨s9, s10, s11, s12, s13, rfl⟩ := hq
    obtain ⟨hi, rfl⟩ := upto_get hd
    have hi : i < 4 := hi
    rw [Int.zero_add]
    refine ⟨[9], [_, _, _, _, _, _, _, _, _, nI (i : Int), _, _, _, _, _, _], g_name, ?_⟩
    have hms : atI (missL low a1 u) (i : Int) = some (.bool (decide (Miss i low a1 b))) := by rw [← hu]; exact miss_at hi
    refine q_asg [_, _, _, _, _, _, _, _, _, _, nB (decide (Miss i low a1 b)), _, _, _, _, _] (d_ixL (ds := missL low a1 u) (d_new (n_lst (ds_cons (d_b0 (d_ixT (d := .int low) (d_var (s := .dat (pairD (low, a1))) rfl) d_ci rfl) d_ci) (ds_cons d_cb (ds_cons (d_orV (d_b0 (d_ixT (d := .int low) (d_var (s := .dat (pairD (low, a1))) rfl) d_ci rfl) (d_neg (d_var (s := nI u) rfl))) fun _ => (d_b0 (d_ixT (d := .int a1) (d_var (s := .dat (pairD (low, a1))) rfl) d_ci rfl) (d_var (s := nI u) rfl))) (ds_cons (d_orV (d_b0 (d_ixT (d := .int low) (d_var (s := .dat (pairD (low, a1))) rfl) d_ci rfl) (d_neg (d_var (s := nI u) rfl))) fun _ => (d_b0 (d_ixT (d := .int a1) (d_var (s := .dat (pairD (low, a1))) rfl) d_ci rfl) (d_var (s := nI u) rfl))) ds_nil)))))) (d_var (s := nI (i : Int)) rfl) hms) ?_
    refine q_asg [_, _, _, _, _, _, _, _, _, _, _, .dat (toldD i low a1 b), _, _, _, _] (d_callF (i, low, a1, b) (a_cons (d_var (s := nI (i : Int)) rfl) (a_cons (d_var (s := .dat (pairD (low, a1))) rfl) (a_cons (d_var (s := nI (b : Int)) rfl) a_nil))) ⟨hle, n0, n1, hb2⟩) ?_
    refine q_when (b_val (d_var (s := nB (decide (Miss i low a1 b))) rfl)) (fun hb => ?_) (fun hb => ?_)
    · have ho : Miss i low a1 b := of_decide_eq_true hb
      have et : toldD i low a1 b = .bool true := by unfold toldD; rw [if_pos ho]
      rw [et]
      refine q_when (b_is (c := false) (b_val (d_notB (d_var (s := nB true) rfl) d_cb)) rfl) (fun hb => nomatch hb) (fun _ => ?_)
      exact sd_cont ⟨_, _, _, _, _, rfl⟩
    · have ho : ¬ Miss i low a1 b := of_decide_eq_false hb
      have et : toldD i low a1 b = pairD (resP i low a1 b) := by unfold toldD; rw [if_neg ho]
      rw [et]
      have p0 : preAt (i, low, b) := ⟨n0, hb2, fun z => by
        have z : i = 0 := z
        subst z
        have ho : ¬ low ≤ 0 := ho
        show 0 < low
        omega, fun z => by
        have z : 2 ≤ i := z
        have ho : ¬ Out low a1 b := by
          unfold Miss at ho
          rwa [if_neg (by omega), if_neg (by omega)] at ho
        exact (not_out ho hle).1⟩
      have p1 : preAt (i, a1, b) := ⟨n1, hb2, fun z => by
        have z : i = 0 := z
        subst z
        have ho : ¬ low ≤ 0 := ho
        show 0 < a1
        omega, fun z => by
        have z : 2 ≤ i := z
        have ho : ¬ Out low a1 b := by
          unfold Miss at ho
          rwa [if_neg (by omega), if_neg (by omega)] at ho
        exact (not_out ho hle).2⟩
      have hG := fun mn mx => good_all (mn := mn) (mx := mx) hi hle hb2 n0 n1 ho
      have v0b : (atV i low b).natAbs < 2 ^ 2025 := atV_abs hb2 fun z => ⟨p0.2.2.1 z, n0⟩
      have v1b : (atV i a1 b).natAbs < 2 ^ 2025 := atV_abs hb2 fun z => ⟨p1.2.2.1 z, n1⟩
      generalize hp : resP i low a1 b = p at *
      refine q_when (b_is (c := false) (b_or (b_not (b_val (d_isi (b := true) (d_var (s := .dat (pairD p)) rfl) rfl rfl))) fun _ => (b_or (b_not (b_val (d_callF p.1 (a_cons (d_ixT (d := .int p.1) (d_var (s := .dat (pairD p)) rfl) d_ci rfl) a_nil) True.intro))) fun _ => (b_not (b_val (d_callF p.2 (a_cons (d_ixT (d := .int p.2) (d_var (s := .dat (pairD p)) rfl) d_ci rfl) a_nil) True.intro))))) rfl) (fun hb => nomatch hb) (fun _ => ?_)
      refine q_asgO [_, _, _, _, _, _, _, _, _, _, _, _, .own ([atV i low b, atV i a1 b].map PyData.int), _, _, _] (n_lst (ds_cons (d_callF (i, low, b) (a_cons (d_var (s := nI (i : Int)) rfl) (a_cons (d_ixT (d := .int low) (d_var (s := .dat (pairD (low, a1))) rfl) d_ci rfl) (a_cons (d_var (s := nI (b : Int)) rfl) a_nil))) p0) (ds_cons (d_callF (i, a1, b) (a_cons (d_var (s := nI (i : Int)) rfl) (a_cons (d_ixT (d := .int a1) (d_var (s := .dat (pairD (low, a1))) rfl) d_ci rfl) (a_cons (d_var (s := nI (b : Int)) rfl) a_nil))) p1) ds_nil))) ?_
      generalize atV i low b = v0 at *
      generalize atV i a1 b = v1 at *
      obtain ⟨mn, m1, m2⟩ := mem_mn (l := [v0, v1]) (by simp)
      obtain ⟨mx, x1, x2⟩ := mem_mx (l := [v0, v1]) (by simp)
      have m1' : mn = v0 ∨ mn = v1 := by simpa using m1
      have x1' : mx = v0 ∨ mx = v1 := by simpa using x1
      have g := hG mn mx m1' x1' ⟨m2 _ (.head _), m2 _ (.tail _ (.head _))⟩ ⟨x2 _ (.head _), x2 _ (.tail _ (.head _))⟩
      obtain ⟨pb1, pb2⟩ := p_bd g (by rcases m1' with rfl | rfl <;> assumption) (by rcases x1' with rfl | rfl <;> assumption)
      obtain ⟨g1, g2, g3⟩ := g
      refine q_asg [_, _, _, _, _, _, _, _, _, _, _, _, _, nI (2 ^ 60), _, _] (d_one (k := 60) d_ci d_ci (by decide)) ?_
      refine q_when (b_is (c := false) (b_or (b_test (d_b0 (d_shl (k := 100) (d_ixT (d := .int p.1) (d_var (s := .dat (pairD p)) rfl) d_ci rfl) d_ci (shl_ok (n := 2030) pb1 (by decide))) (d_i0 (d_minO (n := 12) (ns := [v0, v1]) rfl m1 m2) (d_var (s := nI (2 ^ 60)) rfl)))) fun _ => (b_test (d_b0 (d_shl (k := 100) (d_ixT (d := .int p.2) (d_var (s := .dat (pairD p)) rfl) d_ci rfl) d_ci (shl_ok (n := 2030) pb2 (by decide))) (d_i0 (d_maxO (n := 12) (ns := [v0, v1]) rfl x1 x2) (d_var (s := nI (2 ^ 60)) rfl))))) (or_no (by omega) (by omega))) (fun hb => nomatch hb) (fun _ => ?_)
      refine sd_when (b_is (c := false) (b_test (d_b0 (d_i0 (d_ixT (d := .int p.2) (d_var (s := .dat (pairD p)) rfl) d_ci rfl) (d_ixT (d := .int p.1) (d_var (s := .dat (pairD p)) rfl) d_ci rfl)) (d_i0 (d_i0 (d_shr (k := 100) (d_maxO (n := 12) (ns := [v0, v1]) rfl x1 x2) d_ci) (d_shr (k := 100) (d_minO (n := 12) (ns := [v0, v1]) rfl m1 m2) d_ci)) d_ci))) (decide_eq_false (by omega))) (fun hb => nomatch hb) (fun _ => ?_)
      exact ⟨_, _, _, _, _, rfl⟩
  · obtain ⟨s9, s10, s11, s12, s13, rfl⟩ := hq
    have ep : Re.R.outw (Re.R.piS (b + 32)) = outw (piS (b + 32)) := rfl
    rw [ep] at gp
    refine q_asg [_, _, _, _, _, _, _, _, _, _, _, _, _, _, .dat (pairD (outw (piS (b + 32)))), _] (d_callF b (a_cons (d_var (s := nI (b : Int)) rfl) a_nil) (show b ≤ 800 by omega)) ?_
    refine q_asg [_, _, _, _, _, _, _, _, _, _, _, _, _, _, _, nI (lPi (b + 100))] (d_callF (b + 100) (a_cons (d_isI (j := ((b + 100 : Nat) : Int)) (d_i0 (d_var (s := nI (b : Int)) rfl) d_ci) (by omega)) a_nil) (show b + 100 ≤ 800 by omega)) ?_
    have lb := lPi_abs (b := b + 100) (by omega)
    generalize outw (piS (b + 32)) = e at *
    generalize lPi (b + 100) = q at *
    obtain ⟨g1, g2, g3, g4⟩ := gp
    have eb : e.1.natAbs < 2 ^ 2030 ∧ e.2.natAbs < 2 ^ 2030 := by
      have z1 : (2 : Nat) ^ 2030 = 1048576 * 2 ^ 2010 := by decide +kernel
      have z2 : 1000000 ≤ (2 : Nat) ^ 2010 := Nat.le_trans (show 1000000 ≤ 2 ^ 20 by decide) (Nat.pow_le_pow_right (by decide) (by decide))
      rw [z1]
      generalize (2 : Nat) ^ 2010 = A at *
      omega
    refine sd_ret (d_isB (c := true) (d_andV (d_b0 (d_shl (k := 100) (d_ixT (d := .int e.1) (d_var (s := .dat (pairD e)) rfl) d_ci rfl) d_ci (shl_ok (n := 2030) eb.1 (by decide))) (d_i0 (d_var (s := nI q) rfl) d_ci)) fun _ => (d_andV (d_b0 (d_var (s := nI q) rfl) (d_i0 (d_shl (k := 100) (d_ixT (d := .int e.2) (d_var (s := .dat (pairD e)) rfl) d_ci rfl) d_ci (shl_ok (n := 2030) eb.2 (by decide))) d_ci)) fun _ => (d_chain d_ci (d_i0 (d_ixT (d := .int e.2) (d_var (s := .dat (pairD e)) rfl) d_ci rfl) (d_ixT (d := .int e.1) (d_var (s := .dat (pairD e)) rfl) d_ci rfl)) d_ci (fun _ => Evl.rv_I0) (fun _ => Evl.rv_I0)))) ?_) rfl
    have k1 : decide (e.1 * 2 ^ 100 ≤ q + 1024) = true := decide_eq_true g1
    have k2 : decide (q ≤ e.2 * 2 ^ 100 + 1024) = true := decide_eq_true g2
    have k3 : decide (0 ≤ e.2 - e.1) = true := decide_eq_true g3
    have k4 : decide (e.2 - e.1 ≤ 5) = true := decide_eq_true g4
    show (decide (e.1 * 2 ^ 100 ≤ q + 1024) && (decide (q ≤ e.2 * 2 ^ 100 + 1024) && (decide (0 ≤ e.2 - e.1) && decide (e.2 - e.1 ≤ 5)))) = true
    rw [k1, k2, k3, k4]
    rfl
theorem all_mk {l : PySem.W.OpenLaw} {w : World} {K : PySem.W.Frag} {h : Heap} {mg : Str → Option Value} {fa f0 f1 f2 f3 f4 f5 f6 f7 f8 f9 f10 f11 f12 f13 f14 f15 f16 f17 f18 f19 f20 f21 f22 f23 f24 f25 f26 f27 f28 f29 f30 f31 f32 f33 f34 f35 f36 : Addr} (X : K.In h) (G : h.Ns mainGlobals mg) (hfa : mg "law" = some (.ref fa))
    {od0 an0 od1 an1 od2 an2 od3 an3 od4 an4 od5 an5 od6 an6 od7 an7 od8 an8 od9 an9 od10 an10 od11 an11 od12 an12 od13 an13 od14 an14 od15 an15 od16 an16 od17 an17 od18 an18 od19 an19 od20 an20 od21 an21 od22 an22 od23 an23 od24 an24 od25 an25 od26 an26 od27 an27 od28 an28 od29 an29 od30 an30 od31 an31 od32 an32 od33 an33 od34 an34 od35 an35 od36 an36 : Option Addr} {sl0 sl1 sl2 sl3 sl4 sl5 sl6 sl7 sl8 sl9 sl10 sl11 sl12 sl13 sl14 sl15 sl16 sl17 sl18 sl19 sl20 sl21 sl22 sl23 sl24 sl25 sl26 sl27 sl28 sl29 sl30 sl31 sl32 sl33 sl34 sl35 sl36 : Array (Option Value)} {oc0 kV0 dc0 pm0 cd0 ct0 oc1 kV1 dc1 pm1 cd1 ct1 oc2 kV2 dc2 pm2 cd2 ct2 oc3 kV3 dc3 pm3 cd3 ct3 oc4 kV4 dc4 pm4 cd4 ct4 oc5 kV5 dc5 pm5 cd5 ct5 oc6 kV6 dc6 pm6 cd6 ct6 oc7 kV7 dc7 pm7 cd7 ct7 oc8 kV8 dc8 pm8 cd8 ct8 oc9 kV9 dc9 pm9 cd9 ct9 oc10 kV10 dc10 pm10 cd10 ct10 oc11 kV11 dc11 pm11 cd11 ct11 oc12 kV12 dc12 pm12 cd12 ct12 oc13 kV13 dc13 pm13 cd13 ct13 oc14 kV14 dc14 pm14 cd14 ct14 oc15 kV15 dc15 pm15 cd15 ct15 oc16 kV16 dc16 pm16 cd16 ct16 oc17 kV17 dc17 pm17 cd17 ct17 oc18 kV18 dc18 pm18 cd18 ct18 oc19 kV19 dc19 pm19 cd19 ct19 oc20 kV20 dc20 pm20 cd20 ct20 oc21 kV21 dc21 pm21 cd21 ct21 oc22 kV22 dc22 pm22 cd22 ct22 oc23 kV23 dc23 pm23 cd23 ct23 oc24 kV24 dc24 pm24 cd24 ct24 oc25 kV25 dc25 pm25 cd25 ct25 oc26 kV26 dc26 pm26 cd26 ct26 oc27 kV27 dc27 pm27 cd27 ct27 oc28 kV28 dc28 pm28 cd28 ct28 oc29 kV29 dc29 pm29 cd29 ct29 oc30 kV30 dc30 pm30 cd30 ct30 oc31 kV31 dc31 pm31 cd31 ct31 oc32 kV32 dc32 pm32 cd32 ct32 oc33 kV33 dc33 pm33 cd33 ct33 oc34 kV34 dc34 pm34 cd34 ct34 oc35 kV35 dc35 pm35 cd35 ct35 oc36 kV36 dc36 pm36 cd36 ct36 : Value}
    (a0 : PySem.W.nsIn K mainGlobals "nearest" = some (some (.ref f0))) (l0 : K.lookup f0 = some ⟨oc0, od0, .func (PySem.W.fnOf "nearest" "nearest" (defArgs s_nearest) (defBody s_nearest) (defScope s_nearest) .none kV0 dc0 pm0 an0 cd0 ct0), sl0⟩) (c0 : PySem.W.codeIn K cd0 "nearest" = true) (k0 : PySem.W.keepIn K (.ref f0) = true)
    (a1 : PySem.W.nsIn K mainGlobals "halvings_for" = some (some (.ref f1))) (l1 : K.lookup f1 = some ⟨oc1, od1, .func (PySem.W.fnOf "halvings_for" "halvings_for" (defArgs s_halvings_for) (defBody s_halvings_for) (defScope s_halvings_for) .none kV1 dc1 pm1 an1 cd1 ct1), sl1⟩) (c1 : PySem.W.codeIn K cd1 "halvings_for" = true) (k1 : PySem.W.keepIn K (.ref f1) = true)
    (a2 : PySem.W.nsIn K mainGlobals "reciprocal_series" = some (some (.ref f2))) (l2 : K.lookup f2 = some ⟨oc2, od2, .func (PySem.W.fnOf "reciprocal_series" "reciprocal_series" (defArgs s_reciprocal_series) (defBody s_reciprocal_series) (defScope s_reciprocal_series) .none kV2 dc2 pm2 an2 cd2 ct2), sl2⟩) (c2 : PySem.W.codeIn K cd2 "reciprocal_series" = true) (k2 : PySem.W.keepIn K (.ref f2) = true)
    (a3 : PySem.W.nsIn K mainGlobals "pi_scaled" = some (some (.ref f3))) (l3 : K.lookup f3 = some ⟨oc3, od3, .func (PySem.W.fnOf "pi_scaled" "pi_scaled" (defArgs s_pi_scaled) (defBody s_pi_scaled) (defScope s_pi_scaled) .none kV3 dc3 pm3 an3 cd3 ct3), sl3⟩) (c3 : PySem.W.codeIn K cd3 "pi_scaled" = true) (k3 : PySem.W.keepIn K (.ref f3) = true)
    (a4 : PySem.W.nsIn K mainGlobals "log_of_two" = some (some (.ref f4))) (l4 : K.lookup f4 = some ⟨oc4, od4, .func (PySem.W.fnOf "log_of_two" "log_of_two" (defArgs s_log_of_two) (defBody s_log_of_two) (defScope s_log_of_two) .none kV4 dc4 pm4 an4 cd4 ct4), sl4⟩) (c4 : PySem.W.codeIn K cd4 "log_of_two" = true) (k4 : PySem.W.keepIn K (.ref f4) = true)
    (a5 : PySem.W.nsIn K mainGlobals "inverse_tangent" = some (some (.ref f5))) (l5 : K.lookup f5 = some ⟨oc5, od5, .func (PySem.W.fnOf "inverse_tangent" "inverse_tangent" (defArgs s_inverse_tangent) (defBody s_inverse_tangent) (defScope s_inverse_tangent) .none kV5 dc5 pm5 an5 cd5 ct5), sl5⟩) (c5 : PySem.W.codeIn K cd5 "inverse_tangent" = true) (k5 : PySem.W.keepIn K (.ref f5) = true)
    (a6 : PySem.W.nsIn K mainGlobals "odd_series" = some (some (.ref f6))) (l6 : K.lookup f6 = some ⟨oc6, od6, .func (PySem.W.fnOf "odd_series" "odd_series" (defArgs s_odd_series) (defBody s_odd_series) (defScope s_odd_series) .none kV6 dc6 pm6 an6 cd6 ct6), sl6⟩) (c6 : PySem.W.codeIn K cd6 "odd_series" = true) (k6 : PySem.W.keepIn K (.ref f6) = true)
    (a7 : PySem.W.nsIn K mainGlobals "angle_scaled" = some (some (.ref f7))) (l7 : K.lookup f7 = some ⟨oc7, od7, .func (PySem.W.fnOf "angle_scaled" "angle_scaled" (defArgs s_angle_scaled) (defBody s_angle_scaled) (defScope s_angle_scaled) .none kV7 dc7 pm7 an7 cd7 ct7), sl7⟩) (c7 : PySem.W.codeIn K cd7 "angle_scaled" = true) (k7 : PySem.W.keepIn K (.ref f7) = true)
    (a8 : PySem.W.nsIn K mainGlobals "arctangent_scaled" = some (some (.ref f8))) (l8 : K.lookup f8 = some ⟨oc8, od8, .func (PySem.W.fnOf "arctangent_scaled" "arctangent_scaled" (defArgs s_arctangent_scaled) (defBody s_arctangent_scaled) (defScope s_arctangent_scaled) .none kV8 dc8 pm8 an8 cd8 ct8), sl8⟩) (c8 : PySem.W.codeIn K cd8 "arctangent_scaled" = true) (k8 : PySem.W.keepIn K (.ref f8) = true)
    (a9 : PySem.W.nsIn K mainGlobals "arcsine_scaled" = some (some (.ref f9))) (l9 : K.lookup f9 = some ⟨oc9, od9, .func (PySem.W.fnOf "arcsine_scaled" "arcsine_scaled" (defArgs s_arcsine_scaled) (defBody s_arcsine_scaled) (defScope s_arcsine_scaled) .none kV9 dc9 pm9 an9 cd9 ct9), sl9⟩) (c9 : PySem.W.codeIn K cd9 "arcsine_scaled" = true) (k9 : PySem.W.keepIn K (.ref f9) = true)
    (a10 : PySem.W.nsIn K mainGlobals "arccosine_scaled" = some (some (.ref f10))) (l10 : K.lookup f10 = some ⟨oc10, od10, .func (PySem.W.fnOf "arccosine_scaled" "arccosine_scaled" (defArgs s_arccosine_scaled) (defBody s_arccosine_scaled) (defScope s_arccosine_scaled) .none kV10 dc10 pm10 an10 cd10 ct10), sl10⟩) (c10 : PySem.W.codeIn K cd10 "arccosine_scaled" = true) (k10 : PySem.W.keepIn K (.ref f10) = true)
    (a11 : PySem.W.nsIn K mainGlobals "logarithm_scaled" = some (some (.ref f11))) (l11 : K.lookup f11 = some ⟨oc11, od11, .func (PySem.W.fnOf "logarithm_scaled" "logarithm_scaled" (defArgs s_logarithm_scaled) (defBody s_logarithm_scaled) (defScope s_logarithm_scaled) .none kV11 dc11 pm11 an11 cd11 ct11), sl11⟩) (c11 : PySem.W.codeIn K cd11 "logarithm_scaled" = true) (k11 : PySem.W.keepIn K (.ref f11) = true)
    (a12 : PySem.W.nsIn K mainGlobals "pi_enclosed" = some (some (.ref f12))) (l12 : K.lookup f12 = some ⟨oc12, od12, .func (PySem.W.fnOf "pi_enclosed" "pi_enclosed" (defArgs s_pi_enclosed) (defBody s_pi_enclosed) (defScope s_pi_enclosed) .none kV12 dc12 pm12 an12 cd12 ct12), sl12⟩) (c12 : PySem.W.codeIn K cd12 "pi_enclosed" = true) (k12 : PySem.W.keepIn K (.ref f12) = true)
    (a13 : PySem.W.nsIn K mainGlobals "logarithm" = some (some (.ref f13))) (l13 : K.lookup f13 = some ⟨oc13, od13, .func (PySem.W.fnOf "logarithm" "logarithm" (defArgs s_logarithm) (defBody s_logarithm) (defScope s_logarithm) .none kV13 dc13 pm13 an13 cd13 ct13), sl13⟩) (c13 : PySem.W.codeIn K cd13 "logarithm" = true) (k13 : PySem.W.keepIn K (.ref f13) = true)
    (a14 : PySem.W.nsIn K mainGlobals "arctangent" = some (some (.ref f14))) (l14 : K.lookup f14 = some ⟨oc14, od14, .func (PySem.W.fnOf "arctangent" "arctangent" (defArgs s_arctangent) (defBody s_arctangent) (defScope s_arctangent) .none kV14 dc14 pm14 an14 cd14 ct14), sl14⟩) (c14 : PySem.W.codeIn K cd14 "arctangent" = true) (k14 : PySem.W.keepIn K (.ref f14) = true)
    (a15 : PySem.W.nsIn K mainGlobals "arcsine" = some (some (.ref f15))) (l15 : K.lookup f15 = some ⟨oc15, od15, .func (PySem.W.fnOf "arcsine" "arcsine" (defArgs s_arcsine) (defBody s_arcsine) (defScope s_arcsine) .none kV15 dc15 pm15 an15 cd15 ct15), sl15⟩) (c15 : PySem.W.codeIn K cd15 "arcsine" = true) (k15 : PySem.W.keepIn K (.ref f15) = true)
    (a16 : PySem.W.nsIn K mainGlobals "arccosine" = some (some (.ref f16))) (l16 : K.lookup f16 = some ⟨oc16, od16, .func (PySem.W.fnOf "arccosine" "arccosine" (defArgs s_arccosine) (defBody s_arccosine) (defScope s_arccosine) .none kV16 dc16 pm16 an16 cd16 ct16), sl16⟩) (c16 : PySem.W.codeIn K cd16 "arccosine" = true) (k16 : PySem.W.keepIn K (.ref f16) = true)
    (a17 : PySem.W.nsIn K mainGlobals "demand_sines" = some (some (.ref f17))) (l17 : K.lookup f17 = some ⟨oc17, od17, .func (PySem.W.fnOf "demand_sines" "demand_sines" (defArgs s_demand_sines) (defBody s_demand_sines) (defScope s_demand_sines) .none kV17 dc17 pm17 an17 cd17 ct17), sl17⟩) (c17 : PySem.W.codeIn K cd17 "demand_sines" = true) (k17 : PySem.W.keepIn K (.ref f17) = true)
    (a18 : PySem.W.nsIn K mainGlobals "outwards" = some (some (.ref f18))) (l18 : K.lookup f18 = some ⟨oc18, od18, .func (PySem.W.fnOf "outwards" "outwards" (defArgs s_outwards) (defBody s_outwards) (defScope s_outwards) .none kV18 dc18 pm18 an18 cd18 ct18), sl18⟩) (c18 : PySem.W.codeIn K cd18 "outwards" = true) (k18 : PySem.W.keepIn K (.ref f18) = true)
    (a19 : PySem.W.nsIn K mainGlobals "rising" = some (some (.ref f19))) (l19 : K.lookup f19 = some ⟨oc19, od19, .func (PySem.W.fnOf "rising" "rising" (defArgs s_rising) (defBody s_rising) (defScope s_rising) .none kV19 dc19 pm19 an19 cd19 ct19), sl19⟩) (c19 : PySem.W.codeIn K cd19 "rising" = true) (k19 : PySem.W.keepIn K (.ref f19) = true)
    (a20 : PySem.W.nsIn K mainGlobals "logarithm_at" = some (some (.ref f20))) (l20 : K.lookup f20 = some ⟨oc20, od20, .func (PySem.W.fnOf "logarithm_at" "logarithm_at" (defArgs s_logarithm_at) (defBody s_logarithm_at) (defScope s_logarithm_at) .none kV20 dc20 pm20 an20 cd20 ct20), sl20⟩) (c20 : PySem.W.codeIn K cd20 "logarithm_at" = true) (k20 : PySem.W.keepIn K (.ref f20) = true)
    (a21 : PySem.W.nsIn K mainGlobals "arctangent_at" = some (some (.ref f21))) (l21 : K.lookup f21 = some ⟨oc21, od21, .func (PySem.W.fnOf "arctangent_at" "arctangent_at" (defArgs s_arctangent_at) (defBody s_arctangent_at) (defScope s_arctangent_at) .none kV21 dc21 pm21 an21 cd21 ct21), sl21⟩) (c21 : PySem.W.codeIn K cd21 "arctangent_at" = true) (k21 : PySem.W.keepIn K (.ref f21) = true)
    (a22 : PySem.W.nsIn K mainGlobals "arcsine_at" = some (some (.ref f22))) (l22 : K.lookup f22 = some ⟨oc22, od22, .func (PySem.W.fnOf "arcsine_at" "arcsine_at" (defArgs s_arcsine_at) (defBody s_arcsine_at) (defScope s_arcsine_at) .none kV22 dc22 pm22 an22 cd22 ct22), sl22⟩) (c22 : PySem.W.codeIn K cd22 "arcsine_at" = true) (k22 : PySem.W.keepIn K (.ref f22) = true)
    (a23 : PySem.W.nsIn K mainGlobals "arccosine_at" = some (some (.ref f23))) (l23 : K.lookup f23 = some ⟨oc23, od23, .func (PySem.W.fnOf "arccosine_at" "arccosine_at" (defArgs s_arccosine_at) (defBody s_arccosine_at) (defScope s_arccosine_at) .none kV23 dc23 pm23 an23 cd23 ct23), sl23⟩) (c23 : PySem.W.codeIn K cd23 "arccosine_at" = true) (k23 : PySem.W.keepIn K (.ref f23) = true)
    (a24 : PySem.W.nsIn K mainGlobals "_law_cell" = some (some (.ref f24))) (l24 : K.lookup f24 = some ⟨oc24, od24, .func (PySem.W.fnOf "_law_cell" "_law_cell" (defArgs s_law_cell) (defBody s_law_cell) (defScope s_law_cell) .none kV24 dc24 pm24 an24 cd24 ct24), sl24⟩) (c24 : PySem.W.codeIn K cd24 "_law_cell" = true) (k24 : PySem.W.keepIn K (.ref f24) = true)
    (a25 : PySem.W.nsIn K mainGlobals "_law_is_integer" = some (some (.ref f25))) (l25 : K.lookup f25 = some ⟨oc25, od25, .func (PySem.W.fnOf "_law_is_integer" "_law_is_integer" (defArgs s_law_is_integer) (defBody s_law_is_integer) (defScope s_law_is_integer) .none kV25 dc25 pm25 an25 cd25 ct25), sl25⟩) (c25 : PySem.W.codeIn K cd25 "_law_is_integer" = true) (k25 : PySem.W.keepIn K (.ref f25) = true)
    (a26 : PySem.W.nsIn K mainGlobals "_law_isqrt" = some (some (.ref f26))) (l26 : K.lookup f26 = some ⟨oc26, od26, .func (PySem.W.fnOf "_law_isqrt" "_law_isqrt" (defArgs s_law_isqrt) (defBody s_law_isqrt) (defScope s_law_isqrt) .none kV26 dc26 pm26 an26 cd26 ct26), sl26⟩) (c26 : PySem.W.codeIn K cd26 "_law_isqrt" = true) (k26 : PySem.W.keepIn K (.ref f26) = true)
    (a27 : PySem.W.nsIn K mainGlobals "_law_atan_sum" = some (some (.ref f27))) (l27 : K.lookup f27 = some ⟨oc27, od27, .func (PySem.W.fnOf "_law_atan_sum" "_law_atan_sum" (defArgs s_law_atan_sum) (defBody s_law_atan_sum) (defScope s_law_atan_sum) .none kV27 dc27 pm27 an27 cd27 ct27), sl27⟩) (c27 : PySem.W.codeIn K cd27 "_law_atan_sum" = true) (k27 : PySem.W.keepIn K (.ref f27) = true)
    (a28 : PySem.W.nsIn K mainGlobals "_law_pi" = some (some (.ref f28))) (l28 : K.lookup f28 = some ⟨oc28, od28, .func (PySem.W.fnOf "_law_pi" "_law_pi" (defArgs s_law_pi) (defBody s_law_pi) (defScope s_law_pi) .none kV28 dc28 pm28 an28 cd28 ct28), sl28⟩) (c28 : PySem.W.codeIn K cd28 "_law_pi" = true) (k28 : PySem.W.keepIn K (.ref f28) = true)
    (a29 : PySem.W.nsIn K mainGlobals "_law_log" = some (some (.ref f29))) (l29 : K.lookup f29 = some ⟨oc29, od29, .func (PySem.W.fnOf "_law_log" "_law_log" (defArgs s_law_log) (defBody s_law_log) (defScope s_law_log) .none kV29 dc29 pm29 an29 cd29 ct29), sl29⟩) (c29 : PySem.W.codeIn K cd29 "_law_log" = true) (k29 : PySem.W.keepIn K (.ref f29) = true)
    (a30 : PySem.W.nsIn K mainGlobals "_law_artanh" = some (some (.ref f30))) (l30 : K.lookup f30 = some ⟨oc30, od30, .func (PySem.W.fnOf "_law_artanh" "_law_artanh" (defArgs s_law_artanh) (defBody s_law_artanh) (defScope s_law_artanh) .none kV30 dc30 pm30 an30 cd30 ct30), sl30⟩) (c30 : PySem.W.codeIn K cd30 "_law_artanh" = true) (k30 : PySem.W.keepIn K (.ref f30) = true)
    (a31 : PySem.W.nsIn K mainGlobals "_law_atan" = some (some (.ref f31))) (l31 : K.lookup f31 = some ⟨oc31, od31, .func (PySem.W.fnOf "_law_atan" "_law_atan" (defArgs s_law_atan) (defBody s_law_atan) (defScope s_law_atan) .none kV31 dc31 pm31 an31 cd31 ct31), sl31⟩) (c31 : PySem.W.codeIn K cd31 "_law_atan" = true) (k31 : PySem.W.keepIn K (.ref f31) = true)
    (a32 : PySem.W.nsIn K mainGlobals "_law_asin" = some (some (.ref f32))) (l32 : K.lookup f32 = some ⟨oc32, od32, .func (PySem.W.fnOf "_law_asin" "_law_asin" (defArgs s_law_asin) (defBody s_law_asin) (defScope s_law_asin) .none kV32 dc32 pm32 an32 cd32 ct32), sl32⟩) (c32 : PySem.W.codeIn K cd32 "_law_asin" = true) (k32 : PySem.W.keepIn K (.ref f32) = true)
    (a33 : PySem.W.nsIn K mainGlobals "_law_spread" = some (some (.ref f33))) (l33 : K.lookup f33 = some ⟨oc33, od33, .func (PySem.W.fnOf "_law_spread" "_law_spread" (defArgs s_law_spread) (defBody s_law_spread) (defScope s_law_spread) .none kV33 dc33 pm33 an33 cd33 ct33), sl33⟩) (c33 : PySem.W.codeIn K cd33 "_law_spread" = true) (k33 : PySem.W.keepIn K (.ref f33) = true)
    (a34 : PySem.W.nsIn K mainGlobals "_law_at" = some (some (.ref f34))) (l34 : K.lookup f34 = some ⟨oc34, od34, .func (PySem.W.fnOf "_law_at" "_law_at" (defArgs s_law_at) (defBody s_law_at) (defScope s_law_at) .none kV34 dc34 pm34 an34 cd34 ct34), sl34⟩) (c34 : PySem.W.codeIn K cd34 "_law_at" = true) (k34 : PySem.W.keepIn K (.ref f34) = true)
    (a35 : PySem.W.nsIn K mainGlobals "_law_told" = some (some (.ref f35))) (l35 : K.lookup f35 = some ⟨oc35, od35, .func (PySem.W.fnOf "_law_told" "_law_told" (defArgs s_law_told) (defBody s_law_told) (defScope s_law_told) .none kV35 dc35 pm35 an35 cd35 ct35), sl35⟩) (c35 : PySem.W.codeIn K cd35 "_law_told" = true) (k35 : PySem.W.keepIn K (.ref f35) = true)
    (a36 : PySem.W.nsIn K mainGlobals "law" = some (some (.ref f36))) (l36 : K.lookup f36 = some ⟨oc36, od36, .func (PySem.W.fnOf "law" "law" (defArgs s_law) (defBody s_law) (defScope s_law) .none kV36 dc36 pm36 an36 cd36 ct36), sl36⟩) (c36 : PySem.W.codeIn K cd36 "law" = true) (k36 : PySem.W.keepIn K (.ref f36) = true)
    (z0 : PySem.W.nsIn K mainGlobals "len" = some none)
    (z1 : PySem.W.nsIn K mainGlobals "abs" = some none)
    (z2 : PySem.W.nsIn K mainGlobals "int" = some none)
    (z3 : PySem.W.nsIn K mainGlobals "bool" = some none)
    (z4 : PySem.W.nsIn K mainGlobals "tuple" = some none)
    (z5 : PySem.W.nsIn K mainGlobals "range" = some none)
    (z6 : PySem.W.nsIn K mainGlobals "isinstance" = some none)
    (z7 : PySem.W.nsIn K mainGlobals "min" = some none)
    (z8 : PySem.W.nsIn K mainGlobals "max" = some none)
    {ti0 ti1 ti2 : Tok} (ui0 : PySem.W.nsIn K mainGlobals "GUARD" = some (some (.int 32 ti0))) (ui1 : PySem.W.nsIn K mainGlobals "SPARE" = some (some (.int 16 ti1))) (ui2 : PySem.W.nsIn K mainGlobals "EXTRA" = some (some (.int 32 ti2)))
    (ub0 : PySem.W.nsIn K mainGlobals "isqrt" = some (some (.builtin "math.isqrt")))
    {CP : Addr} (uP : PySem.W.nsIn K mainGlobals "PortolanError" = some (some (.ref CP))) (bP : PySem.W.subIn K (.ref CP) (.type "BaseException") = some true) (tP : PySem.W.typeIn K (.ref CP) = some (.type "type")) (iP : PySem.W.isClsIn K CP = true)
    {CE0 : Addr} (uE0 : PySem.W.nsIn K mainGlobals "Undefined" = some (some (.ref CE0)))
    (xE0 : PySem.W.excIn K CE0 [.type "ValueError", .type "Exception", .type "BaseException", .type "object"] "ValueError.__new__" = true) (kE0 : PySem.W.keepIn K (.ref CE0) = true) (bE0 : PySem.W.subIn K (.ref CE0) (.type "BaseException") = some true) (tE0 : PySem.W.typeIn K (.ref CE0) = some (.type "type")) (sE0 : PySem.W.subIn K (.ref CE0) (.ref CP) = some true)
    (exa0 : PySem.W.findIn K (.ref CE0) "__getattribute__" = some (some (.builtin "BaseException.__getattribute__"))) (exb0 : PySem.W.findIn K (.ref CE0) "__getattr__" = some none) (exc0 : PySem.W.hasDictIn K CE0 = true) (exd0 : PySem.W.findIn K (.ref CE0) "__class__" = some (some (.builtin "object.__class__")))
    (exe0 : PySem.W.specialIn K (.builtin "object.__class__") "__get__" = some (some (.builtin "getset_descriptor.__get__"))) (exf0 : PySem.W.takesIn K (.builtin "object.__class__") = some true) (exg0 : PySem.W.mroIn K CE0 (.type "object") = some true)
    : ∃ fd : FuncData, (∀ (s : Shared) (v : Value), BindsTo s fd ⟨[v], []⟩ [("script", v)]) ∧ ∀ base : Heap, K.In base → base.Ns mainGlobals mg → FnOk l.prog w K mg base CX0 10 fa fd ["script"] (spLaw K) := by
  have e := hfa.symm.trans (PySem.W.mg_of X G a36)
  cases e
  have F_nearest := fun_mk (st := s_nearest) l0 c0 k0
  have F_halvings_for := fun_mk (st := s_halvings_for) l1 c1 k1
  have F_reciprocal_series := fun_mk (st := s_reciprocal_series) l2 c2 k2
  have F_pi_scaled := fun_mk (st := s_pi_scaled) l3 c3 k3
  have F_log_of_two := fun_mk (st := s_log_of_two) l4 c4 k4
  have F_inverse_tangent := fun_mk (st := s_inverse_tangent) l5 c5 k5
  have F_odd_series := fun_mk (st := s_odd_series) l6 c6 k6
  have F_angle_scaled := fun_mk (st := s_angle_scaled) l7 c7 k7
  have F_arctangent_scaled := fun_mk (st := s_arctangent_scaled) l8 c8 k8
  have F_arcsine_scaled := fun_mk (st := s_arcsine_scaled) l9 c9 k9
  have F_arccosine_scaled := fun_mk (st := s_arccosine_scaled) l10 c10 k10
  have F_logarithm_scaled := fun_mk (st := s_logarithm_scaled) l11 c11 k11
  have F_pi_enclosed := fun_mk (st := s_pi_enclosed) l12 c12 k12
  have F_logarithm := fun_mk (st := s_logarithm) l13 c13 k13
  have F_arctangent := fun_mk (st := s_arctangent) l14 c14 k14
  have F_arcsine := fun_mk (st := s_arcsine) l15 c15 k15
  have F_arccosine := fun_mk (st := s_arccosine) l16 c16 k16
  have F_demand_sines := fun_mk (st := s_demand_sines) l17 c17 k17
  have F_outwards := fun_mk (st := s_outwards) l18 c18 k18
  have F_rising := fun_mk (st := s_rising) l19 c19 k19
  have F_logarithm_at := fun_mk (st := s_logarithm_at) l20 c20 k20
  have F_arctangent_at := fun_mk (st := s_arctangent_at) l21 c21 k21
  have F_arcsine_at := fun_mk (st := s_arcsine_at) l22 c22 k22
  have F_arccosine_at := fun_mk (st := s_arccosine_at) l23 c23 k23
  have F_law_cell := fun_mk (st := s_law_cell) l24 c24 k24
  have F_law_is_integer := fun_mk (st := s_law_is_integer) l25 c25 k25
  have F_law_isqrt := fun_mk (st := s_law_isqrt) l26 c26 k26
  have F_law_atan_sum := fun_mk (st := s_law_atan_sum) l27 c27 k27
  have F_law_pi := fun_mk (st := s_law_pi) l28 c28 k28
  have F_law_log := fun_mk (st := s_law_log) l29 c29 k29
  have F_law_artanh := fun_mk (st := s_law_artanh) l30 c30 k30
  have F_law_atan := fun_mk (st := s_law_atan) l31 c31 k31
  have F_law_asin := fun_mk (st := s_law_asin) l32 c32 k32
  have F_law_spread := fun_mk (st := s_law_spread) l33 c33 k33
  have F_law_at := fun_mk (st := s_law_at) l34 c34 k34
  have F_law_told := fun_mk (st := s_law_told) l35 c35 k35
  have F_law := fun_mk (st := s_law) l36 c36 k36
  have b_nearest := F_nearest.binds (ps := ["n", "bits"]) fun _ _ _ _ _ _ us hl => match us, hl with | [_, _], _ => rfl
  have g_nearest := PySem.W.mg_of X G a0
  have b_halvings_for := F_halvings_for.binds (ps := ["bits"]) fun _ _ _ _ _ _ us hl => match us, hl with | [_], _ => rfl
  have g_halvings_for := PySem.W.mg_of X G a1
  have b_reciprocal_series := F_reciprocal_series.binds (ps := ["n", "bits", "sign"]) fun _ _ _ _ _ _ us hl => match us, hl with | [_, _, _], _ => rfl
  have g_reciprocal_series := PySem.W.mg_of X G a2
  have b_pi_scaled := F_pi_scaled.binds (ps := ["bits"]) fun _ _ _ _ _ _ us hl => match us, hl with | [_], _ => rfl
  have g_pi_scaled := PySem.W.mg_of X G a3
  have b_log_of_two := F_log_of_two.binds (ps := ["bits"]) fun _ _ _ _ _ _ us hl => match us, hl with | [_], _ => rfl
  have g_log_of_two := PySem.W.mg_of X G a4
  have b_inverse_tangent := F_inverse_tangent.binds (ps := ["t", "bits", "sign"]) fun _ _ _ _ _ _ us hl => match us, hl with | [_, _, _], _ => rfl
  have g_inverse_tangent := PySem.W.mg_of X G a5
  have b_odd_series := F_odd_series.binds (ps := ["t", "bits", "sign"]) fun _ _ _ _ _ _ us hl => match us, hl with | [_, _, _], _ => rfl
  have g_odd_series := PySem.W.mg_of X G a6
  have b_angle_scaled := F_angle_scaled.binds (ps := ["y", "x", "bits"]) fun _ _ _ _ _ _ us hl => match us, hl with | [_, _, _], _ => rfl
  have g_angle_scaled := PySem.W.mg_of X G a7
  have b_arctangent_scaled := F_arctangent_scaled.binds (ps := ["n", "bits", "work"]) fun _ _ _ _ _ _ us hl => match us, hl with | [_, _, _], _ => rfl
  have g_arctangent_scaled := PySem.W.mg_of X G a8
  have b_arcsine_scaled := F_arcsine_scaled.binds (ps := ["n", "bits", "work"]) fun _ _ _ _ _ _ us hl => match us, hl with | [_, _, _], _ => rfl
  have g_arcsine_scaled := PySem.W.mg_of X G a9
  have b_arccosine_scaled := F_arccosine_scaled.binds (ps := ["n", "bits", "work"]) fun _ _ _ _ _ _ us hl => match us, hl with | [_, _, _], _ => rfl
  have g_arccosine_scaled := PySem.W.mg_of X G a10
  have b_logarithm_scaled := F_logarithm_scaled.binds (ps := ["n", "bits", "work"]) fun _ _ _ _ _ _ us hl => match us, hl with | [_, _, _], _ => rfl
  have g_logarithm_scaled := PySem.W.mg_of X G a11
  have b_pi_enclosed := F_pi_enclosed.binds (ps := ["bits"]) fun _ _ _ _ _ _ us hl => match us, hl with | [_], _ => rfl
  have g_pi_enclosed := PySem.W.mg_of X G a12
  have b_logarithm := F_logarithm.binds (ps := ["a", "bits"]) fun _ _ _ _ _ _ us hl => match us, hl with | [_, _], _ => rfl
  have g_logarithm := PySem.W.mg_of X G a13
  have b_arctangent := F_arctangent.binds (ps := ["a", "bits"]) fun _ _ _ _ _ _ us hl => match us, hl with | [_, _], _ => rfl
  have g_arctangent := PySem.W.mg_of X G a14
  have b_arcsine := F_arcsine.binds (ps := ["a", "bits"]) fun _ _ _ _ _ _ us hl => match us, hl with | [_, _], _ => rfl
  have g_arcsine := PySem.W.mg_of X G a15
  have b_arccosine := F_arccosine.binds (ps := ["a", "bits"]) fun _ _ _ _ _ _ us hl => match us, hl with | [_, _], _ => rfl
  have g_arccosine := PySem.W.mg_of X G a16
  have b_demand_sines := F_demand_sines.binds (ps := ["a", "bits"]) fun _ _ _ _ _ _ us hl => match us, hl with | [_, _], _ => rfl
  have g_demand_sines := PySem.W.mg_of X G a17
  have b_outwards := F_outwards.binds (ps := ["value"]) fun _ _ _ _ _ _ us hl => match us, hl with | [_], _ => rfl
  have g_outwards := PySem.W.mg_of X G a18
  have b_rising := F_rising.binds (ps := ["enclosed_at", "a", "bits"]) fun _ _ _ _ _ _ us hl => match us, hl with | [_, _, _], _ => rfl
  have g_rising := PySem.W.mg_of X G a19
  have b_logarithm_at := F_logarithm_at.binds (ps := ["n", "bits"]) fun _ _ _ _ _ _ us hl => match us, hl with | [_, _], _ => rfl
  have g_logarithm_at := PySem.W.mg_of X G a20
  have b_arctangent_at := F_arctangent_at.binds (ps := ["n", "bits"]) fun _ _ _ _ _ _ us hl => match us, hl with | [_, _], _ => rfl
  have g_arctangent_at := PySem.W.mg_of X G a21
  have b_arcsine_at := F_arcsine_at.binds (ps := ["n", "bits"]) fun _ _ _ _ _ _ us hl => match us, hl with | [_, _], _ => rfl
  have g_arcsine_at := PySem.W.mg_of X G a22
  have b_arccosine_at := F_arccosine_at.binds (ps := ["n", "bits"]) fun _ _ _ _ _ _ us hl => match us, hl with | [_, _], _ => rfl
  have g_arccosine_at := PySem.W.mg_of X G a23
  have b_law_cell := F_law_cell.binds (ps := ["script", "k"]) fun _ _ _ _ _ _ us hl => match us, hl with | [_, _], _ => rfl
  have g_law_cell := PySem.W.mg_of X G a24
  have b_law_is_integer := F_law_is_integer.binds (ps := ["actual"]) fun _ _ _ _ _ _ us hl => match us, hl with | [_], _ => rfl
  have g_law_is_integer := PySem.W.mg_of X G a25
  have b_law_isqrt := F_law_isqrt.binds (ps := ["figure"]) fun _ _ _ _ _ _ us hl => match us, hl with | [_], _ => rfl
  have g_law_isqrt := PySem.W.mg_of X G a26
  have b_law_atan_sum := F_law_atan_sum.binds (ps := ["p", "q", "b"]) fun _ _ _ _ _ _ us hl => match us, hl with | [_, _, _], _ => rfl
  have g_law_atan_sum := PySem.W.mg_of X G a27
  have b_law_pi := F_law_pi.binds (ps := ["b"]) fun _ _ _ _ _ _ us hl => match us, hl with | [_], _ => rfl
  have g_law_pi := PySem.W.mg_of X G a28
  have b_law_log := F_law_log.binds (ps := ["x", "b"]) fun _ _ _ _ _ _ us hl => match us, hl with | [_, _], _ => rfl
  have g_law_log := PySem.W.mg_of X G a29
  have b_law_artanh := F_law_artanh.binds (ps := ["p", "q", "b"]) fun _ _ _ _ _ _ us hl => match us, hl with | [_, _, _], _ => rfl
  have g_law_artanh := PySem.W.mg_of X G a30
  have b_law_atan := F_law_atan.binds (ps := ["x", "b"]) fun _ _ _ _ _ _ us hl => match us, hl with | [_, _], _ => rfl
  have g_law_atan := PySem.W.mg_of X G a31
  have b_law_asin := F_law_asin.binds (ps := ["x", "b"]) fun _ _ _ _ _ _ us hl => match us, hl with | [_, _], _ => rfl
  have g_law_asin := PySem.W.mg_of X G a32
  have b_law_spread := F_law_spread.binds (ps := ["figure", "most"]) fun _ _ _ _ _ _ us hl => match us, hl with | [_, _], _ => rfl
  have g_law_spread := PySem.W.mg_of X G a33
  have b_law_at := F_law_at.binds (ps := ["way", "x", "bits"]) fun _ _ _ _ _ _ us hl => match us, hl with | [_, _, _], _ => rfl
  have g_law_at := PySem.W.mg_of X G a34
  have b_law_told := F_law_told.binds (ps := ["way", "a", "bits"]) fun _ _ _ _ _ _ us hl => match us, hl with | [_, _, _], _ => rfl
  have g_law_told := PySem.W.mg_of X G a35
  have m_len := PySem.W.mg_none_of X G z0
  have m_abs := PySem.W.mg_none_of X G z1
  have m_int := PySem.W.mg_none_of X G z2
  have m_bool := PySem.W.mg_none_of X G z3
  have m_tuple := PySem.W.mg_none_of X G z4
  have m_range := PySem.W.mg_none_of X G z5
  have m_isinstance := PySem.W.mg_none_of X G z6
  have m_min := PySem.W.mg_none_of X G z7
  have m_max := PySem.W.mg_none_of X G z8
  have g_GUARD := PySem.W.mg_of X G ui0
  have g_SPARE := PySem.W.mg_of X G ui1
  have g_EXTRA := PySem.W.mg_of X G ui2
  have g_isqrt := PySem.W.mg_of X G ub0
  have T0 : Errs K mg "Undefined" CE0 CP := ⟨PySem.W.mg_of X G uE0, PySem.W.mg_of X G uP, xE0, kE0, bE0, tE0, bP, tP, iP, sE0, ⟨exa0, exb0, bE0, exc0, exd0, exe0, exf0, exg0⟩⟩
  exact ⟨PySem.W.fnOf "law" "law" (defArgs s_law) (defBody s_law) (defScope s_law) .none kV36 dc36 pm36 an36 cd36 ct36, fun s v => .of_eq rfl, fun base _ _ => ok_law F_law F_law_cell b_law_cell g_law_cell F_law_spread b_law_spread g_law_spread F_law_is_integer b_law_is_integer g_law_is_integer F_law_pi b_law_pi g_law_pi (ok_lpi F_law_pi F_law_atan_sum b_law_atan_sum g_law_atan_sum m_range m_int) F_law_told b_law_told g_law_told (ok_told F_law_told T0 F_logarithm b_logarithm g_logarithm (ok_log F_logarithm T0 F_rising b_rising g_rising (ok_rising F_rising F_logarithm_at b_logarithm_at (ok_lgAt F_logarithm_at F_logarithm_scaled b_logarithm_scaled g_logarithm_scaled (ok_lgS F_logarithm_scaled F_inverse_tangent b_inverse_tangent g_inverse_tangent (ok_inv F_inverse_tangent F_halvings_for b_halvings_for g_halvings_for F_nearest b_nearest g_nearest F_odd_series b_odd_series g_odd_series g_GUARD g_isqrt m_range) F_nearest b_nearest g_nearest F_reciprocal_series b_reciprocal_series g_reciprocal_series F_log_of_two b_log_of_two g_log_of_two g_GUARD g_SPARE) F_outwards b_outwards g_outwards g_EXTRA)) g_logarithm_at) F_arctangent b_arctangent g_arctangent (ok_atn F_arctangent F_rising b_rising g_rising (ok_rising F_rising F_arctangent_at b_arctangent_at (ok_atAt F_arctangent_at F_arctangent_scaled b_arctangent_scaled g_arctangent_scaled (ok_atS F_arctangent_scaled F_angle_scaled b_angle_scaled g_angle_scaled (ok_angle F_angle_scaled F_inverse_tangent b_inverse_tangent g_inverse_tangent (ok_inv F_inverse_tangent F_halvings_for b_halvings_for g_halvings_for F_nearest b_nearest g_nearest F_odd_series b_odd_series g_odd_series g_GUARD g_isqrt m_range) F_nearest b_nearest g_nearest F_reciprocal_series b_reciprocal_series g_reciprocal_series F_pi_scaled b_pi_scaled g_pi_scaled g_GUARD g_SPARE) m_abs) F_outwards b_outwards g_outwards g_EXTRA)) g_arctangent_at) F_arcsine b_arcsine g_arcsine (ok_asn F_arcsine T0 F_demand_sines b_demand_sines g_demand_sines F_rising b_rising g_rising (ok_rising F_rising F_arcsine_at b_arcsine_at (ok_asAt F_arcsine_at F_arcsine_scaled b_arcsine_scaled g_arcsine_scaled (ok_asS F_arcsine_scaled F_angle_scaled b_angle_scaled g_angle_scaled (ok_angle F_angle_scaled F_inverse_tangent b_inverse_tangent g_inverse_tangent (ok_inv F_inverse_tangent F_halvings_for b_halvings_for g_halvings_for F_nearest b_nearest g_nearest F_odd_series b_odd_series g_odd_series g_GUARD g_isqrt m_range) F_nearest b_nearest g_nearest F_reciprocal_series b_reciprocal_series g_reciprocal_series F_pi_scaled b_pi_scaled g_pi_scaled g_GUARD g_SPARE) F_nearest b_nearest g_nearest g_SPARE g_isqrt m_abs) F_outwards b_outwards g_outwards g_EXTRA)) g_arcsine_at) F_arccosine b_arccosine g_arccosine (ok_acn F_arccosine T0 F_demand_sines b_demand_sines g_demand_sines F_rising b_rising g_rising (ok_rising F_rising F_arccosine_at b_arccosine_at (ok_acAt F_arccosine_at F_arccosine_scaled b_arccosine_scaled g_arccosine_scaled (ok_acS F_arccosine_scaled F_arcsine_scaled b_arcsine_scaled g_arcsine_scaled (ok_asS F_arcsine_scaled F_angle_scaled b_angle_scaled g_angle_scaled (ok_angle F_angle_scaled F_inverse_tangent b_inverse_tangent g_inverse_tangent (ok_inv F_inverse_tangent F_halvings_for b_halvings_for g_halvings_for F_nearest b_nearest g_nearest F_odd_series b_odd_series g_odd_series g_GUARD g_isqrt m_range) F_nearest b_nearest g_nearest F_reciprocal_series b_reciprocal_series g_reciprocal_series F_pi_scaled b_pi_scaled g_pi_scaled g_GUARD g_SPARE) F_nearest b_nearest g_nearest g_SPARE g_isqrt m_abs) F_nearest b_nearest g_nearest F_reciprocal_series b_reciprocal_series g_reciprocal_series F_pi_scaled b_pi_scaled g_pi_scaled g_GUARD g_SPARE) F_outwards b_outwards g_outwards g_EXTRA)) g_arccosine_at m_max) m_isinstance) F_law_at b_law_at g_law_at (ok_at F_law_at F_law_atan_sum b_law_atan_sum g_law_atan_sum F_law_pi b_law_pi g_law_pi F_law_isqrt b_law_isqrt g_law_isqrt F_law_atan b_law_atan g_law_atan F_law_asin b_law_asin g_law_asin F_law_log b_law_log g_law_log F_law_artanh b_law_artanh g_law_artanh m_range m_int m_abs m_max) F_pi_enclosed b_pi_enclosed g_pi_enclosed (ok_piE F_pi_enclosed F_reciprocal_series b_reciprocal_series g_reciprocal_series F_nearest b_nearest g_nearest F_pi_scaled b_pi_scaled g_pi_scaled F_outwards b_outwards g_outwards g_GUARD g_EXTRA) m_len m_abs m_int m_bool m_tuple m_range m_isinstance m_min m_max⟩
end
end K05
open PySem PySem.W PyProof.Rows
set_option maxHeartbeats 0 in
theorem PySem.Challenge.cw_portolan_k05_inverse_functions_holds : PySem.Challenge.rw_portolan_k05_inverse_functions.Holds := by
  w_on; o_law; k_head; (case hw => w_witness2)
  k_fill
  refine L2.walk_ofB (l := PySem.Challenge.rw_portolan_k05_inverse_functions) (n := 63) (k := 10) (x := "script") (CX := fun _ => L2.CX0) (sp := fun w => K05.spLaw _) rfl (by decide) rfl ⟨rfl, by decide, by decide⟩ (fun w h Y => PySem.W.kIn_of Y) ?F (fun _ _ a ns hl hbits _ hS => ⟨a, ns, rfl, hS, hl, hbits, fun _ => rfl⟩) (fun _ _ _ _ _ h => h)
  case F =>
    intro w mg fa h KX G hmg
    refine' K05.all_mk KX G hmg ?a0 ?l0 ?c0 ?k0 ?a1 ?l1 ?c1 ?k1 ?a2 ?l2 ?c2 ?k2 ?a3 ?l3 ?c3 ?k3 ?a4 ?l4 ?c4 ?k4 ?a5 ?l5 ?c5 ?k5 ?a6 ?l6 ?c6 ?k6 ?a7 ?l7 ?c7 ?k7 ?a8 ?l8 ?c8 ?k8 ?a9 ?l9 ?c9 ?k9 ?a10 ?l10 ?c10 ?k10 ?a11 ?l11 ?c11 ?k11 ?a12 ?l12 ?c12 ?k12 ?a13 ?l13 ?c13 ?k13 ?a14 ?l14 ?c14 ?k14 ?a15 ?l15 ?c15 ?k15 ?a16 ?l16 ?c16 ?k16 ?a17 ?l17 ?c17 ?k17 ?a18 ?l18 ?c18 ?k18 ?a19 ?l19 ?c19 ?k19 ?a20 ?l20 ?c20 ?k20 ?a21 ?l21 ?c21 ?k21 ?a22 ?l22 ?c22 ?k22 ?a23 ?l23 ?c23 ?k23 ?a24 ?l24 ?c24 ?k24 ?a25 ?l25 ?c25 ?k25 ?a26 ?l26 ?c26 ?k26 ?a27 ?l27 ?c27 ?k27 ?a28 ?l28 ?c28 ?k28 ?a29 ?l29 ?c29 ?k29 ?a30 ?l30 ?c30 ?k30 ?a31 ?l31 ?c31 ?k31 ?a32 ?l32 ?c32 ?k32 ?a33 ?l33 ?c33 ?k33 ?a34 ?l34 ?c34 ?k34 ?a35 ?l35 ?c35 ?k35 ?a36 ?l36 ?c36 ?k36 ?z0 ?z1 ?z2 ?z3 ?z4 ?z5 ?z6 ?z7 ?z8 ?ui0 ?ui1 ?ui2 ?ub0 ?uP ?bP ?tP ?iP ?uE0 ?xE0 ?kE0 ?bE0 ?tE0 ?sE0 ?exa0 ?exb0 ?exc0 ?exd0 ?exe0 ?exf0 ?exg0
    (case a0 => k_is); (case l0 => k_is); (case c0 => k_is); (case k0 => k_is); (case a1 => k_is); (case l1 => k_is); (case c1 => k_is); (case k1 => k_is); (case a2 => k_is); (case l2 => k_is); (case c2 => k_is); (case k2 => k_is); (case a3 => k_is); (case l3 => k_is); (case c3 => k_is); (case k3 => k_is); (case a4 => k_is); (case l4 => k_is); (case c4 => k_is); (case k4 => k_is); (case a5 => k_is); (case l5 => k_is); (case c5 => k_is); (case k5 => k_is); (case a6 => k_is); (case l6 => k_is); (case c6 => k_is); (case k6 => k_is); (case a7 => k_is); (case l7 => k_is); (case c7 => k_is); (case k7 => k_is); (case a8 => k_is); (case l8 => k_is); (case c8 => k_is); (case k8 => k_is); (case a9 => k_is); (case l9 => k_is); (case c9 => k_is); (case k9 => k_is); (case a10 => k_is); (case l10 => k_is); (case c10 => k_is); (case k10 => k_is); (case a11 => k_is); (case l11 => k_is); (case c11 => k_is); (case k11 => k_is); (case a12 => k_is); (case l12 => k_is); (case c12 => k_is); (case k12 => k_is); (case a13 => k_is); (case l13 => k_is); (case c13 => k_is); (case k13 => k_is); (case a14 => k_is); (case l14 => k_is); (case c14 => k_is); (case k14 => k_is); (case a15 => k_is); (case l15 => k_is); (case c15 => k_is); (case k15 => k_is); (case a16 => k_is); (case l16 => k_is); (case c16 => k_is); (case k16 => k_is); (case a17 => k_is); (case l17 => k_is); (case c17 => k_is); (case k17 => k_is); (case a18 => k_is); (case l18 => k_is); (case c18 => k_is); (case k18 => k_is); (case a19 => k_is); (case l19 => k_is); (case c19 => k_is); (case k19 => k_is); (case a20 => k_is); (case l20 => k_is); (case c20 => k_is); (case k20 => k_is); (case a21 => k_is); (case l21 => k_is); (case c21 => k_is); (case k21 => k_is); (case a22 => k_is); (case l22 => k_is); (case c22 => k_is); (case k22 => k_is); (case a23 => k_is); (case l23 => k_is); (case c23 => k_is); (case k23 => k_is); (case a24 => k_is); (case l24 => k_is); (case c24 => k_is); (case k24 => k_is); (case a25 => k_is); (case l25 => k_is); (case c25 => k_is); (case k25 => k_is); (case a26 => k_is); (case l26 => k_is); (case c26 => k_is); (case k26 => k_is); (case a27 => k_is); (case l27 => k_is); (case c27 => k_is); (case k27 => k_is); (case a28 => k_is); (case l28 => k_is); (case c28 => k_is); (case k28 => k_is); (case a29 => k_is); (case l29 => k_is); (case c29 => k_is); (case k29 => k_is); (case a30 => k_is); (case l30 => k_is); (case c30 => k_is); (case k30 => k_is); (case a31 => k_is); (case l31 => k_is); (case c31 => k_is); (case k31 => k_is); (case a32 => k_is); (case l32 => k_is); (case c32 => k_is); (case k32 => k_is); (case a33 => k_is); (case l33 => k_is); (case c33 => k_is); (case k33 => k_is); (case a34 => k_is); (case l34 => k_is); (case c34 => k_is); (case k34 => k_is); (case a35 => k_is); (case l35 => k_is); (case c35 => k_is); (case k35 => k_is); (case a36 => k_is); (case l36 => k_is); (case c36 => k_is); (case k36 => k_is); (case z0 => k_is); (case z1 => k_is); (case z2 => k_is); (case z3 => k_is); (case z4 => k_is); (case z5 => k_is); (case z6 => k_is); (case z7 => k_is); (case z8 => k_is); (case ui0 => k_is); (case ui1 => k_is); (case ui2 => k_is); (case ub0 => k_is); (case uP => k_is); (case bP => k_is); (case tP => k_is); (case iP => k_is); (case uE0 => k_is); (case xE0 => k_exc); (case kE0 => k_is); (case bE0 => k_is); (case tE0 => k_is); (case sE0 => k_is); (case exa0 => k_is); (case exb0 => k_is); (case exc0 => k_is); (case exd0 => k_is); (case exe0 => k_is); (case exf0 => k_is); (case exg0 => k_is)

