import PyProof.Rows.All
import Wide.All
import OpenK.AllK
import Wide.FinOn
import HandS.ForMost
import HandS.ForExc
import HandS.ExcIs
import HandS.More
import HandS.Gcd
import HandS.EndBits
import HandS.Small
import HandS.Deep
import HandS.RevRange
import HandS.TupLen
import HandS.Dict
import HandS.SetFor
import HandS.Strs
import PyProof.ExcBaseAll.ValueError
import HandS.Evl
import HandS.Wide
import HandS.WideBits
import HandS.Style
import HandS.IsInst
import PyProof.P3Eq
import KE.GoesEnum
import HandS.Star
import HandS.Conv
import HandS.Walk
import PyProof.MaxThree
import Flt.RightSqrt
import KE.KMathG
import HandS.Codes
import HandS.StrMore
import HandS.Text
import KE.IntTextLaws
import PyProof.Rows.StrAscii
import HandS.Words
import HandS.Zip
import HandS.FStr
import KE.KDictZip
import KE.KTurns
import PyProof.ListNew
import HandS.Flt
import HandS.Comp
import HandS.Exc
import HandS.ExcOwn
import HandS.MapJoin
import HandS.Nested
import HandS.EndTab
import KE.KNest
import PySem.Challenge.RW_portolan_k52_ellipsoids
set_option Elab.async false
set_option linter.all false
set_option maxRecDepth 100000
set_option maxHeartbeats 4000000
/-! Own rules over the layer: what a reading evaluates to, for texts that change nothing. -/
namespace Cm
open PySem PySem.Spec PyProof.Rows L2 Evl

theorem ex_app {H H' : Hp} (e : Ex H H') {p : Addr} {o : HO} (h : H p = some o) : H' p = some o := e p o h
/-- a new tuple comes back -/
def RetU (xs : List V) (H : Hp) (Q : VK) : Prop := ∀ p H2, H p = none → Ex H H2 → H2 p = some (.tup xs) → Q (.ref p) H2
def SpU (sp : Sp) (vs : List V) (H : Hp) (xs : List V) : Prop := ∀ H1, Ex H H1 → ∀ Q : VK, (∀ p H2, H1 p = none → Ex H1 H2 → H2 p = some (.tup xs) → Q (.ref p) H2) → ∀ E : XK, sp vs H1 Q E
section
variable {K : PySem.W.Frag} {σ : L2.St} {H H' : Hp} {ta tb tc te tx : TE} {t u : TT} {x y z v w : V} {r r' : R2} {D : Ends} {tz : TS}
/-- the slots written out anew -/
theorem st_is {σ' : L2.St} {ts : TS} (e : σ = σ') (h : ts D σ' H) : ts D σ H := by
  rw [e]
  exact h
theorem RetU.go {xs : List V} {Q : VK} (k : RetU xs H Q) (e : Ex H H') {p : Addr} {H2 : Hp} (hp : H' p = none) (e2 : Ex H' H2) (h : H2 p = some (.tup xs)) : Q (.ref p) H2 := k p H2 (fresh_back e hp) (e.trans e2) h
theorem eu_call {sp : Sp} {dvs vs xs : List V} {E : XK} {ta : TA} (h : EvA ta σ H vs) (hs : SpU sp (vs ++ dvs) H xs) : EvU (tCall sp dvs E ta) σ H xs := fun H1 e Q q =>
  h H1 e _ fun H2 e2 => hs H2 (e.trans e2) Q (fun p H3 hp e3 h3 => q p H3 (fresh_back e2 hp) (e2.trans e3) h3) E
theorem eu_is {xs ys : List V} (h : EvU te σ H xs) (e : xs = ys) : EvU te σ H ys := by
  rw [← e]
  exact h
/-- a call whose first argument is a new tuple -/
theorem ev_callU {sp : Sp} {dvs vs xs : List V} {E : XK} {tr : TA} (h1 : EvU te σ H xs) (h2 : EvA tr σ H vs) (hs : ∀ p H1, Ex H H1 → H1 p = some (.tup xs) → SpV sp (.ref p :: vs ++ dvs) H1 z) : Ev (tCall sp dvs E (tCons te tr)) σ H z := fun H1 e Q q =>
  h1 H1 e _ fun p H2 np e2 hp => h2 H2 (e.trans e2) _ fun H3 e3 => hs p H3 ((e.trans e2).trans e3) (e3 _ _ hp) H3 (Ex.refl H3) Q (fun H4 e4 => q H4 ((e2.trans e3).trans e4)) E
/-- .. whose second argument is a new tuple -/
theorem ev_callVU {sp : Sp} {dvs vs xs : List V} {E : XK} {tr : TA} (h0 : Ev ta σ H x) (h1 : EvU te σ H xs) (h2 : EvA tr σ H vs) (hs : ∀ p H1, Ex H H1 → H1 p = some (.tup xs) → SpV sp (x :: .ref p :: vs ++ dvs) H1 z) : Ev (tCall sp dvs E (tCons ta (tCons te tr))) σ H z := fun H1 e Q q =>
  h0 H1 e _ fun H2 e2 => h1 H2 (e.trans e2) _ fun p H3 np e3 hp => h2 H3 ((e.trans e2).trans e3) _ fun H4 e4 => hs p H4 (((e.trans e2).trans e3).trans e4) (e4 _ _ hp) H4 (Ex.refl H4) Q (fun H5 e5 => q H5 (((e2.trans e3).trans e4).trans e5)) E
theorem ev_chain {b c : Bool} (ha : Ev ta σ H x) (hb : Ev tb σ H y) (hc : Ev tc σ H w) (h1 : RV r x y H (.bl b)) (h2 : RV r' y w H (.bl c)) : Ev (tChain r r' ta tb tc) σ H (.bl (b && c)) := fun H1 e Q q =>
  ha H1 e _ fun H2 e2 => hb H2 (e.trans e2) _ fun H3 e3 => h1 H3 ((e.trans e2).trans e3) _ fun H4 e4 => ⟨b, rfl, by
    cases b with
    | true =>
      show tc σ H4 _
      exact hc H4 (((e.trans e2).trans e3).trans e4) _ fun H5 e5 => h2 H5 ((((e.trans e2).trans e3).trans e4).trans e5) Q fun H6 e6 => q H6 ((((e2.trans e3).trans e4).trans e5).trans e6)
    | false =>
      show Q (.bl false) H4
      exact q H4 ((e2.trans e3).trans e4)⟩
theorem rv_shl {i : Int} {k : Nat} (h : CShl i (k : Int)) : RV (fun x y H Q => ∃ (i : Int) (k : Nat), x = .int i ∧ y = .int (k : Int) ∧ CShl i (k : Int) ∧ Q (.int (i * 2 ^ k)) H) (.int i) (.int (k : Int)) H (.int (i * 2 ^ k)) :=
  fun H1 _ _ q => ⟨i, k, rfl, rfl, h, q H1 (Ex.refl H1)⟩
theorem rv_shr {i : Int} {k : Nat} : RV (fun x y H Q => ∃ (i : Int) (k : Nat), x = .int i ∧ y = .int (k : Int) ∧ Q (.int (i / 2 ^ k)) H) (.int i) (.int (k : Int)) H (.int (i / 2 ^ k)) :=
  fun H1 _ _ q => ⟨i, k, rfl, rfl, q H1 (Ex.refl H1)⟩
theorem rv_isB {a b : Bool} : RV rIsB (.bl a) (.bl b) H (.bl (decide (a = b))) := fun H1 _ _ q => ⟨a, b, rfl, rfl, q H1 (Ex.refl H1)⟩
theorem rv_notB {a b : Bool} : RV rNotB (.bl a) (.bl b) H (.bl (!decide (a = b))) := fun H1 _ _ q => ⟨a, b, rfl, rfl, q H1 (Ex.refl H1)⟩
theorem rv_isN : RV (fun x y H Q => y = .non ∧ Q (.bl (decide (x = .non))) H) x .non H (.bl (decide (x = .non))) := fun H1 _ _ q => ⟨rfl, q H1 (Ex.refl H1)⟩
theorem rv_notN : RV (fun x y H Q => y = .non ∧ Q (.bl (!decide (x = .non))) H) x .non H (.bl (!decide (x = .non))) := fun H1 _ _ q => ⟨rfl, q H1 (Ex.refl H1)⟩
theorem rc_abs {i : Int} : RC (fun xs H Q => ∃ i, xs = [.int i] ∧ Q (.int (if i < 0 then -i else i)) H) [.int i] H (.int (i.natAbs : Int)) := fun H1 _ Q q => ⟨i, rfl, by
  have e : (if i < 0 then -i else i) = (i.natAbs : Int) := by split <;> omega
  rw [e]
  exact q H1 (Ex.refl H1)⟩
theorem rc_max2 {i j : Int} : RC (fun xs H Q => ∃ i j, xs = [.int i, .int j] ∧ Q (.int (if j > i then j else i)) H) [.int i, .int j] H (.int (max i j)) := fun H1 _ Q q => ⟨i, j, rfl, by
  have e : (if j > i then j else i) = max i j := by split <;> omega
  rw [e]
  exact q H1 (Ex.refl H1)⟩
theorem rc_min2 {i j : Int} : RC (fun xs H Q => ∃ i j, xs = [.int i, .int j] ∧ Q (.int (if j < i then j else i)) H) [.int i, .int j] H (.int (min i j)) := fun H1 _ Q q => ⟨i, j, rfl, by
  have e : (if j < i then j else i) = min i j := by split <;> omega
  rw [e]
  exact q H1 (Ex.refl H1)⟩
theorem rc_intB {k : Bool} : RC (fun xs H Q => (∃ i, xs = [.int i] ∧ Q (.int i) H) ∨ ∃ k, xs = [.bl k] ∧ Q (.int (if k then 1 else 0)) H) [.bl k] H (.int (if k then 1 else 0)) := fun H1 _ Q q => Or.inr ⟨k, rfl, q H1 (Ex.refl H1)⟩
theorem rc_intI {i : Int} : RC (fun xs H Q => (∃ i, xs = [.int i] ∧ Q (.int i) H) ∨ ∃ k, xs = [.bl k] ∧ Q (.int (if k then 1 else 0)) H) [.int i] H (.int i) := fun H1 _ Q q => Or.inl ⟨i, rfl, q H1 (Ex.refl H1)⟩
theorem rc_isiT {p : Addr} {xs : List V} (h : H p = some (.tup xs)) : RC (rIsi K) [.ref p, .ty "tuple"] H (.bl true) := fun H1 e _ q =>
  ⟨.ref p, .ty "tuple", .type "tuple", .type "tuple", true, rfl, .ty _, .base (.tup (e _ _ h)), kit_ty (by decide +kernel), q H1 (Ex.refl H1)⟩
theorem rc_isiS {x : Str} : RC (rIsi K) [.str x, .ty "str"] H (.bl true) := fun H1 e _ q =>
  ⟨.str x, .ty "str", .type "str", .type "str", true, rfl, .ty _, .base (.str x), kit_ty (by decide +kernel), q H1 (Ex.refl H1)⟩
theorem rc_lenL {p : Addr} {xs : List V} (h : SqL K H p xs) : RC (fun xs H Q => ∃ x n, xs = [x] ∧ LenV K x H n ∧ Q (.int n) H) [.ref p] H (.int (xs.length : Int)) := fun H1 e _ q =>
  ⟨.ref p, (xs.length : Nat), rfl, .inl ⟨_, ex_l e h, rfl⟩, q H1 (Ex.refl H1)⟩
/-! ### data -/
mutual
theorem dp_mono (e : Ex H H') : ∀ (d : PyData) (v : V), Dp K H v d → Dp K H' v d
  | _, _, .non => .non
  | _, _, .bl b => .bl b
  | _, _, .int i => .int i
  | _, _, .str x => .str x
  | _, _, .lst h a => .lst (ex_l e h) (dps_mono e _ _ a)
  | _, _, .tup h a => .tup (ex_t e h) (dps_mono e _ _ a)
theorem dps_mono (e : Ex H H') : ∀ (ds : List PyData) (vs : List V), DpAll K H vs ds → DpAll K H' vs ds
  | _, _, .nil => .nil
  | _, _, .cons h t => .cons (dp_mono e _ _ h) (dps_mono e _ _ t)
end
theorem dpInts : ∀ (is : List Int), DpAll K H (is.map V.int) (is.map PyData.int)
  | [] => .nil
  | i :: r => .cons (.int i) (dpInts r)
theorem eqvS {d : PyData} (h : SeqAt.shaped d = true) : PyData.eqv d d = true := by
  unfold SeqAt.shaped at h
  rw [Bool.and_eq_true] at h
  exact PySem.SeqAt.eqv_refl d h.1
/-- the same data on both sides -/
theorem rv_neS {d : PyData} (hx : Dp K H x d) (hy : Dp K H y d) (hs : SeqAt.shaped d = true) : RV (rNeD K) x y H (.bl false) := fun H1 e Q q =>
  ⟨d, d, dp_mono e _ _ hx, dp_mono e _ _ hy, hs, hs, by
    rw [eqvS hs]
    exact q H1 (Ex.refl H1)⟩
theorem rv_eqS {d : PyData} (hx : Dp K H x d) (hy : Dp K H y d) (hs : SeqAt.shaped d = true) : RV (rEqD K) x y H (.bl true) := fun H1 e Q q =>
  ⟨d, d, dp_mono e _ _ hx, dp_mono e _ _ hy, hs, hs, by
    rw [eqvS hs]
    exact q H1 (Ex.refl H1)⟩
/-- a pair of ints -/
theorem dp2 {p : Addr} {i j : Int} (h : SqT K H p [.int i, .int j]) : Dp K H (.ref p) (.tuple [.int i, .int j]) := .tup h (.cons (.int i) (.cons (.int j) .nil))
theorem sh2 {i j : Int} : SeqAt.shaped (.tuple [.int i, .int j]) = true := rfl
end
/-! ### numbers -/
/-- a bound that omega does not look into -/
def Bd (k : Nat) (x : Int) : Prop := x.natAbs < 2 ^ k
theorem pow_pos (n : Nat) : (0 : Int) < 2 ^ n := PySem.W.kbt_pos n
theorem pow_abs (n : Nat) : ((2 : Int) ^ n).natAbs = 2 ^ n := by
  rw [Int.natAbs_pow]
  rfl
theorem ab_mono {x : Int} {a b : Nat} (h : x.natAbs < 2 ^ a) (hab : a ≤ b) : x.natAbs < 2 ^ b := Nat.lt_of_lt_of_le h (Nat.pow_le_pow_right (by decide) hab)
theorem ab_pow {n k : Nat} (h : n < k) : ((2 : Int) ^ n).natAbs < 2 ^ k := by
  rw [pow_abs]
  exact Nat.pow_lt_pow_right (by decide) h
theorem ab_shl {x : Int} {a n : Nat} (h : x.natAbs < 2 ^ a) : (x * 2 ^ n).natAbs < 2 ^ (a + n) := by
  rw [Int.natAbs_mul, pow_abs, Nat.pow_add]
  exact Nat.mul_lt_mul_of_pos_right h (Nat.two_pow_pos n)
theorem ab_mul {x y : Int} {a b : Nat} (hx : x.natAbs < 2 ^ a) (hy : y.natAbs < 2 ^ b) : (x * y).natAbs < 2 ^ (a + b) := wide_lt hx hy
theorem ab_add {x y : Int} {a : Nat} (hx : x.natAbs < 2 ^ a) (hy : y.natAbs < 2 ^ a) : (x + y).natAbs < 2 ^ (a + 1) := by
  have e : 2 ^ (a + 1) = 2 ^ a + 2 ^ a := by rw [Nat.pow_succ]; omega
  omega
theorem ab_neg {x : Int} {a : Nat} (hx : x.natAbs < 2 ^ a) : (-x).natAbs < 2 ^ a := by omega
theorem ab_sm {x : Int} {a c : Nat} (h : x.natAbs ≤ c) (hc : c < 2 ^ a) : x.natAbs < 2 ^ a := Nat.lt_of_le_of_lt h hc
theorem fl_le {s q : Int} (hq : 0 < q) : s / q * q ≤ s := Int.ediv_mul_le s (by omega)
theorem fl_lt {s q : Int} (hq : 0 < q) : s < (s / q + 1) * q := by
  rw [Int.add_mul, Int.one_mul]
  exact Int.lt_ediv_add_one_mul_self s hq |> fun h => by rw [Int.add_mul, Int.one_mul] at h; exact h
theorem cl_ge {s q : Int} (hq : 0 < q) : s ≤ -(-s / q) * q := by
  have h := fl_le (s := -s) hq
  rw [Int.neg_mul]
  omega
theorem cl_lt {s q : Int} (hq : 0 < q) : (-(-s / q) - 1) * q < s := by
  have h := fl_lt (s := -s) hq
  rw [Int.sub_mul, Int.one_mul, Int.neg_mul]
  rw [Int.add_mul, Int.one_mul] at h
  omega
theorem ab_div {x q : Int} {a : Nat} (hq : 0 < q) (h : x.natAbs < 2 ^ a) : (x / q).natAbs < 2 ^ a := by
  have h1 : (x / q).natAbs ≤ x.natAbs := by
    by_cases hx : 0 ≤ x
    · have := Int.ediv_le_self q hx
      have := Int.ediv_nonneg hx (Int.le_of_lt hq)
      omega
    · have h2 : x / q < 0 := Int.ediv_neg_of_neg_of_pos (by omega) hq
      have h3 := fl_lt (s := x) hq
      have h4 : (x / q + 1) * q ≤ (x / q + 1) := by
        have h5 : (x / q + 1) * (q - 1) ≤ 0 := Int.mul_nonpos_of_nonpos_of_nonneg (by omega) (by omega)
        rw [Int.mul_sub, Int.mul_one] at h5
        omega
      omega
  omega
theorem mul_le_r {a b q : Int} (h : a ≤ b) (hq : 0 < q) : a * q ≤ b * q := Int.mul_le_mul_of_nonneg_right h (Int.le_of_lt hq)
/-- the ceiling, by one more where the floor is not exact -/
theorem ceil_eq {s q : Int} (hq : 0 < q) : -(-s / q) = s / q + (if (!decide (s / q * q = s)) = true then 1 else 0) := by
  have a1 := fl_le (s := s) hq
  have a2 := fl_lt (s := s) hq
  have b1 := cl_ge (s := s) hq
  have b2 := cl_lt (s := s) hq
  have lt_of : ∀ {u v : Int}, u * q < v * q → u < v := fun h => Int.lt_of_mul_lt_mul_right h (Int.le_of_lt hq)
  have c1 : -(-s / q) - 1 < s / q + 1 := lt_of (Int.lt_trans b2 a2)
  by_cases e : s / q * q = s
  · rw [decide_eq_true e]
    have c2 : -(-s / q) - 1 < s / q := lt_of (by rw [e]; exact b2)
    have c3 : s / q - 1 < -(-s / q) := lt_of (Int.lt_of_lt_of_le (by rw [Int.sub_mul, Int.one_mul, e]; omega) b1)
    show _ = s / q + 0
    omega
  · rw [decide_eq_false e]
    have c3 : s / q < -(-s / q) := lt_of (by omega)
    show _ = s / q + 1
    omega
end Cm

/-! Own rule: for i, x in enumerate(t), t a tuple. -/
namespace Et
open PySem PySem.Spec PyProof.Rows L2

theorem meets1 {v : Value} {o : Obj} {H : Heap → Prop} (B : Begins v o H) :
    Meets (Builtin.«enumerate.__new__» ⟨[.type "enumerate", v], []⟩) (fun _ R s => H s.heap ∧
      R (.ok (.ret (.ref (s.heap.push o).objs.size))) { s with heap := (s.heap.push o).push { cls := .type "enumerate", data := .fields #[.none, .bool false, .ref s.heap.objs.size, rawInt 0, .none, .none] } }) :=
  .of_wp fun prog w A R s h => by
    obtain ⟨hp, g, d, tk, os⟩ := s; obtain ⟨h1, h⟩ := h
    have hsub := sub_enumerate
    have q1 : ∀ {A' : Around} {E : Value → Shared → Prop} {Q : Value → Shared → Prop}, Q (.ref hp.objs.size) ⟨hp.push o, g, d, tk, os⟩ → wpAny (model prog w) A' (pyIter v) Q E ⟨hp, g, d, tk, os⟩ :=
      fun q => B.iter prog w _ _ ⟨hp, g, d, tk, os⟩ _ h1 q
    wp_walk using q1
    refine wpAny_stack_any fun st => wpAny_pure ?_
    split
    · rename_i c _ _ _ _ _
      cases (c == Value.type "enumerate")
      · wp_walk using q1
        exact ⟨_, rfl, h⟩
      · wp_walk using q1
        exact ⟨_, rfl, h⟩
    · wp_walk using q1
      exact ⟨_, rfl, h⟩
section
variable {prog : Program} {w : World} {A : Around} {E : Value → Shared → Prop} {s : Shared}
theorem begins1 {v : Value} {o : Obj} {H : Heap → Prop} {Q : Value → Shared → Prop} (B : Begins v o H) (h1 : H s.heap)
    (h : ∀ h', IsEnum h' (s.heap.objs.size + 1) s.heap.objs.size 0 .none → h'.get? s.heap.objs.size = some o → h'.objs.size = s.heap.objs.size + 2 →
      (∀ b o, s.heap.get? b = some o → h'.get? b = some o) → Q (.ref (s.heap.objs.size + 1)) { s with heap := h' }) :
    wpAny (model prog w) A (call (.type "enumerate") [v]) Q E s := by
  refine callType_new F.called_enumerate (by decide) (F.typeCall_enumerate_1 _) (F.newCall_enumerate_1 _) (fun obj => F.args_object_init_2 obj _) F.entry_enumerate_new
    (meets1 B) ⟨h1, ?_⟩
  have hz : (s.heap.push o).objs.size = s.heap.objs.size + 1 := Heap.size_push ..
  show _ ∧ _
  rw [hz]
  have he : IsEnum ((s.heap.push o).push { cls := .type "enumerate", data := .fields #[.none, .bool false, .ref s.heap.objs.size, rawInt 0, .none, .none] }) (s.heap.objs.size + 1) s.heap.objs.size 0 .none := by
    have := Heap.get?_push_size (s.heap.push o) (o := { cls := .type "enumerate", data := .fields #[.none, .bool false, .ref s.heap.objs.size, rawInt 0, .none, .none] }) rfl
    rw [hz] at this; exact this
  refine ⟨⟨_, he, rfl⟩, h _ he (Heap.get?_push_of_some _ (Heap.get?_push_size _ B.free)) (by rw [Heap.size_push, hz]) fun b o x => Heap.get?_push_of_some _ (Heap.get?_push_of_some _ x)⟩
end
section
variable {prog : Program} {w : World} {A : Around} {E : Value → Shared → Prop} {s : Shared}
theorem enum_endT {e it l : Addr} {i : Nat} {items : Array Value} {old : Value} {Q : Option Value → Shared → Prop} (hh : A.handled = none)
    (he : IsEnum s.heap e it i old) (hit : s.heap.IsTupleIter it l i) (hl : s.heap.IsTuple l items) (hx : items[i]? = none)
    (hQ : ∀ h', Heap.ExtBut it s.heap h' → Q none { s with heap := h' }) : wpAny (model prog w) A (pyNext (.ref e)) Q E s := by
  have hT : s.TypeIs (.ref e) "enumerate" := ⟨_, he, rfl⟩
  unfold pyNext
  refine wpAny_bind (wpAny_attempt (wpAny_callSpecial?_slot (name := Str.ofString "__next__") hT F.slot_enumerate_next
    (wpAny_call_entry F.slot_enumerate_next hT F.entry_enumerate_next ?_ (F.args_enumerate_next_1 _))))
  show wpAny _ _ (field (.ref e) 2 >>= _) _ _ _
  refine wpAny_bind (wpAny_field he rfl (x := .ref it) rfl ?_)
  refine wpAny_bind (wpAny_nextOf_tuple_end hh hit hl hx fun h' x he' hx' => ?_)
  obtain ⟨o, ho, hc⟩ := hx'
  refine wpAny_bind (wpAny_isInstance (T := "StopIteration") (b := true) ⟨o, ho, hc⟩ isSubtype_stop ?_)
  exact wpAny_pure (hQ _ he')
end
/-- the tuple at a as it stands at each turn, each item in a new pair -/
def Iet (K : PySem.W.Frag) (a : Addr) : It :=
  ⟨fun i H => ∃ (xs : List V) (x : V), SqT K H a xs ∧ xs[i]? = some x, fun i H v H' => ∃ T x, v = .ref T ∧ H T = none ∧ H' = upd H T (.tup [.int (i : Nat), x]) ∧ ∀ xs, SqT K H a xs → xs[i]? = some x, fun i H => ∃ xs : List V, SqT K H a xs ∧ xs.length ≤ i⟩
theorem turn_enumT {P : Program} {w : World} {K : PySem.W.Frag} {elts : List Expr} {kk : Nat} {tpos : Pos} (a e it : Addr) :
    Turn P w K (.Tuple elts kk tpos) (Iet K a) [e, it] e (fun i h => (∃ old, IsEnum h e it ((i : Nat) : Int) old) ∧ h.IsTupleIter it a i ∧ e ≠ it) where
  mem := by simp
  obj := fun i h st b hb => by
    obtain ⟨⟨old, he⟩, ⟨o, ho, hc, hd⟩, _⟩ := st
    have e' : b = e ∨ b = it := by simpa using hb
    rcases e' with z | z
    · rw [z]; exact ⟨_, he, fun v q => nomatch q⟩
    · rw [z]; exact ⟨o, ho, fun v q => by rw [hd] at q; cases q⟩
  keep := fun i h h' st k => let ⟨⟨old, he⟩, hi, hne⟩ := st; ⟨⟨old, k e (by simp) _ he⟩, hi.at fun o q => k it (by simp) o q, hne⟩
  item := by
    intro X hP hw hK hc i pins s σ H E I hf st hg
    subst hP hw hK
    obtain ⟨⟨old, he⟩, hit, hne⟩ := st
    obtain ⟨xs, x, hq, hx⟩ := hg
    obtain ⟨its, rv, p, hz⟩ := I.tuple hq
    obtain ⟨u, hu, ru⟩ := rv.get hx
    have hel : e < s.heap.objs.size := Heap.lt_size he
    have hil : it < s.heap.objs.size := by obtain ⟨_, q, _⟩ := hit; exact Heap.lt_size q
    have hat : a ≠ it := fun z => by
      subst z
      obtain ⟨o1, e1, c1, _⟩ := hit
      obtain ⟨o2, e2, c2, _⟩ := p
      rw [e1] at e2
      cases e2
      rw [c1] at c2
      exact absurd (Value.type.inj c2) (by decide)
    have hae : a ≠ e := fun z => by
      subst z
      obtain ⟨o2, e2, c2, _⟩ := p
      rw [he] at e2
      cases e2
      exact absurd (Value.type.inj c2) (by decide)
    have hlt : i < its.toArray.size := by
      rw [List.size_toArray]
      exact (List.getElem?_eq_some_iff.mp hu).1
    refine wpAny_pyNext_enum_itemD (Draws.tuple (A := X.A.in1) (I.ok.hd hc) it a hat its.toArray) he ⟨hit, p⟩ hlt hne (by simp; exact ⟨hne, Ne.symm hae⟩) fun y h' tk hy ho hst' hT hsz hk => ?_
    have eu : y = u := by
      have h1 : its.toArray[i]? = some u := by simpa using hu
      rw [h1] at hy
      exact (Option.some.inj hy).symm
    subst eu
    refine ⟨_, rfl, wpAny_letOwnedTupleGo_enum (s := { s with heap := h', toks := tk + 1 }) ho fun h'' he' sb => ?_⟩
    have hT2 : h''.get? s.heap.objs.size = some { cls := .type "tuple", data := .seq #[.int i tk, y] } := (sb.2 _ (Nat.ne_of_gt hel)).trans hT
    have new : ObjOk X.prog X.w (upd H s.heap.objs.size (.tup [.int (i : Nat), x])) h'' s.heap.objs.size (.tup [.int (i : Nat), x]) :=
      ⟨by show 2 ≤ sizeLine; decide, [.int i tk, y], .cons ⟨_, rfl⟩ (.cons ru .nil), ⟨_, hT2, rfl, _, rfl⟩⟩
    have I1 : Inv X pins σ (upd H s.heap.objs.size (.tup [.int (i : Nat), x])) { s with heap := h'', toks := tk + 1 } :=
      I.turnedNew (ch := [e, it]) (fun b ob hb q => (sb.2 b (fun z => hb (by simp [z]))).trans (hk b ob (fun z => hb (by simp [z])) (fun z => hb (by simp [z])) q)) hf (Nat.le_refl _) new
    refine ⟨.ref s.heap.objs.size, _, I1, rfl, ⟨_, x, rfl, I.hok.fresh (Nat.le_refl _), rfl, fun ys hy => by rw [I.tuple_inj hy hq]; exact hx⟩, ⟨⟨y, ?_⟩, hst'.1.at fun o q => (sb.2 it (Ne.symm hne)).trans q, hne⟩, fun b hb => ?_⟩
    · have e1 : ((i + 1 : Nat) : Int) = (i : Int) + 1 := by omega
      rw [e1]; exact he'
    · have hb' : b < s.heap.objs.size := by
        have e' : b = e ∨ b = it := by simpa using hb
        rcases e' with z | z
        · rw [z]; exact hel
        · rw [z]; exact hil
      rw [upd_ne (Nat.ne_of_lt hb')]
      exact (hf b hb).1
  done := by
    intro X hP hw hK hc i pins s σ H E I hf st hg
    subst hP hw hK
    obtain ⟨⟨old, he⟩, hit, hne⟩ := st
    obtain ⟨xs, hq, hx⟩ := hg
    obtain ⟨its, rv, p, hz⟩ := I.tuple hq
    obtain ⟨f0, f1, f2, f3, f4, f5⟩ := hf it (by simp)
    have hl := rv.length
    refine enum_endT (I.ok.hd hc) he hit p (by simp; omega) fun h' eb => ⟨rfl, I.turned (t' := s.toks) (fun b o hb q => eb b o hb q) f0 f1 f3 f4 f5⟩
  self := fun A i s Q E st h => let ⟨⟨_, he⟩, _⟩ := st; wpAny_pyIter_enum he h
def iEnumT (K : PySem.W.Frag) (ta : TA) : TI := fun σ H R => ta σ H fun vs H1 => ∃ a xs, vs = [.ref a] ∧ SqT K H1 a xs ∧ R (Iet K a) H1
theorem pi_enumT {X : Cx} {e : Expr} {ta : TA} {p pos tpos : Pos} {elts : List Expr} {kk : Nat} (hg : Gl X "enumerate") (hm : X.mg "enumerate" = none) (ha : PA X [e] ta) (hs : starEach [e] X.env = [(false, eval e X.env)] := by rfl) :
    PI X (.Tuple elts kk tpos) (.Call (.Name "enumerate" p) [e] [] pos) (iEnumT X.K ta) := by
  refine ⟨fun pins s σ H R I h => ?_⟩
  refine Call_ (ld_blt I hg hm boot_enumerate (PyProof.Rows.callWith_type1 (thn (ha.run pos pins s σ H _ I h) fun us s1 ⟨vs, H1, I1, r1, q1⟩ => ?_) hs rfl))
  obtain ⟨a, xs, ex, hq, q⟩ := q1
  subst ex
  cases r1 with
  | cons r rr =>
    cases rr
    cases r
    obtain ⟨its, rv, p', hz⟩ := I1.tuple hq
    refine begins1 (begins_tuple a its.toArray) p' fun h' he hit hsz hk => wpAny_pyIter_enum he ?_
    have I2 : Inv X pins σ H1 { s1 with heap := h' } := I1.kept (t' := s1.toks) hk
    refine ⟨s1.heap.objs.size + 1, [s1.heap.objs.size + 1, s1.heap.objs.size], _, _, H1, rfl, I2, turn_enumT a (s1.heap.objs.size + 1) s1.heap.objs.size, ⟨⟨.none, he⟩, ⟨_, hit, rfl, rfl⟩, Nat.succ_ne_self _⟩, fun b hb => ?_, q⟩
    have e' : b = s1.heap.objs.size + 1 ∨ b = s1.heap.objs.size := by simpa using hb
    have hle : s1.heap.objs.size ≤ b := by
      rcases e' with z | z
      · rw [z]; exact Nat.le_add_right _ _
      · rw [z]; exact Nat.le_refl _
    exact I1.fpOk hle (I1.hok.fresh hle)
end Et

/-! Own data: formulas as they stand in the heap. -/
namespace Fm
open PySem PySem.Spec PyProof.Rows L2 Evl Cm Et

abbrev FStep := Str × List Int
def stV (s : FStep) : List V := .str s.1 :: s.2.map V.int
def stD (s : FStep) : PyData := .tuple (.str s.1 :: s.2.map PyData.int)
def StepAt (H : Hp) (v : V) (s : FStep) : Prop := ∃ p, v = .ref p ∧ H p = some (.tup (stV s))
def StepsAt (H : Hp) (vs : List V) (ss : List FStep) : Prop := vs.length = ss.length ∧ ∀ (i : Nat) v s, vs[i]? = some v → ss[i]? = some s → StepAt H v s
section
variable {K : PySem.W.Frag} {σ : L2.St} {H H' : Hp} {ta tb tc te tx tl : TE} {t u : TT} {x y z v w : V} {r r' : R2} {D : Ends} {tu tz : TS} {vs ws : List V} {ss ts : List FStep} {s : FStep} {g : TG}
theorem StepAt.mono (e : Ex H H') (h : StepAt H v s) : StepAt H' v s := by
  obtain ⟨p, h1, h2⟩ := h
  exact ⟨p, h1, e _ _ h2⟩
theorem StepsAt.mono (e : Ex H H') (h : StepsAt H vs ss) : StepsAt H' vs ss := ⟨h.1, fun i v s a b => (h.2 i v s a b).mono e⟩
theorem StepsAt.nil : StepsAt H [] [] := ⟨rfl, fun i v s h _ => by simp at h⟩
theorem StepsAt.app (h1 : StepsAt H vs ss) (h2 : StepsAt H ws ts) : StepsAt H (vs ++ ws) (ss ++ ts) := by
  refine ⟨by rw [List.length_append, List.length_append, h1.1, h2.1], fun i v s a b => ?_⟩
  by_cases hi : i < vs.length
  · rw [List.getElem?_append_left hi] at a
    rw [List.getElem?_append_left (by rw [← h1.1]; exact hi)] at b
    exact h1.2 i v s a b
  · rw [List.getElem?_append_right (by omega)] at a
    rw [List.getElem?_append_right (by have := h1.1; omega)] at b
    rw [← h1.1] at b
    exact h2.2 _ v s a b
theorem StepsAt.one (h : StepAt H v s) : StepsAt H [v] [s] := ⟨rfl, fun i x y a b => by
  cases i with
  | zero =>
    cases Option.some.inj a
    cases Option.some.inj b
    exact h
  | succ i => simp at a⟩
theorem StepsAt.snoc (h1 : StepsAt H vs ss) (h : StepAt H v s) : StepsAt H (vs ++ [v]) (ss ++ [s]) := h1.app (.one h)
theorem StepsAt.get (h : StepsAt H vs ss) {i : Nat} (hi : vs[i]? = some v) : ∃ s, ss[i]? = some s ∧ StepAt H v s := by
  have h1 : i < ss.length := by
    rw [← h.1]
    exact (List.getElem?_eq_some_iff.mp hi).1
  exact ⟨ss[i], List.getElem?_eq_getElem h1, h.2 i v _ hi (List.getElem?_eq_getElem h1)⟩
theorem StepAt.dp (h : StepAt H v s) : Dp K H v (stD s) := by
  obtain ⟨p, rfl, h⟩ := h
  exact .tup (st_of h) (.cons (.str _) (dpInts _))
theorem StepsAt.dp : ∀ {vs : List V} {ss : List FStep}, StepsAt H vs ss → DpAll K H vs (ss.map stD)
  | [], [], _ => .nil
  | [], _ :: _, h => by simp [StepsAt] at h
  | _ :: _, [], h => by simp [StepsAt] at h
  | v :: vs, s :: ss, h => .cons (StepAt.dp (h.2 0 v s rfl rfl)) (StepsAt.dp ⟨by simpa using h.1, fun i x y a b => h.2 (i + 1) x y a b⟩)
theorem lay_ints : ∀ (is : List Int), PyData.canLayAll0 (is.map PyData.int) = true
  | [] => rfl
  | i :: r => by
    show (PyData.canLay0 (.int i) && PyData.canLayAll0 (r.map PyData.int)) = true
    rw [lay_ints r]
    rfl
theorem dep_ints : ∀ (is : List Int), PyData.depthAll (is.map PyData.int) = 0
  | [] => rfl
  | i :: r => by
    show max 0 (PyData.depthAll (r.map PyData.int)) = 0
    rw [dep_ints r]
    rfl
theorem dep_st (s : FStep) : PyData.depth (stD s) = 1 := by
  show max 0 (PyData.depthAll (s.2.map PyData.int)) + 1 = 1
  rw [dep_ints]
  rfl
theorem dep_sts : ∀ (ss : List FStep), PyData.depthAll (ss.map stD) ≤ 1
  | [] => Nat.zero_le _
  | s :: r => by
    show max (PyData.depth (stD s)) (PyData.depthAll (r.map stD)) ≤ 1
    rw [dep_st]
    have := dep_sts r
    omega
def OkS (s : FStep) : Prop := PyData.strOk s.1 = true
theorem lay_st {s : FStep} (h : OkS s) : PyData.canLay0 (stD s) = true := by
  show (PyData.canLay0 (.str s.1) && PyData.canLayAll0 (s.2.map PyData.int)) = true
  rw [lay_ints, Bool.and_true]
  exact h
theorem lay_sts : ∀ {ss : List FStep}, (∀ s ∈ ss, OkS s) → PyData.canLayAll0 (ss.map stD) = true
  | [], _ => rfl
  | s :: r, h => by
    show (PyData.canLay0 (stD s) && PyData.canLayAll0 (r.map stD)) = true
    rw [lay_st (h s (.head _)), lay_sts fun x hx => h x (.tail _ hx)]
    rfl
def foD (ss : List FStep) : PyData := .tuple (ss.map stD)
theorem sh_form (h : ∀ s ∈ ss, OkS s) : SeqAt.shaped (foD ss) = true := by
  unfold SeqAt.shaped
  rw [show PyData.canLay0 (foD ss) = PyData.canLayAll0 (ss.map stD) from rfl, lay_sts h, Bool.true_and]
  refine decide_eq_true ?_
  show PyData.depthAll (ss.map stD) + 1 ≤ 64
  have := dep_sts ss
  omega
theorem sh_list (h : ∀ s ∈ ss, OkS s) : SeqAt.shaped (.list (ss.map stD)) = true := sh_form h
/-! ### what is a formula -/
def W2 : List Str := ["add", "subtract", "times", "divide"]
def W1 : List Str := ["root", "sine", "cosine", "exp", "log", "arctan", "arcsine", "arccosine"]
def OkStep (k : Nat) (s : FStep) : Prop :=
  (∃ p q, s = (("number" : Str), [p, q]) ∧ 1 ≤ q) ∨ s = (("pi" : Str), []) ∨ (∃ w i j, w ∈ W2 ∧ s = (w, [i, j]) ∧ (0 ≤ i ∧ i < k) ∧ (0 ≤ j ∧ j < k)) ∨ (∃ w i, w ∈ W1 ∧ s = (w, [i]) ∧ (0 ≤ i ∧ i < k))
def OkForm (ss : List FStep) : Prop := ∀ k s, ss[k]? = some s → OkStep k s
theorem w2_all {P : Str → Prop} (h : P "add" ∧ P "subtract" ∧ P "times" ∧ P "divide") : ∀ w ∈ W2, P w := by
  intro w hw
  unfold W2 at hw
  simp only [List.mem_cons, List.not_mem_nil, or_false] at hw
  obtain ⟨h1, h2, h3, h4⟩ := h
  rcases hw with rfl | rfl | rfl | rfl <;> assumption
theorem w1_all {P : Str → Prop} (h : P "root" ∧ P "sine" ∧ P "cosine" ∧ P "exp" ∧ P "log" ∧ P "arctan" ∧ P "arcsine" ∧ P "arccosine") : ∀ w ∈ W1, P w := by
  intro w hw
  unfold W1 at hw
  simp only [List.mem_cons, List.not_mem_nil, or_false] at hw
  obtain ⟨h1, h2, h3, h4, h5, h6, h7, h8⟩ := h
  rcases hw with rfl | rfl | rfl | rfl | rfl | rfl | rfl | rfl <;> assumption
theorem w2_ok : ∀ w ∈ W2, PyData.strOk w = true := w2_all ⟨by decide +kernel, by decide +kernel, by decide +kernel, by decide +kernel⟩
theorem w1_ok : ∀ w ∈ W1, PyData.strOk w = true := w1_all ⟨by decide +kernel, by decide +kernel, by decide +kernel, by decide +kernel, by decide +kernel, by decide +kernel, by decide +kernel, by decide +kernel⟩
theorem w2_nn : ∀ w ∈ W2, w ≠ "number" := w2_all ⟨by decide +kernel, by decide +kernel, by decide +kernel, by decide +kernel⟩
theorem w2_np : ∀ w ∈ W2, w ≠ "pi" := w2_all ⟨by decide +kernel, by decide +kernel, by decide +kernel, by decide +kernel⟩
theorem w1_nn : ∀ w ∈ W1, w ≠ "number" := w1_all ⟨by decide +kernel, by decide +kernel, by decide +kernel, by decide +kernel, by decide +kernel, by decide +kernel, by decide +kernel, by decide +kernel⟩
theorem w1_np : ∀ w ∈ W1, w ≠ "pi" := w1_all ⟨by decide +kernel, by decide +kernel, by decide +kernel, by decide +kernel, by decide +kernel, by decide +kernel, by decide +kernel, by decide +kernel⟩
theorem pi_nn : ("pi" : Str) ≠ "number" := by decide +kernel
theorem ok_num : PyData.strOk "number" = true := by decide +kernel
theorem ok_pi : PyData.strOk "pi" = true := by decide +kernel
theorem OkStep.oks {k : Nat} (h : OkStep k s) : OkS s := by
  rcases h with ⟨p, q, rfl, _⟩ | rfl | ⟨w, i, j, hw, rfl, _⟩ | ⟨w, i, hw, rfl, _⟩
  · exact ok_num
  · exact ok_pi
  · exact w2_ok w hw
  · exact w1_ok w hw
theorem OkStep.mono {k m : Nat} (hk : k ≤ m) (h : OkStep k s) : OkStep m s := by
  rcases h with h | h | ⟨w, i, j, hw, rfl, h1, h2⟩ | ⟨w, i, hw, rfl, h1⟩
  · exact .inl h
  · exact .inr (.inl h)
  · exact .inr (.inr (.inl ⟨w, i, j, hw, rfl, ⟨h1.1, by omega⟩, ⟨h2.1, by omega⟩⟩))
  · exact .inr (.inr (.inr ⟨w, i, hw, rfl, ⟨h1.1, by omega⟩⟩))
theorem OkForm.oks (h : OkForm ss) : ∀ s ∈ ss, OkS s := fun s hs => by
  obtain ⟨k, hk⟩ := List.getElem?_of_mem hs
  exact (h k s hk).oks
theorem OkForm.nil : OkForm [] := fun k s h => by simp at h
theorem OkForm.snoc (h : OkForm ss) (hs : OkStep ss.length s) : OkForm (ss ++ [s]) := fun k x hk => by
  by_cases hi : k < ss.length
  · rw [List.getElem?_append_left hi] at hk
    exact h k x hk
  · rw [List.getElem?_append_right (by omega)] at hk
    have e : k - ss.length = 0 := by
      have := (List.getElem?_eq_some_iff.mp hk).1
      simp at this
      omega
    rw [e] at hk
    cases Option.some.inj hk
    exact hs.mono (by omega)
def shiftS (m : Nat) (s : FStep) : FStep := if s.1 = "number" then s else (s.1, s.2.map fun i => (m : Int) + i)
theorem OkStep.shift {k m : Nat} (h : OkStep k s) : OkStep (m + k) (shiftS m s) := by
  rcases h with ⟨p, q, rfl, hq⟩ | rfl | ⟨w, i, j, hw, rfl, h1, h2⟩ | ⟨w, i, hw, rfl, h1⟩
  · unfold shiftS
    rw [if_pos rfl]
    exact .inl ⟨p, q, rfl, hq⟩
  · unfold shiftS
    rw [if_neg pi_nn]
    exact .inr (.inl rfl)
  · unfold shiftS
    rw [if_neg (w2_nn w hw)]
    exact .inr (.inr (.inl ⟨w, (m : Int) + i, (m : Int) + j, hw, rfl, ⟨by omega, by omega⟩, ⟨by omega, by omega⟩⟩))
  · unfold shiftS
    rw [if_neg (w1_nn w hw)]
    exact .inr (.inr (.inr ⟨w, (m : Int) + i, hw, rfl, ⟨by omega, by omega⟩⟩))
def joinS (w : Str) (f g : List FStep) : List FStep := f ++ g.map (shiftS f.length) ++ [(w, [(f.length : Int) - 1, (f.length : Int) + (g.length : Int) - 1])]
theorem OkForm.app_shift {f gg : List FStep} (hf : OkForm f) (hg : OkForm gg) : OkForm (f ++ gg.map (shiftS f.length)) := fun k x hk => by
  by_cases hi : k < f.length
  · rw [List.getElem?_append_left hi] at hk
    exact hf k x hk
  · rw [List.getElem?_append_right (by omega), List.getElem?_map] at hk
    obtain ⟨s, h1, rfl⟩ := Option.map_eq_some_iff.mp hk
    have h2 := (hg _ s h1).shift (m := f.length)
    rw [show f.length + (k - f.length) = k by omega] at h2
    exact h2
theorem OkForm.join {f gg : List FStep} {w : Str} (hf : OkForm f) (hg : OkForm gg) (hw : w ∈ W2) (h1 : f ≠ []) (h2 : gg ≠ []) : OkForm (joinS w f gg) := by
  have l1 : 0 < f.length := List.length_pos_iff.mpr h1
  have l2 : 0 < gg.length := List.length_pos_iff.mpr h2
  refine OkForm.snoc (hf.app_shift hg) (.inr (.inr (.inl ⟨w, _, _, hw, rfl, ⟨by omega, ?_⟩, ⟨by omega, ?_⟩⟩)))
  · rw [List.length_append, List.length_map]
    omega
  · rw [List.length_append, List.length_map]
    omega
theorem OkForm.app1 {f : List FStep} {w : Str} (hf : OkForm f) (hw : w ∈ W1) (h1 : f ≠ []) : OkForm (f ++ [(w, [(f.length : Int) - 1])]) := by
  have l1 : 0 < f.length := List.length_pos_iff.mpr h1
  exact hf.snoc (.inr (.inr (.inr ⟨w, _, hw, rfl, by omega, by omega⟩)))
/-! ### what comes back -/
def RetF (ss : List FStep) (H : Hp) (Q : VK) : Prop := ∀ a H2 vs, H a = none → Ex H H2 → H2 a = some (.tup vs) → StepsAt H2 vs ss → Q (.ref a) H2
def RetS (s : FStep) (H : Hp) (Q : VK) : Prop := ∀ v H2, Ex H H2 → StepAt H2 v s → Q v H2
def EvF (te : TE) (σ : L2.St) (H : Hp) (ss : List FStep) : Prop := ∀ H1, Ex H H1 → ∀ Q : VK, RetF ss H1 Q → te σ H1 Q
def SpF (sp : Sp) (vs : List V) (H : Hp) (ss : List FStep) : Prop := ∀ H1, Ex H H1 → ∀ Q : VK, RetF ss H1 Q → ∀ E : XK, sp vs H1 Q E
theorem RetF.go {Q : VK} (k : RetF ss H Q) (e : Ex H H') {a : Addr} {H2 : Hp} (ha : H' a = none) (e2 : Ex H' H2) (h : H2 a = some (.tup vs)) (h2 : StepsAt H2 vs ss) : Q (.ref a) H2 := k a H2 vs (fresh_back e ha) (e.trans e2) h h2
theorem ef_call {sp : Sp} {dvs ws : List V} {E : XK} {ta : TA} (h : EvA ta σ H ws) (hs : SpF sp (ws ++ dvs) H ss) : EvF (tCall sp dvs E ta) σ H ss := fun H1 e Q q =>
  h H1 e _ fun H2 e2 => hs H2 (e.trans e2) Q (fun a H3 vs ha e3 h3 hs3 => q a H3 vs (fresh_back e2 ha) (e2.trans e3) h3 hs3) E
theorem q_asgF {i : Nat} (h : EvF te σ H ss) (k : ∀ a H1 vs, Ex H H1 → H1 a = some (.tup vs) → StepsAt H1 vs ss → tz D (σ.set i (some (.ref a))) H1) : tSeq (tAsg te (gName i)) tz D σ H :=
  h H (Ex.refl H) _ fun a H1 vs _ e h1 h2 => k a H1 vs e h1 h2
theorem q_asgP {i : Nat} (P : V → Hp → Prop) (h : ∀ Q : VK, (∀ v H1, Ex H H1 → P v H1 → Q v H1) → te σ H Q) (k : ∀ v H1, Ex H H1 → P v H1 → tz D (σ.set i (some v)) H1) : tSeq (tAsg te (gName i)) tz D σ H := h _ k
theorem s_retF (h : EvF te σ H ss) (k : RetF ss H D.rt) : tRet te D σ H := h H (Ex.refl H) _ k
theorem ev_neFF (ha : EvF ta σ H ss) (hb : EvF tb σ H ss) (hs : ∀ s ∈ ss, OkS s) : Ev (tOp (rNeD K) ta tb) σ H (.bl false) := fun H1 e Q q =>
  ha H1 e _ fun p H2 vs _ e2 hp hv => hb H2 (e.trans e2) _ fun p2 H3 ws _ e3 hp2 hw =>
    rv_neS (H := H3) (d := foD ss) (.tup (st_of (e3 _ _ hp)) (hv.mono e3).dp) (.tup (st_of hp2) hw.dp) (sh_form hs) H3 (Ex.refl _) Q fun H4 e4 => q H4 ((e2.trans e3).trans e4)
theorem ev_eqF {p : Addr} (h : H p = some (.tup vs)) (hv : StepsAt H vs ss) (ha : Ev ta σ H (.ref p)) (hb : EvF tb σ H ss) (hs : ∀ s ∈ ss, OkS s) : Ev (tOp (rEqD K) ta tb) σ H (.bl true) := fun H1 e Q q =>
  ha H1 e _ fun H2 e2 => hb H2 (e.trans e2) _ fun p2 H3 ws _ e3 hp2 hw =>
    rv_eqS (H := H3) (d := foD ss) (.tup (st_of (((e.trans e2).trans e3) _ _ h)) (hv.mono ((e.trans e2).trans e3)).dp) (.tup (st_of hp2) hw.dp) (sh_form hs) H3 (Ex.refl _) Q fun H4 e4 => q H4 ((e2.trans e3).trans e4)
/-- a call whose argument is a new formula -/
theorem ev_callF {sp : Sp} {dvs ws : List V} {E : XK} {tr : TA} (h1 : EvF te σ H ss) (h2 : EvA tr σ H ws) (hs : ∀ p H1 us, Ex H H1 → H1 p = some (.tup us) → StepsAt H1 us ss → SpV sp (.ref p :: ws ++ dvs) H1 z) : Ev (tCall sp dvs E (tCons te tr)) σ H z := fun H1 e Q q =>
  h1 H1 e _ fun p H2 us np e2 hp hu => h2 H2 (e.trans e2) _ fun H3 e3 => hs p H3 us ((e.trans e2).trans e3) (e3 _ _ hp) (hu.mono e3) H3 (Ex.refl H3) Q (fun H4 e4 => q H4 ((e2.trans e3).trans e4)) E
theorem rc_isiI {i : Int} : RC (rIsi K) [.int i, .ty "int"] H (.bl true) := fun H1 e _ q =>
  ⟨.int i, .ty "int", .type "int", .type "int", true, rfl, .ty _, .base (.int i), kit_ty (by decide +kernel), q H1 (Ex.refl H1)⟩
theorem rc_isiIB {i : Int} : RC (rIsi K) [.int i, .ty "bool"] H (.bl false) := fun H1 e _ q =>
  ⟨.int i, .ty "bool", .type "int", .type "bool", false, rfl, .ty _, .base (.int i), kit_ty (by decide +kernel), q H1 (Ex.refl H1)⟩
theorem rc_lenT {p : Addr} {xs : List V} (h : SqT K H p xs) : RC (fun xs H Q => ∃ x n, xs = [x] ∧ LenV K x H n ∧ Q (.int n) H) [.ref p] H (.int (xs.length : Int)) := fun H1 e _ q =>
  ⟨.ref p, (xs.length : Nat), rfl, .inr ⟨_, ex_t e h, rfl⟩, q H1 (Ex.refl H1)⟩
theorem cut1 (xs : List V) : cutV xs (some 1) none = xs.drop 1 := by
  unfold cutV
  rw [show HT.sIx xs.length 0 (some 1) = min 1 xs.length from HT.sIx_nat xs.length 0 1, HT.sIx_none]
  cases xs with
  | nil => rfl
  | cons x r =>
    rw [show min 1 (x :: r).length = 1 by
      rw [List.length_cons]
      omega]
    show (List.take ((x :: r).length - 1) r) = r
    rw [List.length_cons, Nat.add_sub_cancel]
    exact List.take_length
/-- t[1:] of a tuple that is not empty -/
theorem eu_tail {a : Addr} {xs : List V} (h : Ev te σ H (.ref a)) (hx : SqT K H a (y :: xs)) : EvU (tSl (rSlT K) te (tPart (tC (.int 1))) tNoPart) σ H xs := fun H1 e Q q =>
  h H1 e _ fun H2 e2 => ⟨1, rfl, a, y :: xs, rfl, ex_t (e.trans e2) hx, fun z => by
    have z1 : HT.sIx (y :: xs).length 0 (some 1) = min 1 (y :: xs).length := HT.sIx_nat (y :: xs).length 0 1
    have z2 := z.1
    rw [z1, List.length_cons] at z2
    omega, fun p hp => by
    have e3 : cutV (y :: xs) (some 1) none = xs := cut1 (y :: xs)
    rw [e3]
    exact q p _ (fresh_back e2 hp) (e2.trans (Ex.new hp)) upd_same⟩
/-- for over a new tuple -/
theorem s_forNT {xs : List V} (h : EvU tl σ H xs) (Pv : Addr → Nat → L2.St → Hp → Prop) (h0 : ∀ p H1, H p = none → Ex H H1 → H1 p = some (.tup xs) → Pv p 0 σ H1) (hl : ∀ p i σ' H', i ≤ xs.length → Pv p i σ' H' → SqT K H' p xs)
    (hs : ∀ p i x σ' H', xs[i]? = some x → Pv p i σ' H' → g x σ' H' fun σ2 H2 => tu { D with nx := Pv p (i + 1), ct := Pv p (i + 1), bk := D.nx } σ2 H2) (hd : ∀ p σ' H', Pv p xs.length σ' H' → D.nx σ' H') : tFor (iTup K tl) g tu D σ H :=
  h H (Ex.refl H) _ fun p H1 hp e h1 => ⟨p, rfl, ⟨xs, st_of h1⟩, for_tup (Pv p) (h0 p H1 hp e h1) (hl p) (hs p) (hd p)⟩
theorem q_forNT {xs : List V} (h : EvU tl σ H xs) (Pv : Addr → Nat → L2.St → Hp → Prop) (h0 : ∀ p H1, H p = none → Ex H H1 → H1 p = some (.tup xs) → Pv p 0 σ H1) (hl : ∀ p i σ' H', i ≤ xs.length → Pv p i σ' H' → SqT K H' p xs)
    (hs : ∀ p i x σ' H', xs[i]? = some x → Pv p i σ' H' → g x σ' H' fun σ2 H2 => tu { D with nx := Pv p (i + 1), ct := Pv p (i + 1), bk := tz D } σ2 H2) (hd : ∀ p σ' H', Pv p xs.length σ' H' → tz D σ' H') : tSeq (tFor (iTup K tl) g tu) tz D σ H :=
  s_forNT (D := { D with nx := tz D }) h Pv h0 hl hs hd
/-- for i, x in enumerate(t) -/
theorem q_forET {a : Addr} {xs : List V} {ta : TA} (h : EvA ta σ H [.ref a]) (hx : SqT K H a xs) (Pv : Nat → L2.St → Hp → Prop) (h0 : ∀ H1, Ex H H1 → Pv 0 σ H1) (hG : ∀ i σ' H', i ≤ xs.length → Pv i σ' H' → SqT K H' a xs)
    (hs : ∀ i x σ' H' T, xs[i]? = some x → Pv i σ' H' → H' T = none → g (.ref T) σ' (upd H' T (.tup [.int (i : Nat), x])) fun σ2 H2 => tu { D with nx := Pv (i + 1), ct := Pv (i + 1), bk := tz D } σ2 H2) (hd : ∀ σ' H', Pv xs.length σ' H' → tz D σ' H') :
    tSeq (tFor (iEnumT K ta) g tu) tz D σ H := h H (Ex.refl H) _ fun H1 e => by
  have wk : Walk (Iet K a) xs.length (fun H => SqT K H a xs) (YPair (fun i => some (.int (i : Nat))) (fun i => xs[i]?)) := by
    refine ⟨fun i _ hi q => ⟨xs, xs[i], q, by simp [hi]⟩, fun _ q => ⟨xs, q, Nat.le_refl _⟩, fun i H v H' _ q y => ?_⟩
    obtain ⟨T, x, h1, h2, h3, h4⟩ := y
    exact ⟨T, .int (i : Nat), x, h1, h2, h3, rfl, h4 xs q⟩
  refine ⟨a, xs, rfl, ex_t e hx, for_it (D := { D with nx := tz D }) wk Pv (h0 H1 e) hG (fun i x σ' H' H'' hi p y => ?_) hd⟩
  obtain ⟨T, x1, x2, rfl, hT, rfl, e1, e2⟩ := y
  cases Option.some.inj e1
  exact hs i x2 σ' H' T e2 p hT
/-- [e for x in a new tuple], e told -/
theorem el_mapNT {xs : List V} {j : Nat} {vs : List Nat} (fv : Nat → V) (h : EvU tl σ H xs) (hz : xs.length ≤ 40000) (hw : ∀ x, wipe ((wipe σ vs).set j (some x)) vs = wipe σ vs)
    (he : ∀ (i : Nat) (x : V) H1, Ex H H1 → xs[i]? = some x → Ev te ((wipe σ vs).set j (some x)) H1 (fv i)) :
    EvL (tLc (iTup K tl) (gName j) tYes te vs) σ H (given xs.length (fun _ => true) fv) := fun H0 e Q q => h H0 e _ fun a H1 ha e1 hx => ⟨a, rfl, ⟨xs, st_of hx⟩, fun Dl hD =>
  lc_tup (xs := xs) (Cw H1 (fun _ => true) fv Dl) ⟨hD, Ex.new hD, upd_same⟩ (fun i H' _ p => st_of (p.2.1 a _ hx)) (fun i x H' hi p => ⟨hw x, cw_turn p (by have := (List.getElem?_eq_some_iff.mp hi).1; omega) (fun H3 _ Q3 q3 => q3 H3 (Ex.refl H3)) (fun hf => he i x H1 (e.trans e1) hi)⟩)
    (fun H' p => q Dl H' (fresh_back e1 p.1) (e1.trans p.2.1) p.2.2)⟩
theorem given_all (n : Nat) (fv : Nat → V) : given n (fun _ => true) fv = (List.range n).map fv := by
  unfold given
  rw [List.filter_eq_self.mpr (fun _ _ => rfl)]
/-- a formula that grows in a list -/
structure FoAt (H H' : Hp) (l : Addr) (us : List V) (ss : List FStep) : Prop where
  ex : Ex H H'
  at_ : H' l = some (.lst us)
  st : StepsAt H' us ss
theorem FoAt.mono {H H1 H2 : Hp} {l : Addr} {us : List V} (F : FoAt H H1 l us ss) (e : Ex H1 H2) : FoAt H H2 l us ss := ⟨F.ex.trans e, e _ _ F.at_, F.st.mono e⟩
theorem steps_upd {l : Addr} {us zs : List V} {xs : List V} (hl : H l = some (.lst xs)) (h : StepsAt H us ss) : StepsAt (upd H l (.lst zs)) us ss := ⟨h.1, fun i v s a b => by
  obtain ⟨p, r1, r2⟩ := h.2 i v s a b
  refine ⟨p, r1, ?_⟩
  rw [upd_ne (fun z => by rw [z, hl] at r2; cases r2)]
  exact r2⟩
theorem step_upd {l : Addr} {zs : List V} {xs : List V} (hl : H l = some (.lst xs)) (h : StepAt H v s) : StepAt (upd H l (.lst zs)) v s := by
  obtain ⟨p, r1, r2⟩ := h
  refine ⟨p, r1, ?_⟩
  rw [upd_ne (fun z => by rw [z, hl] at r2; cases r2)]
  exact r2
theorem FoAt.push {H H1 H2 : Hp} {l : Addr} {us : List V} (hn : H l = none) (F : FoAt H H1 l us ss) (e : Ex H1 H2) (hs : StepAt H2 v s) : FoAt H (upd H2 l (.lst (us ++ [v]))) l (us ++ [v]) (ss ++ [s]) :=
  ⟨Ex.mut (F.ex.trans e) hn, upd_same, (steps_upd (e _ _ F.at_) (F.st.mono e)).snoc (step_upd (e _ _ F.at_) hs)⟩
/-- steps == [] -/
theorem ev_isEmpty {l : Addr} {us : List V} (hl : H l = some (.lst us)) (hs : StepsAt H us ss) (ho : ∀ s ∈ ss, OkS s) (ha : Ev ta σ H (.ref l)) : Ev (tOp (rEqD K) ta (tLst tNil)) σ H (.bl ss.isEmpty) :=
  ev_opL ha (el_lst ea_nil (show 0 ≤ 100000 by decide)) fun p H1 hp e H2 e2 Q q => ⟨.list (ss.map stD), .list [], .lst (sq_of ((e.trans e2) _ _ hl)) (hs.mono (e.trans e2)).dp, .lst (sq_of (e2 _ _ hp)) .nil, sh_list ho, rfl, by
    have e3 : PyData.eqv (.list (ss.map stD)) (.list []) = ss.isEmpty := by cases ss <;> rfl
    rw [e3]
    exact q H2 (Ex.refl _)⟩
theorem cut_take (xs : List V) (m : Nat) : cutV xs none (some (m : Int)) = xs.take m := by
  unfold cutV
  rw [HT.sIx_none, HT.sIx_nat, List.drop_zero, Nat.sub_zero]
  by_cases h : m ≤ xs.length
  · rw [Nat.min_eq_left h]
  · rw [Nat.min_eq_right (by omega), List.take_length, List.take_of_length_le (by omega)]
/-- f + (step,) -/
theorem ef_cat1 {a : Addr} {us : List V} {tt : TA} (ha : H a = some (.tup us)) (hs : StepsAt H us ss) (hne : ss ≠ []) (hl : ss.length ≤ 1000) (h : Ev ta σ H (.ref a)) (ht : EvA tt σ H (stV s)) (hz : s.2.length ≤ 100) : EvF (tOp (rCatT K) ta (tTup (tCons (tTup tt) tNil))) σ H (ss ++ [s]) := fun H1 e Q q =>
  h H1 e _ fun H2 e2 => ht H2 (e.trans e2) _ fun H3 e3 => ⟨by show (stV s).length ≤ sizeLine; exact sz_of (by simp [stV]; omega), fun p hp => ⟨by show 1 ≤ sizeLine; decide, fun r hr => by
    have e4 : Ex H3 (upd H3 p (.tup (stV s))) := Ex.new hp
    have e5 := e4.trans (Ex.new (o := .tup [V.ref p]) hr)
    have e6 := ((e.trans e2).trans e3).trans e5
    refine ⟨a, r, us, [.ref p], rfl, rfl, st_of (e6 _ _ ha), st_of upd_same, fun z => ?_, ?_, (fun z => nomatch z), fun _ c hc => ?_⟩
    · rw [z] at hs
      have := hs.1
      exact hne (List.eq_nil_of_length_eq_zero this.symm)
    · rw [hs.1]
      exact sz_of (by simp; omega)
    · refine q c _ _ (fresh_back ((e2.trans e3).trans e5) hc) (((e2.trans e3).trans e5).trans (Ex.new hc)) upd_same ?_
      exact ((hs.mono e6).snoc ⟨p, rfl, ex_app (Ex.new hr) upd_same⟩).mono (Ex.new hc)⟩⟩
/-- (step,) -/
theorem ef_one {tt : TA} (ht : EvA tt σ H (stV s)) (hz : s.2.length ≤ 100) : EvF (tTup (tCons (tTup tt) tNil)) σ H [s] := fun H1 e Q q =>
  ht H1 e _ fun H3 e3 => ⟨by show (stV s).length ≤ sizeLine; exact sz_of (by simp [stV]; omega), fun p hp => ⟨by show 1 ≤ sizeLine; decide, fun r hr => by
    have e4 : Ex H3 (upd H3 p (.tup (stV s))) := Ex.new hp
    exact q r _ _ (fresh_back (e3.trans e4) hr) ((e3.trans e4).trans (Ex.new hr)) upd_same (.one ⟨p, rfl, ex_app (Ex.new hr) upd_same⟩)⟩⟩
theorem ev_cbF {r : List V → Hp → VK → Prop} {tr : TA} {ws : List V} (h1 : EvF te σ H ss) (h2 : EvA tr σ H ws) (hr : ∀ p H1 us, H1 p = some (.tup us) → Ex H H1 → RC r (.ref p :: ws) H1 z) : Ev (tCB r (tCons te tr)) σ H z := fun H1 e Q q =>
  h1 H1 e _ fun p H2 us np e2 hp hu => h2 H2 (e.trans e2) _ fun H3 e3 => hr p H3 us (e3 _ _ hp) ((e.trans e2).trans e3) H3 (Ex.refl _) Q fun H4 e4 => q H4 ((e2.trans e3).trans e4)
theorem yes_go {A B : Hp → Prop} (h : A H) : tYes σ H fun b H3 => if b = true then A H3 else B H3 := by
  show (if true = true then A H else B H)
  rw [if_pos rfl]
  exact h
theorem at0 (st : FStep) : atI (stV st) 0 = some (.str st.1) := atI_nat (j := 0) rfl
end
end Fm

/-! Own rules: min and max of four ints, isqrt, // by any divisor. -/
namespace Mi
open PySem PySem.Spec PyProof.Rows L2 Evl Cm
theorem args_min4 (a b c d : Value) : argsOk "min" ⟨[a, b, c, d], []⟩ := by unfold argsOk; kernel_rfl
theorem args_max4 (a b c d : Value) : argsOk "max" ⟨[a, b, c, d], []⟩ := by unfold argsOk; kernel_rfl
section
variable {prog : Program} {w : World} {A : Around} {E : Value → Shared → Prop} {s : Shared}
theorem call_min_four {a b c d : Value} {Q : Value → Shared → Prop}
    (h : wpAny (model prog w) A.in1 (pyIter (.ref s.heap.objs.size)) (fun it s₂ => ∃ I fp wr n P St bt, it = .ref I ∧ Walks prog w A.in1 I fp wr n P St ∧ St 0 s₂.heap ∧ (∀ b ∈ fp, b < s₂.heap.objs.size) ∧ 0 < n ∧ CmpOf prog w A.in1 .Lt P bt ∧
      ∀ v h' tk, P (argBest bt (n - 1)) v → (∀ b o, b ∉ wr → s₂.heap.get? b = some o → h'.get? b = some o) → Q v { s₂ with heap := h', toks := tk }) E
      { s with heap := s.heap.push { cls := .type "tuple", data := .seq #[a, b, c, d] } }) :
    wpAny (model prog w) A (call (.builtin "min") [a, b, c, d]) Q E s := by
  have hname : (toString "min" ++ toString ".loop" : String) = "min.loop" := by decide
  refine call_function_tree F.kind_min F.plain_min F.entry_min (args_min4 _ _ _ _) ?_
  show wpAny _ A.in1 (Builtin.Builtins.bindParams "min" ["key", "default"] 0 ⟨[], []⟩ >>= _) _ _ s
  refine wpAny_bind (wpAny_of_eq (show Builtin.Builtins.bindParams "min" ["key", "default"] 0 ⟨[], []⟩ = pure [none, none] from rfl) ?_)
  show wpAny _ A.in1 (newTuple [a, b, c, d] >>= _) _ _ s
  refine wpAny_bind (wpAny_newObj_type ?_)
  refine wpAny_bind (wpAny_mono h (fun it s₂ h₂ => ?_) fun _ _ e => e)
  obtain ⟨I, fp, wr, n, P, St, bt, rfl, W, hst, hfp, hn, hcmp, hQ⟩ := h₂
  refine wpAny_bind (wpAny_newObj_type ?_)
  have hSf : s₂.heap.objs.size ∉ fp := fun hm => Nat.lt_irrefl _ (hfp _ hm)
  rw [hname]
  refine wpAny_pure ⟨plainId_quiet F.plain_min_loop _, codeAny_min_loop_first W bt hcmp s₂.heap.objs.size hSf hn (W.frame _ _ _ hst fun b _ o e => Heap.get?_push_of_some _ e) (Heap.get?_push_size _ rfl) fun v h' tk hP hk => ?_⟩
  exact hQ v h' tk hP fun b o hbw e => hk b o hbw (Nat.ne_of_lt (Heap.lt_size e)) (Heap.get?_push_of_some _ e)
theorem call_max_four {a b c d : Value} {Q : Value → Shared → Prop}
    (h : wpAny (model prog w) A.in1 (pyIter (.ref s.heap.objs.size)) (fun it s₂ => ∃ I fp wr n P St bt, it = .ref I ∧ Walks prog w A.in1 I fp wr n P St ∧ St 0 s₂.heap ∧ (∀ b ∈ fp, b < s₂.heap.objs.size) ∧ 0 < n ∧ CmpOf prog w A.in1 .Gt P bt ∧
      ∀ v h' tk, P (argBest bt (n - 1)) v → (∀ b o, b ∉ wr → s₂.heap.get? b = some o → h'.get? b = some o) → Q v { s₂ with heap := h', toks := tk }) E
      { s with heap := s.heap.push { cls := .type "tuple", data := .seq #[a, b, c, d] } }) :
    wpAny (model prog w) A (call (.builtin "max") [a, b, c, d]) Q E s := by
  have hname : (toString "max" ++ toString ".loop" : String) = "max.loop" := by decide
  refine call_function_tree F.kind_max F.plain_max F.entry_max (args_max4 _ _ _ _) ?_
  show wpAny _ A.in1 (Builtin.Builtins.bindParams "max" ["key", "default"] 0 ⟨[], []⟩ >>= _) _ _ s
  refine wpAny_bind (wpAny_of_eq (show Builtin.Builtins.bindParams "max" ["key", "default"] 0 ⟨[], []⟩ = pure [none, none] from rfl) ?_)
  show wpAny _ A.in1 (newTuple [a, b, c, d] >>= _) _ _ s
  refine wpAny_bind (wpAny_newObj_type ?_)
  refine wpAny_bind (wpAny_mono h (fun it s₂ h₂ => ?_) fun _ _ e => e)
  obtain ⟨I, fp, wr, n, P, St, bt, rfl, W, hst, hfp, hn, hcmp, hQ⟩ := h₂
  refine wpAny_bind (wpAny_newObj_type ?_)
  have hSf : s₂.heap.objs.size ∉ fp := fun hm => Nat.lt_irrefl _ (hfp _ hm)
  rw [hname]
  refine wpAny_pure ⟨plainId_quiet F.plain_max_loop _, codeAny_max_loop_first W bt hcmp s₂.heap.objs.size hSf hn (W.frame _ _ _ hst fun b _ o e => Heap.get?_push_of_some _ e) (Heap.get?_push_size _ rfl) fun v h' tk hP hk => ?_⟩
  exact hQ v h' tk hP fun b o hbw e => hk b o hbw (Nat.ne_of_lt (Heap.lt_size e)) (Heap.get?_push_of_some _ e)
theorem min4 {a b c d : Int} {t u x y : Tok} {Q : Value → Shared → Prop} (hh : A.handled = none)
    (h : ∀ h' tk t', (∀ z o, s.heap.get? z = some o → h'.get? z = some o) → Q (.int (min (min a b) (min c d)) t') { s with heap := h', toks := tk }) :
    wpAny (model prog w) A (call (.builtin "min") [.int a t, .int b u, .int c x, .int d y]) Q E s := by
  have hT : (s.heap.push { cls := .type "tuple", data := .seq #[.int a t, .int b u, .int c x, .int d y] }).IsTuple s.heap.objs.size (intItems #[(a, t), (b, u), (c, x), (d, y)]) := ⟨_, Heap.get?_push_size _ rfl, rfl, 0, by simp [intItems]⟩
  refine call_min_four (wpAny_pyIter_tuple hT ?_)
  have hsz : (s.heap.push { cls := .type "tuple", data := .seq #[.int a t, .int b u, .int c x, .int d y] }).objs.size = s.heap.objs.size + 1 := Heap.size_push ..
  refine ⟨_, [_, s.heap.objs.size], [_], _, _, _, _, rfl, Walks.tuple (A := A.in1) hh _ s.heap.objs.size (by rw [hsz]; exact Nat.ne_of_lt (Nat.lt_succ_self _)) (intItems #[(a, t), (b, u), (c, x), (d, y)]),
    ⟨⟨_, Heap.get?_push_size _ rfl, rfl, rfl⟩, hT.push _⟩, fun z hz => ?_, by simp [intItems], CmpOf.ints_lt (numAt #[(a, t), (b, u), (c, x), (d, y)]) (fun _ _ => intItems_at), fun v h' tk hP hk => ?_⟩
  · show z < ((s.heap.push _).push _).objs.size
    rw [Heap.size_push, hsz]
    rcases List.mem_cons.mp hz with rfl | hz
    · rw [hsz]; exact Nat.lt_succ_self _
    · rcases List.mem_cons.mp hz with rfl | hz
      · exact Nat.lt_succ_of_lt (Nat.lt_succ_self _)
      · cases hz
  · have hold : ∀ z o, s.heap.get? z = some o → h'.get? z = some o := fun z o e => by
      refine hk z o (fun hm => ?_) (Heap.get?_push_of_some _ (Heap.get?_push_of_some _ e))
      rcases List.mem_cons.mp hm with e1 | hm
      · have := Heap.lt_size e; rw [e1, hsz] at this; exact Nat.lt_irrefl _ (Nat.lt_of_succ_lt this)
      · cases hm
    have hs4 : (intItems #[(a, t), (b, u), (c, x), (d, y)]).size - 1 = 3 := by simp [intItems]
    rw [hs4] at hP
    obtain ⟨t', rfl⟩ := intItems_at hP
    obtain ⟨h1, h2⟩ := argBest_lt (numAt #[(a, t), (b, u), (c, x), (d, y)]) 3
    have n0 : numAt #[(a, t), (b, u), (c, x), (d, y)] 0 = a := rfl
    have n1 : numAt #[(a, t), (b, u), (c, x), (d, y)] 1 = b := rfl
    have n2 : numAt #[(a, t), (b, u), (c, x), (d, y)] 2 = c := rfl
    have n3 : numAt #[(a, t), (b, u), (c, x), (d, y)] 3 = d := rfl
    have m0 := h2 0 (by omega)
    have m1 := h2 1 (by omega)
    have m2 := h2 2 (by omega)
    have m3 := h2 3 (by omega)
    rw [n0] at m0
    rw [n1] at m1
    rw [n2] at m2
    rw [n3] at m3
    generalize hB : argBest (fun i j => decide (numAt #[(a, t), (b, u), (c, x), (d, y)] i < numAt #[(a, t), (b, u), (c, x), (d, y)] j)) 3 = B at *
    have hv : numAt #[(a, t), (b, u), (c, x), (d, y)] B = min (min a b) (min c d) := by
      have h4 : B = 0 ∨ B = 1 ∨ B = 2 ∨ B = 3 := by omega
      rcases h4 with z | z | z | z
      · rw [z, n0] at m0 m1 m2 m3 ⊢; omega
      · rw [z, n1] at m0 m1 m2 m3 ⊢; omega
      · rw [z, n2] at m0 m1 m2 m3 ⊢; omega
      · rw [z, n3] at m0 m1 m2 m3 ⊢; omega
    rw [hv]
    exact h h' tk t' hold
theorem max4 {a b c d : Int} {t u x y : Tok} {Q : Value → Shared → Prop} (hh : A.handled = none)
    (h : ∀ h' tk t', (∀ z o, s.heap.get? z = some o → h'.get? z = some o) → Q (.int (max (max a b) (max c d)) t') { s with heap := h', toks := tk }) :
    wpAny (model prog w) A (call (.builtin "max") [.int a t, .int b u, .int c x, .int d y]) Q E s := by
  have hT : (s.heap.push { cls := .type "tuple", data := .seq #[.int a t, .int b u, .int c x, .int d y] }).IsTuple s.heap.objs.size (intItems #[(a, t), (b, u), (c, x), (d, y)]) := ⟨_, Heap.get?_push_size _ rfl, rfl, 0, by simp [intItems]⟩
  refine call_max_four (wpAny_pyIter_tuple hT ?_)
  have hsz : (s.heap.push { cls := .type "tuple", data := .seq #[.int a t, .int b u, .int c x, .int d y] }).objs.size = s.heap.objs.size + 1 := Heap.size_push ..
  refine ⟨_, [_, s.heap.objs.size], [_], _, _, _, _, rfl, Walks.tuple (A := A.in1) hh _ s.heap.objs.size (by rw [hsz]; exact Nat.ne_of_lt (Nat.lt_succ_self _)) (intItems #[(a, t), (b, u), (c, x), (d, y)]),
    ⟨⟨_, Heap.get?_push_size _ rfl, rfl, rfl⟩, hT.push _⟩, fun z hz => ?_, by simp [intItems], CmpOf.ints_gt (numAt #[(a, t), (b, u), (c, x), (d, y)]) (fun _ _ => intItems_at), fun v h' tk hP hk => ?_⟩
  · show z < ((s.heap.push _).push _).objs.size
    rw [Heap.size_push, hsz]
    rcases List.mem_cons.mp hz with rfl | hz
    · rw [hsz]; exact Nat.lt_succ_self _
    · rcases List.mem_cons.mp hz with rfl | hz
      · exact Nat.lt_succ_of_lt (Nat.lt_succ_self _)
      · cases hz
  · have hold : ∀ z o, s.heap.get? z = some o → h'.get? z = some o := fun z o e => by
      refine hk z o (fun hm => ?_) (Heap.get?_push_of_some _ (Heap.get?_push_of_some _ e))
      rcases List.mem_cons.mp hm with e1 | hm
      · have := Heap.lt_size e; rw [e1, hsz] at this; exact Nat.lt_irrefl _ (Nat.lt_of_succ_lt this)
      · cases hm
    have hs4 : (intItems #[(a, t), (b, u), (c, x), (d, y)]).size - 1 = 3 := by simp [intItems]
    rw [hs4] at hP
    obtain ⟨t', rfl⟩ := intItems_at hP
    obtain ⟨h1, h2⟩ := argBest_gt (numAt #[(a, t), (b, u), (c, x), (d, y)]) 3
    have n0 : numAt #[(a, t), (b, u), (c, x), (d, y)] 0 = a := rfl
    have n1 : numAt #[(a, t), (b, u), (c, x), (d, y)] 1 = b := rfl
    have n2 : numAt #[(a, t), (b, u), (c, x), (d, y)] 2 = c := rfl
    have n3 : numAt #[(a, t), (b, u), (c, x), (d, y)] 3 = d := rfl
    have m0 := h2 0 (by omega)
    have m1 := h2 1 (by omega)
    have m2 := h2 2 (by omega)
    have m3 := h2 3 (by omega)
    rw [n0] at m0
    rw [n1] at m1
    rw [n2] at m2
    rw [n3] at m3
    generalize hB : argBest (fun i j => decide (numAt #[(a, t), (b, u), (c, x), (d, y)] i > numAt #[(a, t), (b, u), (c, x), (d, y)] j)) 3 = B at *
    have hv : numAt #[(a, t), (b, u), (c, x), (d, y)] B = max (max a b) (max c d) := by
      have h4 : B = 0 ∨ B = 1 ∨ B = 2 ∨ B = 3 := by omega
      rcases h4 with z | z | z | z
      · rw [z, n0] at m0 m1 m2 m3 ⊢; omega
      · rw [z, n1] at m0 m1 m2 m3 ⊢; omega
      · rw [z, n2] at m0 m1 m2 m3 ⊢; omega
      · rw [z, n3] at m0 m1 m2 m3 ⊢; omega
    rw [hv]
    exact h h' tk t' hold
end
theorem vals4 {x y z v : V} {us : List Value} (r : Vals [x, y, z, v] us) : ∃ u1 u2 u3 u4, us = [u1, u2, u3, u4] ∧ RelV x u1 ∧ RelV y u2 ∧ RelV z u3 ∧ RelV v u4 := by
  cases r with
  | cons r1 r =>
    cases r with
    | cons r2 r =>
      cases r with
      | cons r3 r =>
        cases r with
        | cons r4 r =>
          cases r
          exact ⟨_, _, _, _, rfl, r1, r2, r3, r4⟩
section
variable {X : Cx}
def rMin4 : List V → Hp → VK → Prop := fun xs H Q => ∃ i j k l, xs = [.int i, .int j, .int k, .int l] ∧ Q (.int (min (min i j) (min k l))) H
def rMax4 : List V → Hp → VK → Prop := fun xs H Q => ∃ i j k l, xs = [.int i, .int j, .int k, .int l] ∧ Q (.int (max (max i j) (max k l))) H
theorem call_min4 (hc : X.calm = true) : CallR X (.builtin "min") rMin4 := by
  intro pins s σ H xs us Q I r h
  obtain ⟨i, j, k, l, rfl, q⟩ := h
  obtain ⟨u1, u2, u3, u4, rfl, ⟨t1, rfl⟩, ⟨t2, rfl⟩, ⟨t3, rfl⟩, ⟨t4, rfl⟩⟩ := vals4 r
  exact min4 (I.ok.hd hc) fun h' tk t' k => ⟨.int _, H, I.kept k, ⟨_, rfl⟩, q⟩
theorem call_max4 (hc : X.calm = true) : CallR X (.builtin "max") rMax4 := by
  intro pins s σ H xs us Q I r h
  obtain ⟨i, j, k, l, rfl, q⟩ := h
  obtain ⟨u1, u2, u3, u4, rfl, ⟨t1, rfl⟩, ⟨t2, rfl⟩, ⟨t3, rfl⟩, ⟨t4, rfl⟩⟩ := vals4 r
  exact max4 (I.ok.hd hc) fun h' tk t' k => ⟨.int _, H, I.kept k, ⟨_, rfl⟩, q⟩
/-- isqrt of a number below 2 ^ 4000 -/
def rSqrt : List V → Hp → VK → Prop := fun xs H Q => ∃ i : Int, xs = [.int i] ∧ 0 ≤ i ∧ Bd 4000 i ∧ ∀ r : Nat, (r : Int) * r ≤ i → i < ((r : Int) + 1) * ((r : Int) + 1) → Q (.int (r : Int)) H
theorem call_sqrt : CallR X (.builtin "math.isqrt") rSqrt := by
  intro pins s σ H xs us Q I r h
  obtain ⟨i, rfl, h0, hb, q⟩ := h
  obtain ⟨u1, rfl, ⟨t1, rfl⟩⟩ := vals1 r
  obtain ⟨n, rfl⟩ := Int.eq_ofNat_of_zero_le h0
  have hl : n.log2 ≤ 3999 := PySem.W.mg_log (show n < 2 ^ (3999 + 1) from hb)
  have hs := PySem.Float64.isqrt_spec n
  have qq := q (Float64.isqrt n) (by have := hs.1; exact_mod_cast this) (by have := hs.2; exact_mod_cast this)
  exact call_function_meets PySem.W.MGF.kind_isqrt PySem.W.MGF.plain_isqrt PySem.W.MGF.entry_isqrt (PySem.W.MGF.args_isqrt _) (PySem.W.mg_run_isqrt (n : Int) t1 (by omega) (by rw [Int.toNat_natCast]; omega) (by rw [Int.toNat_natCast]; omega)).meets ⟨.int _, H, I.tok _, ⟨_, rfl⟩, qq⟩
/-- // by a divisor that is not 0 and below 2 ^ 9000 -/
def CDivA (_ j : Int) : Prop := j ≠ 0 ∧ j.natAbs.log2 < 9000
theorem op_fdivA : OpR X (binaryOp .FloorDiv) (rI CDivA fun i j => .int (i.fdiv j)) := opI fun i j _ _ _ _ _ hc q => floordiv_int hc.1 q (.inl (PyProof.noPylong_of_log2 hc.2))
end
section
variable {H : Hp} {K : PySem.W.Frag}
theorem rc_min4 {i j k l : Int} : RC rMin4 [.int i, .int j, .int k, .int l] H (.int (min (min i j) (min k l))) := fun H1 _ _ q => ⟨i, j, k, l, rfl, q H1 (Ex.refl _)⟩
theorem rc_max4 {i j k l : Int} : RC rMax4 [.int i, .int j, .int k, .int l] H (.int (max (max i j) (max k l))) := fun H1 _ _ q => ⟨i, j, k, l, rfl, q H1 (Ex.refl _)⟩
end
end Mi

/-! Own data: the digits of a number. -/
namespace Dg
open PySem PySem.Builtin PySem.Builtin.Str SX TL
/-- the last k digits -/
def pad : Nat → Nat → List Nat
  | 0, _ => []
  | k + 1, n => pad k (n / 10) ++ [48 + n % 10]
theorem pad_len : ∀ k n, (pad k n).length = k
  | 0, _ => rfl
  | k + 1, n => by
    show (pad k (n / 10) ++ [48 + n % 10]).length = k + 1
    rw [List.length_append, pad_len k]
    rfl
theorem pow_div (n k : Nat) : n / 10 / 10 ^ k = n / 10 ^ (k + 1) := by
  rw [Nat.div_div_eq_div_mul, Nat.pow_succ, Nat.mul_comm]
theorem lt_pow {n k : Nat} (h : n < 10 ^ (k + 1)) : n / 10 < 10 ^ k := by
  rw [Nat.pow_succ] at h
  exact Nat.div_lt_of_lt_mul (by rw [Nat.mul_comm]; exact h)
theorem num_split : ∀ k n, 10 ^ k ≤ n → numL n = numL (n / 10 ^ k) ++ pad k n
  | 0, n, _ => by
    show numL n = numL (n / 1) ++ []
    rw [Nat.div_one, List.append_nil]
  | k + 1, n, h => by
    have h1 : 10 ^ k * 10 ≤ n := by
      rw [← Nat.pow_succ]
      exact h
    have h0 : 0 < 10 ^ k := Nat.pow_pos (by decide)
    have h2 : 10 ^ k ≤ n / 10 := (Nat.le_div_iff_mul_le (by decide)).mpr h1
    rw [numL_step (by omega), num_split k (n / 10) h2, pow_div, List.append_assoc]
    rfl
theorem pad_zero : ∀ k, pad k 0 = List.replicate k 48
  | 0 => rfl
  | k + 1 => by
    show pad k 0 ++ [48] = _
    rw [pad_zero k, List.replicate_succ']
theorem num_len : ∀ k n, n < 10 ^ (k + 1) → (numL n).length ≤ k + 1
  | 0, n, h => by
    rw [numL_lt (by omega)]
    exact Nat.le_refl _
  | k + 1, n, h => by
    by_cases h1 : n < 10
    · rw [numL_lt h1]
      show 1 ≤ k + 1 + 1
      omega
    · rw [numL_step (by omega), List.length_append]
      have := num_len k (n / 10) (lt_pow h)
      show (numL (n / 10)).length + 1 ≤ k + 1 + 1
      omega
theorem num_pad : ∀ k n, n < 10 ^ (k + 1) → List.replicate (k + 1 - (numL n).length) 48 ++ numL n = pad (k + 1) n
  | 0, n, h => by
    have h1 : n < 10 := by omega
    rw [numL_lt h1]
    show [] ++ [48 + n] = [] ++ [48 + n % 10]
    rw [Nat.mod_eq_of_lt h1]
  | k + 1, n, h => by
    by_cases h1 : n < 10
    · rw [numL_lt h1]
      show List.replicate (k + 1) 48 ++ [48 + n] = pad (k + 1) (n / 10) ++ [48 + n % 10]
      rw [Nat.mod_eq_of_lt h1, Nat.div_eq_of_lt h1, pad_zero]
    · have ih := num_pad k (n / 10) (lt_pow h)
      rw [numL_step (by omega), List.length_append]
      show List.replicate (k + 1 + 1 - ((numL (n / 10)).length + 1)) 48 ++ (numL (n / 10) ++ [48 + n % 10]) = pad (k + 1) (n / 10) ++ [48 + n % 10]
      rw [← ih, ← List.append_assoc, show k + 1 + 1 - ((numL (n / 10)).length + 1) = k + 1 - (numL (n / 10)).length by omega]
theorem pad_cons : ∀ k n, n < 10 ^ k → pad (k + 1) n = 48 :: pad k n
  | 0, n, h => by
    have h1 : n = 0 := by
      have : (10 : Nat) ^ 0 = 1 := rfl
      omega
    subst h1
    rfl
  | k + 1, n, h => by
    show pad (k + 1) (n / 10) ++ [48 + n % 10] = 48 :: (pad k (n / 10) ++ [48 + n % 10])
    rw [pad_cons k (n / 10) (lt_pow h)]
    rfl
theorem pad_front : ∀ k n, pad (k + 1) n = (48 + n / 10 ^ k % 10) :: pad k n
  | 0, n => by
    show [] ++ [48 + n % 10] = [48 + n / 1 % 10]
    rw [Nat.div_one]
    rfl
  | k + 1, n => by
    show pad (k + 1) (n / 10) ++ [48 + n % 10] = _ :: (pad k (n / 10) ++ [48 + n % 10])
    rw [pad_front k (n / 10), pow_div]
    rfl
theorem pad_mod : ∀ k n, pad k (n % 10 ^ k) = pad k n
  | 0, _ => rfl
  | k + 1, n => by
    have e : n % 10 ^ (k + 1) = n % 10 + 10 * (n / 10 % 10 ^ k) := by
      rw [Nat.pow_succ, Nat.mul_comm, Nat.mod_mul]
    show pad k (n % 10 ^ (k + 1) / 10) ++ [48 + n % 10 ^ (k + 1) % 10] = pad k (n / 10) ++ [48 + n % 10]
    rw [e, show (n % 10 + 10 * (n / 10 % 10 ^ k)) / 10 = n / 10 % 10 ^ k by omega, show (n % 10 + 10 * (n / 10 % 10 ^ k)) % 10 = n % 10 by omega, pad_mod k]
theorem num_head (n : Nat) : ∃ c r, numL n = c :: r ∧ 48 ≤ c ∧ c ≤ 57 := by
  cases h : numL n with
  | nil => exact absurd h (numL_ne n)
  | cons c r =>
    have h2 := numL_digits n c (by rw [h]; exact List.mem_cons_self ..)
    exact ⟨c, r, rfl, h2⟩
theorem zfill_long {n m : Nat} (h : m ≤ (numL n).length) : Txt.zfill (S (numL n)) (m : Int) = S (numL n) := by
  unfold Txt.zfill
  rw [S_len, if_pos (by omega)]
theorem zfill_short {n m : Nat} (h : (numL n).length < m) : Txt.zfill (S (numL n)) (m : Int) = S (List.replicate (m - (numL n).length) 48 ++ numL n) := by
  unfold Txt.zfill
  rw [S_len, if_neg (by omega), Int.toNat_natCast]
  obtain ⟨c, r, hc, h1, h2⟩ := num_head n
  refine TL.ext_tl ?_
  have e : (S (numL n)).cps[0]? = some c := by
    show (numL n).toArray[0]? = some c
    rw [hc]
    rfl
  have e2 : zfilled (S (numL n)) (m - (numL n).length) = padded (S (numL n)) (m - (numL n).length) 0 48 := by
    unfold zfilled
    rw [e]
    split
    · rename_i z
      cases Option.some.inj z
      omega
    · rename_i z
      cases Option.some.inj z
      omega
    · rfl
  rw [e2]
  show (padded (S (numL n)) (m - (numL n).length) 0 48).cps.toList = _
  rw [PyProof.Rows.padded_list]
  simp
/-- a number with fewer than m digits, filled -/
theorem zfill_num {n m : Nat} (hm : 1 ≤ m) (h : n < 10 ^ m) : Txt.zfill (S (numL n)) (m : Int) = S (pad m n) := by
  obtain ⟨k, rfl⟩ : ∃ k, m = k + 1 := ⟨m - 1, by omega⟩
  rw [← num_pad k n h]
  by_cases hl : k + 1 ≤ (numL n).length
  · rw [zfill_long hl, show k + 1 - (numL n).length = 0 by omega]
    rfl
  · exact zfill_short (by omega)
/-- .. to one digit more than its places -/
theorem zfill_places (n p : Nat) : Txt.zfill (S (numL n)) ((p + 1 : Nat) : Int) = S (numL (n / 10 ^ p) ++ pad p n) := by
  by_cases h : 10 ^ p ≤ n
  · have e := num_split p n h
    have h1 : p + 1 ≤ (numL n).length := by
      rw [e, List.length_append, pad_len]
      have := List.length_pos_iff.mpr (numL_ne (n / 10 ^ p))
      omega
    rw [zfill_long h1, ← e]
  · have h0 : n < 10 ^ p := by omega
    have h1 : n < 10 ^ (p + 1) := by
      rw [Nat.pow_succ]
      omega
    rw [zfill_num (by omega) h1, pad_cons p n h0, Nat.div_eq_of_lt h0, numL_lt (by decide)]
    rfl
theorem joinL_nil : ∀ ps : List (List Nat), joinL [] ps = ps.flatten
  | [] => rfl
  | [p] => by
    show p = p ++ []
    rw [List.append_nil]
  | p :: q :: r => by
    show p ++ ([] ++ joinL [] (q :: r)) = p ++ (q :: r).flatten
    rw [joinL_nil (q :: r)]
    rfl
theorem join_nil (ps : List (List Nat)) : Txt.join (S []) (ps.map S) = S ps.flatten := by rw [join_S, joinL_nil]
theorem slice_to_neg {a b : List Nat} (h : 0 < b.length) : Txt.slice (S (a ++ b)) none (some (-(b.length : Int))) = S a := by
  have e := beq_iff_eq.mp (PyProof.Rows.slice_closes_to_neg (x := S (a ++ b)) (j := -(b.length : Int)) (k := (a.length : Int)) (by omega) (by rw [S_len, List.length_append]; omega) (by rw [S_len, List.length_append]; omega))
  refine e.trans (TL.ext_tl ?_)
  show ((a ++ b).drop (0 : Int).toNat).take ((a.length : Int) - 0).toNat = a
  rw [show (0 : Int).toNat = 0 from rfl, List.drop_zero, show ((a.length : Int) - 0).toNat = a.length by omega, List.take_left]
theorem slice_from_neg {a b : List Nat} (h : 0 < b.length) : Txt.slice (S (a ++ b)) (some (-(b.length : Int))) none = S b := by
  have e := beq_iff_eq.mp (PyProof.Rows.slice_closes_from_neg (x := S (a ++ b)) (i := -(b.length : Int)) (a := (a.length : Int)) (b := ((a ++ b).length : Int)) (by omega) (by rw [S_len, List.length_append]; omega) (by rw [S_len, List.length_append]; omega) (by rw [S_len]))
  refine e.trans (TL.ext_tl ?_)
  show ((a ++ b).drop (a.length : Int).toNat).take (((a ++ b).length : Int) - (a.length : Int)).toNat = b
  rw [Int.toNat_natCast, List.drop_left, List.take_of_length_le (by rw [List.length_append]; omega)]
end Dg

/-! Own data: whole numbers as texts, there and back. -/
namespace Tx
open PySem PySem.Builtin PySem.Builtin.Str SX TL Dg
/-- a whole number's signs -/
def intL (i : Int) : List Nat := if i < 0 then 45 :: numL i.natAbs else numL i.natAbs
theorem intL_neg (n : Nat) : intL (-((n + 1 : Nat) : Int)) = 45 :: numL (n + 1) := by
  unfold intL
  rw [if_pos (by omega), Int.natAbs_neg, Int.natAbs_natCast]
theorem intL_nat (n : Nat) : intL (n : Int) = numL n := by
  unfold intL
  rw [if_neg (by omega), Int.natAbs_natCast]
theorem str_cons (s : String) : Str.ofString ("-" ++ s) = S (45 :: (Str.ofString s).cps.toList) := by
  refine TL.ext_tl ?_
  show (Str.ofString ("-" ++ s)).cps.toList = _
  simp [Str.ofString_eq_toList]
theorem int_text (i : Int) : Str.ofString (toString i) = S (intL i) := by
  cases i with
  | ofNat n =>
    rw [show (Int.ofNat n) = (n : Int) from rfl, intL_nat]
    exact num_S n
  | negSucc n =>
    have h := num_S (n + 1)
    rw [show (Int.negSucc n) = -((n + 1 : Nat) : Int) from rfl, intL_neg]
    show Str.ofString ("-" ++ Nat.repr (n + 1)) = _
    rw [str_cons]
    have e : (Str.ofString (Nat.repr (n + 1))).cps.toList = numL (n + 1) := congrArg (fun x : Str => x.cps.toList) h
    rw [e]
theorem num_all (n : Nat) : ∀ c ∈ numL n, 48 ≤ c ∧ c ≤ 57 := numL_digits n
theorem ascii_num (n : Nat) : Txt.isascii (S (numL n)) = true := by
  show (numL n).toArray.all (· < 128) = true
  rw [← Array.all_toList]
  exact List.all_eq_true.mpr fun c hc => decide_eq_true (by have := num_all n c hc; omega)
theorem digit_num (n : Nat) : Txt.isdigit (S (numL n)) = true := by
  show (decide ((S (numL n)).length > 0) && (numL n).toArray.all Unicode.isDigit) = true
  rw [S_len, decide_eq_true (List.length_pos_iff.mpr (numL_ne n)), Bool.true_and, ← Array.all_toList]
  refine List.all_eq_true.mpr fun c hc => ?_
  have h := num_all n c hc
  have : ∀ c, c < 58 → 48 ≤ c → Unicode.isDigit c = true := by decide +kernel
  exact this c (by omega) h.1
theorem starts1 (c : Nat) (a : List Nat) (d : Nat) : Txt.startswith (S (d :: a)) (S [c]) = decide (d = c) := by
  unfold Txt.startswith
  rw [S_len, S_len, decide_eq_true (by simp), Bool.true_and]
  simp [subAt, S_len]
  exact Bool.eq_iff_iff.mpr (by simp)
theorem head_ge (n : Nat) (h : 0 < n) : ∃ d q, numL n = (49 + d) :: q := by
  induction n using Nat.strongRecOn with
  | ind n ih =>
    by_cases h10 : n < 10
    · exact ⟨n - 1, [], by rw [numL_lt h10]; exact congrArg (fun z => [z]) (by omega)⟩
    · obtain ⟨d, q, e⟩ := ih (n / 10) (by omega) (by omega)
      exact ⟨d, q ++ [48 + n % 10], by rw [numL_step (by omega), e]; rfl⟩
theorem head0 {n : Nat} {r : List Nat} {c : Nat} (h : numL n = c :: r) (h0 : c = 48) : n = 0 := by
  by_cases hn : 0 < n
  · obtain ⟨d, q, e⟩ := head_ge n hn
    rw [e] at h
    have := (List.cons.inj h).1
    omega
  · omega
/-- read back -/
theorem int_back {i : Int} (h : (intL i).length ≤ 4300) : intText? (S (intL i)) = some i := by
  by_cases hi : i < 0
  · have e : intL i = 45 :: numL i.natAbs := by
      unfold intL
      rw [if_pos hi]
    rw [e] at h ⊢
    have h2 := PySem.intText_neg (x := S (45 :: numL i.natAbs)) (cs := numL i.natAbs) rfl (numL_digits _) (numL_ne _) (by rw [S_len]; exact h)
    rw [h2]
    have h3 : NumText.digitsVal (numL i.natAbs) = i.natAbs := PySem.W.KIN.val_back i.natAbs
    rw [h3]
    exact congrArg some (by omega)
  · obtain ⟨n, rfl⟩ := Int.eq_ofNat_of_zero_le (show 0 ≤ i by omega)
    rw [intL_nat] at h ⊢
    rw [← num_S]
    exact int_num h
end Tx

/-! Own data: formulas tidied. -/
namespace Td
open PySem Fm
/-- the indexes of a step, and a step with its indexes changed -/
def ix (s : FStep) : List Nat := if s.1 = "number" then [] else s.2.map Int.toNat
def ren (f : Nat → Nat) (s : FStep) : FStep := if s.1 = "number" then s else (s.1, s.2.map fun i => ((f i.toNat : Nat) : Int))
theorem ren_word (f : Nat → Nat) (s : FStep) : (ren f s).1 = s.1 := by
  unfold ren
  split <;> rfl
theorem ix_ren (f : Nat → Nat) (s : FStep) : ix (ren f s) = (ix s).map f := by
  unfold ix
  rw [ren_word]
  by_cases h : s.1 = "number"
  · rw [if_pos h, if_pos h]
    rfl
  · rw [if_neg h, if_neg h]
    unfold ren
    rw [if_neg h, List.map_map, List.map_map]
    rfl
theorem ren_congr {f g : Nat → Nat} {s : FStep} (h : ∀ i ∈ ix s, f i = g i) : ren f s = ren g s := by
  unfold ren
  by_cases hn : s.1 = "number"
  · rw [if_pos hn, if_pos hn]
  · rw [if_neg hn, if_neg hn]
    refine congrArg _ (List.map_congr_left fun i hi => ?_)
    have : i.toNat ∈ ix s := by
      unfold ix
      rw [if_neg hn]
      exact List.mem_map_of_mem hi
    rw [h _ this]
theorem ok_pos {k : Nat} {s : FStep} (h : OkStep k s) (hn : s.1 ≠ "number") : ∀ i ∈ s.2, 0 ≤ i ∧ i < (k : Int) := by
  rcases h with ⟨p, q, rfl, _⟩ | rfl | ⟨x, i, j, _, rfl, h1, h2⟩ | ⟨x, i, _, rfl, h1⟩
  · exact absurd rfl hn
  · intro i hi
    simp at hi
  · intro y hy
    simp only [List.mem_cons, List.not_mem_nil, or_false] at hy
    rcases hy with rfl | rfl
    · exact h1
    · exact h2
  · intro y hy
    simp only [List.mem_cons, List.not_mem_nil, or_false] at hy
    subst hy
    exact h1
theorem ok_ix {k : Nat} {s : FStep} (h : OkStep k s) : ∀ i ∈ ix s, i < k := by
  intro i hi
  unfold ix at hi
  by_cases hn : s.1 = "number"
  · rw [if_pos hn] at hi
    exact absurd hi (by simp)
  · rw [if_neg hn] at hi
    obtain ⟨j, hj, rfl⟩ := List.mem_map.mp hi
    have := ok_pos h hn j hj
    omega
theorem ren_id {k : Nat} {s : FStep} (h : OkStep k s) {f : Nat → Nat} (hf : ∀ i ∈ ix s, f i = i) : ren f s = s := by
  unfold ren
  by_cases hn : s.1 = "number"
  · rw [if_pos hn]
  · rw [if_neg hn]
    have : (s.2.map fun i => ((f i.toNat : Nat) : Int)) = s.2 := by
      conv => rhs; rw [← List.map_id s.2]
      refine List.map_congr_left fun i hi => ?_
      have h1 := ok_pos h hn i hi
      have h2 : i.toNat ∈ ix s := by
        unfold ix
        rw [if_neg hn]
        exact List.mem_map_of_mem hi
      rw [hf _ h2]
      show ((i.toNat : Nat) : Int) = i
      omega
    rw [this]
theorem ok_ren {k m : Nat} {s : FStep} (h : OkStep k s) {f : Nat → Nat} (hf : ∀ i ∈ ix s, f i < m) : OkStep m (ren f s) := by
  rcases h with ⟨p, q, rfl, hq⟩ | rfl | ⟨x, i, j, hx, rfl, h1, h2⟩ | ⟨x, i, hx, rfl, h1⟩
  · exact .inl ⟨p, q, rfl, hq⟩
  · exact .inr (.inl rfl)
  · have hn : x ≠ "number" := fun z => absurd hx (by rw [z]; decide +kernel)
    have e : ix (x, [i, j]) = [i.toNat, j.toNat] := by
      unfold ix
      rw [if_neg hn]
      rfl
    rw [e] at hf
    have a1 := hf i.toNat (by simp)
    have a2 := hf j.toNat (by simp)
    refine .inr (.inr (.inl ⟨x, (f i.toNat : Nat), (f j.toNat : Nat), hx, ?_, ⟨by omega, by omega⟩, ⟨by omega, by omega⟩⟩))
    unfold ren
    rw [if_neg hn]
    rfl
  · have hn : x ≠ "number" := fun z => absurd hx (by rw [z]; decide +kernel)
    have e : ix (x, [i]) = [i.toNat] := by
      unfold ix
      rw [if_neg hn]
      rfl
    rw [e] at hf
    have a1 := hf i.toNat (by simp)
    refine .inr (.inr (.inr ⟨x, (f i.toNat : Nat), hx, ?_, ⟨by omega, by omega⟩⟩))
    unfold ren
    rw [if_neg hn]
    rfl
theorem map_inj_on {f : Nat → Nat} : ∀ {l m : List Int}, (∀ i ∈ l, 0 ≤ i) → (∀ i ∈ m, 0 ≤ i) → (∀ i ∈ l, ∀ j ∈ m, f i.toNat = f j.toNat → i.toNat = j.toNat) → (l.map fun i => ((f i.toNat : Nat) : Int)) = (m.map fun i => ((f i.toNat : Nat) : Int)) → l = m
  | [], [], _, _, _, _ => rfl
  | [], _ :: _, _, _, _, h => by simp at h
  | _ :: _, [], _, _, _, h => by simp at h
  | a :: l, b :: m, h1, h2, hf, h => by
    rw [List.map_cons, List.map_cons] at h
    have e1 := (List.cons.inj h).1
    have e2 := (List.cons.inj h).2
    have e3 := hf a (List.mem_cons_self ..) b (List.mem_cons_self ..) (by omega)
    have p1 := h1 a (List.mem_cons_self ..)
    have p2 := h2 b (List.mem_cons_self ..)
    rw [map_inj_on (fun i hi => h1 i (List.mem_cons_of_mem _ hi)) (fun i hi => h2 i (List.mem_cons_of_mem _ hi)) (fun i hi j hj => hf i (List.mem_cons_of_mem _ hi) j (List.mem_cons_of_mem _ hj)) e2, show a = b by omega]
theorem ren_inj {k m : Nat} {s t : FStep} (hs : OkStep k s) (ht : OkStep m t) {f : Nat → Nat} (hf : ∀ i ∈ ix s, ∀ j ∈ ix t, f i = f j → i = j) (h : ren f s = ren f t) : s = t := by
  have hw : s.1 = t.1 := by rw [← ren_word f s, ← ren_word f t, h]
  by_cases hn : s.1 = "number"
  · have hn2 : t.1 = "number" := hw ▸ hn
    unfold ren at h
    rw [if_pos hn, if_pos hn2] at h
    exact h
  · have hn2 : t.1 ≠ "number" := hw ▸ hn
    unfold ren at h
    rw [if_neg hn, if_neg hn2] at h
    have h2 := (Prod.mk.inj h).2
    have hx : ∀ {u : FStep}, u.1 ≠ "number" → ∀ i ∈ u.2, i.toNat ∈ ix u := fun hu i hi => by
      unfold ix
      rw [if_neg hu]
      exact List.mem_map_of_mem hi
    have h3 := map_inj_on (fun i hi => (ok_pos hs hn i hi).1) (fun i hi => (ok_pos ht hn2 i hi).1) (fun i hi j hj => hf _ (hx hn i hi) _ (hx hn2 j hj)) h2
    exact Prod.ext hw h3
/-! ### going through the steps: each one once -/
def mstep (acc : List FStep × List Nat) (s : FStep) : List FStep × List Nat :=
  if ren (fun i => acc.2.getD i 0) s ∈ acc.1 then (acc.1, acc.2 ++ [acc.1.idxOf (ren (fun i => acc.2.getD i 0) s)]) else (acc.1 ++ [ren (fun i => acc.2.getD i 0) s], acc.2 ++ [acc.1.length])
def merge (F : List FStep) : List FStep × List Nat := F.foldl mstep ([], [])
structure Mg (n : Nat) (acc : List FStep × List Nat) : Prop where
  len : acc.2.length = n
  lt : ∀ p ∈ acc.2, p < acc.1.length
  ok : OkForm acc.1
  nd : acc.1.Nodup
  le : acc.1.length ≤ n
theorem getD_mem {l : List Nat} {i : Nat} (h : i < l.length) : l.getD i 0 ∈ l := by
  rw [List.getD_eq_getElem?_getD, List.getElem?_eq_getElem h]
  exact List.getElem_mem h
theorem Mg.step {n : Nat} {acc : List FStep × List Nat} (g : Mg n acc) {s : FStep} (hs : OkStep n s) : OkStep acc.1.length (ren (fun i => acc.2.getD i 0) s) :=
  ok_ren hs fun i hi => g.lt _ (getD_mem (by rw [g.len]; exact ok_ix hs i hi))
theorem OkForm.snoc {F : List FStep} {s : FStep} (h : OkForm F) (hs : OkStep F.length s) : OkForm (F ++ [s]) := by
  intro k t hk
  by_cases hlt : k < F.length
  · rw [List.getElem?_append_left hlt] at hk
    exact h k t hk
  · rw [List.getElem?_append_right (by omega)] at hk
    have h0 : k - F.length = 0 := by
      have := (List.getElem?_eq_some_iff.mp hk).1
      simp at this
      omega
    rw [h0] at hk
    cases Option.some.inj hk
    have : k = F.length := by omega
    rw [this]
    exact hs
theorem Mg.next {n : Nat} {acc : List FStep × List Nat} (g : Mg n acc) {s : FStep} (hs : OkStep n s) : Mg (n + 1) (mstep acc s) := by
  have h1 := g.step hs
  unfold mstep
  split
  · rename_i hm
    refine ⟨by rw [List.length_append, g.len]; rfl, fun p hp => ?_, g.ok, g.nd, Nat.le_succ_of_le g.le⟩
    rcases List.mem_append.mp hp with h | h
    · exact g.lt p h
    · rw [List.mem_singleton] at h
      rw [h]
      exact List.idxOf_lt_length_of_mem hm
  · rename_i hm
    refine ⟨by rw [List.length_append, g.len]; rfl, fun p hp => ?_, OkForm.snoc g.ok h1, List.nodup_append.mpr ⟨g.nd, by simp, fun a ha b hb => ?_⟩, by rw [List.length_append]; exact Nat.succ_le_succ g.le⟩
    · rw [List.length_append, List.length_singleton]
      rcases List.mem_append.mp hp with h | h
      · exact Nat.lt_succ_of_lt (g.lt p h)
      · rw [List.mem_singleton] at h
        omega
    · rw [List.mem_singleton] at hb
      subst hb
      exact fun z => hm (z ▸ ha)
theorem Mg.nil : Mg 0 ([], []) := ⟨rfl, fun p hp => absurd hp (by simp), fun k s h => by simp at h, List.nodup_nil, Nat.le_refl _⟩
theorem mg_take {F : List FStep} (h : OkForm F) : ∀ i, i ≤ F.length → Mg i ((F.take i).foldl mstep ([], []))
  | 0, _ => Mg.nil
  | i + 1, hi => by
    have hlt : i < F.length := hi
    rw [List.take_add_one, List.getElem?_eq_getElem hlt]
    show Mg (i + 1) ((F.take i ++ [F[i]]).foldl mstep ([], []))
    rw [List.foldl_append]
    exact (mg_take h i (Nat.le_of_lt hlt)).next (h i _ (List.getElem?_eq_getElem hlt))
theorem mg_merge {F : List FStep} (h : OkForm F) : Mg F.length (merge F) := by
  have := mg_take h F.length (Nat.le_refl _)
  rw [List.take_length] at this
  exact this
/-! ### the steps that are used -/
def upass (T : List FStep) : Nat → List Nat → List Nat
  | 0, L => L
  | n + 1, L => upass T n (if n ∈ L then L ++ ix (T.getD n ("pi", [])) else L)
theorem up_sub (T : List FStep) : ∀ n L, ∀ x ∈ L, x ∈ upass T n L
  | 0, _, x, h => h
  | n + 1, L, x, h => by
    unfold upass
    refine up_sub T n _ x ?_
    split
    · exact List.mem_append_left _ h
    · exact h
theorem ok_getD {T : List FStep} (h : OkForm T) (n : Nat) : ∀ i ∈ ix (T.getD n ("pi", [])), i < n := by
  intro i hi
  rw [List.getD_eq_getElem?_getD] at hi
  cases e : T[n]? with
  | none =>
    rw [e] at hi
    have e1 : ix (("pi" : Str), ([] : List Int)) = [] := by decide +kernel
    rw [Option.getD_none, e1] at hi
    exact absurd hi (List.not_mem_nil)
  | some s =>
    rw [e] at hi
    exact ok_ix (h n s e) i hi
/-- what is in the end at a place or above stood there before -/
theorem up_high {T : List FStep} (h : OkForm T) : ∀ n L, ∀ x ∈ upass T n L, n ≤ x + 1 → x ∈ L ∨ x + 1 ≤ n
  | 0, L, x, hx, _ => .inl hx
  | n + 1, L, x, hx, hn => by
    by_cases e : x + 1 ≤ n + 1
    · exact .inr e
    · unfold upass at hx
      rcases up_high h n _ x hx (by omega) with h1 | h1
      · split at h1
        · rcases List.mem_append.mp h1 with h2 | h2
          · exact .inl h2
          · have := ok_getD h n x h2
            omega
        · exact .inl h1
      · omega
theorem up_back {T : List FStep} (h : OkForm T) : ∀ n L, ∀ x, n ≤ x → x ∈ upass T n L → x ∈ L
  | 0, L, x, _, hx => hx
  | n + 1, L, x, hn, hx => by
    unfold upass at hx
    have h1 := up_back h n _ x (by omega) hx
    split at h1
    · rcases List.mem_append.mp h1 with h2 | h2
      · exact h2
      · have := ok_getD h n x h2
        omega
    · exact h1
/-- used steps' indexes are used -/
theorem up_closed {T : List FStep} (h : OkForm T) : ∀ n L, ∀ x, x < n → x ∈ upass T n L → ∀ i ∈ ix (T.getD x ("pi", [])), i ∈ upass T n L
  | 0, L, x, hn, _, _, _ => absurd hn (Nat.not_lt_zero _)
  | n + 1, L, x, hn, hx, i, hi => by
    unfold upass at hx ⊢
    by_cases e : x = n
    · subst e
      have h1 := up_back h x _ x (Nat.le_refl _) hx
      by_cases hm : x ∈ L
      · rw [if_pos hm]
        exact up_sub T x _ i (List.mem_append_right _ hi)
      · rw [if_neg hm] at h1
        exact absurd h1 hm
    · exact up_closed h n _ x (by omega) hx i hi
/-- each used step but the first ones has a used step above it -/
theorem up_parent {T : List FStep} (h : OkForm T) : ∀ n L, ∀ x ∈ upass T n L, x ∈ L ∨ ∃ y ∈ upass T n L, x ∈ ix (T.getD y ("pi", []))
  | 0, L, x, hx => .inl hx
  | n + 1, L, x, hx => by
    unfold upass at hx ⊢
    rcases up_parent h n _ x hx with h1 | h1
    · by_cases hm : n ∈ L
      · rw [if_pos hm] at h1 ⊢
        rcases List.mem_append.mp h1 with h2 | h2
        · exact .inl h2
        · exact .inr ⟨n, up_sub T n _ n (List.mem_append_left _ hm), h2⟩
      · rw [if_neg hm] at h1
        exact .inl h1
    · exact .inr h1
theorem up_le {T : List FStep} (h : OkForm T) {m : Nat} : ∀ n L, (∀ x ∈ L, x ≤ m) → ∀ x ∈ upass T n L, x ≤ m
  | 0, L, hL, x, hx => hL x hx
  | n + 1, L, hL, x, hx => by
    unfold upass at hx
    refine up_le h n _ (fun y hy => ?_) x hx
    split at hy
    · rename_i hm
      rcases List.mem_append.mp hy with h2 | h2
      · exact hL y h2
      · have h3 := ok_getD h n y h2
        have h4 := hL n hm
        omega
    · exact hL y hy
/-- places above all that is used change nothing -/
theorem up_skip {T : List FStep} {m : Nat} : ∀ n L, (∀ x ∈ L, x ≤ m) → m + 1 ≤ n → upass T n L = upass T (m + 1) L
  | 0, L, _, hn => absurd hn (by omega)
  | n + 1, L, hL, hn => by
    by_cases e : n = m
    · rw [e]
    · have hm : n ∉ L := fun z => by
        have := hL n z
        omega
      show upass T n (if n ∈ L then _ else L) = _
      rw [if_neg hm]
      exact up_skip n L hL (by omega)
/-! ### the whole -/
def used (T : List FStep) (last : Nat) : List Nat := upass T (last + 1) [last]
def order (T : List FStep) (last : Nat) : List Nat := (List.range (last + 1)).filter fun x => decide (x ∈ used T last)
def rank (T : List FStep) (last : Nat) (x : Nat) : Nat := ((List.range x).filter fun y => decide (y ∈ used T last)).length
def picked (T : List FStep) (last : Nat) : List FStep := (order T last).map fun x => ren (rank T last) (T.getD x ("pi", []))
def tidy (F : List FStep) : List FStep := picked (merge F).1 ((merge F).2.getLastD 0)
theorem used_last (T : List FStep) (last : Nat) : last ∈ used T last := up_sub T _ _ _ (by simp)
theorem mem_order {T : List FStep} {last x : Nat} (h : OkForm T) : x ∈ order T last ↔ x ∈ used T last := by
  unfold order
  rw [List.mem_filter, List.mem_range]
  refine ⟨fun z => of_decide_eq_true z.2, fun z => ⟨?_, decide_eq_true z⟩⟩
  have := up_le h (m := last) (last + 1) [last] (fun y hy => by simp at hy; omega) x z
  omega
theorem rank_succ (T : List FStep) (last x : Nat) : rank T last (x + 1) = rank T last x + (if x ∈ used T last then 1 else 0) := by
  unfold rank
  rw [List.range_succ, List.filter_append, List.length_append, List.filter_cons]
  by_cases h : x ∈ used T last
  · rw [if_pos h, if_pos (decide_eq_true h)]
    rfl
  · rw [if_neg h, if_neg (by simpa using h)]
    rfl
theorem rank_mono (T : List FStep) (last : Nat) : ∀ {x y : Nat}, x ≤ y → rank T last x ≤ rank T last y := by
  intro x y h
  induction h with
  | refl => exact Nat.le_refl _
  | step _ ih =>
    rw [rank_succ]
    omega
theorem rank_lt {T : List FStep} {last x y : Nat} (h : x < y) (hx : x ∈ used T last) : rank T last x < rank T last y := by
  have h1 := rank_mono T last (show x + 1 ≤ y from h)
  rw [rank_succ, if_pos hx] at h1
  omega
theorem rank_inj {T : List FStep} {last x y : Nat} (hx : x ∈ used T last) (hy : y ∈ used T last) (h : rank T last x = rank T last y) : x = y := by
  rcases Nat.lt_trichotomy x y with z | z | z
  · have := rank_lt z hx
    omega
  · exact z
  · have := rank_lt z hy
    omega
theorem order_len (T : List FStep) (last : Nat) : (order T last).length = rank T last (last + 1) := rfl
/-! ### places in a filtered range -/
theorem filt_at (p : Nat → Bool) : ∀ n y, y < n → p y = true → ((List.range n).filter p)[((List.range y).filter p).length]? = some y
  | 0, y, h, _ => absurd h (Nat.not_lt_zero _)
  | n + 1, y, h, hp => by
    rw [List.range_succ, List.filter_append]
    by_cases e : y < n
    · have h1 := filt_at p n y e hp
      rw [List.getElem?_append_left (List.getElem?_eq_some_iff.mp h1).1]
      exact h1
    · have e2 : y = n := by omega
      subst e2
      rw [List.getElem?_append_right (Nat.le_refl _), Nat.sub_self, List.filter_cons, if_pos hp]
      rfl
theorem filt_of (p : Nat → Bool) : ∀ n x, x < ((List.range n).filter p).length → ∃ y, y < n ∧ p y = true ∧ ((List.range y).filter p).length = x
  | 0, x, h => absurd h (by simp)
  | n + 1, x, h => by
    rw [List.range_succ, List.filter_append, List.length_append] at h
    by_cases e : x < ((List.range n).filter p).length
    · obtain ⟨y, h1, h2, h3⟩ := filt_of p n x e
      exact ⟨y, by omega, h2, h3⟩
    · by_cases hp : p n = true
      · rw [List.filter_cons, if_pos hp] at h
        exact ⟨n, by omega, hp, by simp at h; omega⟩
      · rw [List.filter_cons, if_neg hp] at h
        simp at h
        omega
theorem order_at {T : List FStep} {last y : Nat} (h : OkForm T) (hy : y ∈ used T last) : (order T last)[rank T last y]? = some y := by
  have h1 : y < last + 1 := by
    have := (mem_order h).mpr hy
    unfold order at this
    rw [List.mem_filter, List.mem_range] at this
    exact this.1
  exact filt_at _ (last + 1) y h1 (decide_eq_true hy)
theorem order_of {T : List FStep} {last x : Nat} (hx : x < (order T last).length) : ∃ y, y < last + 1 ∧ y ∈ used T last ∧ rank T last y = x := by
  obtain ⟨y, h1, h2, h3⟩ := filt_of _ (last + 1) x hx
  exact ⟨y, h1, of_decide_eq_true h2, h3⟩
theorem picked_len (T : List FStep) (last : Nat) : (picked T last).length = (order T last).length := List.length_map ..
theorem picked_at {T : List FStep} {last y : Nat} (h : OkForm T) (hy : y ∈ used T last) : (picked T last)[rank T last y]? = some (ren (rank T last) (T.getD y ("pi", []))) := by
  unfold picked
  rw [List.getElem?_map, order_at h hy]
  rfl
theorem used_ix {T : List FStep} {last y i : Nat} (h : OkForm T) (hy : y ∈ used T last) (hi : i ∈ ix (T.getD y ("pi", []))) : i ∈ used T last := by
  have h1 : y < last + 1 := by
    have := (mem_order h).mpr hy
    unfold order at this
    rw [List.mem_filter, List.mem_range] at this
    exact this.1
  exact up_closed h (last + 1) [last] y h1 hy i hi
theorem getD_ok {T : List FStep} (h : OkForm T) {y : Nat} (hy : y < T.length) : OkStep y (T.getD y ("pi", [])) := by
  rw [List.getD_eq_getElem?_getD, List.getElem?_eq_getElem hy]
  exact h y _ (List.getElem?_eq_getElem hy)
theorem picked_ok {T : List FStep} {last : Nat} (h : OkForm T) (hl : last < T.length) : OkForm (picked T last) := by
  intro k s hk
  have hlt := (List.getElem?_eq_some_iff.mp hk).1
  rw [picked_len] at hlt
  obtain ⟨y, h1, h2, h3⟩ := order_of hlt
  rw [← h3, picked_at h h2] at hk
  cases Option.some.inj hk
  refine ok_ren (getD_ok h (by omega)) fun i hi => ?_
  rw [← h3]
  exact rank_lt (ok_getD h y i hi) (used_ix h h2 hi)
theorem picked_ne (T : List FStep) (last : Nat) : 0 < (picked T last).length := by
  rw [picked_len, order_len, rank_succ, if_pos (used_last T last)]
  omega
theorem picked_le (T : List FStep) (last : Nat) : (picked T last).length ≤ last + 1 := by
  rw [picked_len]
  unfold order
  have := List.length_filter_le (fun x => decide (x ∈ used T last)) (List.range (last + 1))
  rw [List.length_range] at this
  exact this
theorem picked_nd {T : List FStep} {last : Nat} (h : OkForm T) (hn : T.Nodup) (hl : last < T.length) : (picked T last).Nodup := by
  unfold picked
  refine List.pairwise_map.mpr ?_
  have hp : (order T last).Pairwise (fun a b => a < b) := by
    unfold order
    exact List.Pairwise.filter _ List.pairwise_lt_range
  refine List.Pairwise.imp_of_mem ?_ hp
  intro a b ha hb hab he
  have hb1 : b < T.length := by
    unfold order at hb
    rw [List.mem_filter, List.mem_range] at hb
    omega
  have ua := (mem_order h).mp ha
  have ub := (mem_order h).mp hb
  have e := ren_inj (getD_ok h (by omega)) (getD_ok h hb1) (fun i hi j hj z => rank_inj (used_ix h ua hi) (used_ix h ub hj) z) he
  rw [List.getD_eq_getElem?_getD, List.getD_eq_getElem?_getD, List.getElem?_eq_getElem (show a < T.length by omega), List.getElem?_eq_getElem hb1] at e
  have := (List.getElem_inj hn).mp (show T[a] = T[b] from e)
  omega
/-! ### a formula without equal steps, all used -/
theorem merge_nd {F : List FStep} (h : OkForm F) (hn : F.Nodup) : merge F = (F, List.range F.length) := by
  have key : ∀ i, i ≤ F.length → (F.take i).foldl mstep ([], []) = (F.take i, List.range i) := by
    intro i
    induction i with
    | zero => exact fun _ => rfl
    | succ i ih =>
      intro hi
      have hlt : i < F.length := hi
      rw [List.take_add_one, List.getElem?_eq_getElem hlt]
      show (F.take i ++ [F[i]]).foldl mstep ([], []) = (F.take i ++ [F[i]], _)
      rw [List.foldl_append, ih (Nat.le_of_lt hlt)]
      have hs := h i _ (List.getElem?_eq_getElem hlt)
      have e : ren (fun j => (List.range i).getD j 0) F[i] = F[i] := ren_id hs fun j hj => by
        have := ok_ix hs j hj
        rw [List.getD_eq_getElem?_getD, List.getElem?_range this]
        rfl
      have hm : F[i] ∉ F.take i := by
        intro z
        obtain ⟨j, hj, hz⟩ := List.getElem_of_mem z
        rw [List.getElem_take] at hz
        have := (List.getElem_inj hn).mp hz
        rw [List.length_take] at hj
        omega
      show mstep (F.take i, List.range i) F[i] = _
      unfold mstep
      rw [e, if_neg hm, List.range_succ, List.length_take, Nat.min_eq_left (Nat.le_of_lt hlt)]
  have := key F.length (Nat.le_refl _)
  rw [List.take_length] at this
  exact this
theorem picked_all {G : List FStep} {m : Nat} (h : OkForm G) (hm : G.length = m + 1) (ha : ∀ x, x < G.length → x ∈ used G m) : picked G m = G := by
  have hr : ∀ x, x ≤ m + 1 → rank G m x = x := by
    intro x hx
    unfold rank
    rw [List.filter_eq_self.mpr (fun y hy => decide_eq_true (ha y (by rw [List.mem_range] at hy; omega))), List.length_range]
  have ho : order G m = List.range (m + 1) := List.filter_eq_self.mpr fun y hy => decide_eq_true (ha y (by rw [List.mem_range] at hy; omega))
  unfold picked
  rw [ho]
  refine List.ext_getElem (by rw [List.length_map, List.length_range, hm]) fun k h1 h2 => ?_
  rw [List.getElem_map, List.getElem_range, List.getD_eq_getElem?_getD, List.getElem?_eq_getElem h2]
  have hs := h k _ (List.getElem?_eq_getElem h2)
  exact ren_id hs fun i hi => hr i (by have := ok_ix hs i hi; omega)
theorem picked_used {T : List FStep} {last : Nat} (h : OkForm T) (hl : last < T.length) : ∀ x, x < (picked T last).length → x ∈ used (picked T last) ((picked T last).length - 1) := by
  have hG := picked_ok h hl
  have hlen : (picked T last).length - 1 = rank T last last := by
    rw [picked_len, order_len, rank_succ, if_pos (used_last T last)]
    rfl
  have hp := picked_ne T last
  have key : ∀ d y, d + y = last → y ∈ used T last → rank T last y ∈ used (picked T last) ((picked T last).length - 1) := by
    intro d
    induction d using Nat.strongRecOn with
    | _ d ih =>
      intro y hd hy
      rcases up_parent h (last + 1) [last] y hy with h1 | ⟨z, hz, h1⟩
      · rw [List.mem_singleton] at h1
        rw [h1, ← hlen]
        exact used_last _ _
      · have hz1 : z < last + 1 := by
          have := (mem_order h).mpr (show z ∈ used T last from hz)
          unfold order at this
          rw [List.mem_filter, List.mem_range] at this
          exact this.1
        have hlt := ok_getD h z y h1
        have h2 := ih (last - z) (by omega) z (by omega) hz
        refine used_ix hG h2 ?_
        rw [List.getD_eq_getElem?_getD, picked_at h hz]
        show _ ∈ ix (ren _ _)
        rw [ix_ren]
        exact List.mem_map_of_mem h1
  intro x hx
  rw [picked_len] at hx
  obtain ⟨y, h1, h2, h3⟩ := order_of hx
  rw [← h3]
  exact key (last - y) y (by omega) h2
theorem range_last (n : Nat) : (List.range (n + 1)).getLastD 0 = n := by
  rw [List.range_succ, List.getLastD_concat]
theorem last_lt {F : List FStep} (h : OkForm F) (hne : F ≠ []) : (merge F).2.getLastD 0 < (merge F).1.length := by
  have g := mg_merge h
  have h1 : (merge F).2 ≠ [] := fun z => hne (List.length_eq_zero_iff.mp (by rw [← g.len, z]; rfl))
  rw [List.getLastD_eq_getLast?, List.getLast?_eq_some_getLast h1]
  exact g.lt _ (List.getLast_mem h1)
theorem tidy_ok {F : List FStep} (h : OkForm F) (hne : F ≠ []) : OkForm (tidy F) := picked_ok (mg_merge h).ok (last_lt h hne)
theorem tidy_ne (F : List FStep) : 0 < (tidy F).length := picked_ne _ _
theorem tidy_le {F : List FStep} (h : OkForm F) (hne : F ≠ []) : (tidy F).length ≤ F.length := by
  have h1 := picked_le (merge F).1 ((merge F).2.getLastD 0)
  have h2 := last_lt h hne
  have h3 := (mg_merge h).le
  unfold tidy
  omega
theorem tidy_tidy {F : List FStep} (h : OkForm F) (hne : F ≠ []) : tidy (tidy F) = tidy F := by
  have hG := tidy_ok h hne
  have g := mg_merge h
  have hl := last_lt h hne
  have hnd : (tidy F).Nodup := picked_nd g.ok g.nd hl
  have hp := tidy_ne F
  obtain ⟨m, hm⟩ : ∃ m, (tidy F).length = m + 1 := ⟨(tidy F).length - 1, by omega⟩
  show picked (merge (tidy F)).1 ((merge (tidy F)).2.getLastD 0) = _
  rw [merge_nd hG hnd]
  show picked (tidy F) ((List.range (tidy F).length).getLastD 0) = _
  rw [hm, range_last]
  refine picked_all hG hm fun x hx => ?_
  have := picked_used g.ok hl x hx
  show x ∈ used (tidy F) m
  have e : (picked (merge F).1 ((merge F).2.getLastD 0)).length - 1 = m := by
    show (tidy F).length - 1 = m
    omega
  rw [e] at this
  exact this
end Td

/-! Own rules: an index into a list or a dict by one rule; set(a list of ints). -/
namespace Ld
open PySem PySem.Spec PyProof.Rows L2
theorem hu65 {A : Around} {k : Nat} (hr : Room k A) : A.units + 65 < cLine := by
  have := hr.un
  omega
def rDG : R2 := fun x y H Q => ∃ a v, x = .ref a ∧ DGet H a y (some v) ∧ Q v H
def rLD (K : PySem.W.Frag) : R2 := fun x y H Q => rIxL K x y H Q ∨ rDG x y H Q
section
variable {X : Cx}
theorem ix_dg (hu : X.A.units + 1 < cLine) : IxR X rDG := fun value slice pins s σ H x y v u Q I rx ry h hs => by
  obtain ⟨a, z, rfl, g, q⟩ := h
  cases (show v = Value.ref a from rx)
  exact tail_any (dict_typeIs I g) PySem.F.slot_dict_getitem.lookup (d_getItem hu I g ry fun r s1 I1 rr => ⟨z, H, I1, rr, q⟩) hs
theorem ix_ld (hu : X.A.units + 1 < cLine) : IxR X (rLD X.K) := IxR.or ix_list (ix_dg hu)
end
section
variable {P : Program} {w : World} {A : Around} {E : Value → Shared → Prop} {s : Shared}
abbrev bare (w : World) : Obj := { cls := .type "set", dict := none, data := .set #[] 0 (.fresh 0 0 (!w.params.followText "set-order")) }
abbrev withBare (w : World) (s : Shared) : Shared := { s with heap := s.heap.push (bare w) }
theorem bare_at (w : World) (h : Heap) : (h.push (bare w)).get? h.objs.size = some (bare w) := Heap.get?_push_size _ rfl
/-- what stands when the set is filled -/
def Filled (w : World) (s : Shared) (ns : List Int) (s2 : Shared) : Prop := ∃ h2 t2 c, s2 = { s with heap := h2, toks := t2 } ∧ SetR w h2 s.heap.objs.size (fun j => decide (j ∈ ns)) c ∧ c ≤ ns.length ∧ ∀ b o, s.heap.get? b = some o → h2.get? b = some o
theorem fill {l : Addr} {its : Array Value} (ns : List Int) (hh : A.handled = none) (hl : s.heap.IsList l its) (hi : IntsAre its.toList ns) (hb : ns.length + 1 < scanBound) :
    codeAny (model P w) A (.builtin "set.__init__" ⟨[.ref s.heap.objs.size, .ref l], []⟩) (wants (fun r s2 => r = .none ∧ Filled w s ns s2) E) (withBare w s) := by
  have sz : its.size = ns.length := by
    rw [← Array.length_toList]
    exact IntsAre.length hi
  have here := bare_at w s.heap
  have ty : Shared.TypeIs (withBare w s) (.ref s.heap.objs.size) "set" := ⟨_, here, rfl⟩
  obtain ⟨⟨cl, di, da, sl⟩, ho, hc, nl, hd⟩ := hl
  cases hc
  cases hd
  have lt : l < s.heap.objs.size := Heap.lt_size ho
  have ho2 := Heap.get?_push_of_some (bare w) ho
  have il : (s.heap.push (bare w)).IsList l its := ⟨_, ho2, rfl, nl, rfl⟩
  have n1 := F.sub_list_set
  have n2 := F.sub_list_frozenset
  have n3 : (Value.type "list" == Value.type "dict") = false := by decide
  refine codeAny_builtin F.entry_set_init ?_
  rw [Around.under_plainId (by first | exact F.plain_set_init | exact F.called_set.init.plain) _]
  unfold Builtin.«set.__init__» noKeywords
  unfold Builtin.Frozenset.updateFrom
  generalize gi : pyIter = PI
  wp_walk
  subst gi
  refine wpAny_pyIter_list il (wpAny_bind (wpAny_runValue ?_))
  have size2 : (s.heap.push (bare w)).objs.size = s.heap.objs.size + 1 := Heap.size_push ..
  have ne1 : l ≠ (s.heap.push (bare w)).objs.size := size2 ▸ Nat.ne_of_lt (Nat.lt_succ_of_lt lt)
  have out : s.heap.objs.size ∉ [(s.heap.push (bare w)).objs.size, l] := by
    intro z
    rcases List.mem_cons.mp z with z1 | z1
    · exact Nat.ne_of_lt (Nat.lt_succ_self _) (z1.trans size2)
    · exact Nat.ne_of_gt lt (List.mem_singleton.mp z1)
  have vals : ∀ (i : Nat) (v : Value), its[i]? = some v → ∃ k t, ns[i]? = some k ∧ v = .int k t := fun i v hv => by
    have lt2 : i < ns.length := by
      rw [← sz]
      exact (Array.getElem?_eq_some_iff.mp hv).1
    obtain ⟨t, e⟩ := IntsAre.int_at hi i v (by rw [Array.getElem?_toList]; exact hv)
    rw [List.getD_eq_getElem?_getD, List.getElem?_eq_getElem lt2, Option.getD_some] at e
    exact ⟨_, t, List.getElem?_eq_getElem lt2, e⟩
  have hn3 : A.in1.in1.handled = none := by simp [hh]
  refine set_update_ints ((Walks.list hn3 _ l ne1 its).toS) s.heap.objs.size out ns sz hb vals (its.size - 0) 0 _ (Nat.sub_zero _ ▸ rfl) (Nat.zero_le _) ⟨⟨_, Heap.get?_push_size _ rfl, rfl, rfl⟩, il.push _⟩ ?z1 ?z2
  case z1 => exact ⟨0, Nat.le_refl 0, setR_new_at (Heap.get?_push_of_some _ here)⟩
  intro s3 c3 mv R3a R3
  obtain ⟨h3, gs, dr, tk, os⟩ := s3
  cases (show gs = s.gens from mv.gens)
  cases (show dr = s.drawn from mv.drawn)
  cases (show os = s.os from mv.os)
  refine wpAny_pure (wpAny_pure ⟨rfl, h3, tk, c3, rfl, R3, sz ▸ R3a, fun b o e => mv.heap b o (fun z => ?_) (Heap.get?_push_of_some _ (Heap.get?_push_of_some _ e))⟩)
  have ltb : b < s.heap.objs.size := Heap.lt_size e
  rcases List.mem_cons.mp z with z1 | z1
  · exact Nat.ne_of_lt ltb z1
  · exact Nat.ne_of_lt (Nat.lt_succ_of_lt ltb) ((List.mem_singleton.mp z1).trans size2)
theorem set_of {l : Addr} {its : Array Value} (ns : List Int) {Q : Value → Shared → Prop} (hh : A.handled = none) (hl : s.heap.IsList l its) (hi : IntsAre its.toList ns) (hb : ns.length + 1 < scanBound)
    (k : ∀ s2, Filled w s ns s2 → Q (.ref s.heap.objs.size) s2) : wpAny (model P w) A (call (.type "set") [.ref l]) Q E s := by
  have ⟨cc, tt, mro⟩ := F.called_set.mro
  have made := F.called_set.made
  have sub := F.called_set.sub
  have ncls := F.called_set.notType
  have canC := F.called_set.canCreate
  have tc := F.typeCall_set_1 (.ref l)
  refine wpAny_call (codeAny_of_tree (show wpAny _ _ (callAny (.type "set") _) _ _ _ from wpAny_pure ⟨Code.quiet_builtin _ (by decide +kernel), codeAny_builtin F.entry_type_call ?_⟩))
  rw [Around.under_plain (weight_type_call_type "set" [.ref l] []) rfl]
  repeat (any_goals (first | assumption | wp_step))
  refine codeAny_mono (code_set_led1 (.ref l) (E := E) (Q₁ := fun x s1 => x = .ref s.heap.objs.size ∧ s1 = withBare w s) ⟨rfl, rfl⟩) fun r1 s1 g1 => ?_
  have lk := F.called_set.init.lookup
  have bd := F.called_set.init.bind (.ref s.heap.objs.size)
  cases r1 with
  | error e => exact g1
  | ok fl =>
    cases fl with
    | ret ob =>
      obtain ⟨rfl, rfl⟩ := g1
      have ty : Shared.TypeIs (withBare w s) (.ref s.heap.objs.size) "set" := ⟨_, bare_at w s.heap, rfl⟩
      repeat (any_goals (first | assumption | wp_step))
      refine codeAny_mono (codeAny_call_builtin_code (R := wants (fun r s2 => r = .none ∧ Filled w s ns s2) E) (plainId_quiet F.called_set.init.plain _) (check_set_init_1 ty (fill ns hh hl hi hb))) fun r2 s2 g2 => ?_
      cases r2 with
      | error e => exact g2
      | ok f2 =>
        cases f2 with
        | ret v =>
          obtain ⟨rfl, g3⟩ := g2
          repeat (any_goals (first | assumption | wp_step))
          exact k _ g3
        | _ => exact g2.elim
    | _ => exact g1.elim
end
def rSetI (K : PySem.W.Frag) (w : World) : List V → Hp → VK → Prop := fun xs H Q => ∃ (l : Addr) (ns : List Int), xs = [V.ref l] ∧ SqL K H l (ns.map V.int) ∧ ns.length ≤ 60 ∧ ∀ p n, H p = none → n ≤ ns.length → Q (.ref p) (upd H p (SetO w p (fun j => decide (j ∈ ns)) n))
theorem cr_setI {X : Cx} (hc : X.calm = true) : CallR X (.type "set") (rSetI X.K X.w) := fun pins s σ H xs us Q I r h => by
  obtain ⟨l, ns, rfl, hl, hz, q⟩ := h
  rw [Vals.ref1 r]
  obtain ⟨its, rv, pl, _⟩ := I.list hl
  refine set_of ns (I.ok.hd hc) pl.isList (by simpa using ints_of_vals rv) (by unfold scanBound; omega) fun s2 g => ?_
  obtain ⟨h2, t2, c, rfl, R, le, kp⟩ := g
  exact ⟨.ref s.heap.objs.size, upd H s.heap.objs.size (SetO X.w s.heap.objs.size (fun j => decide (j ∈ ns)) c), I.laid (t' := t2) kp (Nat.le_refl _) (setO_new R), rfl, q _ c (I.hok.fresh (Nat.le_refl _)) le⟩
end Ld

/-! Own data: areas of polygons by their corners, bits of tiles. -/
namespace Pg
abbrev Pt := Int × Int
def cr (p q : Pt) : Int := p.2 * q.1 - q.2 * p.1
theorem cr_anti (p q : Pt) : cr p q + cr q p = 0 := by
  unfold cr
  omega
def path : List Pt → Int
  | [] => 0
  | [_] => 0
  | a :: b :: r => cr a b + path (b :: r)
theorem path_join : ∀ (l : List Pt) (m : Pt) (r : List Pt), path (l ++ m :: r) = path (l ++ [m]) + path (m :: r)
  | [], m, r => by
    show path (m :: r) = path [m] + path (m :: r)
    show path (m :: r) = 0 + path (m :: r)
    omega
  | [a], m, r => by
    show cr a m + path (m :: r) = (cr a m + path [m]) + path (m :: r)
    show cr a m + path (m :: r) = (cr a m + 0) + path (m :: r)
    omega
  | a :: b :: l, m, r => by
    have := path_join (b :: l) m r
    show cr a b + path ((b :: l) ++ m :: r) = (cr a b + path ((b :: l) ++ [m])) + path (m :: r)
    omega
def area2 : List Pt → Int
  | [] => 0
  | a :: r => path (a :: r ++ [a])
theorem area_rot (l m : List Pt) : area2 (l ++ m) = area2 (m ++ l) := by
  cases l with
  | nil => rw [List.nil_append, List.append_nil]
  | cons a l =>
    cases m with
    | nil => rw [List.nil_append, List.append_nil]
    | cons b m =>
      have e1 : area2 ((a :: l) ++ b :: m) = path ((a :: l) ++ b :: (m ++ [a])) := by
        show path (((a :: l) ++ b :: m) ++ [a]) = _
        rw [List.append_assoc]
        rfl
      have e2 : area2 ((b :: m) ++ a :: l) = path ((b :: m) ++ a :: (l ++ [b])) := by
        show path (((b :: m) ++ a :: l) ++ [b]) = _
        rw [List.append_assoc]
        rfl
      rw [e1, e2, path_join, path_join (b :: m)]
      show path ((a :: l) ++ [b]) + path ((b :: m) ++ [a]) = path ((b :: m) ++ [a]) + path ((a :: l) ++ [b])
      omega
theorem area_two (A M Z : List Pt) (p q : Pt) : area2 (p :: M ++ [q]) + area2 (q :: (Z ++ A) ++ [p]) = area2 (A ++ (p :: M ++ q :: Z)) := by
  rw [area_rot A]
  have e1 : area2 (p :: M ++ [q]) = path (p :: M ++ [q]) + cr q p := by
    show path ((p :: M ++ [q]) ++ [p]) = _
    rw [List.append_assoc]
    show path (p :: M ++ q :: [p]) = _
    rw [path_join]
    show path (p :: M ++ [q]) + (cr q p + path [p]) = _
    show path (p :: M ++ [q]) + (cr q p + 0) = _
    omega
  have e2 : area2 (q :: (Z ++ A) ++ [p]) = path (q :: (Z ++ A) ++ [p]) + cr p q := by
    show path ((q :: (Z ++ A) ++ [p]) ++ [q]) = _
    rw [List.append_assoc]
    show path (q :: (Z ++ A) ++ p :: [q]) = _
    rw [path_join]
    show path (q :: (Z ++ A) ++ [p]) + (cr p q + path [q]) = _
    show path (q :: (Z ++ A) ++ [p]) + (cr p q + 0) = _
    omega
  have e3 : area2 ((p :: M ++ q :: Z) ++ A) = path (p :: M ++ [q]) + path (q :: (Z ++ A) ++ [p]) := by
    show path (((p :: M ++ q :: Z) ++ A) ++ [p]) = _
    rw [List.append_assoc, List.append_assoc]
    show path (p :: M ++ q :: (Z ++ (A ++ [p]))) = _
    rw [path_join, ← List.append_assoc]
    rfl
  rw [e1, e2, e3]
  have := cr_anti p q
  omega
/-- by the indexes of the two corners -/
theorem area_halves (c : List Pt) {i k : Nat} (h : i < k) (hk : k < c.length) : area2 ((c.drop i).take (k - i + 1)) + area2 (c.drop k ++ c.take (i + 1)) = area2 c := by
  have hi : i < c.length := by omega
  have hc : c = c.take i ++ (c[i] :: ((c.drop (i + 1)).take (k - i - 1)) ++ c[k] :: c.drop (k + 1)) := by
    have e1 : c.drop i = c[i] :: c.drop (i + 1) := List.drop_eq_getElem_cons hi
    have e2 : c.drop k = c[k] :: c.drop (k + 1) := List.drop_eq_getElem_cons hk
    have e3 : c.drop (i + 1) = (c.drop (i + 1)).take (k - i - 1) ++ c.drop k := by
      have := (List.take_append_drop (k - i - 1) (c.drop (i + 1))).symm
      rw [List.drop_drop, show i + 1 + (k - i - 1) = k by omega] at this
      exact this
    calc c = c.take i ++ c.drop i := (List.take_append_drop i c).symm
      _ = _ := by
        rw [e1]
        conv => lhs; rw [e3, e2]
        rfl
  have h1 : (c.drop i).take (k - i + 1) = c[i] :: ((c.drop (i + 1)).take (k - i - 1)) ++ [c[k]] := by
    rw [List.drop_eq_getElem_cons hi, List.take_succ_cons]
    have e : k - i = (k - i - 1) + 1 := by omega
    conv => lhs; rw [e]
    rw [List.take_add_one, List.getElem?_drop, show i + 1 + (k - i - 1) = k by omega, List.getElem?_eq_getElem hk]
    rfl
  have h2 : c.drop k ++ c.take (i + 1) = c[k] :: (c.drop (k + 1) ++ c.take i) ++ [c[i]] := by
    rw [List.drop_eq_getElem_cons hk, List.take_add_one, List.getElem?_eq_getElem hi]
    show c[k] :: c.drop (k + 1) ++ (c.take i ++ [c[i]]) = _
    rw [← List.append_assoc]
    rfl
  rw [h1, h2]
  conv => rhs; rw [hc]
  exact area_two _ _ _ _ _
def side (p q r : Pt) : Int := (q.2 - p.2) * (r.1 - p.1) - (q.1 - p.1) * (r.2 - p.2)
theorem side_cr (p q r : Pt) : side p q r = cr p q + cr q r + cr r p := by
  unfold side cr
  simp only [Int.sub_mul, Int.mul_sub]
  have a1 := Int.mul_comm q.1 r.2
  have a2 := Int.mul_comm q.1 p.2
  have a3 := Int.mul_comm p.1 r.2
  have a4 := Int.mul_comm p.1 p.2
  have a5 := Int.mul_comm r.1 p.2
  have a6 := Int.mul_comm r.1 q.2
  have a7 := Int.mul_comm p.1 q.2
  omega
def fan (a : Pt) : List Pt → Int
  | [] => 0
  | [_] => 0
  | b :: c :: r => side a b c + fan a (c :: r)
theorem fan_area (a : Pt) : ∀ (b : Pt) (r : List Pt), fan a (b :: r) = area2 (a :: b :: r)
  | b, [] => by
    have := cr_anti a b
    show 0 = cr a b + (cr b a + 0)
    omega
  | b, c :: r => by
    have e := fan_area a c r
    have e2 : area2 (a :: c :: r) = cr a c + path (c :: r ++ [a]) := rfl
    have e3 : area2 (a :: b :: c :: r) = cr a b + (cr b c + path (c :: r ++ [a])) := rfl
    have := cr_anti a c
    rw [e3]
    show side a b c + fan a (c :: r) = _
    rw [e, e2, side_cr]
    omega
/-! ### bits -/
def join (ds : List Nat) : Nat := ds.foldl (fun a d => 2 * a + d) 0
theorem join_from (a : Nat) : ∀ ds : List Nat, ds.foldl (fun a d => 2 * a + d) a = a * 2 ^ ds.length + join ds
  | [] => by simp [join]
  | d :: r => by
    show r.foldl _ (2 * a + d) = _
    rw [join_from (2 * a + d) r]
    have e : join (d :: r) = d * 2 ^ r.length + join r := by
      show r.foldl _ (2 * 0 + d) = _
      rw [Nat.mul_zero, Nat.zero_add]
      exact join_from d r
    rw [e, List.length_cons, Nat.pow_succ, Nat.add_mul, Nat.mul_comm 2 a, Nat.mul_assoc, Nat.mul_comm 2]
    omega
theorem join_snoc (ds : List Nat) (d : Nat) : join (ds ++ [d]) = 2 * join ds + d := by
  unfold join
  rw [List.foldl_append]
  rfl
theorem join_lt : ∀ {ds : List Nat}, (∀ d ∈ ds, d < 2) → join ds < 2 ^ ds.length := by
  intro ds
  induction ds with
  | nil => exact fun _ => by decide
  | cons d r ih =>
    intro h
    have e : join (d :: r) = d * 2 ^ r.length + join r := by
      show r.foldl _ (2 * 0 + d) = _
      rw [Nat.mul_zero, Nat.zero_add]
      exact join_from d r
    have h1 := ih fun x hx => h x (List.mem_cons_of_mem _ hx)
    have h2 := h d (List.mem_cons_self ..)
    rw [e, List.length_cons, Nat.pow_succ]
    have h3 : d = 0 ∨ d = 1 := by omega
    rcases h3 with rfl | rfl
    · omega
    · omega
/-- the z lowest bits, the highest first -/
def bits (x : Nat) : Nat → List Nat
  | 0 => []
  | z + 1 => bits (x / 2) z ++ [x % 2]
theorem bits_len : ∀ (z x : Nat), (bits x z).length = z
  | 0, x => rfl
  | z + 1, x => by
    show (bits (x / 2) z ++ [x % 2]).length = _
    rw [List.length_append, bits_len z]
    rfl
theorem bits_lt : ∀ (z x : Nat), ∀ d ∈ bits x z, d < 2
  | 0, x, d, h => absurd h (List.not_mem_nil)
  | z + 1, x, d, h => by
    rcases List.mem_append.mp h with h | h
    · exact bits_lt z _ d h
    · rw [List.mem_singleton] at h
      omega
theorem join_bits : ∀ (z x : Nat), x < 2 ^ z → join (bits x z) = x
  | 0, x, h => by
    have : x = 0 := by
      rw [Nat.pow_zero] at h
      omega
    rw [this]
    rfl
  | z + 1, x, h => by
    show join (bits (x / 2) z ++ [x % 2]) = x
    rw [Nat.pow_succ] at h
    rw [join_snoc, join_bits z (x / 2) (by omega)]
    omega
theorem bits_join : ∀ (z : Nat) (ds : List Nat), ds.length = z → (∀ d ∈ ds, d < 2) → bits (join ds) z = ds
  | 0, ds, h, _ => by
    rw [List.length_eq_zero_iff.mp h]
    rfl
  | z + 1, ds, h, hd => by
    have hne : ds ≠ [] := fun e => by rw [e] at h; cases h
    obtain ⟨l, d, rfl⟩ : ∃ l d, ds = l ++ [d] := ⟨ds.dropLast, ds.getLast hne, (List.dropLast_concat_getLast hne).symm⟩
    rw [List.length_append, List.length_singleton] at h
    have h1 := hd d (by simp)
    have h2 := bits_join z l (by omega) fun x hx => hd x (List.mem_append_left _ hx)
    rw [join_snoc]
    show bits ((2 * join l + d) / 2) z ++ [(2 * join l + d) % 2] = _
    rw [show (2 * join l + d) / 2 = join l by omega, show (2 * join l + d) % 2 = d by omega, h2]
theorem bits_at : ∀ (z x k : Nat), k < z → (bits x z)[k]? = some (x / 2 ^ (z - 1 - k) % 2)
  | 0, x, k, h => absurd h (Nat.not_lt_zero _)
  | z + 1, x, k, h => by
    show (bits (x / 2) z ++ [x % 2])[k]? = _
    by_cases e : k < z
    · rw [List.getElem?_append_left (by rw [bits_len]; exact e), bits_at z (x / 2) k e, Nat.div_div_eq_div_mul, ← Nat.pow_succ']
      rw [show (z - 1 - k).succ = z + 1 - 1 - k by omega]
    · have e2 : k = z := by omega
      subst e2
      rw [List.getElem?_append_right (by rw [bits_len]; exact Nat.le_refl _), bits_len, Nat.sub_self]
      rw [show k + 1 - 1 - k = 0 by omega, Nat.pow_zero, Nat.div_one]
      rfl
end Pg

/-! Own data layer: what slots hold as data, whatever the heap; expressions, statements and defs told by data alone. -/
namespace Ja
open PySem PySem.Spec PyProof.Rows L2 Evl Cm
mutual
/-- a value as data, its lists tracked -/
inductive Dt (K : PySem.W.Frag) (H : Hp) : V → PyData → Prop
  | non : Dt K H .non .none
  | bl (b : Bool) : Dt K H (.bl b) (.bool b)
  | int (i : Int) : Dt K H (.int i) (.int i)
  | str (x : Str) : Dt K H (.str x) (.str x)
  | lst {a : Addr} {xs : List V} {ds : List PyData} : H a = some (.lst xs) → DtAll K H xs ds → Dt K H (.ref a) (.list ds)
  | tup {a : Addr} {xs : List V} {ds : List PyData} : SqT K H a xs → DtAll K H xs ds → Dt K H (.ref a) (.tuple ds)
inductive DtAll (K : PySem.W.Frag) (H : Hp) : List V → List PyData → Prop
  | nil : DtAll K H [] []
  | cons {v : V} {vs : List V} {d : PyData} {ds : List PyData} : Dt K H v d → DtAll K H vs ds → DtAll K H (v :: vs) (d :: ds)
end
section
variable {K : PySem.W.Frag} {H H' : Hp}
mutual
theorem dt_mono (e : Ex H H') : ∀ (d : PyData) (v : V), Dt K H v d → Dt K H' v d
  | _, _, .non => .non
  | _, _, .bl b => .bl b
  | _, _, .int i => .int i
  | _, _, .str x => .str x
  | _, _, .lst h a => .lst (e _ _ h) (dts_mono e _ _ a)
  | _, _, .tup h a => .tup (ex_t e h) (dts_mono e _ _ a)
theorem dts_mono (e : Ex H H') : ∀ (ds : List PyData) (vs : List V), DtAll K H vs ds → DtAll K H' vs ds
  | _, _, .nil => .nil
  | _, _, .cons h t => .cons (dt_mono e _ _ h) (dts_mono e _ _ t)
end
mutual
theorem dt_dp : ∀ (d : PyData) (v : V), Dt K H v d → Dp K H v d
  | _, _, .non => .non
  | _, _, .bl b => .bl b
  | _, _, .int i => .int i
  | _, _, .str x => .str x
  | _, _, .lst h a => .lst (sq_of h) (dts_dp _ _ a)
  | _, _, .tup h a => .tup h (dts_dp _ _ a)
theorem dts_dp : ∀ (ds : List PyData) (vs : List V), DtAll K H vs ds → DpAll K H vs ds
  | _, _, .nil => .nil
  | _, _, .cons h t => .cons (dt_dp _ _ h) (dts_dp _ _ t)
end
theorem DtAll.len : ∀ {vs : List V} {ds : List PyData}, DtAll K H vs ds → vs.length = ds.length
  | _, _, .nil => rfl
  | _, _, .cons _ r => congrArg (· + 1) r.len
theorem DtAll.get : ∀ {vs : List V} {ds : List PyData}, DtAll K H vs ds → ∀ {i : Nat} {d : PyData}, ds[i]? = some d → ∃ v, vs[i]? = some v ∧ Dt K H v d
  | _, _, .cons h r, 0, d, e => by
    cases Option.some.inj e
    exact ⟨_, rfl, h⟩
  | _, _, .cons h r, i + 1, d, e => r.get (i := i) e
theorem DtAll.getV : ∀ {vs : List V} {ds : List PyData}, DtAll K H vs ds → ∀ {i : Nat} {v : V}, vs[i]? = some v → ∃ d, ds[i]? = some d ∧ Dt K H v d
  | _, _, .cons h r, 0, d, e => by
    cases Option.some.inj e
    exact ⟨_, rfl, h⟩
  | _, _, .cons h r, i + 1, d, e => r.getV (i := i) e
theorem DtAll.app : ∀ {vs ws : List V} {ds es : List PyData}, DtAll K H vs ds → DtAll K H ws es → DtAll K H (vs ++ ws) (ds ++ es)
  | _, _, _, _, .nil, h => h
  | _, _, _, _, .cons h r, h2 => .cons h (r.app h2)
theorem DtAll.one {v : V} {d : PyData} (h : Dt K H v d) : DtAll K H [v] [d] := .cons h .nil
theorem DtAll.take : ∀ {vs : List V} {ds : List PyData}, DtAll K H vs ds → ∀ n, DtAll K H (vs.take n) (ds.take n)
  | _, _, h, 0 => by
    rw [List.take_zero, List.take_zero]
    exact .nil
  | _, _, .nil, n + 1 => .nil
  | _, _, .cons h r, n + 1 => .cons h (r.take n)
theorem DtAll.drop : ∀ {vs : List V} {ds : List PyData}, DtAll K H vs ds → ∀ n, DtAll K H (vs.drop n) (ds.drop n)
  | _, _, h, 0 => h
  | _, _, .nil, n + 1 => .nil
  | _, _, .cons h r, n + 1 => r.drop n
theorem DtAll.of : ∀ {vs : List V} {ds : List PyData}, vs.length = ds.length → (∀ (i : Nat) v d, vs[i]? = some v → ds[i]? = some d → Dt K H v d) → DtAll K H vs ds
  | [], [], _, _ => .nil
  | [], _ :: _, h, _ => by simp at h
  | _ :: _, [], h, _ => by simp at h
  | v :: vs, d :: ds, h, g => .cons (g 0 v d rfl rfl) (DtAll.of (by simpa using h) fun i x y a b => g (i + 1) x y a b)
theorem DtAll.set : ∀ {vs : List V} {ds : List PyData}, DtAll K H vs ds → ∀ (i : Nat) {v : V} {d : PyData}, Dt K H v d → DtAll K H (vs.set i v) (ds.set i d)
  | _, _, .nil, _, _, _, _ => .nil
  | _, _, .cons h r, 0, _, _, g => .cons g r
  | _, _, .cons h r, i + 1, _, _, g => .cons h (r.set i g)
theorem DtAll.rev {vs : List V} {ds : List PyData} (h : DtAll K H vs ds) : DtAll K H vs.reverse ds.reverse := by
  have hl := h.len
  refine .of (by simpa using hl) fun i v d a b => ?_
  have hi : i < vs.length := by
    have := (List.getElem?_eq_some_iff.mp a).1
    simpa using this
  rw [List.getElem?_reverse hi] at a
  rw [List.getElem?_reverse (by omega)] at b
  obtain ⟨e, h1, h2⟩ := h.getV a
  rw [hl] at h1
  rw [h1] at b
  cases Option.some.inj b
  exact h2
theorem dt_ints : ∀ (ns : List Int), DtAll K H (ns.map V.int) (ns.map PyData.int)
  | [] => .nil
  | n :: r => .cons (.int n) (dt_ints r)
theorem dt_ints_inv : ∀ {vs : List V} (ns : List Int), DtAll K H vs (ns.map PyData.int) → vs = ns.map V.int
  | _, [], .nil => rfl
  | _, n :: r, .cons h t => by
    cases h
    rw [dt_ints_inv r t]
    rfl
theorem dt_strs_inv : ∀ {vs : List V} (ns : List Str), DtAll K H vs (ns.map PyData.str) → vs = ns.map V.str
  | _, [], .nil => rfl
  | _, n :: r, .cons h t => by
    cases h
    rw [dt_strs_inv r t]
    rfl
end
/-- what is true of a value, and stays so -/
structure MP where
  P : Hp → V → Prop
  mono : ∀ {B B' : Hp} {v : V}, Ex B B' → P B v → P B' v
inductive Sl where
  | no
  | raw (v : V)
  | dat (d : PyData)
  | own (ds : List PyData)
  | sem (m : MP)
abbrev nI (i : Int) : Sl := .dat (.int i)
abbrev nB (b : Bool) : Sl := .dat (.bool b)
abbrev nS (x : Str) : Sl := .dat (.str x)
/-- a list of ints that is only read -/
def scrP (K : PySem.W.Frag) (ns : List Int) : MP := ⟨fun B v => ∃ a, v = .ref a ∧ SqL K B a (ns.map V.int), fun e ⟨a, h1, h2⟩ => ⟨a, h1, ex_l e h2⟩⟩
/-- what a value is -/
def Is (K : PySem.W.Frag) (B : Hp) (v : V) : Sl → Prop
  | .raw w => v = w
  | .dat d => Dt K B v d
  | .sem m => m.P B v
  | _ => False
def Vl : Sl → Bool
  | .no => false
  | .own _ => false
  | _ => true
theorem Is.vl {K : PySem.W.Frag} {B : Hp} {v : V} : ∀ {s : Sl}, Is K B v s → Vl s = true
  | .raw _, _ => rfl
  | .dat _, _ => rfl
  | .sem _, _ => rfl
  | .no, h => h.elim
  | .own _, h => h.elim
inductive IsAll (K : PySem.W.Frag) (B : Hp) : List V → List Sl → Prop
  | nil : IsAll K B [] []
  | cons {v : V} {vs : List V} {s : Sl} {ss : List Sl} : Is K B v s → IsAll K B vs ss → IsAll K B (v :: vs) (s :: ss)
/-- from the base B and the heap H to B', H' -/
structure Stp (B H B' H' : Hp) : Prop where
  b : Ex B B'
  bh : Ex B' H'
  h : Ex H H'
  n : ∀ a, B' a ≠ none → B a ≠ none ∨ H a = none
theorem Is.mono {K : PySem.W.Frag} {B B' : Hp} {v : V} (e : Ex B B') : ∀ {s : Sl}, Is K B v s → Is K B' v s
  | .raw _, h => h
  | .dat d, h => dt_mono e d v h
  | .sem m, h => m.mono e h
  | .no, h => h
  | .own _, h => h
theorem IsAll.mono {K : PySem.W.Frag} {B B' : Hp} (e : Ex B B') : ∀ {vs : List V} {ss : List Sl}, IsAll K B vs ss → IsAll K B' vs ss
  | _, _, .nil => .nil
  | _, _, .cons h r => .cons (h.mono e) (r.mono e)
theorem IsAll.len {K : PySem.W.Frag} {B : Hp} : ∀ {vs : List V} {ss : List Sl}, IsAll K B vs ss → vs.length = ss.length
  | _, _, .nil => rfl
  | _, _, .cons _ r => congrArg (· + 1) r.len
theorem Stp.refl {B H : Hp} (e : Ex B H) : Stp B H B H := ⟨.refl _, e, .refl _, fun a h => .inl h⟩
theorem none_of {H H' : Hp} {a : Addr} (e : Ex H H') (h : H' a = none) : H a = none := fresh_back e h
theorem Stp.trans {B H B1 H1 B2 H2 : Hp} (x : Stp B H B1 H1) (y : Stp B1 H1 B2 H2) : Stp B H B2 H2 := ⟨x.b.trans y.b, y.bh, x.h.trans y.h, fun a h => by
  rcases y.n a h with h | h
  · exact x.n a h
  · exact .inr (none_of x.h h)⟩
/-- a new object -/
theorem Stp.new {B H : Hp} {p : Addr} {o : HO} (e : Ex B H) (hp : H p = none) : Stp B H (upd B p o) (upd H p o) := by
  have hb : B p = none := none_of e hp
  refine ⟨Ex.new hb, fun a u h => ?_, Ex.new hp, fun a h => ?_⟩
  · by_cases z : a = p
    · subst z
      rw [upd_same] at h ⊢
      exact h
    · rw [upd_ne z] at h ⊢
      exact e a u h
  · by_cases z : a = p
    · subst z
      exact .inr hp
    · rw [upd_ne z] at h
      exact .inl h
/-- slots, as data over the base B; lists of its own beside it -/
structure Sc (K : PySem.W.Frag) (B0 H0 B H : Hp) (σ : L2.St) (δ : List Sl) : Prop where
  st : Stp B0 H0 B H
  len : σ.length = δ.length
  val : ∀ (i : Nat) (s : Sl), δ[i]? = some s → Vl s = true → ∃ v, σ[i]? = some (some v) ∧ Is K B v s
  own : ∀ (i : Nat) (ds : List PyData), δ[i]? = some (Sl.own ds) → ∃ l vs, σ[i]? = some (some (V.ref l)) ∧ H l = some (.lst vs) ∧ B l = none ∧ H0 l = none ∧ DtAll K B vs ds
  dis : ∀ (i j : Nat) (ds es : List PyData) (l : Addr), δ[i]? = some (Sl.own ds) → δ[j]? = some (Sl.own es) → σ[i]? = some (some (V.ref l)) → σ[j]? = some (some (V.ref l)) → i = j
section
variable {K : PySem.W.Frag} {B0 H0 B H B' H' : Hp} {σ : L2.St} {δ : List Sl}
/-- on to a later base and heap: nothing of its own has changed -/
theorem Sc.go (h : Sc K B0 H0 B H σ δ) (s : Stp B H B' H') : Sc K B0 H0 B' H' σ δ := by
  refine ⟨h.st.trans s, h.len, fun i t hi ht => ?_, fun i ds hi => ?_, h.dis⟩
  · obtain ⟨v, h1, h2⟩ := h.val i t hi ht
    exact ⟨v, h1, h2.mono s.b⟩
  · obtain ⟨l, vs, h1, h2, h3, h4, h5⟩ := h.own i ds hi
    refine ⟨l, vs, h1, s.h l _ h2, ?_, h4, dts_mono s.b ds vs h5⟩
    cases e : B' l with
    | none => rfl
    | some o =>
      rcases s.n l (by rw [e]; exact fun z => by cases z) with z | z
      · exact absurd h3 z
      · rw [h2] at z
        cases z
theorem get_set_cases {α : Type} {l : List α} {i j : Nat} {x y : α} (h : (l.set i x)[j]? = some y) : (i = j ∧ x = y ∧ i < l.length) ∨ (i ≠ j ∧ l[j]? = some y) := by
  by_cases e : i = j
  · subst e
    rw [List.getElem?_set_self'] at h
    cases hl : l[i]? with
    | none =>
      rw [hl] at h
      cases h
    | some z =>
      rw [hl] at h
      exact .inl ⟨rfl, Option.some.inj h, (List.getElem?_eq_some_iff.mp hl).1⟩
  · rw [List.getElem?_set_ne e] at h
    exact .inr ⟨e, h⟩
theorem get_set_ne {α : Type} {l : List α} {i j : Nat} {x y : α} (e : i ≠ j) (h : l[j]? = some y) : (l.set i x)[j]? = some y := by
  rw [List.getElem?_set_ne e]
  exact h
theorem get_set_eq {α : Type} {l : List α} {i : Nat} {x : α} (h : i < l.length) : (l.set i x)[i]? = some x := by
  rw [List.getElem?_set_self h]
/-- a slot takes a value of which s is true, or nothing is said of it any more -/
theorem Sc.set' (h : Sc K B0 H0 B H σ δ) {o : Option V} {s : Sl} (i : Nat) (hv : (∃ v, o = some v ∧ Is K B v s) ∨ s = .no) : Sc K B0 H0 B H (σ.set i o) (δ.set i s) := by
  have hn : ∀ {j : Nat} {ds : List PyData}, (δ.set i s)[j]? = some (Sl.own ds) → i ≠ j ∧ δ[j]? = some (Sl.own ds) := fun {j ds} hj => by
    rcases get_set_cases hj with ⟨e1, e2, e3⟩ | ⟨e1, e2⟩
    · rcases hv with ⟨v, _, hv⟩ | hv
      · rw [e2] at hv
        exact hv.elim
      · rw [hv] at e2
        cases e2
    · exact ⟨e1, e2⟩
  refine ⟨h.st, by rw [List.length_set, List.length_set, h.len], fun j t hj ht => ?_, fun j ds hj => ?_, fun j k ds es l hj hk h1 h2 => ?_⟩
  · rcases get_set_cases hj with ⟨rfl, e2, e3⟩ | ⟨e1, e2⟩
    · subst e2
      rcases hv with ⟨v, rfl, hv⟩ | hv
      · exact ⟨v, get_set_eq (by rw [h.len]; exact e3), hv⟩
      · rw [hv] at ht
        cases ht
    · obtain ⟨w, h1, h2⟩ := h.val j t e2 ht
      exact ⟨w, get_set_ne e1 h1, h2⟩
  · obtain ⟨e1, e2⟩ := hn hj
    obtain ⟨l, vs, h1, h2⟩ := h.own j ds e2
    exact ⟨l, vs, get_set_ne e1 h1, h2⟩
  · obtain ⟨e1, e2⟩ := hn hj
    obtain ⟨e3, e4⟩ := hn hk
    rw [List.getElem?_set_ne e1] at h1
    rw [List.getElem?_set_ne e3] at h2
    exact h.dis j k ds es l e2 e4 h1 h2
theorem Sc.set (h : Sc K B0 H0 B H σ δ) {v : V} {s : Sl} (i : Nat) (hv : Is K B v s) : Sc K B0 H0 B H (σ.set i (some v)) (δ.set i s) := h.set' i (.inl ⟨v, rfl, hv⟩)
/-- .. with any value in it -/
theorem Sc.put (h : Sc K B0 H0 B H σ δ) (i : Nat) (o : Option V) : Sc K B0 H0 B H (σ.set i o) (δ.set i Sl.no) := h.set' i (.inr rfl)
/-- a new list of its own -/
theorem Sc.setO (h : Sc K B0 H0 B H σ δ) {l : Addr} {vs : List V} {ds : List PyData} (i : Nat) (h1 : H l = some (.lst vs)) (h2 : B l = none) (h3 : H0 l = none) (h4 : DtAll K B vs ds) (h5 : ∀ (j : Nat) (es : List PyData), i ≠ j → δ[j]? = some (Sl.own es) → σ[j]? ≠ some (some (V.ref l))) : Sc K B0 H0 B H (σ.set i (some (V.ref l))) (δ.set i (Sl.own ds)) := by
  refine ⟨h.st, by rw [List.length_set, List.length_set, h.len], fun j t hj ht => ?_, fun j es hj => ?_, fun j k es fs m hj hk g1 g2 => ?_⟩
  · rcases get_set_cases hj with ⟨_, e2, _⟩ | ⟨e1, e2⟩
    · subst e2
      cases ht
    · obtain ⟨w, g1, g2⟩ := h.val j t e2 ht
      exact ⟨w, get_set_ne e1 g1, g2⟩
  · rcases get_set_cases hj with ⟨rfl, e2, e3⟩ | ⟨e1, e2⟩
    · cases e2
      exact ⟨l, vs, get_set_eq (by rw [h.len]; exact e3), h1, h2, h3, h4⟩
    · obtain ⟨m, ws, g1, g2⟩ := h.own j es e2
      exact ⟨m, ws, get_set_ne e1 g1, g2⟩
  · rcases get_set_cases hj with ⟨rfl, e2, e3⟩ | ⟨e1, e2⟩
    · rcases get_set_cases hk with ⟨rfl, _, _⟩ | ⟨f1, f2⟩
      · rfl
      · rw [get_set_eq (by rw [h.len]; exact e3)] at g1
        rw [List.getElem?_set_ne f1] at g2
        cases Option.some.inj (Option.some.inj g1)
        exact absurd g2 (h5 k fs f1 f2)
    · rcases get_set_cases hk with ⟨rfl, _, f3⟩ | ⟨f1, f2⟩
      · rw [get_set_eq (by rw [h.len]; exact f3)] at g2
        rw [List.getElem?_set_ne e1] at g1
        cases Option.some.inj (Option.some.inj g2)
        exact absurd g1 (h5 j es e1 e2)
      · rw [List.getElem?_set_ne e1] at g1
        rw [List.getElem?_set_ne f1] at g2
        exact h.dis j k es fs m e2 f2 g1 g2
/-- a list of its own that was changed -/
theorem Sc.mut (h : Sc K B0 H0 B H σ δ) {i : Nat} {ds es : List PyData} {l : Addr} {ws : List V} (hi : δ[i]? = some (Sl.own ds)) (hl : σ[i]? = some (some (V.ref l))) (hw : DtAll K B ws es) : Sc K B0 H0 B (upd H l (.lst ws)) σ (δ.set i (Sl.own es)) := by
  obtain ⟨l', vs, g1, g2, g3, g4, g5⟩ := h.own i ds hi
  rw [hl] at g1
  cases Option.some.inj (Option.some.inj g1)
  have hlt : i < δ.length := (List.getElem?_eq_some_iff.mp hi).1
  refine ⟨⟨h.st.b, fun a o ha => ?_, Ex.mut h.st.h g4, h.st.n⟩, by rw [List.length_set, h.len], fun j t hj ht => ?_, fun j fs hj => ?_, fun j k fs hs m hj hk k1 k2 => ?_⟩
  · rw [upd_ne (fun z => by rw [z, g3] at ha; cases ha)]
    exact h.st.bh a o ha
  · rcases get_set_cases hj with ⟨_, e2, _⟩ | ⟨e1, e2⟩
    · subst e2
      cases ht
    · exact h.val j t e2 ht
  · rcases get_set_cases hj with ⟨rfl, e2, e3⟩ | ⟨e1, e2⟩
    · cases e2
      exact ⟨l, ws, hl, upd_same, g3, g4, hw⟩
    · obtain ⟨m, us, q1, q2, q3⟩ := h.own j fs e2
      refine ⟨m, us, q1, ?_, q3⟩
      rw [upd_ne (fun z => by
        subst z
        exact e1 (h.dis i j ds fs m hi e2 hl q1))]
      exact q2
  · have same : ∀ {j : Nat} {fs : List PyData}, (δ.set i (Sl.own es))[j]? = some (Sl.own fs) → ∃ gs, δ[j]? = some (Sl.own gs) := fun {j fs} hj => by
      rcases get_set_cases hj with ⟨rfl, _, _⟩ | ⟨e1, e2⟩
      · exact ⟨ds, hi⟩
      · exact ⟨fs, e2⟩
    obtain ⟨_, s1⟩ := same hj
    obtain ⟨_, s2⟩ := same hk
    exact h.dis j k _ _ m s1 s2 k1 k2
/-- a list of its own, from now on data -/
theorem Sc.freeze (h : Sc K B0 H0 B H σ δ) {i : Nat} {ds : List PyData} (hi : δ[i]? = some (Sl.own ds)) : ∃ B', Ex B B' ∧ Sc K B0 H0 B' H σ (δ.set i (Sl.dat (.list ds))) := by
  obtain ⟨l, vs, g1, g2, g3, g4, g5⟩ := h.own i ds hi
  have eb : Ex B (upd B l (.lst vs)) := Ex.new g3
  have bh : Ex (upd B l (.lst vs)) H := fun a o ha => by
    by_cases z : a = l
    · subst z
      rw [upd_same] at ha
      rw [g2]
      exact ha
    · rw [upd_ne z] at ha
      exact h.st.bh a o ha
  refine ⟨upd B l (.lst vs), eb, ⟨h.st.b.trans eb, bh, h.st.h, fun a ha => ?_⟩, by rw [List.length_set, h.len], fun j t hj ht => ?_, fun j es hj => ?_, fun j k fs hs m hj hk k1 k2 => ?_⟩
  · by_cases z : a = l
    · subst z
      exact .inr g4
    · rw [upd_ne z] at ha
      exact h.st.n a ha
  · rcases get_set_cases hj with ⟨rfl, e2, e3⟩ | ⟨e1, e2⟩
    · subst e2
      exact ⟨V.ref l, g1, .lst upd_same (dts_mono eb ds vs g5)⟩
    · obtain ⟨w, q1, q2⟩ := h.val j t e2 ht
      exact ⟨w, q1, q2.mono eb⟩
  · rcases get_set_cases hj with ⟨_, e2, _⟩ | ⟨e1, e2⟩
    · cases e2
    · obtain ⟨m, us, q1, q2, q3, q4, q5⟩ := h.own j es e2
      refine ⟨m, us, q1, q2, ?_, q4, dts_mono eb es us q5⟩
      rw [upd_ne (fun z => by
        subst z
        exact e1 (h.dis i j ds es m hi e2 g1 q1))]
      exact q3
  · rcases get_set_cases hj with ⟨_, e2, _⟩ | ⟨e1, e2⟩
    · cases e2
    · rcases get_set_cases hk with ⟨_, f2, _⟩ | ⟨f1, f2⟩
      · cases f2
      · exact h.dis j k fs hs m e2 f2 k1 k2
/-- at the entry of a def -/
theorem sc_start {vs : List V} {ss : List Sl} (n : Nat) (e : Ex B H) (h : IsAll K B vs ss) : Sc K B H B H (vs.map some ++ List.replicate n none) (ss ++ List.replicate n Sl.no) := by
  have hl := h.len
  have key : ∀ {vs : List V} {ss : List Sl}, IsAll K B vs ss → ∀ (i : Nat) (s : Sl), ss[i]? = some s → ∃ v, vs[i]? = some v ∧ Is K B v s := by
    intro vs ss h
    induction h with
    | nil => intro i s hi; simp at hi
    | cons h r ih =>
      intro i s hi
      cases i with
      | zero =>
        cases Option.some.inj hi
        exact ⟨_, rfl, h⟩
      | succ i => exact ih i s hi
  have g : ∀ (i : Nat) (s : Sl), (ss ++ List.replicate n Sl.no)[i]? = some s → s ≠ .no → ∃ v, (vs.map some ++ List.replicate n none)[i]? = some (some v) ∧ Is K B v s := fun i s hi hs => by
    by_cases z : i < ss.length
    · rw [List.getElem?_append_left z] at hi
      obtain ⟨v, h1, h2⟩ := key h i s hi
      exact ⟨v, by rw [List.getElem?_append_left (by rw [List.length_map]; omega), List.getElem?_map, h1]; rfl, h2⟩
    · rw [List.getElem?_append_right (by omega)] at hi
      have := (List.mem_replicate.mp (List.mem_of_getElem? hi)).2
      exact absurd this hs
  refine ⟨.refl e, by simp [hl], fun i t hi ht => g i t hi (by intro z; rw [z] at ht; cases ht), fun i ds hi => ?_, fun i j ds es l hi hj h1 h2 => ?_⟩
  · obtain ⟨w, h1, h2⟩ := g i _ hi (by intro z; cases z)
    exact h2.elim
  · obtain ⟨w, _, h3⟩ := g i _ hi (by intro z; cases z)
    exact h3.elim
end
end Ja

/-! Own data layer: expressions. -/
namespace Ja
open PySem PySem.Spec PyProof.Rows L2 Evl Cm
/-- an expression gives a value of which s is true -/
def EvS (K : PySem.W.Frag) (B0 H0 : Hp) (te : TE) (δ : List Sl) (s : Sl) : Prop := ∀ B H σ, Sc K B0 H0 B H σ δ → ∀ Q : VK, (∀ v B' H', Stp B H B' H' → Is K B' v s → Q v H') → te σ H Q
/-- a new list of these -/
def EvN (K : PySem.W.Frag) (B0 H0 : Hp) (te : TE) (δ : List Sl) (ds : List PyData) : Prop := ∀ B H σ, Sc K B0 H0 B H σ δ → ∀ Q : VK, (∀ l vs B' H', Stp B H B' H' → H l = none → B' l = none → H' l = some (.lst vs) → DtAll K B' vs ds → Q (.ref l) H') → te σ H Q
/-- some data of which P is true -/
def EvR (K : PySem.W.Frag) (B0 H0 : Hp) (te : TE) (δ : List Sl) (P : PyData → Prop) : Prop := ∀ B H σ, Sc K B0 H0 B H σ δ → ∀ Q : VK, (∀ v d B' H', P d → Stp B H B' H' → Dt K B' v d → Q v H') → te σ H Q
def EvB (K : PySem.W.Frag) (B0 H0 : Hp) (tt : TT) (δ : List Sl) (b : Bool) : Prop := ∀ B H σ, Sc K B0 H0 B H σ δ → ∀ Q : Bool → Hp → Prop, (∀ B' H', Stp B H B' H' → Q b H') → tt σ H Q
def EvA (K : PySem.W.Frag) (B0 H0 : Hp) (ta : TA) (δ : List Sl) (ss : List Sl) : Prop := ∀ B H σ, Sc K B0 H0 B H σ δ → ∀ Q : List V → Hp → Prop, (∀ vs B' H', Stp B H B' H' → IsAll K B' vs ss → Q vs H') → ta σ H Q
/-- all of them data -/
def EvD (K : PySem.W.Frag) (B0 H0 : Hp) (ta : TA) (δ : List Sl) (ds : List PyData) : Prop := ∀ B H σ, Sc K B0 H0 B H σ δ → ∀ Q : List V → Hp → Prop, (∀ vs B' H', Stp B H B' H' → DtAll K B' vs ds → Q vs H') → ta σ H Q
def EvO (K : PySem.W.Frag) (B0 H0 : Hp) (to : TO) (δ : List Sl) (o : Option Int) : Prop := ∀ B H σ, Sc K B0 H0 B H σ δ → ∀ Q : Option Int → Hp → Prop, (∀ B' H', Stp B H B' H' → Q o H') → to σ H Q
/-- values that are the same in every heap -/
inductive Sv : V → PyData → Prop
  | non : Sv .non .none
  | bl (b : Bool) : Sv (.bl b) (.bool b)
  | int (i : Int) : Sv (.int i) (.int i)
  | str (x : Str) : Sv (.str x) (.str x)
section
variable {K : PySem.W.Frag} {B0 H0 B H B' H' : Hp} {σ : L2.St} {δ : List Sl} {ta tb tc td te : TE} {tt tu : TT} {r r' : R2} {s s' : Sl} {d e : PyData} {ds es : List PyData} {i j k : Int} {b c : Bool} {x y z : V}
theorem Sv.eq {v : V} (h : Sv x d) (g : Dt K B v d) : v = x := by
  cases h <;> cases g <;> rfl
theorem Sv.dt (h : Sv x d) : Dt K B x d := by
  cases h
  · exact .non
  · exact .bl _
  · exact .int _
  · exact .str _
theorem bh (h : Sc K B0 H0 B H σ δ) : Ex B H := h.st.bh
theorem Stp.same (e : Ex B H) (h : Ex H H') : Stp B H B H' := ⟨.refl _, e.trans h, h, fun a q => .inl q⟩
/-! ### leaves -/
theorem d_var {n : Nat} (h : δ[n]? = some s) (hv : Vl s = true := by rfl) : EvS K B0 H0 (tVar n) δ s := fun B H σ S Q q => by
  obtain ⟨v, h1, h2⟩ := S.val n s h hv
  exact ⟨v, h1, q v B H (.refl S.st.bh) h2⟩
theorem d_ci : EvS K B0 H0 (tC (.int i)) δ (nI i) := fun B H σ S Q q => q _ B H (.refl S.st.bh) (Dt.int i)
theorem d_cb : EvS K B0 H0 (tC (.bl b)) δ (nB b) := fun B H σ S Q q => q _ B H (.refl S.st.bh) (Dt.bl b)
theorem d_cs {x : Str} : EvS K B0 H0 (tC (.str x)) δ (nS x) := fun B H σ S Q q => q _ B H (.refl S.st.bh) (Dt.str x)
theorem d_cn : EvS K B0 H0 (tC .non) δ (.dat .none) := fun B H σ S Q q => q _ B H (.refl S.st.bh) Dt.non
theorem d_cr {v : V} : EvS K B0 H0 (tC v) δ (.raw v) := fun B H σ S Q q => q _ B H (.refl S.st.bh) rfl
theorem d_is (h : EvS K B0 H0 te δ s) (e : s = s') : EvS K B0 H0 te δ s' := e ▸ h
theorem d_isI (h : EvS K B0 H0 te δ (nI i)) (e : i = j) : EvS K B0 H0 te δ (nI j) := e ▸ h
theorem d_isB (h : EvS K B0 H0 te δ (nB b)) (e : b = c) : EvS K B0 H0 te δ (nB c) := e ▸ h
theorem b_is (h : EvB K B0 H0 tt δ b) (e : b = c) : EvB K B0 H0 tt δ c := e ▸ h
theorem r_of (h : EvS K B0 H0 te δ (.dat d)) {P : PyData → Prop} (hp : P d) : EvR K B0 H0 te δ P := fun B H σ S Q q => h B H σ S Q fun v B' H' st iv => q v d B' H' hp st iv
theorem r_imp {P P' : PyData → Prop} (h : EvR K B0 H0 te δ P) (hp : ∀ d, P d → P' d) : EvR K B0 H0 te δ P' := fun B H σ S Q q => h B H σ S Q fun v d B' H' p st iv => q v d B' H' (hp d p) st iv
/-! ### operators on values that are the same in every heap -/
theorem d_op (ha : EvS K B0 H0 ta δ (.dat d)) (hb : EvS K B0 H0 tb δ (.dat e)) (sx : Sv x d) (sy : Sv y e) (hr : ∀ H, RV r x y H z) {f : PyData} (sz : Sv z f) : EvS K B0 H0 (tOp r ta tb) δ (.dat f) := fun B H σ S Q q =>
  ha B H σ S _ fun v B1 H1 s1 i1 => hb B1 H1 σ (S.go s1) _ fun w B2 H2 s2 i2 => by
    rw [sx.eq i1, sy.eq i2]
    exact hr H2 H2 (.refl _) Q fun H3 e3 => q z B2 H3 ((s1.trans s2).trans (.same s2.bh e3)) sz.dt
theorem d_ii (ha : EvS K B0 H0 ta δ (nI i)) (hb : EvS K B0 H0 tb δ (nI j)) (hr : ∀ H, RV r (.int i) (.int j) H (.int k)) : EvS K B0 H0 (tOp r ta tb) δ (nI k) := d_op ha hb (.int i) (.int j) hr (.int k)
theorem d_iib (ha : EvS K B0 H0 ta δ (nI i)) (hb : EvS K B0 H0 tb δ (nI j)) (hr : ∀ H, RV r (.int i) (.int j) H (.bl b)) : EvS K B0 H0 (tOp r ta tb) δ (nB b) := d_op ha hb (.int i) (.int j) hr (.bl b)
theorem d_bbb {b1 b2 : Bool} (ha : EvS K B0 H0 ta δ (nB b1)) (hb : EvS K B0 H0 tb δ (nB b2)) (hr : ∀ H, RV r (.bl b1) (.bl b2) H (.bl b)) : EvS K B0 H0 (tOp r ta tb) δ (nB b) := d_op ha hb (.bl b1) (.bl b2) hr (.bl b)
theorem d_ssb {x y : Str} (ha : EvS K B0 H0 ta δ (nS x)) (hb : EvS K B0 H0 tb δ (nS y)) (hr : ∀ H, RV r (.str x) (.str y) H (.bl b)) : EvS K B0 H0 (tOp r ta tb) δ (nB b) := d_op ha hb (.str x) (.str y) hr (.bl b)
theorem d_sss {x y z : Str} (ha : EvS K B0 H0 ta δ (nS x)) (hb : EvS K B0 H0 tb δ (nS y)) (hr : ∀ H, RV r (.str x) (.str y) H (.str z)) : EvS K B0 H0 (tOp r ta tb) δ (nS z) := d_op ha hb (.str x) (.str y) hr (.str z)
theorem d_sis {x z : Str} (ha : EvS K B0 H0 ta δ (nS x)) (hb : EvS K B0 H0 tb δ (nI j)) (hr : ∀ H, RV r (.str x) (.int j) H (.str z)) : EvS K B0 H0 (tOp r ta tb) δ (nS z) := d_op ha hb (.str x) (.int j) hr (.str z)
/-- a sum, a difference, a test of two ints: nothing is asked -/
theorem d_i0 {g : Int → Int → Int} (ha : EvS K B0 H0 ta δ (nI i)) (hb : EvS K B0 H0 tb δ (nI j)) : EvS K B0 H0 (tOp (rI0 fun i j => .int (g i j)) ta tb) δ (nI (g i j)) := d_ii ha hb fun _ => rv_I0
theorem d_b0 {g : Int → Int → Bool} (ha : EvS K B0 H0 ta δ (nI i)) (hb : EvS K B0 H0 tb δ (nI j)) : EvS K B0 H0 (tOp (rI0 fun i j => .bl (g i j)) ta tb) δ (nB (g i j)) := d_iib ha hb fun _ => rv_I0
theorem d_iC {C : Int → Int → Prop} {g : Int → Int → Int} (ha : EvS K B0 H0 ta δ (nI i)) (hb : EvS K B0 H0 tb δ (nI j)) (hc : C i j) : EvS K B0 H0 (tOp (rI C fun i j => .int (g i j)) ta tb) δ (nI (g i j)) := d_ii ha hb fun _ => rv_I hc
theorem d_eqI (ha : EvS K B0 H0 ta δ (nI i)) (hb : EvS K B0 H0 tb δ (nI j)) : EvS K B0 H0 (tOp rEq ta tb) δ (nB (decide (i = j))) := d_iib ha hb fun _ H e Q q => rv_eq rfl H e Q fun H1 e1 => by
  have h := q H1 e1
  rw [show decide (V.int i = V.int j) = decide (i = j) from decide_eq_decide.mpr ⟨fun z => by cases z; rfl, fun z => by rw [z]⟩]
  exact h
theorem d_neI (ha : EvS K B0 H0 ta δ (nI i)) (hb : EvS K B0 H0 tb δ (nI j)) : EvS K B0 H0 (tOp rNe ta tb) δ (nB (!decide (i = j))) := d_iib ha hb fun _ H e Q q => rv_ne rfl H e Q fun H1 e1 => by
  have h := q H1 e1
  rw [show decide (V.int i = V.int j) = decide (i = j) from decide_eq_decide.mpr ⟨fun z => by cases z; rfl, fun z => by rw [z]⟩]
  exact h
theorem d_eqB {b1 b2 : Bool} (ha : EvS K B0 H0 ta δ (nB b1)) (hb : EvS K B0 H0 tb δ (nB b2)) : EvS K B0 H0 (tOp rEq ta tb) δ (nB (decide (b1 = b2))) := d_bbb ha hb fun _ H e Q q => rv_eq rfl H e Q fun H1 e1 => by
  have h := q H1 e1
  rw [show decide (V.bl b1 = V.bl b2) = decide (b1 = b2) from decide_eq_decide.mpr ⟨fun z => by cases z; rfl, fun z => by rw [z]⟩]
  exact h
theorem d_neB {b1 b2 : Bool} (ha : EvS K B0 H0 ta δ (nB b1)) (hb : EvS K B0 H0 tb δ (nB b2)) : EvS K B0 H0 (tOp rNe ta tb) δ (nB (!decide (b1 = b2))) := d_bbb ha hb fun _ H e Q q => rv_ne rfl H e Q fun H1 e1 => by
  have h := q H1 e1
  rw [show decide (V.bl b1 = V.bl b2) = decide (b1 = b2) from decide_eq_decide.mpr ⟨fun z => by cases z; rfl, fun z => by rw [z]⟩]
  exact h
theorem d_eqS {x y : Str} (ha : EvS K B0 H0 ta δ (nS x)) (hb : EvS K B0 H0 tb δ (nS y)) : EvS K B0 H0 (tOp rEq ta tb) δ (nB (decide (x = y))) := d_ssb ha hb fun _ H e Q q => rv_eq rfl H e Q fun H1 e1 => by
  have h := q H1 e1
  rw [show decide (V.str x = V.str y) = decide (x = y) from decide_eq_decide.mpr ⟨fun z => by cases z; rfl, fun z => by rw [z]⟩]
  exact h
theorem d_neS {x y : Str} (ha : EvS K B0 H0 ta δ (nS x)) (hb : EvS K B0 H0 tb δ (nS y)) : EvS K B0 H0 (tOp rNe ta tb) δ (nB (!decide (x = y))) := d_ssb ha hb fun _ H e Q q => rv_ne rfl H e Q fun H1 e1 => by
  have h := q H1 e1
  rw [show decide (V.str x = V.str y) = decide (x = y) from decide_eq_decide.mpr ⟨fun z => by cases z; rfl, fun z => by rw [z]⟩]
  exact h
theorem d_neg (ha : EvS K B0 H0 ta δ (nI i)) : EvS K B0 H0 (tUn (rU fun i => .int (-i)) ta) δ (nI (-i)) := fun B H σ S Q q => ha B H σ S _ fun v B1 H1 s1 i1 => by
  cases i1
  exact ⟨i, rfl, q _ B1 H1 s1 (Dt.int _)⟩
/-! ### tests -/
theorem b_test (h : EvS K B0 H0 te δ (nB b)) : EvB K B0 H0 (tTest te) δ b := fun B H σ S Q q => h B H σ S _ fun v B1 H1 s1 i1 => by
  cases i1
  exact ⟨b, rfl, q B1 H1 s1⟩
theorem b_val (h : EvS K B0 H0 te δ (nB b)) : EvB K B0 H0 (tB te) δ b := fun B H σ S Q q => h B H σ S _ fun v B1 H1 s1 i1 => by
  cases i1
  exact ⟨b, rfl, q B1 H1 s1⟩
theorem b_and (h1 : EvB K B0 H0 tt δ b) (h2 : b = true → EvB K B0 H0 tu δ c) : EvB K B0 H0 (tAnd tt tu) δ (b && c) := fun B H σ S Q q => h1 B H σ S _ fun B1 H1 s1 => by
  cases b with
  | true => exact h2 rfl B1 H1 σ (S.go s1) Q fun B2 H2 s2 => q B2 H2 (s1.trans s2)
  | false => exact q B1 H1 s1
theorem b_or (h1 : EvB K B0 H0 tt δ b) (h2 : b = false → EvB K B0 H0 tu δ c) : EvB K B0 H0 (tOr tt tu) δ (b || c) := fun B H σ S Q q => h1 B H σ S _ fun B1 H1 s1 => by
  cases b with
  | false => exact h2 rfl B1 H1 σ (S.go s1) Q fun B2 H2 s2 => q B2 H2 (s1.trans s2)
  | true => exact q B1 H1 s1
theorem b_not (h : EvB K B0 H0 tt δ b) : EvB K B0 H0 (tNot tt) δ (!b) := fun B H σ S Q q => h B H σ S _ fun B1 H1 s1 => q B1 H1 s1
theorem b_yes : EvB K B0 H0 tYes δ true := fun B H σ S Q q => q B H (.refl S.st.bh)
theorem d_andV (h1 : EvS K B0 H0 ta δ (nB b)) (h2 : b = true → EvS K B0 H0 tb δ (nB c)) : EvS K B0 H0 (tAndV ta tb) δ (nB (b && c)) := fun B H σ S Q q => h1 B H σ S _ fun v B1 H1 s1 i1 => by
  cases i1
  refine ⟨b, rfl, ?_⟩
  cases b with
  | true => exact h2 rfl B1 H1 σ (S.go s1) Q fun v B2 H2 s2 i2 => q v B2 H2 (s1.trans s2) i2
  | false => exact q _ B1 H1 s1 (Dt.bl _)
theorem d_orV (h1 : EvS K B0 H0 ta δ (nB b)) (h2 : b = false → EvS K B0 H0 tb δ (nB c)) : EvS K B0 H0 (tOrV ta tb) δ (nB (b || c)) := fun B H σ S Q q => h1 B H σ S _ fun v B1 H1 s1 i1 => by
  cases i1
  refine ⟨b, rfl, ?_⟩
  cases b with
  | false => exact h2 rfl B1 H1 σ (S.go s1) Q fun v B2 H2 s2 i2 => q v B2 H2 (s1.trans s2) i2
  | true => exact q _ B1 H1 s1 (Dt.bl _)
theorem d_notV (h : EvS K B0 H0 ta δ (nB b)) : EvS K B0 H0 (tNotV ta) δ (nB (!b)) := fun B H σ S Q q => h B H σ S _ fun v B1 H1 s1 i1 => by
  cases i1
  exact ⟨b, rfl, q _ B1 H1 s1 (Dt.bl _)⟩
theorem d_if (h : EvB K B0 H0 tt δ b) (h1 : b = true → EvS K B0 H0 ta δ s) (h2 : b = false → EvS K B0 H0 tb δ s) : EvS K B0 H0 (tIf tt ta tb) δ s := fun B H σ S Q q => h B H σ S _ fun B1 H1 s1 => by
  cases b with
  | true => exact h1 rfl B1 H1 σ (S.go s1) Q fun v B2 H2 s2 i2 => q v B2 H2 (s1.trans s2) i2
  | false => exact h2 rfl B1 H1 σ (S.go s1) Q fun v B2 H2 s2 i2 => q v B2 H2 (s1.trans s2) i2
/-- a < b < c of ints -/
theorem d_chain (ha : EvS K B0 H0 ta δ (nI i)) (hb : EvS K B0 H0 tb δ (nI j)) (hc : EvS K B0 H0 tc δ (nI k)) (h1 : ∀ H, RV r (.int i) (.int j) H (.bl b)) (h2 : ∀ H, RV r' (.int j) (.int k) H (.bl c)) : EvS K B0 H0 (tChain r r' ta tb tc) δ (nB (b && c)) := fun B H σ S Q q => by
  refine ha B H σ S _ fun v B1 H1 s1 i1 => hb B1 H1 σ (S.go s1) _ fun w B2 H2 s2 i2 => ?_
  cases i1
  cases i2
  refine h1 H2 H2 (.refl _) _ fun H3 e3 => ⟨b, rfl, ?_⟩
  have s3 := (s1.trans s2).trans (.same s2.bh e3)
  cases b with
  | true =>
    refine hc B2 H3 σ (S.go s3) _ fun u B4 H4 s4 i4 => ?_
    cases i4
    exact h2 H4 H4 (.refl _) Q fun H5 e5 => q _ B4 H5 ((s3.trans s4).trans (.same s4.bh e5)) (Dt.bl _)
  | false => exact q _ B2 H3 s3 (Dt.bl _)
/-! ### arguments, displays -/
theorem a_nil : EvA K B0 H0 tNil δ [] := fun B H σ S Q q => q [] B H (.refl S.st.bh) .nil
theorem a_cons {tr : TA} {ss : List Sl} (h : EvS K B0 H0 ta δ s) (hr : EvA K B0 H0 tr δ ss) : EvA K B0 H0 (tCons ta tr) δ (s :: ss) := fun B H σ S Q q =>
  h B H σ S _ fun v B1 H1 s1 i1 => hr B1 H1 σ (S.go s1) _ fun vs B2 H2 s2 i2 => q _ B2 H2 (s1.trans s2) (.cons (i1.mono s2.b) i2)
theorem ds_nil : EvD K B0 H0 tNil δ [] := fun B H σ S Q q => q [] B H (.refl S.st.bh) .nil
theorem ds_cons {tr : TA} (h : EvS K B0 H0 ta δ (.dat d)) (hr : EvD K B0 H0 tr δ ds) : EvD K B0 H0 (tCons ta tr) δ (d :: ds) := fun B H σ S Q q =>
  h B H σ S _ fun v B1 H1 s1 i1 => hr B1 H1 σ (S.go s1) _ fun vs B2 H2 s2 i2 => q _ B2 H2 (s1.trans s2) (.cons (dt_mono s2.b _ _ i1) i2)
theorem d_tup {ta : TA} (h : EvD K B0 H0 ta δ ds) (hl : ds.length ≤ 100000 := by exact of_decide_eq_true rfl) : EvS K B0 H0 (tTup ta) δ (.dat (.tuple ds)) := fun B H σ S Q q =>
  h B H σ S _ fun vs B1 H1 s1 i1 => ⟨by rw [i1.len]; exact sz_of hl, fun p hp => q _ _ _ (s1.trans (.new (o := .tup vs) s1.bh hp)) (.tup (st_of upd_same) (dts_mono (Ex.new (none_of s1.bh hp)) _ _ i1))⟩
theorem n_lst {ta : TA} (h : EvD K B0 H0 ta δ ds) (hl : ds.length ≤ 100000 := by exact of_decide_eq_true rfl) : EvN K B0 H0 (tLst ta) δ ds := fun B H σ S Q q =>
  h B H σ S _ fun vs B1 H1 s1 i1 => ⟨by rw [i1.len]; exact sz_of hl, fun p hp => q p vs B1 _ (s1.trans (.same s1.bh (.new hp))) (none_of s1.h hp) (none_of s1.bh hp) upd_same i1⟩
/-- a new list, as data -/
theorem d_new (h : EvN K B0 H0 te δ ds) : EvS K B0 H0 te δ (.dat (.list ds)) := fun B H σ S Q q => h B H σ S Q fun l vs B1 H1 s1 f1 f2 f3 f4 => by
  have eb : Ex B1 (upd B1 l (.lst vs)) := Ex.new f2
  refine q _ (upd B1 l (.lst vs)) H1 ⟨s1.b.trans eb, fun a o ha => ?_, s1.h, fun a ha => ?_⟩ (.lst upd_same (dts_mono eb _ _ f4))
  · by_cases z : a = l
    · subst z
      rw [upd_same] at ha
      rw [f3]
      exact ha
    · rw [upd_ne z] at ha
      exact s1.bh a o ha
  · by_cases z : a = l
    · subst z
      exact .inr f1
    · rw [upd_ne z] at ha
      exact s1.n a ha
/-! ### data compared -/
theorem d_eqD (ha : EvS K B0 H0 ta δ (.dat d)) (hb : EvS K B0 H0 tb δ (.dat e)) (h1 : SeqAt.shaped d = true) (h2 : SeqAt.shaped e = true) : EvS K B0 H0 (tOp (rEqD K) ta tb) δ (nB (PyData.eqv d e)) := fun B H σ S Q q =>
  ha B H σ S _ fun v B1 H1 s1 i1 => hb B1 H1 σ (S.go s1) _ fun w B2 H2 s2 i2 => ⟨d, e, dp_mono s2.bh _ _ (dp_mono s2.b _ _ (dt_dp _ _ i1)), dp_mono s2.bh _ _ (dt_dp _ _ i2), h1, h2, q _ B2 H2 (s1.trans s2) (Dt.bl _)⟩
theorem d_neD (ha : EvS K B0 H0 ta δ (.dat d)) (hb : EvS K B0 H0 tb δ (.dat e)) (h1 : SeqAt.shaped d = true) (h2 : SeqAt.shaped e = true) : EvS K B0 H0 (tOp (rNeD K) ta tb) δ (nB (!PyData.eqv d e)) := fun B H σ S Q q =>
  ha B H σ S _ fun v B1 H1 s1 i1 => hb B1 H1 σ (S.go s1) _ fun w B2 H2 s2 i2 => ⟨d, e, dp_mono s2.bh _ _ (dp_mono s2.b _ _ (dt_dp _ _ i1)), dp_mono s2.bh _ _ (dt_dp _ _ i2), h1, h2, q _ B2 H2 (s1.trans s2) (Dt.bl _)⟩
theorem d_inD (ha : EvS K B0 H0 ta δ (.dat d)) (hb : EvS K B0 H0 tb δ (.dat (.list ds))) (h1 : SeqAt.shaped d = true) (h2 : SeqAt.shaped (.list ds) = true) : EvS K B0 H0 (tOp (rInD K) ta tb) δ (nB (ds.any fun z => PyData.eqv z d)) := fun B H σ S Q q =>
  ha B H σ S _ fun v B1 H1 s1 i1 => hb B1 H1 σ (S.go s1) _ fun w B2 H2 s2 i2 => ⟨d, ds, dp_mono s2.bh _ _ (dp_mono s2.b _ _ (dt_dp _ _ i1)), dp_mono s2.bh _ _ (dt_dp _ _ i2), h1, h2, q _ B2 H2 (s1.trans s2) (Dt.bl _)⟩
theorem d_niD (ha : EvS K B0 H0 ta δ (.dat d)) (hb : EvS K B0 H0 tb δ (.dat (.list ds))) (h1 : SeqAt.shaped d = true) (h2 : SeqAt.shaped (.list ds) = true) : EvS K B0 H0 (tOp (rNotInD K) ta tb) δ (nB (!ds.any fun z => PyData.eqv z d)) := fun B H σ S Q q =>
  ha B H σ S _ fun v B1 H1 s1 i1 => hb B1 H1 σ (S.go s1) _ fun w B2 H2 s2 i2 => ⟨d, ds, dp_mono s2.bh _ _ (dp_mono s2.b _ _ (dt_dp _ _ i1)), dp_mono s2.bh _ _ (dt_dp _ _ i2), h1, h2, q _ B2 H2 (s1.trans s2) (Dt.bl _)⟩
/-! ### items -/
theorem at_get {vs : List V} (h : DtAll K B vs ds) (e : atI ds i = some d) : ∃ v, atI vs i = some v ∧ Dt K B v d := by
  unfold atI at e ⊢
  rw [h.len]
  cases hx : ixN ds.length i with
  | none =>
    rw [hx] at e
    cases e
  | some n =>
    rw [hx] at e
    exact h.get e
theorem d_ixT (ha : EvS K B0 H0 ta δ (.dat (.tuple ds))) (hb : EvS K B0 H0 tb δ (nI i)) (h : atI ds i = some d) : EvS K B0 H0 (tOp (rIxT K) ta tb) δ (.dat d) := fun B H σ S Q q =>
  ha B H σ S _ fun v B1 H1 s1 i1 => hb B1 H1 σ (S.go s1) _ fun w B2 H2 s2 i2 => by
    cases i2
    cases i1 with
    | tup h1 h2 =>
      obtain ⟨x, hx, dx⟩ := at_get (dts_mono s2.b _ _ h2) h
      exact ⟨_, _, i, x, rfl, rfl, ex_t (s2.b.trans s2.bh) h1, hx, q x B2 H2 (s1.trans s2) dx⟩
theorem d_ixL (ha : EvS K B0 H0 ta δ (.dat (.list ds))) (hb : EvS K B0 H0 tb δ (nI i)) (h : atI ds i = some d) : EvS K B0 H0 (tOp (rIxL K) ta tb) δ (.dat d) := fun B H σ S Q q =>
  ha B H σ S _ fun v B1 H1 s1 i1 => hb B1 H1 σ (S.go s1) _ fun w B2 H2 s2 i2 => by
    cases i2
    cases i1 with
    | lst h1 h2 =>
      obtain ⟨x, hx, dx⟩ := at_get (dts_mono s2.b _ _ h2) h
      exact ⟨_, _, i, x, rfl, rfl, sq_of ((s2.b.trans s2.bh) _ _ h1), hx, q x B2 H2 (s1.trans s2) dx⟩
/-- of a list of its own -/
theorem d_ixO {n : Nat} (ho : δ[n]? = some (Sl.own ds)) (hb : EvS K B0 H0 tb δ (nI i)) (h : atI ds i = some d) : EvS K B0 H0 (tOp (rIxL K) (tVar n) tb) δ (.dat d) := fun B H σ S Q q => by
  obtain ⟨l, vs, h1, _⟩ := S.own n ds ho
  refine ⟨.ref l, h1, hb B H σ S _ fun w B2 H2 s2 i2 => ?_⟩
  cases i2
  obtain ⟨l', ws, g1, g2, g3, g4, g5⟩ := (S.go s2).own n ds ho
  rw [h1] at g1
  cases Option.some.inj (Option.some.inj g1)
  obtain ⟨x, hx, dx⟩ := at_get g5 h
  exact ⟨_, _, i, x, rfl, rfl, sq_of g2, hx, q x B2 H2 s2 dx⟩
/-- of the script -/
theorem d_ixS {ns : List Int} (ha : EvS K B0 H0 ta δ (.sem (scrP K ns))) (hb : EvS K B0 H0 tb δ (nI i)) (h : atI ns i = some j) : EvS K B0 H0 (tOp (rIxL K) ta tb) δ (nI j) := fun B H σ S Q q =>
  ha B H σ S _ fun v B1 H1 s1 i1 => hb B1 H1 σ (S.go s1) _ fun w B2 H2 s2 i2 => by
    cases i2
    obtain ⟨a, rfl, ha⟩ := i1
    have hx : atI (ns.map V.int) i = some (.int j) := by
      unfold atI at h ⊢
      rw [List.length_map]
      cases hx : ixN ns.length i with
      | none =>
        rw [hx] at h
        cases h
      | some n =>
        rw [hx] at h
        show (ns.map V.int)[n]? = _
        rw [List.getElem?_map, show ns[n]? = some j from h]
        rfl
    exact ⟨_, _, i, _, rfl, rfl, ex_l (s2.b.trans s2.bh) ha, hx, q _ B2 H2 (s1.trans s2) (Dt.int j)⟩
/-! ### len -/
theorem d_lenL {ta : TE} (h : EvS K B0 H0 ta δ (.dat (.list ds))) : EvS K B0 H0 (tCB (fun xs H Q => ∃ x n, xs = [x] ∧ LenV K x H n ∧ Q (.int n) H) (tCons ta tNil)) δ (nI ds.length) := fun B H σ S Q q =>
  h B H σ S _ fun v B1 H1 s1 i1 => by
    cases i1 with
    | lst h1 h2 => exact ⟨_, ds.length, rfl, .inl ⟨_, sq_of (s1.bh _ _ h1), h2.len.symm⟩, q _ B1 H1 s1 (Dt.int _)⟩
theorem d_lenT {ta : TE} (h : EvS K B0 H0 ta δ (.dat (.tuple ds))) : EvS K B0 H0 (tCB (fun xs H Q => ∃ x n, xs = [x] ∧ LenV K x H n ∧ Q (.int n) H) (tCons ta tNil)) δ (nI ds.length) := fun B H σ S Q q =>
  h B H σ S _ fun v B1 H1 s1 i1 => by
    cases i1 with
    | tup h1 h2 => exact ⟨_, ds.length, rfl, .inr ⟨_, ex_t s1.bh h1, h2.len.symm⟩, q _ B1 H1 s1 (Dt.int _)⟩
theorem d_lenS {ta : TE} {x : Str} (h : EvS K B0 H0 ta δ (nS x)) (hl : x.length ≤ 100000) : EvS K B0 H0 (tCB (fun xs H Q => ∃ x n, xs = [x] ∧ LenV K x H n ∧ Q (.int n) H) (tCons ta tNil)) δ (nI x.length) := fun B H σ S Q q =>
  h B H σ S _ fun v B1 H1 s1 i1 => by
    cases i1
    exact ⟨_, x.length, rfl, ⟨sz_of hl, rfl⟩, q _ B1 H1 s1 (Dt.int _)⟩
theorem d_lenO {n : Nat} (ho : δ[n]? = some (Sl.own ds)) : EvS K B0 H0 (tCB (fun xs H Q => ∃ x n, xs = [x] ∧ LenV K x H n ∧ Q (.int n) H) (tCons (tVar n) tNil)) δ (nI ds.length) := fun B H σ S Q q => by
  obtain ⟨l, vs, h1, h2, h3, h4, h5⟩ := S.own n ds ho
  exact ⟨.ref l, h1, _, ds.length, rfl, .inl ⟨_, sq_of h2, h5.len.symm⟩, q _ B H (.refl S.st.bh) (Dt.int _)⟩
theorem d_lenSc {ns : List Int} (h : EvS K B0 H0 ta δ (.sem (scrP K ns))) : EvS K B0 H0 (tCB (fun xs H Q => ∃ x n, xs = [x] ∧ LenV K x H n ∧ Q (.int n) H) (tCons ta tNil)) δ (nI ns.length) := fun B H σ S Q q =>
  h B H σ S _ fun v B1 H1 s1 ⟨a, e, h1⟩ => by
    subst e
    exact ⟨_, ns.length, rfl, .inl ⟨_, ex_l s1.bh h1, by rw [List.length_map]⟩, q _ B1 H1 s1 (Dt.int _)⟩
/-! ### built-ins on values that are the same in every heap -/
theorem d_cb1 {rr : List V → Hp → VK → Prop} (h : EvS K B0 H0 ta δ (.dat d)) (sx : Sv x d) (hr : ∀ H, RC rr [x] H z) {f : PyData} (sz : Sv z f) : EvS K B0 H0 (tCB rr (tCons ta tNil)) δ (.dat f) := fun B H σ S Q q =>
  h B H σ S _ fun v B1 H1 s1 i1 => by
    rw [sx.eq i1]
    exact hr H1 H1 (.refl _) Q fun H2 e2 => q z B1 H2 (s1.trans (.same s1.bh e2)) sz.dt
theorem d_cb2 {rr : List V → Hp → VK → Prop} (h : EvS K B0 H0 ta δ (.dat d)) (h2 : EvS K B0 H0 tb δ (.dat e)) (sx : Sv x d) (sy : Sv y e) (hr : ∀ H, RC rr [x, y] H z) {f : PyData} (sz : Sv z f) : EvS K B0 H0 (tCB rr (tCons ta (tCons tb tNil))) δ (.dat f) := fun B H σ S Q q =>
  h B H σ S _ fun v B1 H1 s1 i1 => h2 B1 H1 σ (S.go s1) _ fun w B2 H2 s2 i2 => by
    rw [sx.eq i1, sy.eq i2]
    exact hr H2 H2 (.refl _) Q fun H3 e3 => q z B2 H3 ((s1.trans s2).trans (.same s2.bh e3)) sz.dt
theorem d_abs (h : EvS K B0 H0 ta δ (nI i)) : EvS K B0 H0 (tCB (fun xs H Q => ∃ i, xs = [.int i] ∧ Q (.int (if i < 0 then -i else i)) H) (tCons ta tNil)) δ (nI i.natAbs) := d_cb1 h (.int i) (fun _ => rc_abs) (.int _)
theorem d_int (h : EvS K B0 H0 ta δ (nI i)) : EvS K B0 H0 (tCB (fun xs H Q => (∃ i, xs = [.int i] ∧ Q (.int i) H) ∨ ∃ k, xs = [.bl k] ∧ Q (.int (if k then 1 else 0)) H) (tCons ta tNil)) δ (nI i) := d_cb1 h (.int i) (fun _ => rc_intI) (.int _)
theorem d_min (h : EvS K B0 H0 ta δ (nI i)) (h2 : EvS K B0 H0 tb δ (nI j)) : EvS K B0 H0 (tCB (fun xs H Q => ∃ i j, xs = [.int i, .int j] ∧ Q (.int (if j < i then j else i)) H) (tCons ta (tCons tb tNil))) δ (nI (min i j)) := d_cb2 h h2 (.int i) (.int j) (fun _ => rc_min2) (.int _)
theorem d_max (h : EvS K B0 H0 ta δ (nI i)) (h2 : EvS K B0 H0 tb δ (nI j)) : EvS K B0 H0 (tCB (fun xs H Q => ∃ i j, xs = [.int i, .int j] ∧ Q (.int (if j > i then j else i)) H) (tCons ta (tCons tb tNil))) δ (nI (max i j)) := d_cb2 h h2 (.int i) (.int j) (fun _ => rc_max2) (.int _)
/-! ### slices, sums of lists -/
def cutD (xs : List PyData) (lo hi : Option Int) : List PyData := (xs.drop (HT.sIx xs.length 0 lo)).take (HT.sIx xs.length xs.length hi - HT.sIx xs.length 0 lo)
theorem cut_dt {vs : List V} (h : DtAll K B vs ds) (lo hi : Option Int) : DtAll K B (cutV vs lo hi) (cutD ds lo hi) := by
  unfold cutV cutD
  rw [h.len]
  exact (h.drop _).take _
theorem o_none : EvO K B0 H0 tNoPart δ none := fun B H σ S Q q => q B H (.refl S.st.bh)
theorem o_some (h : EvS K B0 H0 te δ (nI i)) : EvO K B0 H0 (tPart te) δ (some i) := fun B H σ S Q q => h B H σ S _ fun v B1 H1 s1 i1 => by
  cases i1
  exact ⟨i, rfl, q B1 H1 s1⟩
theorem n_sl {tl th : TO} {lo hi : Option Int} (h : EvS K B0 H0 te δ (.dat (.list ds))) (h1 : EvO K B0 H0 tl δ lo) (h2 : EvO K B0 H0 th δ hi) : EvN K B0 H0 (tSl (rSlL K) te tl th) δ (cutD ds lo hi) := fun B H σ S Q q =>
  h B H σ S _ fun v B1 H1 s1 i1 => h1 B1 H1 σ (S.go s1) _ fun B2 H2 s2 => h2 B2 H2 σ (S.go (s1.trans s2)) _ fun B3 H3 s3 => by
    have s := (s1.trans s2).trans s3
    cases i1 with
    | lst g1 g2 =>
      refine ⟨_, _, rfl, sq_of (s3.bh _ _ (s3.b _ _ (s2.b _ _ g1))), fun p hp => ?_⟩
      exact q p _ B3 _ (s.trans (.same s.bh (.new hp))) (none_of s.h hp) (none_of s.bh hp) upd_same (cut_dt (dts_mono (s2.b.trans s3.b) _ _ g2) lo hi)
theorem n_cat (ha : EvS K B0 H0 ta δ (.dat (.list ds))) (hb : EvS K B0 H0 tb δ (.dat (.list es))) (hz : ds.length + es.length ≤ 100000) : EvN K B0 H0 (tOp rCat ta tb) δ (ds ++ es) := fun B H σ S Q q =>
  ha B H σ S _ fun v B1 H1 s1 i1 => hb B1 H1 σ (S.go s1) _ fun w B2 H2 s2 i2 => by
    have s := s1.trans s2
    cases i1 with
    | lst g1 g2 =>
      cases i2 with
      | lst k1 k2 =>
        refine ⟨_, _, _, _, rfl, rfl, s2.bh _ _ (s2.b _ _ g1), s2.bh _ _ k1, by rw [g2.len, k2.len]; exact sz_of hz, fun p hp => ?_⟩
        exact q p _ B2 _ (s.trans (.same s.bh (.new hp))) (none_of s.h hp) (none_of s.bh hp) upd_same ((dts_mono s2.b _ _ g2).app k2)
theorem n_list {ta : TE} (h : EvS K B0 H0 ta δ (.dat (.list ds))) : EvN K B0 H0 (tCB (rListS K) (tCons ta tNil)) δ ds := fun B H σ S Q q =>
  h B H σ S _ fun v B1 H1 s1 i1 => by
    cases i1 with
    | lst g1 g2 => exact ⟨_, _, rfl, .inl (sq_of (s1.bh _ _ g1)), fun p hp => q p _ B1 _ (s1.trans (.same s1.bh (.new hp))) (none_of s1.h hp) (none_of s1.bh hp) upd_same g2⟩
theorem d_sum {ta : TE} {ns : List Int} (h : EvS K B0 H0 ta δ (.dat (.list (ns.map PyData.int)))) : EvS K B0 H0 (tCB (rSum K) (tCons ta tNil)) δ (nI ns.sum) := fun B H σ S Q q =>
  h B H σ S _ fun v B1 H1 s1 i1 => by
    cases i1 with
    | lst g1 g2 => exact ⟨_, ns, rfl, sq_of (by rw [← dt_ints_inv ns g2]; exact s1.bh _ _ g1), q _ B1 H1 s1 (Dt.int _)⟩
/-! ### calls of defs -/
/-- a def by data: for an argument a, told by the slots enc a, it gives some data of which post is true -/
def SpA (K : PySem.W.Frag) {A : Type} (enc : A → List Sl) (pre : A → Prop) (post : A → PyData → Prop) : Sp := fun vs H Q _ => ∃ B a, Ex B H ∧ IsAll K B vs (enc a) ∧ pre a ∧ ∀ v d B' H', post a d → Stp B H B' H' → Dt K B' v d → Q v H'
/-- .. or raises the class that bad tells -/
def SpX (K : PySem.W.Frag) {A : Type} (enc : A → List Sl) (pre : A → Prop) (bad : A → Option Addr) (post : A → PyData → Prop) : Sp := fun vs H Q E => ∃ B a, Ex B H ∧ IsAll K B vs (enc a) ∧ pre a ∧ (∀ C, bad a = some C → ∀ H', Ex H H' → E (.ref C) none H') ∧ (bad a = none → ∀ v d B' H', post a d → Stp B H B' H' → Dt K B' v d → Q v H')
theorem r_call {A : Type} {enc : A → List Sl} {pre : A → Prop} {post : A → PyData → Prop} {E : XK} {tr : TA} (a : A) (h : EvA K B0 H0 tr δ (enc a)) (hp : pre a) : EvR K B0 H0 (tCall (SpA K enc pre post) [] E tr) δ (post a) := fun B H σ S Q q =>
  h B H σ S _ fun vs B1 H1 s1 i1 => ⟨B1, a, s1.bh, by rw [List.append_nil]; exact i1, hp, fun v d B2 H2 p st dv => q v d B2 H2 p (s1.trans st) dv⟩
theorem d_call {A : Type} {enc : A → List Sl} {pre : A → Prop} {post : A → PyData → Prop} {E : XK} {tr : TA} (a : A) (h : EvA K B0 H0 tr δ (enc a)) (hp : pre a) (hf : ∀ e, post a e → e = d) : EvS K B0 H0 (tCall (SpA K enc pre post) [] E tr) δ (.dat d) := fun B H σ S Q q =>
  r_call a h hp B H σ S Q fun v e B' H' p st iv => by
    cases hf e p
    exact q v B' H' st iv
/-- the usual form: a function of data -/
abbrev SpF (K : PySem.W.Frag) {A : Type} (enc : A → List Sl) (pre : A → Prop) (f : A → PyData) : Sp := SpA K enc pre fun a d => d = f a
theorem d_callF {A : Type} {enc : A → List Sl} {pre : A → Prop} {f : A → PyData} {E : XK} {tr : TA} (a : A) (h : EvA K B0 H0 tr δ (enc a)) (hp : pre a) : EvS K B0 H0 (tCall (SpF K enc pre f) [] E tr) δ (.dat (f a)) := d_call a h hp fun _ h => h
/-- where nothing is raised -/
theorem r_callX {A : Type} {enc : A → List Sl} {pre : A → Prop} {bad : A → Option Addr} {post : A → PyData → Prop} {E : XK} {tr : TA} (a : A) (h : EvA K B0 H0 tr δ (enc a)) (hp : pre a) (hb : bad a = none) : EvR K B0 H0 (tCall (SpX K enc pre bad post) [] E tr) δ (post a) := fun B H σ S Q q =>
  h B H σ S _ fun vs B1 H1 s1 i1 => ⟨B1, a, s1.bh, by rw [List.append_nil]; exact i1, hp, (fun C e => by rw [hb] at e; cases e), fun _ v d B2 H2 p st dv => q v d B2 H2 p (s1.trans st) dv⟩
theorem d_callX {A : Type} {enc : A → List Sl} {pre : A → Prop} {bad : A → Option Addr} {post : A → PyData → Prop} {E : XK} {tr : TA} (a : A) (h : EvA K B0 H0 tr δ (enc a)) (hp : pre a) (hb : bad a = none) (hf : ∀ e, post a e → e = d) : EvS K B0 H0 (tCall (SpX K enc pre bad post) [] E tr) δ (.dat d) := fun B H σ S Q q =>
  r_callX a h hp hb B H σ S Q fun v e B' H' p st iv => by
    cases hf e p
    exact q v B' H' st iv
end
end Ja

/-! Own data layer: targets, what is walked, comprehensions, statements, defs. -/
namespace Ja
open PySem PySem.Spec PyProof.Rows L2 Evl Cm
def wipeD (δ : List Sl) : List Nat → List Sl
  | [] => δ
  | v :: vs => (wipeD δ vs).set v Sl.no
/-- a target takes data; ix: the slots that it stores to -/
def TGd (K : PySem.W.Frag) (B0 H0 : Hp) (g : TG) (ix : List Nat) (δ : List Sl) (d : PyData) (δ' : List Sl) : Prop := ∀ B H σ v, Sc K B0 H0 B H σ δ → Dt K B v d → ∀ Q : L2.St → Hp → Prop, (∀ σ', Sc K B0 H0 B H σ' δ' → (∀ vs : List Nat, (∀ i ∈ ix, i ∈ vs) → wipe σ' vs = wipe σ vs) → Q σ' H) → g v σ H Q
def TGs (K : PySem.W.Frag) (B0 H0 : Hp) (g : L2.TGs) (ix : List Nat) (δ : List Sl) (ds : List PyData) (δ' : List Sl) : Prop := ∀ B H σ vs, Sc K B0 H0 B H σ δ → DtAll K B vs ds → ∀ Q : L2.St → Hp → Prop, (∀ σ', Sc K B0 H0 B H σ' δ' → (∀ vs : List Nat, (∀ i ∈ ix, i ∈ vs) → wipe σ' vs = wipe σ vs) → Q σ' H) → g vs σ H Q
theorem wipe_set {σ : L2.St} {i : Nat} {o : Option V} : ∀ {vs : List Nat}, i ∈ vs → wipe (σ.set i o) vs = wipe σ vs
  | v :: vs, h => by
    show (wipe (σ.set i o) vs).set v none = (wipe σ vs).set v none
    by_cases e : i ∈ vs
    · rw [wipe_set e]
    · have e1 : v = i := by
        rcases List.mem_cons.mp h with h | h
        · exact h.symm
        · exact absurd h e
      subst e1
      have key : ∀ {vs : List Nat}, v ∉ vs → wipe (σ.set v o) vs = (wipe σ vs).set v o := by
        intro vs
        induction vs with
        | nil => intro _; rfl
        | cons w ws ih =>
          intro hn
          show (wipe (σ.set v o) ws).set w none = ((wipe σ ws).set w none).set v o
          rw [ih fun z => hn (List.mem_cons_of_mem _ z)]
          exact List.set_comm _ _ fun z => hn (by rw [z]; exact List.mem_cons_self ..)
      rw [key e, List.set_set]
theorem wipe_id {σ : L2.St} : ∀ {vs ws : List Nat}, (∀ i ∈ vs, i ∈ ws) → wipe (wipe σ vs) ws = wipe σ ws
  | [], ws, _ => rfl
  | v :: vs, ws, h => by
    show wipe ((wipe σ vs).set v none) ws = _
    rw [wipe_set (h v (List.mem_cons_self ..)), wipe_id fun i hi => h i (List.mem_cons_of_mem _ hi)]
section
variable {K : PySem.W.Frag} {B0 H0 B H B' H' : Hp} {σ : L2.St} {δ δ1 δ2 : List Sl} {ta tb tc td te : TE} {tt : TT} {s s' : Sl} {d e : PyData} {ds es : List PyData} {i j k : Int} {b c : Bool} {x y z : V}
theorem Sc.wipe (h : Sc K B0 H0 B H σ δ) : ∀ vs : List Nat, Sc K B0 H0 B H (wipe σ vs) (wipeD δ vs)
  | [] => h
  | v :: vs => (Sc.wipe h vs).put v none
theorem g_name {n : Nat} : TGd K B0 H0 (gName n) [n] δ d (δ.set n (.dat d)) := fun B H σ v S iv Q q => q _ (S.set (s := .dat d) n iv) fun vs hv => wipe_set (hv n (List.mem_singleton.mpr rfl))
theorem g_nil : TGs K B0 H0 gNil [] δ [] δ := fun B H σ vs S iv Q q => by
  cases iv
  exact ⟨rfl, q σ S fun _ _ => rfl⟩
theorem g_cons {g : TG} {u : L2.TGs} {ix iy : List Nat} (h : TGd K B0 H0 g ix δ d δ1) (hr : TGs K B0 H0 u iy δ1 ds δ2) : TGs K B0 H0 (gCons g u) (ix ++ iy) δ (d :: ds) δ2 := fun B H σ vs S iv Q q => by
  cases iv with
  | cons h1 h2 => exact ⟨_, _, rfl, h B H σ _ S h1 _ fun σ1 S1 w1 => hr B H σ1 _ S1 h2 Q fun σ2 S2 w2 => q σ2 S2 fun ws hw => by
      rw [w2 ws fun i hi => hw i (List.mem_append.mpr (.inr hi)), w1 ws fun i hi => hw i (List.mem_append.mpr (.inl hi))]⟩
theorem g_tup {n : Nat} {u : L2.TGs} {ix : List Nat} (h : TGs K B0 H0 u ix δ ds δ1) (hn : ds.length = n := by rfl) : TGd K B0 H0 (gTup K n u) ix δ (.tuple ds) δ1 := fun B H σ v S iv Q q => by
  cases iv with
  | tup h1 h2 => exact ⟨_, _, rfl, ex_t S.st.bh h1, by rw [h2.len, hn], h B H σ _ S h2 Q q⟩
/-! ### what is walked -/
def EvW (K : PySem.W.Frag) (B0 H0 : Hp) (wi : TI) (δ : List Sl) (ds : List PyData) : Prop := ∀ B H σ, Sc K B0 H0 B H σ δ → ∀ R : It → Hp → Prop,
  (∀ J G Y B1 H1, Stp B H B1 H1 → Walk J ds.length G Y → (∀ B2 H2, Ex B1 B2 → Ex B2 H2 → G H2) → (∀ (i : Nat) H2 x H3 B2 (d : PyData), ds[i]? = some d → Ex B1 B2 → Ex B2 H2 → Y i H2 x H3 → ∃ B3, Stp B2 H2 B3 H3 ∧ Dt K B3 x d) → R J H1) → wi σ H R
theorem w_list {tl : TE} (h : EvS K B0 H0 tl δ (.dat (.list ds))) : EvW K B0 H0 (iList K tl) δ ds := fun B H σ S R q => h B H σ S _ fun v B1 H1 s1 i1 => by
  cases i1 with
  | @lst a xs _ h1 h2 =>
    refine ⟨a, rfl, ⟨xs, sq_of (s1.bh _ _ h1)⟩, q _ (fun H => SqL K H a xs) (YAt xs) B1 H1 s1 (by rw [← h2.len]; exact walk_list) (fun B2 H2 e1 e2 => sq_of (e2 _ _ (e1 _ _ h1))) fun i H2 x H3 B2 d hd e1 e2 y => ?_⟩
    obtain ⟨rfl, hx⟩ := y
    obtain ⟨v, hv, dv⟩ := h2.get hd
    rw [hx] at hv
    cases Option.some.inj hv
    exact ⟨B2, .refl e2, dt_mono e1 _ _ dv⟩
theorem w_tup {tl : TE} (h : EvS K B0 H0 tl δ (.dat (.tuple ds))) : EvW K B0 H0 (iTup K tl) δ ds := fun B H σ S R q => h B H σ S _ fun v B1 H1 s1 i1 => by
  cases i1 with
  | @tup a xs _ h1 h2 =>
    refine ⟨a, rfl, ⟨xs, ex_t s1.bh h1⟩, q _ (fun H => SqT K H a xs) (YAt xs) B1 H1 s1 (by rw [← h2.len]; exact walk_tup) (fun B2 H2 e1 e2 => ex_t (e1.trans e2) h1) fun i H2 x H3 B2 d hd e1 e2 y => ?_⟩
    obtain ⟨rfl, hx⟩ := y
    obtain ⟨v, hv, dv⟩ := h2.get hd
    rw [hx] at hv
    cases Option.some.inj hv
    exact ⟨B2, .refl e2, dt_mono e1 _ _ dv⟩
/-- lo, lo + 1, .. -/
def upto (lo : Int) (n : Nat) : List PyData := (List.range n).map fun i : Nat => PyData.int (lo + (i : Int))
theorem upto_len (lo : Int) (n : Nat) : (upto lo n).length = n := by
  unfold upto
  rw [List.length_map, List.length_range]
theorem upto_get {lo : Int} {n i : Nat} {d : PyData} (h : (upto lo n)[i]? = some d) : i < n ∧ d = .int (lo + (i : Int)) := by
  have hi : i < n := by
    have := (List.getElem?_eq_some_iff.mp h).1
    rwa [upto_len] at this
  unfold upto at h
  rw [List.getElem?_map, List.getElem?_range hi] at h
  exact ⟨hi, (Option.some.inj h).symm⟩
theorem w_rng1 {ta : TA} {n : Int} (h : EvD K B0 H0 ta δ [.int n]) (h1 : n ≤ 100000) (h2 : -100000 ≤ n) : EvW K B0 H0 (iRng1 ta) δ (upto 0 n.toNat) := fun B H σ S R q => h B H σ S _ fun vs B1 H1 s1 i1 => by
  cases i1 with
  | cons g1 g2 =>
    cases g1
    cases g2
    refine ⟨n, rfl, by omega, by omega, q _ _ _ B1 H1 s1 (by rw [upto_len]; exact walk_range) (fun _ _ _ _ => trivial) fun i H2 x H3 B2 d hd e1 e2 y => ?_⟩
    obtain ⟨rfl, rfl⟩ := y
    obtain ⟨_, rfl⟩ := upto_get hd
    exact ⟨B2, .refl e2, .int _⟩
theorem w_rng2 {ta : TA} {lo n : Int} (h : EvD K B0 H0 ta δ [.int lo, .int n]) (h1 : n ≤ 10000000000 ∧ -10000000000 ≤ n ∧ lo ≤ 10000000000 ∧ -10000000000 ≤ lo) : EvW K B0 H0 (iRng2 ta) δ (upto lo (n - lo).toNat) := fun B H σ S R q => h B H σ S _ fun vs B1 H1 s1 i1 => by
  cases i1 with
  | cons g1 g2 =>
    cases g1
    cases g2 with
    | cons g3 g4 =>
      cases g3
      cases g4
      refine ⟨lo, n, rfl, by omega, q _ _ _ B1 H1 s1 (by rw [upto_len]; exact walk_range) (fun _ _ _ _ => trivial) fun i H2 x H3 B2 d hd e1 e2 y => ?_⟩
      obtain ⟨rfl, rfl⟩ := y
      obtain ⟨_, rfl⟩ := upto_get hd
      exact ⟨B2, .refl e2, .int _⟩
/-- 0, 1, .. -/
def nats (n : Nat) : List PyData := (List.range n).map fun i : Nat => PyData.int (i : Int)
theorem upto_nats (n : Nat) : upto 0 n = nats n := by
  unfold upto nats
  exact List.map_congr_left fun i _ => by rw [Int.zero_add]
theorem nats_len (n : Nat) : (nats n).length = n := by
  unfold nats
  rw [List.length_map, List.length_range]
theorem nats_get {n i : Nat} {d : PyData} (h : (nats n)[i]? = some d) : i < n ∧ d = .int (i : Int) := by
  rw [← upto_nats] at h
  have := upto_get h
  rwa [Int.zero_add] at this
theorem w_nat {ta : TA} {n : Nat} (h : EvD K B0 H0 ta δ [.int (n : Int)]) (h1 : n ≤ 100000) : EvW K B0 H0 (iRng1 ta) δ (nats n) := by
  have := w_rng1 h (by omega) (by omega)
  rwa [upto_nats, Int.toNat_natCast] at this
/-- a text, sign by sign -/
def signs (x : Str) : List PyData := x.cps.toList.map fun c => PyData.str ⟨#[c]⟩
theorem w_str {x : Str} (h : EvS K B0 H0 te δ (nS x)) : EvW K B0 H0 (iStr te) δ (signs x) := fun B H σ S R q => h B H σ S _ fun v B1 H1 s1 i1 => by
  cases i1
  refine ⟨x, rfl, q _ _ _ B1 H1 s1 (by unfold signs; rw [List.length_map, Array.length_toList]; exact walk_str) (fun _ _ _ _ => trivial) fun i H2 v H3 B2 d hd e1 e2 y => ?_⟩
  obtain ⟨rfl, c, hc, rfl⟩ := y
  have e : d = .str ⟨#[c]⟩ := by
    unfold signs at hd
    rw [List.getElem?_map, Array.getElem?_toList, hc] at hd
    exact (Option.some.inj hd).symm
  rw [e]
  exact ⟨B2, .refl e2, .str _⟩
/-- pairs of an index and an item -/
def enumD (ds : List PyData) : List PyData := ds.zipIdx.map fun p => .tuple [.int (p.2 : Int), p.1]
theorem w_enum {ta : TA} (h : EvD K B0 H0 ta δ [.list ds]) : EvW K B0 H0 (iEnum K ta) δ (enumD ds) := fun B H σ S R q => h B H σ S _ fun vs B1 H1 s1 i1 => by
  cases i1 with
  | cons g1 g2 =>
    cases g2
    cases g1 with
    | @lst a xs _ h1 h2 =>
      refine ⟨a, xs, rfl, sq_of (s1.bh _ _ h1), q _ _ _ B1 H1 s1 (by unfold enumD; rw [List.length_map, List.length_zipIdx, ← h2.len]; exact walk_enum) (fun B2 H2 e1 e2 => sq_of (e2 _ _ (e1 _ _ h1))) fun i H2 v H3 B2 d hd e1 e2 y => ?_⟩
      obtain ⟨T, u, w, rfl, hT, rfl, hu, hw⟩ := y
      cases Option.some.inj hu
      obtain ⟨f, hf, df⟩ := h2.getV hw
      have e : d = .tuple [.int (i : Int), f] := by
        unfold enumD at hd
        rw [List.getElem?_map, List.getElem?_zipIdx, hf] at hd
        have := Option.some.inj hd
        simpa using this.symm
      rw [e]
      exact ⟨_, .new e2 hT, .tup (st_of upd_same) (.cons (.int _) (.cons (dt_mono (e1.trans (Ex.new (none_of e2 hT))) _ _ df) .nil))⟩
def zipD (ds es : List PyData) : List PyData := (ds.zip es).map fun p => .tuple [p.1, p.2]
theorem w_zip {ta : TA} (h : EvD K B0 H0 ta δ [.list ds, .list es]) : EvW K B0 H0 (RZ.iZipA K ta) δ (zipD ds es) := fun B H σ S R q => h B H σ S _ fun vs B1 H1 s1 i1 => by
  cases i1 with
  | cons g1 g2 =>
    cases g2 with
    | cons g3 g4 =>
      cases g4
      cases g1 with
      | @lst a xs _ h1 h2 =>
        cases g3 with
        | @lst b ys _ k1 k2 =>
          refine ⟨a, b, xs, ys, rfl, .inl ⟨sq_of (s1.bh _ _ h1), sq_of (s1.bh _ _ k1), q _ _ _ B1 H1 s1 (walk_zip (by unfold zipD; rw [List.length_map, List.length_zip, ← h2.len, ← k2.len])) (fun B2 H2 e1 e2 => ⟨sq_of (e2 _ _ (e1 _ _ h1)), sq_of (e2 _ _ (e1 _ _ k1))⟩) fun i H2 v H3 B2 d hd e1 e2 y => ?_⟩⟩
          obtain ⟨T, u, w, rfl, hT, rfl, hu, hw⟩ := y
          obtain ⟨f, hf, df⟩ := h2.getV hu
          obtain ⟨g, hg, dg⟩ := k2.getV hw
          have e : d = .tuple [f, g] := by
            unfold zipD at hd
            rw [List.getElem?_map, show (ds.zip es)[i]? = some (f, g) from List.getElem?_zip_eq_some.mpr ⟨hf, hg⟩] at hd
            exact (Option.some.inj hd).symm
          rw [e]
          have eT : Ex B1 (upd B2 T (.tup [u, w])) := e1.trans (Ex.new (none_of e2 hT))
          exact ⟨_, .new e2 hT, .tup (st_of upd_same) (.cons (dt_mono eT _ _ df) (.cons (dt_mono eT _ _ dg) .nil))⟩
/-- reversed(range(n)) -/
theorem w_rev1 {n : Int} (h : EvS K B0 H0 ta δ (nI n)) (h1 : n ≤ 100000 ∧ -100000 ≤ n) : EvW K B0 H0 (iRevR (tRg1 ta)) δ (upto 0 n.toNat).reverse := fun B H σ S R q => h B H σ S _ fun v B1 H1 s1 i1 => by
  cases i1
  refine ⟨n, rfl, by omega, by omega, by omega, by omega, q _ _ _ B1 H1 s1 (by rw [List.length_reverse, upto_len, Int.sub_zero]; exact walk_rangeC) (fun _ _ _ _ => trivial) fun i H2 x H3 B2 d hd e1 e2 y => ?_⟩
  obtain ⟨rfl, rfl⟩ := y
  have hi : i < n.toNat := by
    have := (List.getElem?_eq_some_iff.mp hd).1
    rwa [List.length_reverse, upto_len] at this
  rw [List.getElem?_reverse (by rw [upto_len]; exact hi), upto_len] at hd
  obtain ⟨_, rfl⟩ := upto_get hd
  show ∃ B3, Stp B2 _ B3 _ ∧ Dt K B3 (V.int (0 + (n.toNat : Int) - 1 + (i : Int) * -1)) _
  rw [show (0 : Int) + (n.toNat : Int) - 1 + (i : Int) * -1 = 0 + ((n.toNat - 1 - i : Nat) : Int) by omega]
  exact ⟨B2, .refl e2, .int _⟩
theorem w_revN {n : Nat} (h : EvS K B0 H0 ta δ (nI (n : Int))) (h1 : n ≤ 100000) : EvW K B0 H0 (iRevR (tRg1 ta)) δ ((List.range n).reverse.map fun i : Nat => PyData.int (i : Int)) := by
  have := w_rev1 h ⟨by omega, by omega⟩
  rw [upto_nats, Int.toNat_natCast] at this
  rwa [List.map_reverse]
/-! ### comprehensions -/
theorem n_lc {A : Type} {wi : TI} {g : TG} {vs ix : List Nat} (xs : List A) (enc : A → PyData) (δt : A → List Sl) (f : A → Bool) (v : A → PyData) (hw : EvW K B0 H0 wi δ (xs.map enc)) (hix : ∀ i ∈ ix, i ∈ vs) (hz : xs.length ≤ 40000)
    (hg : ∀ x ∈ xs, TGd K B0 H0 g ix (wipeD δ vs) (enc x) (δt x)) (ht : ∀ x ∈ xs, EvB K B0 H0 tt (δt x) (f x)) (he : ∀ x ∈ xs, f x = true → EvS K B0 H0 te (δt x) (.dat (v x))) : EvN K B0 H0 (tLc wi g tt te vs) δ ((xs.filter f).map v) := fun B H σ S Q q => by
  refine hw B H σ S _ fun J G Y B1 H1 s1 W hG hY => ?_
  intro D hD
  have hBD : B1 D = none := none_of s1.bh hD
  refine lc_it W (fun i H' => ∃ B' ws, Ex B1 B' ∧ Ex B' H' ∧ Ex H1 H' ∧ (∀ a, B' a ≠ none → B1 a ≠ none ∨ H1 a = none) ∧ B' D = none ∧ H' D = some (.lst ws) ∧ DtAll K B' ws (((xs.take i).filter f).map v)) ?_ (fun i H' hi ⟨B', ws, e1, e2, e3, hn, e4, e5, e6⟩ => hG B' H' e1 e2) ?_ fun H' ⟨B', ws, e1, e2, e3, hn, e4, e5, e6⟩ => ?_
  · exact ⟨B1, [], .refl _, Ex.mut s1.bh hBD, Ex.new hD, fun a h => .inl h, hBD, upd_same, by rw [List.take_zero]; exact .nil⟩
  · intro i x H2 H3 hi ⟨B2, ws, e1, e2, e3, hn, e4, e5, e6⟩ y
    rw [List.length_map] at hi
    have hx : (xs.map enc)[i]? = some (enc xs[i]) := by rw [List.getElem?_map, List.getElem?_eq_getElem hi]; rfl
    obtain ⟨B3, s3, dx⟩ := hY i H2 x H3 B2 _ hx e1 e2 y
    have hmem : xs[i] ∈ xs := List.getElem_mem hi
    have hDn : H2 D ≠ none := by rw [e5]; exact fun z => by cases z
    have b3 : B3 D = none := by
      cases e : B3 D with
      | none => rfl
      | some o =>
        rcases s3.n D (by rw [e]; exact fun z => by cases z) with z | z
        · exact absurd e4 z
        · exact absurd z hDn
    have st12 : Stp B1 H1 B2 H2 := ⟨e1, e2, e3, hn⟩
    have S3 : Sc K B0 H0 B3 H3 σ δ := (S.go s1).go (st12.trans s3)
    have tk : ∀ {n : Nat}, xs.take (n + 1) = xs.take n ++ (xs[n]?).toList := fun {n} => List.take_succ
    refine hg _ hmem B3 H3 (wipe σ vs) x (S3.wipe vs) dx _ fun σ2 S2 w2 => ⟨?_, ?_⟩
    · rw [w2 vs hix]
      exact wipe_id fun _ h => h
    · refine ht _ hmem B3 H3 σ2 S2 _ fun B4 H4 s4 => ?_
      have b4 : ∀ {B5 H5 : Hp}, Stp B3 H3 B5 H5 → B5 D = none := fun {B5 H5} s5 => by
        cases e : B5 D with
        | none => rfl
        | some o =>
          rcases s5.n D (by rw [e]; exact fun z => by cases z) with z | z
          · exact absurd b3 z
          · rw [s3.h _ _ e5] at z
            cases z
      cases hf : f xs[i] with
      | true =>
        rw [if_pos rfl]
        refine he _ hmem hf B4 H4 σ2 (S2.go s4) _ fun u B5 H5 s5 i5 => ?_
        have s35 := s4.trans s5
        have sAll := (st12.trans s3).trans s35
        have h5 : H5 D = some (.lst ws) := s35.h _ _ (s3.h _ _ e5)
        refine ⟨ws, h5, ?_, B5, ws ++ [u], sAll.b, ?_, Ex.mut sAll.h hD, sAll.n, b4 s35, upd_same, ?_⟩
        · rw [e6.len, List.length_map]
          have h1 := List.length_filter_le f (xs.take i)
          rw [List.length_take] at h1
          exact sz_lt (by omega)
        · exact Ex.mut sAll.bh (b4 s35)
        · rw [tk, List.getElem?_eq_getElem hi, List.filter_append, List.map_append]
          refine (dts_mono (s3.b.trans s35.b) _ _ e6).app ?_
          show DtAll K B5 [u] (([xs[i]].filter f).map v)
          rw [List.filter_cons, hf, if_pos rfl]
          exact .cons i5 .nil
      | false =>
        rw [if_neg (by decide)]
        have sAll := (st12.trans s3).trans s4
        refine ⟨B4, ws, sAll.b, sAll.bh, sAll.h, sAll.n, b4 s4, s4.h _ _ (s3.h _ _ e5), ?_⟩
        rw [tk, List.getElem?_eq_getElem hi, List.filter_append]
        have : [xs[i]].filter f = [] := by rw [List.filter_cons, hf]; rfl
        show DtAll K B4 ws ((List.filter f (List.take i xs) ++ [xs[i]].filter f).map v)
        rw [this, List.append_nil]
        exact dts_mono (s3.b.trans s4.b) _ _ e6
  · have sAll := s1.trans (⟨e1, e2, e3, hn⟩ : Stp B1 H1 B' H')
    refine q D ws B' H' sAll (none_of s1.h hD) e4 e5 ?_
    rw [List.length_map, List.take_length] at e6
    exact e6
/-- every item, without a test -/
theorem n_lc1 {A : Type} {wi : TI} {g : TG} {vs ix : List Nat} (xs : List A) (enc : A → PyData) (δt : A → List Sl) (v : A → PyData) (hw : EvW K B0 H0 wi δ (xs.map enc)) (hix : ∀ i ∈ ix, i ∈ vs) (hz : xs.length ≤ 40000)
    (hg : ∀ x ∈ xs, TGd K B0 H0 g ix (wipeD δ vs) (enc x) (δt x)) (he : ∀ x ∈ xs, EvS K B0 H0 te (δt x) (.dat (v x))) : EvN K B0 H0 (tLc wi g tYes te vs) δ (xs.map v) := by
  have h := n_lc (tt := tYes) xs enc δt (fun _ => true) v hw hix hz hg (fun x _ => b_yes) (fun x hx _ => he x hx)
  have e : xs.filter (fun _ => true) = xs := by simp
  rw [e] at h
  exact h
end
/-! ### statements -/
structure DE where
  nx : List Sl → Prop
  rt : PyData → Prop
  bk : List Sl → Prop := fun _ => False
  ct : List Sl → Prop := fun _ => False
  ex : Addr → List Sl → Prop := fun _ _ => False
  ro : List PyData → Prop := fun _ => False
structure Lift (K : PySem.W.Frag) (B0 H0 B : Hp) (W : WX) (E : DE) (D : Ends) : Prop where
  nx : ∀ B' H' σ' δ', Ex B B' → Sc K B0 H0 B' H' σ' δ' → E.nx δ' → D.nx σ' H'
  rt : ∀ v d B' H', Ex B B' → Stp B0 H0 B' H' → Dt K B' v d → E.rt d → D.rt v H'
  bk : ∀ B' H' σ' δ', Ex B B' → Sc K B0 H0 B' H' σ' δ' → E.bk δ' → D.bk σ' H'
  ct : ∀ B' H' σ' δ', Ex B B' → Sc K B0 H0 B' H' σ' δ' → E.ct δ' → D.ct σ' H'
  ex : ∀ C B' H' σ' δ', Ex B B' → Sc K B0 H0 B' H' σ' δ' → E.ex C δ' → W (.ref C) none σ' H'
  ro : ∀ l vs ds B' H', Ex B B' → Stp B0 H0 B' H' → H0 l = none → B' l = none → H' l = some (.lst vs) → DtAll K B' vs ds → E.ro ds → D.rt (.ref l) H'
theorem Lift.mono {K : PySem.W.Frag} {B0 H0 B B' : Hp} {W : WX} {E : DE} {D : Ends} (e : Ex B B') (h : Lift K B0 H0 B W E D) : Lift K B0 H0 B' W E D :=
  ⟨fun B2 H2 σ δ e2 => h.nx B2 H2 σ δ (e.trans e2), fun v d B2 H2 e2 => h.rt v d B2 H2 (e.trans e2), fun B2 H2 σ δ e2 => h.bk B2 H2 σ δ (e.trans e2), fun B2 H2 σ δ e2 => h.ct B2 H2 σ δ (e.trans e2), fun C B2 H2 σ δ e2 => h.ex C B2 H2 σ δ (e.trans e2), fun l vs ds B2 H2 e2 => h.ro l vs ds B2 H2 (e.trans e2)⟩
def SD (K : PySem.W.Frag) (B0 H0 : Hp) (W : WX) (ts : TS) (δ : List Sl) (E : DE) : Prop := ∀ D B H σ, Sc K B0 H0 B H σ δ → Lift K B0 H0 B W E D → ts D σ H
/-- an expression that gives data of which P is true, or raises one of ex -/
def EvX (K : PySem.W.Frag) (B0 H0 : Hp) (W : WX) (te : TE) (δ : List Sl) (P : PyData → Prop) (ex : Addr → Prop) : Prop := ∀ B H σ, Sc K B0 H0 B H σ δ → (∀ C B' H', Stp B H B' H' → ex C → W (.ref C) none σ H') → ∀ Q : VK, (∀ v d B' H', P d → Stp B H B' H' → Dt K B' v d → Q v H') → te σ H Q
section
variable {K : PySem.W.Frag} {B0 H0 B H B' H' : Hp} {W : WX} {σ : L2.St} {δ δ1 δ2 : List Sl} {ta tb tc td te : TE} {tt : TT} {t u : TS} {E : DE} {s s' : Sl} {d e : PyData} {ds es : List PyData} {i j k : Int} {b c : Bool}
theorem sd_next (h : E.nx δ) : SD K B0 H0 W tNext δ E := fun D B H σ S L => L.nx B H σ δ (.refl _) S h
theorem sd_break (h : E.bk δ) : SD K B0 H0 W tBreak δ E := fun D B H σ S L => L.bk B H σ δ (.refl _) S h
theorem sd_cont (h : E.ct δ) : SD K B0 H0 W tCont δ E := fun D B H σ S L => L.ct B H σ δ (.refl _) S h
theorem sd_seq (h : SD K B0 H0 W t δ { E with nx := fun δ' => SD K B0 H0 W u δ' E }) : SD K B0 H0 W (tSeq t u) δ E := fun D B H σ S L =>
  h { D with nx := u D } B H σ S ⟨fun B' H' σ' δ' e S' h' => h' D B' H' σ' S' (L.mono e), L.rt, L.bk, L.ct, L.ex, L.ro⟩
theorem sd_cut {M : List Sl → Prop} (h : SD K B0 H0 W t δ { E with nx := M }) (k : ∀ δ', M δ' → SD K B0 H0 W u δ' E) : SD K B0 H0 W (tCut t u) δ E := fun D B H σ S L =>
  ⟨fun σ' H' => ∃ B' δ', Ex B B' ∧ Sc K B0 H0 B' H' σ' δ' ∧ M δ', h _ B H σ S ⟨fun B' H' σ' δ' e S' m => ⟨B', δ', e, S', m⟩, L.rt, L.bk, L.ct, L.ex, L.ro⟩, fun σ' H' ⟨B', δ', e, S', m⟩ => k δ' m D B' H' σ' S' (L.mono e)⟩
theorem sd_asg {n : Nat} (h : EvS K B0 H0 te δ s) (k : E.nx (δ.set n s)) : SD K B0 H0 W (tAsg te (gName n)) δ E := fun D B H σ S L => h B H σ S _ fun v B1 H1 s1 i1 => L.nx B1 H1 _ _ s1.b ((S.go s1).set n i1) k
theorem sd_asgR {n : Nat} {P : PyData → Prop} (h : EvR K B0 H0 te δ P) (k : ∀ d, P d → E.nx (δ.set n (.dat d))) : SD K B0 H0 W (tAsg te (gName n)) δ E := fun D B H σ S L => h B H σ S _ fun v d B1 H1 p s1 i1 => L.nx B1 H1 _ _ s1.b ((S.go s1).set (s := .dat d) n i1) (k d p)
theorem sd_asgO {n : Nat} (h : EvN K B0 H0 te δ ds) (k : E.nx (δ.set n (.own ds))) : SD K B0 H0 W (tAsg te (gName n)) δ E := fun D B H σ S L => h B H σ S _ fun l vs B1 H1 s1 f1 f2 f3 f4 => by
  refine L.nx B1 H1 _ _ s1.b ((S.go s1).setO n f3 f2 (none_of S.st.h f1) f4 fun j es _ hj hl => ?_) k
  obtain ⟨m, ws, g1, g2, _⟩ := S.own j es hj
  rw [hl] at g1
  cases Option.some.inj (Option.some.inj g1)
  rw [f1] at g2
  cases g2
theorem sd_unp {g : TG} {ix : List Nat} (h : EvS K B0 H0 te δ (.dat d)) (hg : TGd K B0 H0 g ix δ d δ1) (k : E.nx δ1) : SD K B0 H0 W (tAsg te g) δ E := fun D B H σ S L => h B H σ S _ fun v B1 H1 s1 i1 => hg B1 H1 σ v (S.go s1) i1 _ fun σ' S' _ => L.nx B1 H1 σ' _ s1.b S' k
theorem sd_ret (h : EvS K B0 H0 te δ (.dat d)) (k : E.rt d) : SD K B0 H0 W (tRet te) δ E := fun D B H σ S L => h B H σ S _ fun v B1 H1 s1 i1 => L.rt v d B1 H1 s1.b (S.st.trans s1) i1 k
theorem sd_retR {P : PyData → Prop} (h : EvR K B0 H0 te δ P) (k : ∀ d, P d → E.rt d) : SD K B0 H0 W (tRet te) δ E := fun D B H σ S L => h B H σ S _ fun v d B1 H1 p s1 i1 => L.rt v d B1 H1 s1.b (S.st.trans s1) i1 (k d p)
theorem sd_retN (k : E.rt .none) : SD K B0 H0 W tRetN δ E := fun D B H σ S L => L.rt .non .none B H (.refl _) S.st .non k
/-- a list of its own is given back -/
theorem sd_retO {n : Nat} (hn : δ[n]? = some (Sl.own ds)) (k : E.ro ds) : SD K B0 H0 W (tRet (tVar n)) δ E := fun D B H σ S L => by
  obtain ⟨l, vs, h1, h2, h3, h4, h5⟩ := S.own n ds hn
  exact ⟨.ref l, h1, L.ro l vs ds B H (.refl _) S.st h4 h3 h2 h5 k⟩
theorem sd_retE (h : EvN K B0 H0 te δ ds) (k : E.ro ds) : SD K B0 H0 W (tRet te) δ E := fun D B H σ S L => h B H σ S _ fun l vs B1 H1 s1 f1 f2 f3 f4 => L.ro l vs ds B1 H1 s1.b (S.st.trans s1) (none_of S.st.h f1) f2 f3 f4 k
/-- a new list of which P is true -/
def EvNR (K : PySem.W.Frag) (B0 H0 : Hp) (te : TE) (δ : List Sl) (P : List PyData → Prop) : Prop := ∀ B H σ, Sc K B0 H0 B H σ δ → ∀ Q : VK, (∀ l vs ds B' H', P ds → Stp B H B' H' → H l = none → B' l = none → H' l = some (.lst vs) → DtAll K B' vs ds → Q (.ref l) H') → te σ H Q
theorem n_of (h : EvNR K B0 H0 te δ fun es => es = ds) : EvN K B0 H0 te δ ds := fun B H σ S Q q => h B H σ S Q fun l vs es B' H' p => by
  subst p
  exact q l vs B' H'
theorem nr_of {P : List PyData → Prop} (h : EvN K B0 H0 te δ ds) (p : P ds) : EvNR K B0 H0 te δ P := fun B H σ S Q q => h B H σ S Q fun l vs B' H' => q l vs ds B' H' p
theorem sd_asgN {n : Nat} {P : List PyData → Prop} (h : EvNR K B0 H0 te δ P) (k : ∀ ds, P ds → E.nx (δ.set n (.own ds))) : SD K B0 H0 W (tAsg te (gName n)) δ E := fun D B H σ S L => h B H σ S _ fun l vs ds B1 H1 p s1 f1 f2 f3 f4 => by
  refine L.nx B1 H1 _ _ s1.b ((S.go s1).setO n f3 f2 (none_of S.st.h f1) f4 fun j es _ hj hl => ?_) (k ds p)
  obtain ⟨m, ws, g1, g2, _⟩ := S.own j es hj
  rw [hl] at g1
  cases Option.some.inj (Option.some.inj g1)
  rw [f1] at g2
  cases g2
theorem q_asgN {n : Nat} {P : List PyData → Prop} (h : EvNR K B0 H0 te δ P) (k : ∀ ds, P ds → SD K B0 H0 W u (δ.set n (.own ds)) E) : SD K B0 H0 W (tSeq (tAsg te (gName n)) u) δ E := sd_seq (sd_asgN h k)
theorem sd_drop (h : EvS K B0 H0 te δ s) (k : E.nx δ) : SD K B0 H0 W (tDrop te) δ E := fun D B H σ S L => h B H σ S _ fun v B1 H1 s1 i1 => L.nx B1 H1 σ δ s1.b (S.go s1) k
theorem sd_if (h : EvB K B0 H0 tt δ b) (h1 : b = true → SD K B0 H0 W t δ E) (h2 : b = false → SD K B0 H0 W u δ E) : SD K B0 H0 W (tIfS tt t u) δ E := fun D B H σ S L => h B H σ S _ fun B1 H1 s1 => by
  cases b with
  | true => exact h1 rfl D B1 H1 σ (S.go s1) (L.mono s1.b)
  | false => exact h2 rfl D B1 H1 σ (S.go s1) (L.mono s1.b)
theorem sd_freeze {n : Nat} (hn : δ[n]? = some (Sl.own ds)) (h : SD K B0 H0 W t (δ.set n (.dat (.list ds))) E) : SD K B0 H0 W t δ E := fun D B H σ S L => by
  obtain ⟨B', e, S'⟩ := S.freeze hn
  exact h D B' H σ S' (L.mono e)
theorem sd_env (e : δ = δ1) (h : SD K B0 H0 W t δ1 E) : SD K B0 H0 W t δ E := e ▸ h
theorem sd_forget (n : Nat) (h : SD K B0 H0 W t (δ.set n Sl.no) E) : SD K B0 H0 W t δ E := fun D B H σ S L => h D B H σ (by
  by_cases hn : n < σ.length
  · have := S.put n (σ[n])
    rw [List.set_getElem_self hn] at this
    exact this
  · have e : δ.set n Sl.no = δ := List.set_eq_of_length_le (by rw [← S.len]; omega)
    rw [e]
    exact S) L
/-- xs.append(e), xs of its own -/
theorem sd_app {n : Nat} (hn : δ[n]? = some (Sl.own ds)) (h : EvS K B0 H0 te δ (.dat d)) (hz : ds.length < 100000) (k : E.nx (δ.set n (.own (ds ++ [d])))) : SD K B0 H0 W (tDrop (tBM K "list" rAppend (tVar n) (tCons te tNil))) δ E := fun D B H σ S L => by
  obtain ⟨l, vs, h1, h2, h3, h4, h5⟩ := S.own n ds hn
  refine ⟨.ref l, h1, .inl ⟨rfl, _, sq_of h2⟩, h B H σ S _ fun v B1 H1 s1 i1 => ?_⟩
  obtain ⟨l', ws, g1, g2, g3, g4, g5⟩ := (S.go s1).own n ds hn
  rw [h1] at g1
  cases Option.some.inj (Option.some.inj g1)
  exact ⟨l, ws, v, rfl, rfl, g2, by rw [g5.len]; exact sz_lt hz, L.nx B1 _ σ _ s1.b ((S.go s1).mut hn h1 (g5.app (.cons i1 .nil))) k⟩
/-- xs[j] = e, xs of its own -/
theorem sd_put {n j : Nat} (hn : δ[n]? = some (Sl.own ds)) (h : EvS K B0 H0 te δ (.dat d)) (hj : EvS K B0 H0 tb δ (nI (j : Int))) (hl : j < ds.length) (k : E.nx (δ.set n (.own (ds.set j d)))) : SD K B0 H0 W (tAsg te (gSub (tVar n) tb rSetL)) δ E := fun D B H σ S L =>
  h B H σ S _ fun v B1 H1 s1 i1 => by
    have S1 := S.go s1
    obtain ⟨l, vs, h1, h2, h3, h4, h5⟩ := S1.own n ds hn
    refine ⟨.ref l, h1, hj B1 H1 σ S1 _ fun w B2 H2 s2 i2 => ?_⟩
    cases i2
    obtain ⟨l', ws, g1, g2, g3, g4, g5⟩ := (S1.go s2).own n ds hn
    rw [h1] at g1
    cases Option.some.inj (Option.some.inj g1)
    exact ⟨l, ws, (j : Int), j, rfl, rfl, g2, ixN_nat (by rw [g5.len]; exact hl), L.nx B2 _ σ _ (s1.b.trans s2.b) ((S1.go s2).mut hn h1 (g5.set j (dt_mono s2.b _ _ i1))) k⟩
/-! loops -/
theorem sd_for {wi : TI} {g : TG} {tb : TS} (hw : EvW K B0 H0 wi δ ds) (P : Nat → List Sl → Prop) (h0 : P 0 δ)
    (hs : ∀ (i : Nat) (d : PyData) (δ' : List Sl), ds[i]? = some d → P i δ' → ∃ ix δ2, TGd K B0 H0 g ix δ' d δ2 ∧ SD K B0 H0 W tb δ2 { E with nx := P (i + 1), ct := P (i + 1), bk := E.nx }) (hd : ∀ δ', P ds.length δ' → E.nx δ') : SD K B0 H0 W (tFor wi g tb) δ E := fun D B H σ S L =>
  hw B H σ S _ fun J G Y B1 H1 s1 Wk hG hY => for_it Wk (fun i σ' H' => ∃ B' δ', Ex B1 B' ∧ Sc K B0 H0 B' H' σ' δ' ∧ P i δ') ⟨B1, δ, .refl _, S.go s1, h0⟩ (fun i σ' H' hi ⟨B', δ', e, S', _⟩ => hG B' H' e S'.st.bh) (fun i x σ' H2 H3 hi ⟨B', δ', e, S', p⟩ y => by
    obtain ⟨B3, s3, dx⟩ := hY i H2 x H3 B' _ (List.getElem?_eq_getElem hi) e S'.st.bh y
    obtain ⟨ix, δ2, hg, hb⟩ := hs i _ δ' (List.getElem?_eq_getElem hi) p
    refine hg B3 H3 σ' x (S'.go s3) dx _ fun σ2 S2 _ => ?_
    have L3 := L.mono ((s1.b.trans e).trans s3.b)
    exact hb _ B3 H3 σ2 S2 ⟨fun B4 H4 σ4 δ4 e4 S4 p4 => ⟨B4, δ4, (e.trans s3.b).trans e4, S4, p4⟩, L3.rt, L3.nx, fun B4 H4 σ4 δ4 e4 S4 p4 => ⟨B4, δ4, (e.trans s3.b).trans e4, S4, p4⟩, L3.ex, L3.ro⟩) fun σ' H' ⟨B', δ', e, S', p⟩ => L.nx B' H' σ' δ' (s1.b.trans e) S' (hd δ' p)
theorem sd_while {tb : TS} (P : Nat → List Sl → Prop) (m0 : Nat) (h0 : P m0 δ)
    (hs : ∀ (m : Nat) (δ' : List Sl), P m δ' → ∃ b, EvB K B0 H0 tt δ' b ∧ (b = true → SD K B0 H0 W tb δ' { E with nx := fun δ2 => ∃ m', m' < m ∧ P m' δ2, ct := fun δ2 => ∃ m', m' < m ∧ P m' δ2, bk := E.nx }) ∧ (b = false → E.nx δ')) : SD K B0 H0 W (tWhile tt tb) δ E := fun D B H σ S L =>
  ⟨fun m σ' H' => ∃ B' δ', Ex B B' ∧ Sc K B0 H0 B' H' σ' δ' ∧ P m δ', ⟨m0, B, δ, .refl _, S, h0⟩, fun m σ' H' ⟨B', δ', e, S', p⟩ => by
    obtain ⟨b, hb, h1, h2⟩ := hs m δ' p
    refine hb B' H' σ' S' _ fun B2 H2 s2 => ?_
    have L2 := L.mono (e.trans s2.b)
    cases b with
    | true =>
      rw [if_pos rfl]
      refine ⟨fun σ3 H3 => ∃ m', m' < m ∧ ∃ B3 δ3, Ex B B3 ∧ Sc K B0 H0 B3 H3 σ3 δ3 ∧ P m' δ3, fun σ3 H3 ⟨m', hm, q⟩ => ⟨m', hm, q⟩, h1 rfl _ B2 H2 σ' (S'.go s2) ⟨fun B4 H4 σ4 δ4 e4 S4 ⟨m', hm, p4⟩ => ⟨m', hm, B4, δ4, (e.trans s2.b).trans e4, S4, p4⟩, L2.rt, L2.nx, fun B4 H4 σ4 δ4 e4 S4 ⟨m', hm, p4⟩ => ⟨m', hm, B4, δ4, (e.trans s2.b).trans e4, S4, p4⟩, L2.ex, L2.ro⟩⟩
    | false =>
      rw [if_neg (by decide)]
      exact L2.nx B2 H2 σ' δ' (.refl _) (S'.go s2) (h2 rfl)⟩
/-! raising -/
theorem sd_raise {C : Addr} (h : E.ex C δ) : SD K B0 H0 W (fun _ σ H => W (.ref C) none σ H) δ E := fun D B H σ S L => L.ex C B H σ δ (.refl _) S h
theorem x_of {P : PyData → Prop} {ex : Addr → Prop} (h : EvR K B0 H0 te δ P) : EvX K B0 H0 W te δ P ex := fun B H σ S _ Q q => h B H σ S Q q
theorem x_call {A : Type} {enc : A → List Sl} {pre : A → Prop} {bad : A → Option Addr} {post : A → PyData → Prop} {R : XK} {tr : TA} (a : A) (h : EvA K B0 H0 tr δ (enc a)) (hp : pre a) : EvX K B0 H0 (fun cls d _ H => R cls d H) (tCall (SpX K enc pre bad post) [] R tr) δ (fun d => bad a = none ∧ post a d) (fun C => bad a = some C) := fun B H σ S hx Q q =>
  h B H σ S _ fun vs B1 H1 s1 i1 => ⟨B1, a, s1.bh, by rw [List.append_nil]; exact i1, hp, fun C hC H' e => hx C B1 H' (s1.trans (.same s1.bh e)) hC, fun hb v d B2 H2 p st dv => q v d B2 H2 ⟨hb, p⟩ (s1.trans st) dv⟩
theorem x_callS {A : Type} {enc : A → List Sl} {pre : A → Prop} {bad : A → Option Addr} {post : A → PyData → Prop} {tr : TA} (a : A) (h : EvA K B0 H0 tr δ (enc a)) (hp : pre a) : EvX K B0 H0 W (tCallS (SpX K enc pre bad post) (WE W) tr) δ (fun d => bad a = none ∧ post a d) (fun C => bad a = some C) := fun B H σ S hx Q q =>
  h B H σ S _ fun vs B1 H1 s1 i1 => ⟨B1, a, s1.bh, i1, hp, fun C hC H' e => hx C B1 H' (s1.trans (.same s1.bh e)) hC, fun hb v d B2 H2 p st dv => q v d B2 H2 ⟨hb, p⟩ (s1.trans st) dv⟩
theorem sd_asgX {n : Nat} {P : PyData → Prop} {ex : Addr → Prop} (h : EvX K B0 H0 W te δ P ex) (hx : ∀ C, ex C → E.ex C δ) (k : ∀ d, P d → E.nx (δ.set n (.dat d))) : SD K B0 H0 W (tAsg te (gName n)) δ E := fun D B H σ S L =>
  h B H σ S (fun C B' H' st hC => L.ex C B' H' σ δ st.b (S.go st) (hx C hC)) _ fun v d B1 H1 p s1 i1 => L.nx B1 H1 _ _ s1.b ((S.go s1).set (s := .dat d) n i1) (k d p)
theorem sd_retX {P : PyData → Prop} {ex : Addr → Prop} (h : EvX K B0 H0 W te δ P ex) (hx : ∀ C, ex C → E.ex C δ) (k : ∀ d, P d → E.rt d) : SD K B0 H0 W (tRet te) δ E := fun D B H σ S L =>
  h B H σ S (fun C B' H' st hC => L.ex C B' H' σ δ st.b (S.go st) (hx C hC)) _ fun v d B1 H1 p s1 i1 => L.rt v d B1 H1 s1.b (S.st.trans s1) i1 (k d p)
/-- try: .. except X as e: a suite -/
def tTry (K : PySem.W.Frag) (c : Value) (n : Nat) (tb : WX → TS) (ts : Addr → Value → Option Addr → TS) (W : WX) : TS := fun D σ H => tb (wAs K c n ts W D) D σ H
theorem ps_tryD {X : Cx} {x nm : Str} {c : Value} {i : Nat} {body suite : List Stmt} {b₀ : Stmt} {np pos pos' : Pos} {tb : WX → TS} {ts : Addr → Value → Option Addr → TS} {Wout : WX} (hs : X.stack = X.env :: X.outer) (hf : X.env.frame = some X.env.locals) (hN : X.N.Nodup) (hi : X.N[i]? = some nm) (hln : X.env.kindOf nm = some .local) (hc : Names X x c) (tk : Takes X Wout)
    (hb : ∀ (W : WX) (pn : List (Addr × Obj)) (xe : Value → Shared → Prop), Takes (X.tr pn xe) W → PassesOwn (model X.prog X.w) X.A X.env xe → PSs (X.tr pn xe) body (tb W))
    (hsu : ∀ (a : Addr) (oe : Obj) (cls : Value) (d : Option Addr) (pn : List (Addr × Obj)), Zc cls d oe → (∃ vs, oe.data = .fields vs) → PSs (X.suite a ((a, oe) :: pn)) (b₀ :: suite) (ts a cls d)) :
    PS X (.Try body [.ExceptHandler (some (.Name x np)) (some nm) (b₀ :: suite) pos'] [] [] pos) (tTry X.K c i tb ts Wout) := ps_try_as hs hf hN hi hln hc tk hb hsu
theorem sd_try {n : Nat} {c : Value} {tb : WX → TS} {ts : Addr → Value → Option Addr → TS} (xs : Addr → List Sl → Prop) (h : ∀ W', SD K B0 H0 W' (tb W') δ { E with ex := xs })
    (hx : ∀ C δ', xs C δ' → PySem.W.exmOne K (.ref C) c = some true ∧ ∀ a, SD K B0 H0 W (ts a (.ref C) none) (δ'.set n (.raw (.ref a))) { E with nx := fun δ2 => E.nx (δ2.set n Sl.no), bk := fun δ2 => E.bk (δ2.set n Sl.no), ct := fun δ2 => E.ct (δ2.set n Sl.no) }) :
    SD K B0 H0 W (tTry K c n tb ts W) δ E := fun D B H σ S L =>
  h _ D B H σ S ⟨L.nx, L.rt, L.bk, L.ct, fun C B' H' σ' δ' e S' hC => by
    obtain ⟨h1, h2⟩ := hx C δ' hC
    refine ⟨true, h1, fun _ a ha => ?_, fun z => by cases z⟩
    have L' := L.mono e
    exact h2 a _ B' H' _ (S'.set (s := .raw (.ref a)) n rfl) ⟨fun B2 H2 σ2 δ2 e2 S2 p => L'.nx B2 H2 _ _ e2 (S2.put n none) p, L'.rt, fun B2 H2 σ2 δ2 e2 S2 p => L'.bk B2 H2 _ _ e2 (S2.put n none) p, fun B2 H2 σ2 δ2 e2 S2 p => L'.ct B2 H2 _ _ e2 (S2.put n none) p, L'.ex, L'.ro⟩, L.ro⟩
/-! ### a statement, then the rest -/
theorem q_asg {n : Nat} (δ1 : List Sl) (h : EvS K B0 H0 te δ s) (k : SD K B0 H0 W u δ1 E) (he : δ.set n s = δ1 := by rfl) : SD K B0 H0 W (tSeq (tAsg te (gName n)) u) δ E := sd_seq (sd_asg h (by subst he; exact k))
theorem q_asgO {n : Nat} (δ1 : List Sl) (h : EvN K B0 H0 te δ ds) (k : SD K B0 H0 W u δ1 E) (he : δ.set n (.own ds) = δ1 := by rfl) : SD K B0 H0 W (tSeq (tAsg te (gName n)) u) δ E := sd_seq (sd_asgO h (by subst he; exact k))
theorem q_asgR {n : Nat} {P : PyData → Prop} (h : EvR K B0 H0 te δ P) (k : ∀ d, P d → SD K B0 H0 W u (δ.set n (.dat d)) E) : SD K B0 H0 W (tSeq (tAsg te (gName n)) u) δ E := sd_seq (sd_asgR h k)
theorem q_asgX {n : Nat} {P : PyData → Prop} {ex : Addr → Prop} (h : EvX K B0 H0 W te δ P ex) (hx : ∀ C, ex C → E.ex C δ) (k : ∀ d, P d → SD K B0 H0 W u (δ.set n (.dat d)) E) : SD K B0 H0 W (tSeq (tAsg te (gName n)) u) δ E := sd_seq (sd_asgX h hx k)
theorem q_unp {g : TG} {ix : List Nat} (δ1 : List Sl) (h : EvS K B0 H0 te δ (.dat d)) (hg : TGd K B0 H0 g ix δ d δ1) (k : SD K B0 H0 W u δ1 E) : SD K B0 H0 W (tSeq (tAsg te g) u) δ E := sd_seq (sd_unp h hg k)
/-- an if that leaves, or goes on -/
theorem q_when (h : EvB K B0 H0 tt δ b) (h1 : b = true → SD K B0 H0 W t δ { E with nx := fun δ' => SD K B0 H0 W u δ' E }) (h2 : b = false → SD K B0 H0 W u δ E) : SD K B0 H0 W (tSeq (tIfS tt t tNext) u) δ E := sd_seq (sd_if h h1 fun hb => sd_next (h2 hb))
theorem q_if {t' : TS} (h : EvB K B0 H0 tt δ b) (h1 : b = true → SD K B0 H0 W t δ { E with nx := fun δ' => SD K B0 H0 W u δ' E }) (h2 : b = false → SD K B0 H0 W t' δ { E with nx := fun δ' => SD K B0 H0 W u δ' E }) : SD K B0 H0 W (tSeq (tIfS tt t t') u) δ E := sd_seq (sd_if h h1 h2)
theorem sd_when (h : EvB K B0 H0 tt δ b) (h1 : b = true → SD K B0 H0 W t δ E) (h2 : b = false → E.nx δ) : SD K B0 H0 W (tIfS tt t tNext) δ E := sd_if h h1 fun hb => sd_next (h2 hb)
theorem q_drop (h : EvS K B0 H0 te δ s) (k : SD K B0 H0 W u δ E) : SD K B0 H0 W (tSeq (tDrop te) u) δ E := sd_seq (sd_drop h k)
theorem q_app {n : Nat} (δ1 : List Sl) (hn : δ[n]? = some (Sl.own ds)) (h : EvS K B0 H0 te δ (.dat d)) (hz : ds.length < 100000) (k : SD K B0 H0 W u δ1 E) (he : δ.set n (.own (ds ++ [d])) = δ1 := by rfl) : SD K B0 H0 W (tSeq (tDrop (tBM K "list" rAppend (tVar n) (tCons te tNil))) u) δ E := sd_seq (sd_app hn h hz (by subst he; exact k))
theorem q_put {n j : Nat} (δ1 : List Sl) (hn : δ[n]? = some (Sl.own ds)) (h : EvS K B0 H0 te δ (.dat d)) (hj : EvS K B0 H0 tb δ (nI (j : Int))) (hl : j < ds.length) (k : SD K B0 H0 W u δ1 E) (he : δ.set n (.own (ds.set j d)) = δ1 := by rfl) : SD K B0 H0 W (tSeq (tAsg te (gSub (tVar n) tb rSetL)) u) δ E := sd_seq (sd_put hn h hj hl (by subst he; exact k))
theorem q_for {wi : TI} {g : TG} {tb : TS} (hw : EvW K B0 H0 wi δ ds) (P : Nat → List Sl → Prop) (h0 : P 0 δ)
    (hs : ∀ (i : Nat) (d : PyData) (δ' : List Sl), ds[i]? = some d → P i δ' → ∃ ix δ2, TGd K B0 H0 g ix δ' d δ2 ∧ SD K B0 H0 W tb δ2 { E with nx := P (i + 1), ct := P (i + 1), bk := fun δ' => SD K B0 H0 W u δ' E }) (hd : ∀ δ', P ds.length δ' → SD K B0 H0 W u δ' E) : SD K B0 H0 W (tSeq (tFor wi g tb) u) δ E := sd_seq (sd_for hw P h0 hs hd)
theorem q_while {tb : TS} (P : Nat → List Sl → Prop) (m0 : Nat) (h0 : P m0 δ)
    (hs : ∀ (m : Nat) (δ' : List Sl), P m δ' → ∃ b, EvB K B0 H0 tt δ' b ∧ (b = true → SD K B0 H0 W tb δ' { E with nx := fun δ2 => ∃ m', m' < m ∧ P m' δ2, ct := fun δ2 => ∃ m', m' < m ∧ P m' δ2, bk := fun δ' => SD K B0 H0 W u δ' E }) ∧ (b = false → SD K B0 H0 W u δ' E)) : SD K B0 H0 W (tSeq (tWhile tt tb) u) δ E := sd_seq (sd_while P m0 h0 hs)
/-! ### a def's body -/
/-- from the promise to the body by data -/
theorem run_body {A : Type} {enc : A → List Sl} {pre : A → Prop} {post : A → PyData → Prop} {N : List Str} {vs : List V} {Q : VK} {R : XK} {ts : TS} (h : SpA K enc pre post vs H Q R)
    (hb : ∀ a B, pre a → SD K B H (fun _ _ _ _ => False) ts (enc a ++ List.replicate (N.length - (enc a).length) Sl.no) { nx := fun _ => post a .none, rt := post a }) : ts { nx := fun _ H' => Q .non H', rt := Q } (L2.start N vs) H := by
  obtain ⟨B, a, e, iv, hp, q⟩ := h
  have S := sc_start (N.length - vs.length) e iv
  have hl := iv.len
  have hb' := hb a B hp
  rw [← hl] at hb'
  exact hb' _ B H _ S ⟨fun B' H' σ' δ' _ S' hp => q .non .none B' H' hp S'.st .non, fun v d B' H' _ st dv hp => q v d B' H' hp st dv, fun _ _ _ _ _ _ z => z.elim, fun _ _ _ _ _ _ z => z.elim, fun _ _ _ _ _ _ _ z => z.elim, fun _ _ _ _ _ _ _ _ _ _ _ z => z.elim⟩
/-- a def that gives a new list -/
def SpN (K : PySem.W.Frag) {A : Type} (enc : A → List Sl) (pre : A → Prop) (post : A → List PyData → Prop) : Sp := fun vs H Q _ => ∃ B a, Ex B H ∧ IsAll K B vs (enc a) ∧ pre a ∧ ∀ l ws ds B' H', post a ds → Stp B H B' H' → H l = none → B' l = none → H' l = some (.lst ws) → DtAll K B' ws ds → Q (.ref l) H'
theorem nr_call {A : Type} {enc : A → List Sl} {pre : A → Prop} {post : A → List PyData → Prop} {R : XK} {tr : TA} (a : A) (h : EvA K B0 H0 tr δ (enc a)) (hp : pre a) : EvNR K B0 H0 (tCall (SpN K enc pre post) [] R tr) δ (post a) := fun B H σ S Q q =>
  h B H σ S _ fun vs B1 H1 s1 i1 => ⟨B1, a, s1.bh, by rw [List.append_nil]; exact i1, hp, fun l ws ds B2 H2 p st f1 f2 f3 f4 => q l ws ds B2 H2 p (s1.trans st) (none_of s1.h f1) f2 f3 f4⟩
theorem n_call {A : Type} {enc : A → List Sl} {pre : A → Prop} {f : A → List PyData} {R : XK} {tr : TA} (a : A) (h : EvA K B0 H0 tr δ (enc a)) (hp : pre a) : EvN K B0 H0 (tCall (SpN K enc pre fun a ds => ds = f a) [] R tr) δ (f a) := n_of (nr_call a h hp)
theorem run_bodyN {A : Type} {enc : A → List Sl} {pre : A → Prop} {post : A → List PyData → Prop} {N : List Str} {vs : List V} {Q : VK} {R : XK} {ts : TS} (h : SpN K enc pre post vs H Q R)
    (hb : ∀ a B, pre a → SD K B H (fun _ _ _ _ => False) ts (enc a ++ List.replicate (N.length - (enc a).length) Sl.no) { nx := fun _ => False, rt := fun _ => False, ro := post a }) : ts { nx := fun _ H' => Q .non H', rt := Q } (L2.start N vs) H := by
  obtain ⟨B, a, e, iv, hp, q⟩ := h
  have S := sc_start (N.length - vs.length) e iv
  have hl := iv.len
  have hb' := hb a B hp
  rw [← hl] at hb'
  exact hb' _ B H _ S ⟨fun B' H' σ' δ' _ S' hp => hp.elim, fun v d B' H' _ st dv hp => hp.elim, fun _ _ _ _ _ _ z => z.elim, fun _ _ _ _ _ _ z => z.elim, fun _ _ _ _ _ _ _ z => z.elim, fun l vs ds B' H' _ st f1 f2 f3 f4 p => q l vs ds B' H' p st f1 f2 f3 f4⟩
/-- .. of a def that may raise -/
theorem run_bodyX {A : Type} {enc : A → List Sl} {pre : A → Prop} {bad : A → Option Addr} {post : A → PyData → Prop} {N : List Str} {vs : List V} {Q : VK} {R : XK} {ts : TS} (h : SpX K enc pre bad post vs H Q R)
    (hb : ∀ a B, pre a → SD K B H (fun cls d _ H => R cls d H) ts (enc a ++ List.replicate (N.length - (enc a).length) Sl.no) { nx := fun _ => bad a = none ∧ post a .none, rt := fun d => bad a = none ∧ post a d, ex := fun C _ => bad a = some C }) : ts { nx := fun _ H' => Q .non H', rt := Q } (L2.start N vs) H := by
  obtain ⟨B, a, e, iv, hp, qx, q⟩ := h
  have S := sc_start (N.length - vs.length) e iv
  have hl := iv.len
  have hb' := hb a B hp
  rw [← hl] at hb'
  exact hb' _ B H _ S ⟨fun B' H' σ' δ' _ S' hp => q hp.1 .non .none B' H' hp.2 S'.st .non, fun v d B' H' _ st dv hp => q hp.1 v d B' H' hp.2 st dv, fun _ _ _ _ _ _ z => z.elim, fun _ _ _ _ _ _ z => z.elim, fun C B' H' σ' δ' _ S' hC => qx C hC H' S'.st.h, fun _ _ _ _ _ _ _ _ _ _ _ z => z.elim⟩
/-- the law's body: the script at an address -/
theorem run_law {N : List Str} {ns : List Int} {sa : Addr} {Q : VK} {ts : TS} (hS : SqL K H sa (ns.map V.int)) (q : ∀ H', Q (.bl true) H') (hn : N.length = n + 1)
    (hb : ∀ B, SD K B H (fun _ _ _ _ => False) ts (.sem (scrP K ns) :: List.replicate n Sl.no) { nx := fun _ => False, rt := fun d => d = .bool true }) : ts { nx := fun _ H' => Q .non H', rt := Q } (L2.start N [.ref sa]) H := by
  have iv : IsAll K H [V.ref sa] [Sl.sem (scrP K ns)] := .cons ⟨sa, rfl, hS⟩ .nil
  have S := sc_start n (.refl H) iv
  have e : L2.start N [.ref sa] = [V.ref sa].map some ++ List.replicate n none := by
    unfold L2.start
    rw [hn]
    rfl
  rw [e]
  exact hb H _ H H _ S ⟨fun B' H' σ' δ' _ S' hp => hp.elim, fun v d B' H' _ st dv hp => by
    subst hp
    cases dv
    exact q H', fun _ _ _ _ _ _ z => z.elim, fun _ _ _ _ _ _ z => z.elim, fun _ _ _ _ _ _ _ z => z.elim, fun _ _ _ _ _ _ _ _ _ _ _ z => z.elim⟩
end
end Ja

/-! Own data layer: texts, bits, comparisons of ints' tuples. -/
namespace Ja
open PySem PySem.Spec PyProof.Rows L2 Evl Cm Dg Tx
open SX (S S_cat S_len num_S)
open TL (numL numL_lt)
def Sm (n : Nat) : Prop := n < 10 ^ 300
theorem sm_le {n m : Nat} (h : Sm n) (hm : m ≤ n) : Sm m := Nat.lt_of_le_of_lt hm h
theorem sm_of {n k : Nat} (h : n ≤ k) (hk : k < 10 ^ 300) : Sm n := Nat.lt_of_le_of_lt h hk
theorem lg {n k : Nat} (h : n < 2 ^ k) (hk : 0 < k) : n.log2 < k := by
  by_cases h0 : n = 0
  · subst h0
    exact hk
  · exact (Nat.log2_lt h0).mpr h
theorem sm_lg {n : Nat} (h : Sm n) : n.log2 < 1920 := lg (Nat.lt_of_lt_of_le h (by decide +kernel)) (by decide)
theorem sm_len {n : Nat} (h : Sm n) : (numL n).length ≤ 300 := num_len 299 n h
section
variable {K : PySem.W.Frag} {B0 H0 : Hp} {σ : L2.St} {δ : List Sl} {ta tb te to : TE} {a b : List Nat} {i j : Int} {H : Hp}
/-! ### bits -/
theorem rv_and1 : RV (fun x y H Q => ∃ (i : Int) (k : Nat), x = .int i ∧ y = .int (2 ^ k - 1) ∧ Q (.int (i % 2 ^ k)) H) (.int i) (.int 1) H (.int (i % 2)) := fun H1 _ _ q => ⟨i, 1, rfl, rfl, q H1 (Ex.refl H1)⟩
theorem d_and1 (ha : EvS K B0 H0 ta δ (nI i)) (hb : EvS K B0 H0 tb δ (nI 1)) : EvS K B0 H0 (tOp (fun x y H Q => ∃ (i : Int) (k : Nat), x = .int i ∧ y = .int (2 ^ k - 1) ∧ Q (.int (i % 2 ^ k)) H) ta tb) δ (nI (i % 2)) := d_ii ha hb fun _ => rv_and1
theorem d_shr {k : Nat} (ha : EvS K B0 H0 ta δ (nI i)) (hb : EvS K B0 H0 tb δ (nI (k : Int))) : EvS K B0 H0 (tOp (fun x y H Q => ∃ (i : Int) (k : Nat), x = .int i ∧ y = .int (k : Int) ∧ Q (.int (i / 2 ^ k)) H) ta tb) δ (nI (i / 2 ^ k)) := d_ii ha hb fun _ => rv_shr
theorem d_shl {k : Nat} (ha : EvS K B0 H0 ta δ (nI i)) (hb : EvS K B0 H0 tb δ (nI (k : Int))) (h : CShl i (k : Int)) : EvS K B0 H0 (tOp (fun x y H Q => ∃ (i : Int) (k : Nat), x = .int i ∧ y = .int (k : Int) ∧ CShl i (k : Int) ∧ Q (.int (i * 2 ^ k)) H) ta tb) δ (nI (i * 2 ^ k)) := d_ii ha hb fun _ => rv_shl h
theorem d_one {k : Nat} (ha : EvS K B0 H0 ta δ (nI 1)) (hb : EvS K B0 H0 tb δ (nI (k : Int))) (h : k ≤ 100000) : EvS K B0 H0 (tOp (fun x y H Q => ∃ k : Nat, x = .int 1 ∧ y = .int (k : Int) ∧ k ≤ 134217727 ∧ Q (.int (2 ^ k)) H) ta tb) δ (nI (2 ^ k)) := d_ii ha hb fun _ H1 _ Q q => ⟨k, rfl, rfl, by omega, q H1 (Ex.refl H1)⟩
theorem d_fdivA (ha : EvS K B0 H0 ta δ (nI i)) (hb : EvS K B0 H0 tb δ (nI j)) (h : 0 < j) (h2 : j.natAbs.log2 < 9000) : EvS K B0 H0 (tOp (rI Mi.CDivA fun i j => .int (i.fdiv j)) ta tb) δ (nI (i / j)) := d_isI (d_iC ha hb ⟨by omega, h2⟩) (Int.fdiv_eq_ediv_of_nonneg i (Int.le_of_lt h))
/-! ### texts -/
theorem d_cat (ha : EvS K B0 H0 ta δ (nS (S a))) (hb : EvS K B0 H0 tb δ (nS (S b))) (h : a.length + b.length ≤ 100000) : EvS K B0 H0 (tOp (fun x y H Q => ∃ i j, x = .str i ∧ y = .str j ∧ i.length + j.length ≤ sizeLine ∧ Q (.str (i ++ j)) H) ta tb) δ (nS (S (a ++ b))) := d_sss ha hb fun _ H1 _ Q q => ⟨S a, S b, rfl, rfl, by
  rw [S_len, S_len]
  exact sz_of h, by
  rw [S_cat]
  exact q H1 (Ex.refl H1)⟩
theorem d_strN {n : Nat} (h : EvS K B0 H0 te δ (nI (n : Int))) (hs : Sm n) : EvS K B0 H0 (tCB (fun xs H Q => ∃ i, xs = [.int i] ∧ i.natAbs.log2 < 1920 ∧ Q (.str (toString i)) H) (tCons te tNil)) δ (nS (S (numL n))) := d_cb1 h (.int _) (fun _ H1 _ Q q => ⟨(n : Int), rfl, sm_lg hs, by
  have e := num_S n
  show Q (.str (Str.ofString (toString (n : Int)))) H1
  rw [e]
  exact q H1 (Ex.refl H1)⟩) (.str _)
theorem d_join {ys : List (List Nat)} (ho : EvS K B0 H0 to δ (nS (S a))) (h : EvS K B0 H0 te δ (.dat (.list (ys.map fun y => PyData.str (S y))))) (hz : (ys.map (·.length)).sum + ys.length * a.length ≤ 100000) : EvS K B0 H0 (tM1 (fun x xs H Q => ∃ a p, ∃ ys : List Str, x = .str a ∧ xs = [.ref p] ∧ (SqL K H p (ys.map V.str) ∨ SqT K H p (ys.map V.str)) ∧
    (ys.map (·.length)).sum + ys.length * a.length ≤ 16777216 ∧ Q (.str (Txt.join a ys)) H) to te) δ (nS (S (TL.joinL a ys))) := fun B H σ Z Q q => ho B H σ Z _ fun v B1 H1 s1 i1 => by
  cases i1
  refine ⟨⟨_, rfl⟩, h B1 H1 σ (Z.go s1) _ fun w B2 H2 s2 i2 => ?_⟩
  cases i2 with
  | lst g1 g2 =>
    have e : ys.map (fun y => PyData.str (S y)) = (ys.map S).map PyData.str := by rw [List.map_map]; rfl
    rw [e] at g2
    rw [dt_strs_inv _ g2] at g1
    refine ⟨S a, _, ys.map S, rfl, rfl, .inl (sq_of (s2.bh _ _ g1)), ?_, ?_⟩
    · rw [SX.lens, List.length_map, S_len]
      omega
    · rw [SX.join_S]
      exact q _ B2 H2 (s1.trans s2) (Dt.str _)
theorem d_ixStr {c : Nat} (ha : EvS K B0 H0 ta δ (nS (S a))) (hb : EvS K B0 H0 tb δ (nI i)) (hz : a.length ≤ 100000) (h : atI a i = some c) : EvS K B0 H0 (tOp rIxS ta tb) δ (nS (S [c])) := d_sis ha hb fun _ H1 _ Q q => ⟨S a, i, c, rfl, rfl, by rw [S_len]; exact sz_of hz, by simpa using h, q H1 (Ex.refl H1)⟩
theorem signs_S (a : List Nat) : signs (S a) = a.map fun c => PyData.str (S [c]) := by
  unfold signs
  simp
theorem d_notInS {c : Nat} (ha : EvS K B0 H0 ta δ (nS (S [c]))) (hb : EvS K B0 H0 tb δ (nS (S a))) : EvS K B0 H0 (tOp (fun x y H Q => ∃ (c : Nat) (z : Str), x = .str ⟨#[c]⟩ ∧ y = .str z ∧ Q (.bl (!decide (c ∈ z.cps.toList))) H) ta tb) δ (nB (!decide (c ∈ a))) := d_ssb ha hb fun _ H1 _ Q q => ⟨c, S a, rfl, rfl, by simpa using q H1 (Ex.refl H1)⟩
theorem d_intS {n : Int} (h : EvS K B0 H0 te δ (nS (S a))) (hn : PySem.intText? (S a) = some n) (hz : a.length ≤ 640) : EvS K B0 H0 (tCB (fun xs H Q => ∃ a n, xs = [.str a] ∧ PySem.intText? a = some n ∧ a.length ≤ 640 ∧ Q (.int n) H) (tCons te tNil)) δ (nI n) := d_cb1 h (.str _) (fun _ H1 _ Q q => ⟨S a, n, rfl, hn, by rw [S_len]; exact hz, q H1 (Ex.refl H1)⟩) (.int _)
theorem d_lenSS {ta : TE} (h : EvS K B0 H0 ta δ (nS (S a))) (hl : a.length ≤ 100000) : EvS K B0 H0 (tCB (fun xs H Q => ∃ x n, xs = [x] ∧ LenV K x H n ∧ Q (.int n) H) (tCons ta tNil)) δ (nI a.length) := by
  have := d_lenS (K := K) (B0 := B0) (H0 := H0) h (by rw [S_len]; exact hl)
  rwa [S_len] at this
theorem d_eqSS (ha : EvS K B0 H0 ta δ (nS (S a))) (hb : EvS K B0 H0 tb δ (nS (S b))) : EvS K B0 H0 (tOp rEq ta tb) δ (nB (decide (a = b))) := d_isB (d_eqS ha hb) (decide_eq_decide.mpr ⟨SX.S_inj, fun z => by rw [z]⟩)
theorem d_neSS (ha : EvS K B0 H0 ta δ (nS (S a))) (hb : EvS K B0 H0 tb δ (nS (S b))) : EvS K B0 H0 (tOp rNe ta tb) δ (nB (!decide (a = b))) := d_isB (d_neS ha hb) (congrArg _ (decide_eq_decide.mpr ⟨SX.S_inj, fun z => by rw [z]⟩))
end
/-! ### data without dicts, not deep: shaped -/
theorem lay_ints : ∀ (is : List Int), PyData.canLayAll0 (is.map PyData.int) = true
  | [] => rfl
  | i :: r => by
    show (PyData.canLay0 (.int i) && PyData.canLayAll0 (r.map PyData.int)) = true
    rw [lay_ints r]
    rfl
theorem dep_ints : ∀ (is : List Int), PyData.depthAll (is.map PyData.int) = 0
  | [] => rfl
  | i :: r => by
    show max 0 (PyData.depthAll (r.map PyData.int)) = 0
    rw [dep_ints r]
    rfl
/-- laid, and at most n deep -/
def Shp (n : Nat) (d : PyData) : Prop := PyData.canLay0 d = true ∧ PyData.depth d ≤ n
def ShpAll (n : Nat) (ds : List PyData) : Prop := PyData.canLayAll0 ds = true ∧ PyData.depthAll ds ≤ n
theorem Shp.ok {n : Nat} {d : PyData} (h : Shp n d) (hn : n ≤ 64 := by decide) : SeqAt.shaped d = true := by
  unfold SeqAt.shaped
  rw [h.1, Bool.true_and]
  exact decide_eq_true (Nat.le_trans h.2 hn)
theorem shp_int {n : Nat} (i : Int) : Shp n (.int i) := ⟨rfl, Nat.zero_le _⟩
theorem shp_str {n : Nat} (i : Str) (h : PyData.canLay0 (.str i) = true := by decide) : Shp n (.str i) := ⟨h, Nat.zero_le _⟩
theorem shp_bool {n : Nat} (b : Bool) : Shp n (.bool b) := ⟨rfl, Nat.zero_le _⟩
theorem shp_none {n : Nat} : Shp n .none := ⟨rfl, Nat.zero_le _⟩
theorem shp_nil {n : Nat} : ShpAll n [] := ⟨rfl, Nat.zero_le _⟩
theorem shp_cons {n : Nat} {d : PyData} {ds : List PyData} (h : Shp n d) (g : ShpAll n ds) : ShpAll n (d :: ds) := ⟨by
  show (PyData.canLay0 d && PyData.canLayAll0 ds) = true
  rw [h.1, g.1]
  rfl, by
  show max (PyData.depth d) (PyData.depthAll ds) ≤ n
  have := h.2
  have := g.2
  omega⟩
theorem shp_tup {n : Nat} {ds : List PyData} (h : ShpAll n ds) : Shp (n + 1) (.tuple ds) := ⟨h.1, Nat.succ_le_succ h.2⟩
theorem shp_lst {n : Nat} {ds : List PyData} (h : ShpAll n ds) : Shp (n + 1) (.list ds) := ⟨h.1, Nat.succ_le_succ h.2⟩
theorem shp_map {A : Type} {n : Nat} {f : A → PyData} (h : ∀ x, Shp n (f x)) : ∀ xs : List A, ShpAll n (xs.map f)
  | [] => shp_nil
  | x :: r => shp_cons (h x) (shp_map h r)
theorem eqv_self {d : PyData} (h : SeqAt.shaped d = true) : PyData.eqv d d = true := eqvS h
/-- a function to data by which equal data come from equal things -/
structure Enc {A : Type} [DecidableEq A] (f : A → PyData) : Prop where
  eq : ∀ x y, PyData.eqv (f x) (f y) = decide (x = y)
  sh : ∃ n, n ≤ 30 ∧ ∀ x, Shp n (f x)
theorem eqv_map {A : Type} [DecidableEq A] {f : A → PyData} (h : ∀ x y, PyData.eqv (f x) (f y) = decide (x = y)) : ∀ l m : List A, PyData.eqvAll (l.map f) (m.map f) = decide (l = m)
  | [], [] => rfl
  | [], _ :: _ => rfl
  | _ :: _, [] => rfl
  | a :: l, b :: m => by
    have e : PyData.eqvAll ((a :: l).map f) ((b :: m).map f) = (PyData.eqv (f a) (f b) && PyData.eqvAll (l.map f) (m.map f)) := by simp only [List.map_cons, PyData.eqvAll]
    rw [e, h, eqv_map h l m]
    by_cases h1 : a = b
    · by_cases h2 : l = m
      · simp [h1, h2]
      · simp [h1, h2]
    · simp [h1]
theorem any_map {A : Type} [DecidableEq A] {f : A → PyData} (h : ∀ x y, PyData.eqv (f x) (f y) = decide (x = y)) (x : A) : ∀ l : List A, ((l.map f).any fun z => PyData.eqv z (f x)) = decide (x ∈ l)
  | [] => rfl
  | a :: l => by
    rw [List.map_cons, List.any_cons, any_map h x l, h]
    by_cases h1 : a = x
    · simp [h1]
    · have h2 : ¬ x = a := fun z => h1 z.symm
      simp [h1, h2]
section
variable {K : PySem.W.Frag} {B0 H0 : Hp} {δ : List Sl} {ta tb : TE} {A : Type} [DecidableEq A] {f : A → PyData} {x y : A} {l m : List A}
theorem Enc.shx (h : Enc f) (x : A) : SeqAt.shaped (f x) = true := by
  obtain ⟨n, h1, h2⟩ := h.sh
  exact (h2 x).ok (by omega)
theorem Enc.shl (h : Enc f) (l : List A) : SeqAt.shaped (.list (l.map f)) = true := by
  obtain ⟨n, h1, h2⟩ := h.sh
  exact (shp_lst (shp_map h2 l)).ok (by omega)
theorem d_eqE (h : Enc f) (ha : EvS K B0 H0 ta δ (.dat (f x))) (hb : EvS K B0 H0 tb δ (.dat (f y))) : EvS K B0 H0 (tOp (rEqD K) ta tb) δ (nB (decide (x = y))) := d_isB (d_eqD ha hb (h.shx x) (h.shx y)) (h.eq x y)
theorem d_neE (h : Enc f) (ha : EvS K B0 H0 ta δ (.dat (f x))) (hb : EvS K B0 H0 tb δ (.dat (f y))) : EvS K B0 H0 (tOp (rNeD K) ta tb) δ (nB (!decide (x = y))) := d_isB (d_neD ha hb (h.shx x) (h.shx y)) (by rw [h.eq x y])
theorem d_eqEL (h : Enc f) (ha : EvS K B0 H0 ta δ (.dat (.list (l.map f)))) (hb : EvS K B0 H0 tb δ (.dat (.list (m.map f)))) : EvS K B0 H0 (tOp (rEqD K) ta tb) δ (nB (decide (l = m))) := d_isB (d_eqD ha hb (h.shl l) (h.shl m)) (by
  have e : PyData.eqv (.list (l.map f)) (.list (m.map f)) = PyData.eqvAll (l.map f) (m.map f) := by simp only [PyData.eqv]
  rw [e, eqv_map h.eq])
theorem d_neEL (h : Enc f) (ha : EvS K B0 H0 ta δ (.dat (.list (l.map f)))) (hb : EvS K B0 H0 tb δ (.dat (.list (m.map f)))) : EvS K B0 H0 (tOp (rNeD K) ta tb) δ (nB (!decide (l = m))) := d_isB (d_neD ha hb (h.shl l) (h.shl m)) (by
  have e : PyData.eqv (.list (l.map f)) (.list (m.map f)) = PyData.eqvAll (l.map f) (m.map f) := by simp only [PyData.eqv]
  rw [e, eqv_map h.eq])
theorem d_inE (h : Enc f) (ha : EvS K B0 H0 ta δ (.dat (f x))) (hb : EvS K B0 H0 tb δ (.dat (.list (l.map f)))) : EvS K B0 H0 (tOp (rInD K) ta tb) δ (nB (decide (x ∈ l))) := d_isB (d_inD ha hb (h.shx x) (h.shl l)) (any_map h.eq x l)
theorem d_niE (h : Enc f) (ha : EvS K B0 H0 ta δ (.dat (f x))) (hb : EvS K B0 H0 tb δ (.dat (.list (l.map f)))) : EvS K B0 H0 (tOp (rNotInD K) ta tb) δ (nB (!decide (x ∈ l))) := d_isB (d_niD ha hb (h.shx x) (h.shl l)) (by rw [any_map h.eq x l])
/-- the same data on both sides -/
theorem d_neSame {d : PyData} (ha : EvS K B0 H0 ta δ (.dat d)) (hb : EvS K B0 H0 tb δ (.dat d)) (h : SeqAt.shaped d = true) : EvS K B0 H0 (tOp (rNeD K) ta tb) δ (nB false) := d_isB (d_neD ha hb h h) (by rw [eqv_self h]; rfl)
theorem d_eqSame {d : PyData} (ha : EvS K B0 H0 ta δ (.dat d)) (hb : EvS K B0 H0 tb δ (.dat d)) (h : SeqAt.shaped d = true) : EvS K B0 H0 (tOp (rEqD K) ta tb) δ (nB true) := d_isB (d_eqD ha hb h h) (eqv_self h)
end
theorem enc_ints : Enc (fun l : List Int => PyData.tuple (l.map PyData.int)) := by
  refine ⟨fun x y => ?_, ⟨1, by decide, fun x => ⟨lay_ints x, by
    show PyData.depthAll (x.map PyData.int) + 1 ≤ 1
    rw [dep_ints]
    omega⟩⟩⟩
  have e : PyData.eqv (.tuple (x.map PyData.int)) (.tuple (y.map PyData.int)) = PyData.eqvAll (x.map PyData.int) (y.map PyData.int) := by simp only [PyData.eqv]
  rw [e, eqv_map fun a b => ?_]
  show (a == b) = _
  rfl
end Ja

/-! Own data layer: comprehensions of two clauses. -/
namespace Ja
open PySem PySem.Spec PyProof.Rows L2 Evl Cm
def noOwn : List Sl → Bool
  | [] => true
  | .own _ :: _ => false
  | _ :: r => noOwn r
theorem noOwn_at : ∀ {δ : List Sl}, noOwn δ = true → ∀ {n : Nat} {ds : List PyData}, δ[n]? ≠ some (Sl.own ds)
  | [], _, n, ds, e => by simp at e
  | .no :: r, h, 0, ds, e => by cases e
  | .raw _ :: r, h, 0, ds, e => by cases e
  | .dat _ :: r, h, 0, ds, e => by cases e
  | .sem _ :: r, h, 0, ds, e => by cases e
  | .own _ :: r, h, _, ds, e => by cases h
  | .no :: r, h, n + 1, ds, e => noOwn_at (δ := r) h (n := n) e
  | .raw _ :: r, h, n + 1, ds, e => noOwn_at (δ := r) h (n := n) e
  | .dat _ :: r, h, n + 1, ds, e => noOwn_at (δ := r) h (n := n) e
  | .sem _ :: r, h, n + 1, ds, e => noOwn_at (δ := r) h (n := n) e
/-- a list at D that grows, over the base B1 and the heap H1 -/
def Grow (K : PySem.W.Frag) (B1 H1 : Hp) (D : Addr) (H : Hp) (ds : List PyData) : Prop := ∃ B' ws, Ex B1 B' ∧ Ex B' H ∧ Ex H1 H ∧ (∀ a, B' a ≠ none → B1 a ≠ none ∨ H1 a = none) ∧ B' D = none ∧ H D = some (.lst ws) ∧ DtAll K B' ws ds
section
variable {K : PySem.W.Frag} {B0 H0 B H B' H' B1 H1 : Hp} {σ : L2.St} {δ δ1 δ2 : List Sl} {ta tb tc td te : TE} {tt : TT} {d e : PyData} {ds es : List PyData} {D : Addr}
theorem Grow.start (hb : Ex B1 H1) (hD : H1 D = none) : Grow K B1 H1 D (upd H1 D (.lst [])) [] :=
  ⟨B1, [], .refl _, Ex.mut hb (none_of hb hD), Ex.new hD, fun a h => .inl h, none_of hb hD, upd_same, .nil⟩
theorem n_lc2 {A A1 : Type} {wi wi1 : TI} {g g1 : TG} {vs vs1 ix ix1 : List Nat} (xs : List A) (enc : A → PyData) (δt : A → List Sl) (ys : A → List A1) (enc1 : A → A1 → PyData) (δu : A → A1 → List Sl) (v : A → A1 → PyData) (hw : EvW K B0 H0 wi δ (xs.map enc)) (hix : ∀ i ∈ ix, i ∈ vs) (hix1 : ∀ i ∈ ix1, i ∈ vs1) (hz : (xs.flatMap fun x => (ys x).map (v x)).length ≤ 40000) (hno : ∀ x ∈ xs, noOwn (δt x) = true)
    (hg : ∀ x ∈ xs, TGd K B0 H0 g ix (wipeD δ vs) (enc x) (δt x)) (hw1 : ∀ x ∈ xs, EvW K B0 H0 wi1 (δt x) ((ys x).map (enc1 x))) (hg1 : ∀ x ∈ xs, ∀ y ∈ ys x, TGd K B0 H0 g1 ix1 (wipeD (δt x) vs1) (enc1 x y) (δu x y)) (he : ∀ x ∈ xs, ∀ y ∈ ys x, EvS K B0 H0 te (δu x y) (.dat (v x y))) :
    EvN K B0 H0 (tLc2 wi g tYes wi1 g1 tYes te vs vs1) δ (xs.flatMap fun x => (ys x).map (v x)) := fun B H σ S Q q => by
  refine hw B H σ S _ fun J G Y B1 H1 s1 W hG hY => ?_
  intro D hD
  have hBD : B1 D = none := none_of s1.bh hD
  have S1 : Sc K B0 H0 B1 H1 σ δ := S.go s1
  let P : Nat → Hp → Prop := fun i H' => Grow K B1 H1 D H' ((xs.take i).flatMap fun x => (ys x).map (v x))
  have hlen : (xs.map enc).length = xs.length := List.length_map ..
  have p0 : P 0 (upd H1 D (.lst [])) := by
    show Grow K B1 H1 D (upd H1 D (.lst [])) ((xs.take 0).flatMap fun x => (ys x).map (v x))
    rw [List.take_zero]
    exact Grow.start s1.bh hD
  refine ⟨fun i m H' => m = xs.length - i ∧ i ≤ xs.length ∧ P i H', ⟨xs.length, by simp, Nat.zero_le _, p0⟩, ?_⟩
  rintro i m H2 ⟨rfl, hi, B2, ws, e1, e2, e3, hn, e4, e5, e6⟩
  have gH := hG B2 H2 e1 e2
  by_cases hlt : i < xs.length
  · refine .inr ⟨W.goes i H2 (by rw [hlen]; exact hlt) gH, P (i + 1), fun H' p' => ⟨xs.length - (i + 1), by omega, rfl, hlt, p'⟩, fun x H3 yl => ?_⟩
    have y := W.yields i H2 x H3 (by rw [hlen]; exact hlt) gH yl
    have hx : (xs.map enc)[i]? = some (enc xs[i]) := by rw [List.getElem?_map, List.getElem?_eq_getElem hlt]; rfl
    obtain ⟨B3, s3, dx⟩ := hY i H2 x H3 B2 _ hx e1 e2 y
    have hmem : xs[i] ∈ xs := List.getElem_mem hlt
    have hDn : H2 D ≠ none := by rw [e5]; exact fun z => by cases z
    have keepD : ∀ {B5 H5 : Hp}, Stp B2 H2 B5 H5 → B5 D = none := fun {B5 H5} s5 => by
      cases e : B5 D with
      | none => rfl
      | some o =>
        rcases s5.n D (by rw [e]; exact fun z => by cases z) with z | z
        · exact absurd e4 z
        · exact absurd z hDn
    have st12 : Stp B1 H1 B2 H2 := ⟨e1, e2, e3, hn⟩
    have S3 : Sc K B0 H0 B3 H3 σ δ := (S1.go st12).go s3
    refine hg _ hmem B3 H3 (wipe σ vs) x (S3.wipe vs) dx _ fun σ2 S2 w2 => ⟨?_, ?_⟩
    · rw [w2 vs hix]
      exact wipe_id fun _ h => h
    · simp only [tYes, if_true]
      refine hw1 _ hmem B3 H3 σ2 S2 _ fun J1 G1 Y1 B4 H4 s4 W1 hG1 hY1 => ?_
      have s24 := s3.trans s4
      have hlen1 : ((ys xs[i]).map (enc1 xs[i])).length = (ys xs[i]).length := List.length_map ..
      let pre := (xs.take i).flatMap fun x => (ys x).map (v x)
      -- the inner loop: over the base B4 all the while
      let P1 : Nat → Hp → Prop := fun j H' => ∃ B' ws, Ex B4 B' ∧ Ex B' H' ∧ Ex H1 H' ∧ (∀ a, B' a ≠ none → B1 a ≠ none ∨ H1 a = none) ∧ B' D = none ∧ H' D = some (.lst ws) ∧ DtAll K B' ws (pre ++ ((ys xs[i]).take j).map (v xs[i]))
      have tk : xs.take (i + 1) = xs.take i ++ [xs[i]] := by rw [List.take_succ, List.getElem?_eq_getElem hlt]; rfl
      refine ⟨fun j k H' => k = (ys xs[i]).length - j ∧ j ≤ (ys xs[i]).length ∧ P1 j H', ⟨_, rfl, Nat.zero_le _, ?_⟩, ?_⟩
      · refine ⟨B4, ws, .refl _, s24.bh, e3.trans s24.h, (st12.trans s24).n, keepD s24, s24.h _ _ e5, ?_⟩
        rw [List.take_zero, List.map_nil, List.append_nil]
        exact dts_mono s24.b _ _ e6
      · rintro j k H5 ⟨rfl, hj, B5, us, f1, f2, f3, fn, f4, f5, f6⟩
        have gH1 := hG1 B5 H5 f1 f2
        by_cases hjl : j < (ys xs[i]).length
        · refine .inr ⟨W1.goes j H5 (by rw [hlen1]; exact hjl) gH1, P1 (j + 1), fun H' p' => ⟨(ys xs[i]).length - (j + 1), by omega, rfl, hjl, p'⟩, fun z H6 zl => ?_⟩
          have yz := W1.yields j H5 z H6 (by rw [hlen1]; exact hjl) gH1 zl
          have hz1 : ((ys xs[i]).map (enc1 xs[i]))[j]? = some (enc1 xs[i] (ys xs[i])[j]) := by rw [List.getElem?_map, List.getElem?_eq_getElem hjl]; rfl
          obtain ⟨B6, s6, dz⟩ := hY1 j H5 z H6 B5 _ hz1 f1 f2 yz
          have hm1 : (ys xs[i])[j] ∈ ys xs[i] := List.getElem_mem hjl
          have hDn5 : H5 D ≠ none := by rw [f5]; exact fun z => by cases z
          have keep5 : ∀ {B7 H7 : Hp}, Stp B5 H5 B7 H7 → B7 D = none := fun {B7 H7} s7 => by
            cases e : B7 D with
            | none => rfl
            | some o =>
              rcases s7.n D (by rw [e]; exact fun z => by cases z) with z | z
              · exact absurd f4 z
              · exact absurd z hDn5
          have st15 : Stp B1 H1 B5 H5 := ⟨(st12.trans s24).b.trans f1, f2, f3, fn⟩
          -- the slots within: σ2 over δt
          have S5 : Sc K B0 H0 B5 H5 σ2 (δt xs[i]) := by
            have S4 := S2.go s4
            refine ⟨S1.st.trans st15, S4.len, fun n t ht hv => ?_, fun n ds hd => ?_, S4.dis⟩
            · obtain ⟨w, q1, q2⟩ := S4.val n t ht hv
              exact ⟨w, q1, q2.mono f1⟩
            · exact absurd hd (noOwn_at (hno _ hmem))
          have S6 := S5.go s6
          refine hg1 _ hmem _ hm1 B6 H6 (wipe σ2 vs1) z (S6.wipe vs1) dz _ fun σ3 T3 w3 => ⟨?_, ?_⟩
          · rw [w3 vs1 hix1]
            exact wipe_id fun _ h => h
          · refine he _ hmem _ hm1 B6 H6 σ3 T3 _ fun u B7 H7 s7 i7 => ?_
            have s57 := s6.trans s7
            have sAll := st15.trans s57
            refine ⟨us, s57.h _ _ f5, ?_, B7, us ++ [u], f1.trans s57.b, Ex.mut s57.bh (keep5 s57), Ex.mut sAll.h hD, sAll.n, keep5 s57, upd_same, ?_⟩
            · rw [f6.len]
              have h1 : (pre ++ ((ys xs[i]).take j).map (v xs[i])).length ≤ (xs.flatMap fun x => (ys x).map (v x)).length := by
                have e : xs = xs.take i ++ xs[i] :: xs.drop (i + 1) := by rw [← List.drop_eq_getElem_cons hlt, List.take_append_drop]
                have hp : pre.length = ((xs.take i).flatMap fun x => (ys x).map (v x)).length := rfl
                conv => rhs; rw [e]
                rw [List.flatMap_append, List.flatMap_cons, List.length_append, List.length_append, List.length_append, List.length_map, List.length_map, List.length_take]
                omega
              exact sz_lt (by omega)
            · have tk1 : (ys xs[i]).take (j + 1) = (ys xs[i]).take j ++ [(ys xs[i])[j]] := by rw [List.take_succ, List.getElem?_eq_getElem hjl]; rfl
              rw [tk1, List.map_append, ← List.append_assoc]
              exact (dts_mono s57.b _ _ f6).app (.cons i7 .nil)
        · have e : j = (ys xs[i]).length := by omega
          subst e
          refine .inl ⟨by have := W1.stops H5 gH1; rwa [hlen1] at this, ?_⟩
          refine ⟨B5, us, (st12.trans s24).b.trans f1, f2, f3, fn, f4, f5, ?_⟩
          rw [List.take_length] at f6
          rw [tk, List.flatMap_append]
          show DtAll K B5 us (pre ++ ((ys xs[i]).map (v xs[i]) ++ []))
          rw [List.append_nil]
          exact f6
  · have e : i = xs.length := by omega
    subst e
    refine .inl ⟨by have := W.stops H2 gH; rwa [hlen] at this, ?_⟩
    rw [List.take_length] at e6
    exact q D ws B2 H2 (s1.trans ⟨e1, e2, e3, hn⟩) (none_of s1.h hD) e4 e5 e6
end
end Ja

/-! Own data layer: list(zip(xs, ys)) of two lists. -/
namespace Ja
open PySem PySem.Spec PyProof.Rows L2 Evl Cm
theorem zl_nolen : typeLookup (.type "zip") "__len__" = pure none := by rw [typeLookup_type, builtinLookup_eq_fast]; kernel_rfl
theorem zl_nohint : typeLookup (.type "zip") "__length_hint__" = pure none := by rw [typeLookup_type, builtinLookup_eq_fast]; kernel_rfl
/-- the zip at its turn i, whether its tuple was given out or not -/
def ZSt (z TI TO i1 i2 l1 l2 : Addr) (us ws : Array Value) (S : Addr) (i : Nat) (h : Heap) : Prop :=
  IsPair h TI (.ref i1) (.ref i2) ∧ h.IsListIter i1 l1 i ∧ h.IsListIter i2 l2 i ∧ h.IsList l1 us ∧ h.IsList l2 ws ∧
    ((IsZip h z TI TO .none ∧ ∃ a b, IsPair h TO a b) ∨ ∃ T f oT, IsZipHeld h z TI TO T f ∧ h.get? T = some oT ∧ T ≠ z ∧ T ≠ i1 ∧ T ≠ i2 ∧ T ≠ S)
section
variable {z TI TO i1 i2 l1 l2 S : Addr} {us ws : Array Value} {i : Nat} {h h' : Heap}
theorem ZSt.at (st : ZSt z TI TO i1 i2 l1 l2 us ws S i h) (hS : S ∉ [z, TI, TO, i1, i2, l1, l2]) (k : ∀ b o, b ≠ S → h.get? b = some o → h'.get? b = some o) : ZSt z TI TO i1 i2 l1 l2 us ws S i h' := by
  simp only [List.mem_cons, List.not_mem_nil, or_false, not_or] at hS
  obtain ⟨dz, dTI, dTO, di1, di2, dl1, dl2⟩ := hS
  obtain ⟨hTI, h1, h2, hl1, hl2, hz⟩ := st
  refine ⟨k _ _ (Ne.symm dTI) hTI, h1.at fun o e => k _ o (Ne.symm di1) e, h2.at fun o e => k _ o (Ne.symm di2) e, hl1.at fun o e => k _ o (Ne.symm dl1) e, hl2.at fun o e => k _ o (Ne.symm dl2) e, ?_⟩
  rcases hz with ⟨hz, a, b, hTO⟩ | ⟨T, f, oT, hz, hT, r1, r2, r3, r4⟩
  · exact .inl ⟨k _ _ (Ne.symm dz) hz, a, b, k _ _ (Ne.symm dTO) hTO⟩
  · exact .inr ⟨T, f, oT, k _ _ (Ne.symm dz) hz, k _ _ r4 hT, r1, r2, r3, r4⟩
theorem ZSt.ty {s : Shared} (st : ZSt z TI TO i1 i2 l1 l2 us ws S i s.heap) : s.TypeIs (.ref z) "zip" := by
  obtain ⟨_, _, _, _, _, hz⟩ := st
  rcases hz with ⟨hz, _⟩ | ⟨T, f, oT, hz, _⟩
  · exact ⟨_, hz, rfl⟩
  · exact ⟨_, hz, rfl⟩
theorem ZSt.self {prog : Program} {w : World} {A : Around} {s : Shared} {Q : Value → Shared → Prop} {E : Value → Shared → Prop} (st : ZSt z TI TO i1 i2 l1 l2 us ws S i s.heap) (h : Q (.ref z) s) : wpAny (model prog w) A (pyIter (.ref z)) Q E s := by
  have hT := st.ty
  obtain ⟨_, _, _, _, _, hz⟩ := st
  refine wpAny_pyIter_slot hT F.slot_zip_iter (wpAny_call_entry F.slot_zip_iter hT F.entry_zip_iter ?_ (F.args_zip_iter_1 _))
  show wpAny _ _ (ret (.ref z)) _ _ s
  exact wpAny_pure ⟨_, rfl, "zip", _, hT, F.slot_zip_next.lookup, h⟩
/-- the next pair -/
theorem ZSt.item {prog : Program} {w : World} {A : Around} {s : Shared} {x y : Value} {Q : Option Value → Shared → Prop} {E : Value → Shared → Prop} (D : ZipApart z TI TO i1 i2 l1 l2) (st : ZSt z TI TO i1 i2 l1 l2 us ws S i s.heap) (hS : S < s.heap.objs.size) (hx : us[i]? = some x) (hy : ws[i]? = some y)
    (q : ∀ h', ZSt z TI TO i1 i2 l1 l2 us ws S (i + 1) h' → IsPair h' s.heap.objs.size x y → h'.objs.size = s.heap.objs.size + 1 → (∀ b o, b ∉ [z, TI, TO, i1, i2] → s.heap.get? b = some o → h'.get? b = some o) → Q (some (.ref s.heap.objs.size)) { s with heap := h' }) :
    wpAny (model prog w) A (pyNext (.ref z)) Q E s := by
  obtain ⟨hTI, h1, h2, hl1, hl2, hz⟩ := st
  have lt : ∀ {c o}, s.heap.get? c = some o → s.heap.objs.size ≠ c := fun e => Nat.ne_of_gt (Heap.lt_size e)
  have n1 : s.heap.objs.size ≠ i1 := let ⟨_, e, _⟩ := h1; lt e
  have n2 : s.heap.objs.size ≠ i2 := let ⟨_, e, _⟩ := h2; lt e
  rcases hz with ⟨hz, a, b, hTO⟩ | ⟨T, f, oT, hz, hT, r1, r2, r3, r4⟩
  · refine wpAny_pyNext_zip_item D hz hTI hTO h1 h2 hl1 hl2 hx hy fun h' a1 a2 a3 a4 a5 a6 hk => ?_
    exact q h' ⟨hk _ _ D.TIz D.TITO D.TIi1 D.TIi2 hTI, a3, a4, hl1.at fun o e => hk _ o D.l1z D.l1TO D.l1i1 D.l1i2 e, hl2.at fun o e => hk _ o D.l2z D.l2TO D.l2i1 D.l2i2 e,
      .inr ⟨s.heap.objs.size, false, _, a1, a5, lt hz, n1, n2, Nat.ne_of_gt hS⟩⟩ a5 a6 fun c o hc e => hk c o (fun x => hc (by simp [x])) (fun x => hc (by simp [x])) (fun x => hc (by simp [x])) (fun x => hc (by simp [x])) e
  · refine wpAny_pyNext_zip_item_held D hz hT hTI h1 h2 hl1 hl2 hx hy fun h' a1 a3 a4 a5 a6 hk => ?_
    exact q h' ⟨hk _ _ D.TIz D.TIi1 D.TIi2 hTI, a3, a4, hl1.at fun o e => hk _ o D.l1z D.l1i1 D.l1i2 e, hl2.at fun o e => hk _ o D.l2z D.l2i1 D.l2i2 e,
      .inr ⟨T, true, oT, a1, hk _ _ r1 r2 r3 hT, r1, r2, r3, r4⟩⟩ a5 a6 fun c o hc e => hk c o (fun x => hc (by simp [x])) (fun x => hc (by simp [x])) (fun x => hc (by simp [x])) e
theorem ZSt.done {prog : Program} {w : World} {A : Around} {s : Shared} {Q : Option Value → Shared → Prop} {E : Value → Shared → Prop} (hh : A.handled = none) (D : ZipApart z TI TO i1 i2 l1 l2) (st : ZSt z TI TO i1 i2 l1 l2 us ws S i s.heap) (hend : us[i]? = none ∨ ws[i]? = none)
    (q : ∀ h', (∀ b o, b ∉ [z, TI, TO, i1, i2] → s.heap.get? b = some o → h'.get? b = some o) → Q none { s with heap := h' }) : wpAny (model prog w) A (pyNext (.ref z)) Q E s := by
  obtain ⟨hTI, h1, h2, hl1, hl2, hz⟩ := st
  rcases hz with ⟨hz, a, b, hTO⟩ | ⟨T, f, oT, hz, hT, r1, r2, r3, r4⟩
  · exact wpAny_pyNext_zip_end hh D hz hTI hTO h1 h2 hl1 hl2 hend fun h' hk => q h' fun c o hc e => hk c o (fun x => hc (by simp [x])) (fun x => hc (by simp [x])) (fun x => hc (by simp [x])) (fun x => hc (by simp [x])) e
  · exact wpAny_pyNext_zip_end_held hh D hz hT hTI h1 h2 hl1 hl2 hend fun h' hk => q h' fun c o hc e => hk c o (fun x => hc (by simp [x])) (fun x => hc (by simp [x])) (fun x => hc (by simp [x])) e
end
/-- vs: references to new pairs of xs and ys -/
def Prs (H1 H : Hp) (xs ys vs : List V) : Prop := ∀ j, j < vs.length → ∃ T x y, vs[j]? = some (.ref T) ∧ xs[j]? = some x ∧ ys[j]? = some y ∧ H T = some (.tup [x, y]) ∧ H1 T = none
section
variable {X : Cx} {pins : List (Addr × Obj)} {σ : L2.St} {z TI TO i1 i2 l1 l2 S : Addr} {xs ys : List V} {us ws : List Value} {H1 : Hp}
theorem loop_zip {A : Around} {R : Result → Shared → Prop} (hh : A.in1.handled = none) (D : ZipApart z TI TO i1 i2 l1 l2) (hS : S ∉ [z, TI, TO, i1, i2, l1, l2]) (rv : Vals xs us) (rv2 : Vals ys ws) (hl : xs.length = ys.length) (hz : xs.length ≤ 40000) (res : Value) (hS1 : H1 S = none)
    (hR : ∀ s' H' vs', Inv X pins σ H' s' → Ex H1 H' → H' S = some (.lst vs') → vs'.length = xs.length → Prs H1 H' xs ys vs' → R (.ok (.ret res)) s') :
    ∀ (k i : Nat) (s : Shared) (H : Hp) (vs : List V), xs.length - i = k → i ≤ xs.length → ZSt z TI TO i1 i2 l1 l2 us.toArray ws.toArray S i s.heap → Inv X pins σ H s → (∀ b ∈ [z, TI, TO, i1, i2], FpOk X pins H b) → (∀ b ∈ [z, TI, TO, i1, i2], b < s.heap.objs.size) → Ex H1 H → H S = some (.lst vs) → vs.length = i → Prs H1 H xs ys vs →
      codeAny (model X.prog X.w) A (.builtin "list.extend.loop" ⟨[.ref S, .ref z, res], []⟩) R s := by
  intro k
  induction k with
  | zero =>
    intro i s H vs hk hi st I hf hb0 e1 e2 e3 e4
    refine codeAny_builtin F.entry_extend_loop ?_
    rw [Around.under_plainId F.plain_extend_loop _]
    show wpAny _ A.in1 (pyNext (.ref z) >>= _) _ _ s
    have hend : us.toArray[i]? = none ∨ ws.toArray[i]? = none := .inl (by
      have := rv.length
      simp
      omega)
    refine wpAny_bind (st.done hh D hend fun h' hkp => wpAny_pure ?_)
    exact hR _ H vs (I.turnedL (t' := s.toks) hkp hf) e1 e2 (by omega) e4
  | succ k ih =>
    intro i s H vs hk hi st I hf hb0 e1 e2 e3 e4
    have hlt : i < xs.length := by omega
    have hlt2 : i < ys.length := by omega
    obtain ⟨u, hu, ru⟩ := rv.get (List.getElem?_eq_getElem hlt)
    obtain ⟨u2, hu2, ru2⟩ := rv2.get (List.getElem?_eq_getElem hlt2)
    refine codeAny_builtin F.entry_extend_loop ?_
    rw [Around.under_plainId F.plain_extend_loop _]
    show wpAny _ A.in1 (pyNext (.ref z) >>= _) _ _ s
    obtain ⟨hz1, its, n, r, hlen, hSo⟩ := I.lstM e2
    refine wpAny_bind (st.item D (Heap.lt_size hSo) (x := u) (y := u2) (by simpa using hu) (by simpa using hu2) fun h' st' hT hsz hkp => ?_)
    have new : ObjOk X.prog X.w (upd H s.heap.objs.size (.tup [xs[i], ys[i]])) h' s.heap.objs.size (.tup [xs[i], ys[i]]) :=
      ⟨by show 2 ≤ sizeLine; decide, [u, u2], .cons ru (.cons ru2 .nil), ⟨_, hT, rfl, _, rfl⟩⟩
    have hfr : H s.heap.objs.size = none := I.hok.fresh (Nat.le_refl _)
    have I1 : Inv X pins σ (upd H s.heap.objs.size (.tup [xs[i], ys[i]])) { s with heap := h' } := I.turnedNew (t' := s.toks) hkp hf (Nat.le_refl _) new
    have hST : S ≠ s.heap.objs.size := Nat.ne_of_lt (Heap.lt_size hSo)
    have e2' : upd H s.heap.objs.size (.tup [xs[i], ys[i]]) S = some (.lst vs) := by rw [upd_ne hST]; exact e2
    obtain ⟨_, its', n', r', hlen', hSo'⟩ := I1.lstM e2'
    show wpAny _ A.in1 (updateSeq S (·.push (.ref s.heap.objs.size)) >>= _) _ _ _
    refine wpAny_bind ?_
    refine wpAny_updateSeq (s := { s with heap := h' }) hSo' rfl (wpAny_pure ⟨plainId_quiet F.plain_extend_loop _, ?_⟩) (by
      rw [List.size_toArray]
      exact sz_of (by omega)) (by
      show (its'.toArray.push (.ref s.heap.objs.size)).size ≤ sizeLine + 1
      rw [Array.size_push, List.size_toArray]
      have : its'.length ≤ sizeLine := sz_of (by omega)
      omega)
    have I2 := I1.lset (its' := its' ++ [.ref s.heap.objs.size]) (f := (·.push (.ref s.heap.objs.size))) (ys := vs ++ [V.ref s.heap.objs.size]) (t' := s.toks) e2' hSo' (by simp) (r'.append (.cons (show L2.RelV (V.ref s.heap.objs.size) (.ref s.heap.objs.size) from rfl) .nil)) (by
      rw [List.length_append, List.length_singleton]
      exact sz_of (by omega))
    have ex1 : Ex H (upd H s.heap.objs.size (.tup [xs[i], ys[i]])) := Ex.new hfr
    have h1T : H1 s.heap.objs.size = none := none_of e1 hfr
    refine ih (i + 1) _ _ (vs ++ [V.ref s.heap.objs.size]) (by omega) hlt ?_ I2 (fun b hb => ?_) (fun b hb => ?_) (Ex.mut (e1.trans ex1) hS1) upd_same (by rw [List.length_append, e3]; rfl) fun j hj => ?_
    · exact st'.at hS fun b o hb e => (Heap.get?_update_other _ _ (Ne.symm hb)).trans e
    · obtain ⟨g0, g⟩ := hf b hb
      refine ⟨?_, g⟩
      have b1 : b ≠ S := fun q => hS (by
        rw [← q]
        simp only [List.mem_cons, List.not_mem_nil, or_false] at hb ⊢
        rcases hb with hb | hb | hb | hb | hb <;> simp [hb])
      have b2 : b ≠ s.heap.objs.size := Nat.ne_of_lt (hb0 b hb)
      rw [upd_ne b1, upd_ne b2]
      exact g0
    · have h1 := hb0 b hb
      show b < (h'.update S _).objs.size
      rw [Heap.size_update, hsz]
      exact Nat.lt_succ_of_lt h1
    · rw [List.length_append, e3] at hj
      by_cases hj2 : j < vs.length
      · obtain ⟨T, x, y, f1, f2, f3, f4, f5⟩ := e4 j hj2
        refine ⟨T, x, y, by rw [List.getElem?_append_left hj2]; exact f1, f2, f3, ?_, f5⟩
        have hTS : T ≠ S := fun q => by
          rw [q, e2] at f4
          cases f4
        rw [upd_ne hTS]
        exact ex1 _ _ f4
      · have ej : j = i := by
          simp at hj
          omega
        subst ej
        refine ⟨s.heap.objs.size, xs[j], ys[j], by rw [List.getElem?_append_right (by omega), e3]; simp, List.getElem?_eq_getElem hlt, List.getElem?_eq_getElem hlt2, ?_, h1T⟩
        rw [upd_ne (Ne.symm hST)]
        exact upd_same

/-- list(z), z a new zip -/
theorem call_list_zip {s : Shared} {Q : Value → Shared → Prop} {E : Value → Shared → Prop} (hh : X.A.in1.in1.handled = none) (D : ZipApart z TI TO i1 i2 l1 l2) (rv : Vals xs us) (rv2 : Vals ys ws) (hl : xs.length = ys.length) (hz : xs.length ≤ 40000) (I : Inv X pins σ H1 s) (hf : ∀ b ∈ [z, TI, TO, i1, i2], FpOk X pins H1 b) (hb0 : ∀ b ∈ [z, TI, TO, i1, i2, l1, l2], b < s.heap.objs.size)
    (st : ∀ S, S ∉ [z, TI, TO, i1, i2, l1, l2] → ZSt z TI TO i1 i2 l1 l2 us.toArray ws.toArray S 0 s.heap)
    (hQ : ∀ s' H' vs', Inv X pins σ H' s' → Ex H1 H' → H1 s.heap.objs.size = none → H' s.heap.objs.size = some (.lst vs') → vs'.length = xs.length → Prs H1 H' xs ys vs' → Q (.ref s.heap.objs.size) s') :
    wpAny (model X.prog X.w) X.A (call (.type "list") [.ref z]) Q E s := by
  have hfr : H1 s.heap.objs.size = none := I.hok.fresh (Nat.le_refl _)
  have hS : s.heap.objs.size ∉ [z, TI, TO, i1, i2, l1, l2] := fun hm => Nat.lt_irrefl _ (hb0 _ hm)
  have hSz : s.heap.objs.size ≠ z := fun e => hS (by rw [e]; simp)
  refine callType_codes (Q₁ := fun obj s₁ => obj = .ref s.heap.objs.size ∧ s₁ = { s with heap := s.heap.push { cls := .type "list", data := .seq #[] } }) F.called_list (F.typeCall_list_1 _) F.entry_list_init
    (code_list_new _ ⟨rfl, rfl⟩) fun obj s₁ h₁ => ?_
  obtain ⟨rfl, rfl⟩ := h₁
  have I1 : Inv X pins σ (upd H1 s.heap.objs.size (.lst [])) { s with heap := s.heap.push { cls := .type "list", data := .seq #[] } } := I.lnew (its := []) (t' := s.toks) .nil (Nat.zero_le _)
  have hS1 : (s.heap.push { cls := .type "list", data := .seq #[] }).get? s.heap.objs.size = some { cls := .type "list", data := .seq #[] } := Heap.get?_push_size _ rfl
  refine ⟨⟨_, hS1, rfl⟩, F.args_list_init_2 _ _, ?_⟩
  show wpAny _ X.A.in1.in1 (do let old ← Builtin.List.listItems (.ref s.heap.objs.size); Builtin.List.listUpdate (.ref s.heap.objs.size) (fun _ => #[]); letGo old.toList.reverse; Builtin.List.listExtendWith (.ref s.heap.objs.size) (.ref z) .none) _ _ _
  refine wpAny_bind ?_
  unfold Builtin.List.listItems
  refine wpAny_bind (wpAny_seqItems hS1 rfl (wpAny_pure ?_))
  show wpAny _ X.A.in1.in1 (updateSeq s.heap.objs.size (fun _ => #[]) >>= fun _ => letGo (#[] : Array Value).toList.reverse >>= fun _ => Builtin.List.listExtendWith (.ref s.heap.objs.size) (.ref z) .none) _ _ _
  refine wpAny_bind (wpAny_updateSeq (s := { s with heap := s.heap.push { cls := .type "list", data := .seq #[] } }) hS1 rfl ?_)
  have I2 := I1.lset (its := []) (its' := []) (f := fun _ => #[]) (ys := []) (t' := s.toks) upd_same hS1 rfl .nil (Nat.zero_le _)
  refine wpAny_bind (wpAny_letGo ?_)
  have hS2 := Heap.get?_update_self (Obj.mapSeq (fun _ => (#[] : Array Value))) hS1 rfl
  have k1 : ∀ b o, b ≠ s.heap.objs.size → s.heap.get? b = some o → ((s.heap.push { cls := .type "list", data := .seq #[] }).update s.heap.objs.size (Obj.mapSeq (fun _ => (#[] : Array Value)))).get? b = some o := fun b o hb e => (Heap.get?_update_other _ _ (Ne.symm hb)).trans (Heap.get?_push_of_some _ e)
  have st2 := (st _ hS).at hS k1
  unfold Builtin.List.listExtendWith
  refine wpAny_bind (wpAny_typeOf (T := "zip") (ZSt.ty (s := { s with heap := (s.heap.push { cls := .type "list", data := .seq #[] }).update s.heap.objs.size (Obj.mapSeq (fun _ => (#[] : Array Value))) }) st2) ?_)
  have h1 : Builtin.List.listSameRef (.ref s.heap.objs.size) (.ref z) = false := by simp [Builtin.List.listSameRef, hSz]
  have h2 : (Value.type "zip" == Value.type "list") = false := by decide
  have h3 : (Value.type "zip" == Value.type "tuple") = false := by decide
  simp only [h1, h2, h3, Bool.or_false, Bool.false_eq_true, if_false]
  refine wpAny_bind (ZSt.self (s := { s with heap := (s.heap.push { cls := .type "list", data := .seq #[] }).update s.heap.objs.size (Obj.mapSeq (fun _ => (#[] : Array Value))) }) st2 ?_)
  refine wpAny_bind (wpAny_holding ?_)
  unfold Builtin.List.listLengthHint
  refine wpAny_bind (wpAny_specialOf (ZSt.ty (s := { s with heap := (s.heap.push { cls := .type "list", data := .seq #[] }).update s.heap.objs.size (Obj.mapSeq (fun _ => (#[] : Array Value))) }) st2) zl_nolen ?_)
  show wpAny _ X.A.in1.in1 (specialOf (Value.ref z) (Str.ofString "__length_hint__") >>= _) _ _ _
  refine wpAny_bind (wpAny_specialOf (ZSt.ty (s := { s with heap := (s.heap.push { cls := .type "list", data := .seq #[] }).update s.heap.objs.size (Obj.mapSeq (fun _ => (#[] : Array Value))) }) st2) zl_nohint ?_)
  refine wpAny_pure ?_
  show wpAny _ X.A.in1.in1 (rule "list.extend.makes-room" >>= fun _ => Builtin.List.listTouch (.ref s.heap.objs.size) >>= fun _ =>
    again (.builtin "list.extend.loop" ⟨[.ref s.heap.objs.size, .ref z, .none], []⟩)) _ _ _
  refine wpAny_bind (wpAny_rule ?_)
  refine wpAny_bind ?_
  show wpAny _ X.A.in1.in1 (updateSeq s.heap.objs.size (·.push .none) >>= fun _ => updateSeq s.heap.objs.size (·.pop)) _ _ _
  refine wpAny_bind (wpAny_updateSeq (s := { s with heap := (s.heap.push { cls := .type "list", data := .seq #[] }).update s.heap.objs.size (Obj.mapSeq (fun _ => (#[] : Array Value))) }) hS2 rfl ?_)
  have I3 := I2.lset (its := []) (its' := [.none]) (f := (·.push Value.none)) (ys := [V.non]) (t' := s.toks) upd_same hS2 rfl (.cons rfl .nil) (by show 1 ≤ sizeLine; decide)
  have hS3 := Heap.get?_update_self (Obj.mapSeq (·.push Value.none)) hS2 rfl
  refine wpAny_updateSeq (s := { s with heap := ((s.heap.push { cls := .type "list", data := .seq #[] }).update s.heap.objs.size (Obj.mapSeq (fun _ => (#[] : Array Value)))).update s.heap.objs.size (Obj.mapSeq (·.push Value.none)) }) hS3 rfl ?_
  have I4 := I3.lset (its := [.none]) (its' := []) (f := (·.pop)) (ys := []) (t' := s.toks) upd_same hS3 rfl .nil (Nat.zero_le _)
  have st4 := (st2.at hS fun b o hb e => (Heap.get?_update_other _ (Obj.mapSeq (·.push Value.none)) (Ne.symm hb)).trans e).at hS fun b o hb e => (Heap.get?_update_other _ (Obj.mapSeq (·.pop)) (Ne.symm hb)).trans e
  refine wpAny_pure ⟨plainId_quiet F.plain_extend_loop _, loop_zip (A := X.A.in1) (H1 := H1) hh D hS rv rv2 hl hz _ hfr (fun s' H' vs' g1 g2 g3 g4 g5 => ?_) _ 0 _ _ [] rfl (Nat.zero_le _) st4 I4 (fun b hb => ?_) (fun b hb => ?_) (Ex.mut (Ex.mut (Ex.mut (Ex.new hfr) hfr) hfr) hfr) upd_same rfl fun j hj => absurd hj (Nat.not_lt_zero j)⟩
  · exact ⟨rfl, hQ s' H' vs' g1 g2 hfr g3 g4 g5⟩
  · obtain ⟨g0, g⟩ := hf b hb
    have b1 : b ≠ s.heap.objs.size := fun q => hS (by
      rw [← q]
      simp only [List.mem_cons, List.not_mem_nil, or_false] at hb ⊢
      rcases hb with hb | hb | hb | hb | hb <;> simp [hb])
    refine ⟨?_, g⟩
    rw [upd_ne b1, upd_ne b1, upd_ne b1, upd_ne b1]
    exact g0
  · have h1 : b < s.heap.objs.size := hb0 b (by
      simp only [List.mem_cons, List.not_mem_nil, or_false] at hb ⊢
      rcases hb with hb | hb | hb | hb | hb <;> simp [hb])
    show b < (((((s.heap.push _).update _ _).update _ _).update _ _)).objs.size
    rw [Heap.size_update, Heap.size_update, Heap.size_update, Heap.size_push]
    exact Nat.lt_succ_of_lt h1
end
/-- list(zip(xs, ys)) -/
def tLZ (K : PySem.W.Frag) (ta : TA) : TE := fun σ H Q => ta σ H fun vs H1 => ∃ a b xs ys, vs = [.ref a, .ref b] ∧ SqL K H1 a xs ∧ SqL K H1 b ys ∧ xs.length = ys.length ∧ xs.length ≤ 40000 ∧ ∀ l vs' H', Ex H1 H' → H1 l = none → H' l = some (.lst vs') → vs'.length = xs.length → Prs H1 H' xs ys vs' → Q (.ref l) H'
theorem pe_listZip {X : Cx} {e e2 : Expr} {ta : TA} {p0 p pos pos2 : Pos} (hc : X.calm = true) (hg0 : Gl X "list") (hm0 : X.mg "list" = none) (hg : Gl X "zip") (hm : X.mg "zip" = none) (ha : PA X [e, e2] ta)
    (hs1 : starEach [.Call (.Name "zip" p) [e, e2] [] pos2] X.env = [(false, eval (.Call (.Name "zip" p) [e, e2] [] pos2) X.env)] := by rfl)
    (hs : starEach [e, e2] X.env = (false, eval e X.env) :: starEach [e2] X.env := by rfl) (hpl : (backTo pos2 (starEach [e2] X.env)).any (·.1) = false := by rfl) :
    PE X (.Call (.Name "list" p0) [.Call (.Name "zip" p) [e, e2] [] pos2] [] pos) (tLZ X.K ta) := by
  refine ⟨fun pins s σ H Q I h => ?_⟩
  refine wpAny_Call_Name_kw (ld_blt I hg0 hm0 rfl ?_)
  refine PyProof.Rows.callWith_type1 ?_ hs1 rfl
  rw [hs1]
  refine Calls.spliced_cons (Call_ (ld_blt I hg hm PyProof.Rows.boot_zip (PyProof.Rows.callWith_type1 (thn (ha.run pos2 pins s σ H _ I h) fun us s1 ⟨vs, H1, I1, r1, q1⟩ => ?_) hs hpl)))
  obtain ⟨a, b, xs, ys, ex, hqx, hqy, hl, hz, q1⟩ := q1
  subst ex
  cases r1 with
  | cons r rr =>
    cases rr with
    | cons r' rr =>
      cases rr
      cases r
      cases r'
      have fresh5 : ∀ c, c ∈ [s1.heap.objs.size + 4, s1.heap.objs.size + 2, s1.heap.objs.size + 3, s1.heap.objs.size, s1.heap.objs.size + 1] → FpOk X pins H1 c := fun c hcm => by
        have hle : s1.heap.objs.size ≤ c := by
          simp only [List.mem_cons, List.not_mem_nil, or_false] at hcm
          omega
        exact I1.fpOk hle (I1.hok.fresh hle)
      obtain ⟨its, rv, p1, _⟩ := I1.list hqx
      obtain ⟨its2, rv2, p2, _⟩ := I1.list hqy
      refine call_zip_2 p1.isList p2.isList fun h' hzz hTI hTO h1 h2 hsz hk => Calls.spliced_nil ?_
      have I2 : Inv X pins σ H1 { s1 with heap := h' } := I1.kept (t' := s1.toks) hk
      obtain ⟨its', rv', p1', _⟩ := I2.list hqx
      obtain ⟨its2', rv2', p2', _⟩ := I2.list hqy
      refine call_list_zip (s := { s1 with heap := h' }) (I1.ok.hd hc) (PySem.W.ktu_apart s1.heap.objs.size a b p1.lt p2.lt) rv' rv2' hl hz I2 fresh5 (fun c hcm => ?_) (fun S hS => ⟨hTI, h1, h2, p1'.isList, p2'.isList, .inl ⟨hzz, _, _, hTO⟩⟩) fun s' H' vs' g1 g2 g3 g4 g5 g6 => ?_
      · show c < h'.objs.size
        rw [hsz]
        simp only [List.mem_cons, List.not_mem_nil, or_false] at hcm
        rcases hcm with q | q | q | q | q | q | q
        · rw [q]; exact Nat.add_lt_add_left (by decide) _
        · rw [q]; exact Nat.add_lt_add_left (by decide) _
        · rw [q]; exact Nat.add_lt_add_left (by decide) _
        · rw [q]; exact Nat.lt_add_of_pos_right (by decide)
        · rw [q]; exact Nat.add_lt_add_left (by decide) _
        · rw [q]; exact Nat.lt_of_lt_of_le p1.lt (Nat.le_add_right _ _)
        · rw [q]; exact Nat.lt_of_lt_of_le p2.lt (Nat.le_add_right _ _)
      · exact ⟨.ref _, H', g1, rfl, q1 _ vs' H' g2 g3 g4 g5 g6⟩
section
variable {K : PySem.W.Frag} {B0 H0 : Hp} {δ : List Sl} {ds es : List PyData} {ta : TA}
theorem n_listZip (h : EvD K B0 H0 ta δ [.list ds, .list es]) (hl : ds.length = es.length) (hz : ds.length ≤ 40000) : EvN K B0 H0 (tLZ K ta) δ (zipD ds es) := fun B H σ S Q q => h B H σ S _ fun vs B1 H1 s1 i1 => by
  cases i1 with
  | cons g1 g2 =>
    cases g2 with
    | cons g3 g4 =>
      cases g4
      cases g1 with
      | @lst a xs _ h1 h2 =>
        cases g3 with
        | @lst b ys _ k1 k2 =>
          refine ⟨a, b, xs, ys, rfl, sq_of (s1.bh _ _ h1), sq_of (s1.bh _ _ k1), by rw [h2.len, k2.len, hl], by rw [h2.len]; exact hz, fun l vs' H' e1 f1 f2 f3 f4 => ?_⟩
          -- the base: B1 with the new pairs in it
          let B2 : Hp := fun c => if H1 c = none ∧ c ≠ l then H' c else B1 c
          have b2l : B2 l = none := by
            show (if H1 l = none ∧ l ≠ l then H' l else B1 l) = none
            rw [if_neg (fun z => z.2 rfl)]
            exact none_of s1.bh f1
          have eb : Ex B1 B2 := fun c u hc => by
            show (if H1 c = none ∧ c ≠ l then H' c else B1 c) = some u
            rw [if_neg (fun z => by
              have := s1.bh _ _ hc
              rw [z.1] at this
              cases this)]
            exact hc
          have bh : Ex B2 H' := fun c u hc => by
            have hc' : (if H1 c = none ∧ c ≠ l then H' c else B1 c) = some u := hc
            split at hc'
            · exact hc'
            · exact e1 _ _ (s1.bh _ _ hc')
          have n2 : ∀ c, B2 c ≠ none → B1 c ≠ none ∨ H1 c = none := fun c hc => by
            by_cases z : H1 c = none
            · exact .inr z
            · left
              intro z2
              apply hc
              show (if H1 c = none ∧ c ≠ l then H' c else B1 c) = none
              rw [if_neg (fun y => z y.1)]
              exact z2
          refine q l vs' B2 H' (s1.trans ⟨eb, bh, e1, n2⟩) (none_of s1.h f1) b2l f2 ?_
          have hlen : (zipD ds es).length = ds.length := by
            unfold zipD
            rw [List.length_map, List.length_zip, ← hl, Nat.min_self]
          refine DtAll.of (by rw [f3, h2.len, hlen]) fun i v d hv hd => ?_
          obtain ⟨T, x, y, y1, y2, y3, y4, y5⟩ := f4 i (List.getElem?_eq_some_iff.mp hv).1
          rw [y1] at hv
          cases Option.some.inj hv
          obtain ⟨f, hf, df⟩ := h2.getV y2
          obtain ⟨g, hg, dg⟩ := k2.getV y3
          have e : d = .tuple [f, g] := by
            unfold zipD at hd
            rw [List.getElem?_map, show (ds.zip es)[i]? = some (f, g) from List.getElem?_zip_eq_some.mpr ⟨hf, hg⟩] at hd
            exact (Option.some.inj hd).symm
          rw [e]
          have hTl : T ≠ l := fun z => by
            rw [z, f2] at y4
            cases y4
          have bT : B2 T = some (.tup [x, y]) := by
            show (if H1 T = none ∧ T ≠ l then H' T else B1 T) = _
            rw [if_pos ⟨y5, hTl⟩]
            exact y4
          exact .tup (st_of bT) (.cons (dt_mono eb _ _ df) (.cons (dt_mono eb _ _ dg) .nil))
end
end Ja

/-! Own data layer: isinstance, x in (a, b, c) of ints, ranges with a step. -/
namespace Ja
open PySem PySem.Spec PyProof.Rows L2 Evl Cm
def tyD : PyData → Option String
  | .bool _ => some "bool"
  | .int _ => some "int"
  | .str _ => some "str"
  | .list _ => some "list"
  | .tuple _ => some "tuple"
  | _ => none
section
variable {K : PySem.W.Frag} {B0 H0 : Hp} {δ : List Sl} {te ta tb : TE} {d : PyData} {i : Int}
theorem ty_rd_l {H : Hp} {a : Addr} {xs : List V} (h : SqL K H a xs) : TyX K H (.ref a) (.type "list") := by
  rcases h with (h | ⟨o, h⟩) | ⟨o, its, n, h, hc, _⟩
  · exact .base (.lst h)
  · exact .base (.frz h)
  · exact .kList h hc
theorem ty_rd_t {H : Hp} {a : Addr} {xs : List V} (h : SqT K H a xs) : TyX K H (.ref a) (.type "tuple") := by
  rcases h with (h | ⟨o, h⟩) | ⟨o, its, n, h, hc, _⟩
  · exact .base (.tup h)
  · exact .fTuple h
  · exact .kTuple h hc
theorem ty_of {B : Hp} {v : V} {t : String} (h : Dt K B v d) (ht : tyD d = some t) : TyX K B v (.type t) := by
  cases h with
  | non => cases ht
  | bl b => cases ht; exact .base (.bl _)
  | int i => cases ht; exact .base (.int _)
  | str x => cases ht; exact .base (.str _)
  | lst h1 h2 => cases ht; exact ty_rd_l (sq_of h1)
  | tup h1 h2 => cases ht; exact ty_rd_t h1
theorem d_isi {T t : String} {b : Bool} (h : EvS K B0 H0 te δ (.dat d)) (ht : tyD d = some t) (hk : kitB t T = some b) : EvS K B0 H0 (tCB (rIsi K) (tCons te (tCons (tC (.ty T)) tNil))) δ (nB b) := fun B H σ S Q q => h B H σ S _ fun v B1 H1 s1 i1 => by
  have hty := ty_of (dt_mono s1.bh _ _ i1) ht
  exact ⟨v, .ty T, .type t, .type T, b, rfl, .ty T, hty, kit_ty hk, q _ B1 H1 s1 (Dt.bl _)⟩
theorem inV_ints (i : Int) : ∀ ns : List Int, inV (.int i) (ns.map V.int) = decide (i ∈ ns)
  | [] => rfl
  | n :: r => by
    have h := inV_ints i r
    unfold inV at h ⊢
    rw [List.map_cons, List.any_cons, h]
    show ((n == i) || decide (i ∈ r)) = _
    by_cases e : n = i
    · subst e
      simp
    · have e2 : ¬ i = n := fun z => e z.symm
      simp [e, e2]
theorem flat_ints : ∀ ns : List Int, (ns.map V.int).all flatV = true
  | [] => rfl
  | n :: r => flat_ints r
theorem d_inT {ns : List Int} (ha : EvS K B0 H0 ta δ (nI i)) (hb : EvS K B0 H0 tb δ (.dat (.tuple (ns.map PyData.int)))) : EvS K B0 H0 (tOp (rIn K false) ta tb) δ (nB (decide (i ∈ ns))) := fun B H σ S Q q => ha B H σ S _ fun v B1 H1 s1 i1 => hb B1 H1 σ (S.go s1) _ fun w B2 H2 s2 i2 => by
  cases i1
  cases i2 with
  | tup g1 g2 =>
    rw [dt_ints_inv ns g2] at g1
    refine ⟨_, ns.map V.int, rfl, .inr (ex_t s2.bh g1), rfl, flat_ints ns, ?_⟩
    rw [if_neg (by decide), inV_ints]
    exact q _ B2 H2 (s1.trans s2) (Dt.bl _)
/-- lo, lo + c, .. -/
def stepD (lo c : Int) (n : Nat) : List PyData := (List.range n).map fun i : Nat => PyData.int (lo + (i : Int) * c)
theorem stepD_len (lo c : Int) (n : Nat) : (stepD lo c n).length = n := by
  unfold stepD
  rw [List.length_map, List.length_range]
theorem stepD_get {lo c : Int} {n i : Nat} {d : PyData} (h : (stepD lo c n)[i]? = some d) : i < n ∧ d = .int (lo + (i : Int) * c) := by
  have hi : i < n := by
    have := (List.getElem?_eq_some_iff.mp h).1
    rwa [stepD_len] at this
  unfold stepD at h
  rw [List.getElem?_map, List.getElem?_range hi] at h
  exact ⟨hi, (Option.some.inj h).symm⟩
theorem w_rng3 {ta : TA} {lo hi c : Int} {n : Nat} (h : EvD K B0 H0 ta δ [.int lo, .int hi, .int c]) (h1 : RgC lo hi c n) : EvW K B0 H0 (iRng3 ta) δ (stepD lo c n) := fun B H σ S R q => h B H σ S _ fun vs B1 H1 s1 i1 => by
  cases i1 with
  | cons g1 g2 =>
    cases g1
    cases g2 with
    | cons g3 g4 =>
      cases g3
      cases g4 with
      | cons g5 g6 =>
        cases g5
        cases g6
        refine ⟨lo, hi, c, n, rfl, h1, q _ _ _ B1 H1 s1 (by rw [stepD_len]; exact walk_rangeC) (fun _ _ _ _ => trivial) fun i H2 x H3 B2 d hd e1 e2 y => ?_⟩
        obtain ⟨rfl, rfl⟩ := y
        obtain ⟨_, rfl⟩ := stepD_get hd
        exact ⟨B2, .refl e2, .int _⟩
end
/-- range(1, m - 1, 2) -/
theorem rg_odd : ∀ m : Nat, m ≤ 40 → RgC 1 ((m : Int) - 1) 2 ((m - 1) / 2) := by
  have h : ∀ m : Fin 41, RgC 1 ((m.val : Int) - 1) 2 ((m.val - 1) / 2) := by
    unfold RgC
    decide +kernel
  exact fun m hm => h ⟨m, by omega⟩
end Ja

/-! Own data layer: slices of mapped lists, points. -/
namespace Ja
open PySem PySem.Spec PyProof.Rows L2 Evl Cm
section
variable {A : Type}
def cutL (xs : List A) (lo hi : Option Int) : List A := (xs.drop (HT.sIx xs.length 0 lo)).take (HT.sIx xs.length xs.length hi - HT.sIx xs.length 0 lo)
theorem cutD_map (f : A → PyData) (xs : List A) (lo hi : Option Int) : cutD (xs.map f) lo hi = (cutL xs lo hi).map f := by
  unfold cutD cutL
  rw [List.length_map, ← List.map_drop, ← List.map_take]
theorem drop_min (xs : List A) (n : Nat) : xs.drop (min n xs.length) = xs.drop n := by
  by_cases h : n ≤ xs.length
  · rw [Nat.min_eq_left h]
  · rw [Nat.min_eq_right (by omega), List.drop_length, List.drop_eq_nil_of_le (by omega)]
theorem cut_from (xs : List A) (n : Nat) : cutL xs (some (n : Int)) none = xs.drop n := by
  unfold cutL
  rw [HT.sIx_none, HT.sIx_nat, drop_min, List.take_of_length_le]
  rw [List.length_drop]
  omega
theorem cut_to (xs : List A) (n : Nat) : cutL xs none (some (n : Int)) = xs.take n := by
  unfold cutL
  rw [HT.sIx_none, HT.sIx_nat, List.drop_zero, Nat.sub_zero]
  refine List.take_eq_take_iff.mpr ?_
  omega
theorem cut_mid (xs : List A) (a b : Nat) : cutL xs (some (a : Int)) (some (b : Int)) = (xs.drop a).take (b - a) := by
  unfold cutL
  rw [HT.sIx_nat, HT.sIx_nat, drop_min]
  refine List.take_eq_take_iff.mpr ?_
  rw [List.length_drop]
  omega
end
section
variable {K : PySem.W.Frag} {B0 H0 : Hp} {δ : List Sl} {te tb : TE} {A : Type} {f : A → PyData} {xs ys : List A}
theorem n_slF {tl th : TO} {lo hi : Option Int} (h : EvS K B0 H0 te δ (.dat (.list (xs.map f)))) (h1 : EvO K B0 H0 tl δ lo) (h2 : EvO K B0 H0 th δ hi) (e : cutL xs lo hi = ys) : EvN K B0 H0 (tSl (rSlL K) te tl th) δ (ys.map f) := by
  have := n_sl h h1 h2
  rwa [cutD_map, e] at this
theorem n_catF (ha : EvS K B0 H0 te δ (.dat (.list (xs.map f)))) (hb : EvS K B0 H0 tb δ (.dat (.list (ys.map f)))) (hz : xs.length + ys.length ≤ 100000) : EvN K B0 H0 (tOp rCat te tb) δ ((xs ++ ys).map f) := by
  have := n_cat ha hb (by rw [List.length_map, List.length_map]; exact hz)
  rwa [← List.map_append] at this
theorem n_zipF {B : Type} {g : B → PyData} {zs : List B} (h1 : EvS K B0 H0 te δ (.dat (.list (xs.map f)))) (h2 : EvS K B0 H0 tb δ (.dat (.list (zs.map g)))) (hl : xs.length = zs.length) (hz : xs.length ≤ 40000) : EvN K B0 H0 (tLZ K (tCons te (tCons tb tNil))) δ ((xs.zip zs).map fun p => .tuple [f p.1, g p.2]) := by
  have := n_listZip (ds_cons h1 (ds_cons h2 ds_nil)) (by rw [List.length_map, List.length_map]; exact hl) (by rw [List.length_map]; exact hz)
  unfold zipD at this
  rw [List.zip_map, List.map_map] at this
  exact this
theorem d_sumF {xs : List A} {g : A → Int} (h : EvN K B0 H0 te δ (xs.map fun x => .int (g x))) : EvS K B0 H0 (tCB (rSum K) (tCons te tNil)) δ (nI (xs.map g).sum) := by
  have e : (xs.map fun x => PyData.int (g x)) = (xs.map g).map PyData.int := by
    rw [List.map_map]
    rfl
  rw [e] at h
  exact d_sum (d_new h)
end
theorem enc_int : Enc PyData.int := ⟨fun x y => rfl, ⟨1, by decide, fun x => shp_int x⟩⟩
/-! ### points -/
open Pg
abbrev encP (p : Pt) : PyData := .tuple [.int p.1, .int p.2]
theorem shp_P (p : Pt) : Shp 1 (encP p) := shp_tup (shp_cons (n := 0) (shp_int _) (shp_cons (shp_int _) shp_nil))
theorem enc_P : Enc encP := by
  refine ⟨fun x y => ?_, ⟨1, by decide, shp_P⟩⟩
  have e : PyData.eqv (encP x) (encP y) = ((x.1 == y.1) && ((x.2 == y.2) && true)) := by simp only [encP, PyData.eqv, PyData.eqvAll]
  rw [e]
  obtain ⟨a, b⟩ := x
  obtain ⟨d, f⟩ := y
  by_cases h : (a, b) = (d, f)
  · rw [decide_eq_true h]
    cases h
    simp
  · rw [decide_eq_false h]
    have h2 : ¬ (a = d ∧ b = f) := fun ⟨h1, h2⟩ => h (by rw [h1, h2])
    simp only [Bool.and_true, Bool.and_eq_false_iff, beq_eq_false_iff_ne]
    omega
/-- the sides, as pairs -/
def sidesL (ps : List Pt) : List (Pt × Pt) := ps.zip (ps.drop 1 ++ ps.take 1)
abbrev encS (s : Pt × Pt) : PyData := .tuple [encP s.1, encP s.2]
theorem sides_len (ps : List Pt) : (sidesL ps).length = ps.length := by
  unfold sidesL
  cases ps <;> simp
theorem path_zip (q : Pt) : ∀ (p : Pt) (r : List Pt), (((p :: r).zip (r ++ [q])).map fun s => cr s.1 s.2).sum = path (p :: r ++ [q])
  | p, [] => by simp [path]
  | p, b :: r => by
    have h := path_zip q b r
    show cr p b + (((b :: r).zip (r ++ [q])).map fun s => cr s.1 s.2).sum = cr p b + path (b :: (r ++ [q]))
    rw [h]
    rfl
theorem sum_sides : ∀ ps : List Pt, ((sidesL ps).map fun s => cr s.1 s.2).sum = area2 ps
  | [] => rfl
  | p :: r => path_zip p p r
/-- both numbers are small -/
def Pb (k : Nat) (p : Pt) : Prop := p.1.natAbs < 2 ^ k ∧ p.2.natAbs < 2 ^ k
theorem sides_mem {ps : List Pt} {s : Pt × Pt} (h : s ∈ sidesL ps) : s.1 ∈ ps ∧ s.2 ∈ ps := by
  unfold sidesL at h
  have := List.of_mem_zip h
  refine ⟨this.1, ?_⟩
  rcases List.mem_append.mp this.2 with z | z
  · exact List.mem_of_mem_drop z
  · exact List.mem_of_mem_take z
end Ja

/-! Own data layer: max of three, insert, pop, items of mapped lists. -/
namespace Ja
open PySem PySem.Spec PyProof.Rows L2 Evl Cm
theorem hu65 {A : Around} {k : Nat} (hr : Room k A) : A.units + 65 < cLine := by
  have := hr.un
  omega
section
variable {K : PySem.W.Frag} {B0 H0 : Hp} {W : WX} {δ δ1 : List Sl} {E : DE} {ta tb tc te : TE} {u : TS} {d : PyData} {ds : List PyData} {i j k : Int} {A : Type} {f : A → PyData} {xs : List A} {x : A}
theorem at_map (h : atI xs i = some x) : atI (xs.map f) i = some (f x) := by
  unfold atI at h ⊢
  rw [List.length_map]
  cases hx : ixN xs.length i with
  | none =>
    rw [hx] at h
    cases h
  | some n =>
    rw [hx] at h
    show (xs.map f)[n]? = _
    rw [List.getElem?_map, show xs[n]? = some x from h]
    rfl
theorem d_ixM (ha : EvS K B0 H0 ta δ (.dat (.list (xs.map f)))) (hb : EvS K B0 H0 tb δ (nI i)) (h : atI xs i = some x) : EvS K B0 H0 (tOp (rIxL K) ta tb) δ (.dat (f x)) := d_ixL ha hb (at_map h)
theorem d_ixOM {n : Nat} (ho : δ[n]? = some (Sl.own (xs.map f))) (hb : EvS K B0 H0 tb δ (nI i)) (h : atI xs i = some x) : EvS K B0 H0 (tOp (rIxL K) (tVar n) tb) δ (.dat (f x)) := d_ixO ho hb (at_map h)
theorem d_max3 (h : EvS K B0 H0 ta δ (nI i)) (h2 : EvS K B0 H0 tb δ (nI j)) (h3 : EvS K B0 H0 tc δ (nI k)) : EvS K B0 H0 (tCB (rNuC3 nuMax3) (tCons ta (tCons tb (tCons tc tNil)))) δ (nI (max (max i j) k)) := fun B H σ S Q q =>
  h B H σ S _ fun v B1 H1 s1 i1 => h2 B1 H1 σ (S.go s1) _ fun w B2 H2 s2 i2 => h3 B2 H2 σ (S.go (s1.trans s2)) _ fun z B3 H3 s3 i3 => by
    cases i1
    cases i2
    cases i3
    refine ⟨.int i, .int j, .int k, .int (max (max i j) k), rfl, ?_, q _ B3 H3 ((s1.trans s2).trans s3) (Dt.int _)⟩
    by_cases a : i < j
    · have e1 : max i j = j := by omega
      rw [e1]
      have e2 : (nuMax2 (.int i) (.int j)) = some (.int j) := by
        show some (if decide (i < j) = true then V.int j else V.int i) = _
        rw [decide_eq_true a]
        rfl
      show (nuMax2 (.int i) (.int j)).bind _ = _
      rw [e2]
      show some (if decide (j < k) = true then V.int k else V.int j) = _
      by_cases b : j < k
      · rw [decide_eq_true b, show max j k = k by omega]
        rfl
      · rw [decide_eq_false b, show max j k = j by omega]
        rfl
    · have e1 : max i j = i := by omega
      rw [e1]
      have e2 : (nuMax2 (.int i) (.int j)) = some (.int i) := by
        show some (if decide (i < j) = true then V.int j else V.int i) = _
        rw [decide_eq_false a]
        rfl
      show (nuMax2 (.int i) (.int j)).bind _ = _
      rw [e2]
      show some (if decide (i < k) = true then V.int k else V.int i) = _
      by_cases b : i < k
      · rw [decide_eq_true b, show max i k = k by omega]
        rfl
      · rw [decide_eq_false b, show max i k = i by omega]
        rfl
/-- x not in xs, xs of its own -/
theorem d_niO {n : Nat} (ha : EvS K B0 H0 ta δ (.dat d)) (ho : δ[n]? = some (Sl.own ds)) (h1 : SeqAt.shaped d = true) (h2 : SeqAt.shaped (.list ds) = true) : EvS K B0 H0 (tOp (rNotInD K) ta (tVar n)) δ (nB (!ds.any fun z => PyData.eqv z d)) := fun B H σ S Q q =>
  ha B H σ S _ fun v B1 H1 s1 i1 => by
    obtain ⟨l, vs, g1, g2, g3, g4, g5⟩ := (S.go s1).own n ds ho
    have eb : Ex B1 (upd B1 l (.lst vs)) := Ex.new g3
    have bh : Ex (upd B1 l (.lst vs)) H1 := fun a o ha => by
      by_cases z : a = l
      · subst z
        rw [upd_same] at ha
        rw [g2]
        exact ha
      · rw [upd_ne z] at ha
        exact s1.bh a o ha
    exact ⟨.ref l, g1, d, ds, dp_mono s1.bh _ _ (dt_dp _ _ i1), dp_mono bh _ _ (dt_dp _ _ (Dt.lst upd_same (dts_mono eb _ _ g5))), h1, h2, q _ B1 H1 s1 (Dt.bl _)⟩
theorem d_niEO {A : Type} [DecidableEq A] {f : A → PyData} {x : A} {l : List A} {n : Nat} (h : Enc f) (ha : EvS K B0 H0 ta δ (.dat (f x))) (ho : δ[n]? = some (Sl.own (l.map f))) : EvS K B0 H0 (tOp (rNotInD K) ta (tVar n)) δ (nB (!decide (x ∈ l))) := d_isB (d_niO ha ho (h.shx x) (h.shl l)) (by rw [any_map h.eq x l])
theorem atI_prev {A : Type} {xs : List A} {z : A} (hz : xs.getLast? = some z) {k : Nat} (hk : k < xs.length) : atI xs ((k : Int) - 1) = (z :: xs)[k]? := by
  cases k with
  | zero =>
    show atI xs (-1) = some z
    rw [← hz, List.getLast?_eq_getElem?]
    have h1 : ixN xs.length (-1) = some (xs.length - 1) := by
      unfold ixN
      rw [if_neg (by omega)]
      first | rw [if_pos (by omega)] | skip
      congr 1
      omega
    unfold atI
    rw [h1]
    rfl
  | succ k =>
    show atI xs (((k + 1 : Nat) : Int) - 1) = xs[k]?
    rw [show ((k + 1 : Nat) : Int) - 1 = (k : Int) by omega]
    rw [List.getElem?_eq_getElem (show k < xs.length by omega)]
    exact atI_nat (List.getElem?_eq_getElem (show k < xs.length by omega))
/-- the item behind, going around -/
theorem atI_next {A : Type} {xs : List A} {k : Nat} (hk : k < xs.length) : ∃ x, x ∈ xs ∧ atI xs ((k : Int) + 1 - (xs.length : Int) * (((k : Int) + 1) / (xs.length : Int))) = some x := by
  have h0 : 0 < xs.length := by omega
  have h1 : (k + 1) % xs.length < xs.length := Nat.mod_lt _ h0
  have e : (k : Int) + 1 - (xs.length : Int) * (((k : Int) + 1) / (xs.length : Int)) = (((k + 1) % xs.length : Nat) : Int) := by
    rw [Int.natCast_emod, Int.emod_def, Int.natCast_add]
    rfl
  rw [e]
  exact ⟨xs[(k + 1) % xs.length], List.getElem_mem h1, atI_nat (List.getElem?_eq_getElem h1)⟩
theorem mul_div_ok {k n : Nat} (hn : n ≤ 1000) (hk : k ≤ 1000) : CMulX (n : Int) (((k : Int) + 1) / (n : Int)) := by
  have h1 : (((k : Int) + 1) / (n : Int)) = (((k + 1) / n : Nat) : Int) := by
    rw [Int.natCast_ediv, Int.natCast_add]
    rfl
  rw [h1]
  have h2 : (k + 1) / n ≤ k + 1 := Nat.div_le_self _ _
  generalize (k + 1) / n = m at h2 ⊢
  exact mulx_ok (a := 20) (b := 20) (by omega) (by omega) (by decide)
theorem r_newR {P : List PyData → Prop} (h : EvNR K B0 H0 te δ P) : EvR K B0 H0 te δ fun d => ∃ ds, P ds ∧ d = .list ds := fun B H σ S Q q => h B H σ S Q fun l vs ds B1 H1 p s1 f1 f2 f3 f4 => by
  have eb : Ex B1 (upd B1 l (.lst vs)) := Ex.new f2
  refine q _ _ (upd B1 l (.lst vs)) H1 ⟨ds, p, rfl⟩ ⟨s1.b.trans eb, fun a o ha => ?_, s1.h, fun a ha => ?_⟩ (.lst upd_same (dts_mono eb _ _ f4))
  · by_cases z : a = l
    · subst z
      rw [upd_same] at ha
      rw [f3]
      exact ha
    · rw [upd_ne z] at ha
      exact s1.bh a o ha
  · by_cases z : a = l
    · subst z
      exact .inr f1
    · rw [upd_ne z] at ha
      exact s1.n a ha
/-- a def called with one thing of which something is told -/
theorem r_call1 {A : Type} {enc : A → List Sl} {pre : A → Prop} {post : A → PyData → Prop} {R : XK} {P : PyData → Prop} (h : EvR K B0 H0 te δ P) (hh : ∀ d, P d → ∃ a, enc a = [.dat d] ∧ pre a) : EvR K B0 H0 (tCall (SpA K enc pre post) [] R (tCons te tNil)) δ fun d => ∃ a, pre a ∧ post a d := fun B H σ S Q q => h B H σ S _ fun v d B1 H1 p s1 i1 => by
  obtain ⟨a, e, hp⟩ := hh d p
  exact ⟨B1, a, s1.bh, by rw [List.append_nil, e]; exact .cons i1 .nil, hp, fun v2 d2 B2 H2 p2 st dv => q v2 d2 B2 H2 ⟨a, hp, p2⟩ (s1.trans st) dv⟩
/-- some answer -/
def EvBR (K : PySem.W.Frag) (B0 H0 : Hp) (tt : TT) (δ : List Sl) : Prop := ∀ B H σ, Sc K B0 H0 B H σ δ → ∀ Q : Bool → Hp → Prop, (∀ b B' H', Stp B H B' H' → Q b H') → tt σ H Q
theorem br_val (h : EvR K B0 H0 te δ fun d => ∃ b, d = .bool b) : EvBR K B0 H0 (tB te) δ := fun B H σ S Q q => h B H σ S _ fun v d B1 H1 ⟨b, e⟩ s1 i1 => by
  subst e
  cases i1
  exact ⟨b, rfl, q b B1 H1 s1⟩
theorem br_not {tt : TT} (h : EvBR K B0 H0 tt δ) : EvBR K B0 H0 (tNot tt) δ := fun B H σ S Q q => h B H σ S _ fun b B1 H1 s1 => q _ B1 H1 s1
theorem sd_ifBR {tt : TT} {t u : TS} (h : EvBR K B0 H0 tt δ) (h1 : SD K B0 H0 W t δ E) (h2 : SD K B0 H0 W u δ E) : SD K B0 H0 W (tIfS tt t u) δ E := fun D B H σ S L => h B H σ S _ fun b B1 H1 s1 => by
  cases b with
  | true => exact h1 D B1 H1 σ (S.go s1) (L.mono s1.b)
  | false => exact h2 D B1 H1 σ (S.go s1) (L.mono s1.b)
def rInsD : V → List V → Hp → VK → Prop := fun x vs H Q => ∃ (l : Addr) (xs : List V) (i : Int) (y : V), x = .ref l ∧ vs = [.int i, y] ∧ H l = some (.lst xs) ∧ xs.length < sizeLine ∧ 0 ≤ i ∧ i < 2 ^ 63 ∧ Q .non (upd H l (.lst (xs.take i.toNat ++ [y] ++ xs.drop i.toNat)))
theorem mt_insD {X : Cx} : MtR X "list.insert" rInsD := mt_insert
/-- xs.insert(m, e), xs of its own -/
theorem sd_ins {n m : Nat} (hn : δ[n]? = some (Sl.own ds)) (hi : EvS K B0 H0 tb δ (nI (m : Int))) (h : EvS K B0 H0 te δ (.dat d)) (hz : ds.length < 100000) (hm : m ≤ 100000) (k : E.nx (δ.set n (.own (ds.take m ++ [d] ++ ds.drop m)))) : SD K B0 H0 W (tDrop (tBM K "list" rInsD (tVar n) (tCons tb (tCons te tNil)))) δ E := fun D B H σ S L => by
  obtain ⟨l, vs, h1, h2, h3, h4, h5⟩ := S.own n ds hn
  refine ⟨.ref l, h1, .inl ⟨rfl, _, sq_of h2⟩, hi B H σ S _ fun w B1 H1 s1 i1 => h B1 H1 σ (S.go s1) _ fun v B2 H2 s2 i2 => ?_⟩
  cases i1
  have s := s1.trans s2
  obtain ⟨l', ws, g1, g2, g3, g4, g5⟩ := (S.go s).own n ds hn
  rw [h1] at g1
  cases Option.some.inj (Option.some.inj g1)
  refine ⟨l, ws, (m : Int), v, rfl, rfl, g2, by rw [g5.len]; exact sz_lt hz, by omega, by have : (100000 : Int) < 2 ^ 63 := by decide
                                                                                          omega, ?_⟩
  refine L.nx B2 _ σ _ s.b ((S.go s).mut hn h1 ?_) k
  rw [Int.toNat_natCast]
  exact ((g5.take m).app (.cons i2 .nil)).app (g5.drop m)
/-- xs.pop(), xs of its own -/
theorem sd_pop {n : Nat} {e : PyData} (hn : δ[n]? = some (Sl.own (ds ++ [e]))) (k : E.nx (δ.set n (.own ds))) : SD K B0 H0 W (tDrop (tBM0 K "list" rPop (tVar n))) δ E := fun D B H σ S L => by
  obtain ⟨l, vs, h1, h2, h3, h4, h5⟩ := S.own n _ hn
  have hl := h5.len
  rw [List.length_append] at hl
  have hlt : vs.length - 1 < vs.length := by
    have : [e].length = 1 := rfl
    omega
  refine ⟨.ref l, h1, .inl ⟨rfl, _, sq_of h2⟩, l, vs, vs[vs.length - 1], rfl, rfl, h2, List.getElem?_eq_getElem hlt, ?_⟩
  refine L.nx B _ σ _ (.refl _) (S.mut hn h1 ?_) k
  have h6 := h5.take (vs.length - 1)
  rw [List.dropLast_eq_take]
  have e1 : (ds ++ [e]).take (vs.length - 1) = ds := by
    have : [e].length = 1 := rfl
    rw [show vs.length - 1 = ds.length by omega, List.take_left]
  rwa [e1] at h6
end
end Ja

/-! Own rule: a list comprehension whose element may raise. -/
namespace Lx
open PySem PySem.Spec PyProof.Rows L2
/-- what is wanted of an exception that leaves a comprehension's block, its own variables let go -/
def errX (M : Model) (A : Around) (E : Value → Shared → Prop) (ce : Env) (x : Value) (t : Shared) : Prop :=
  ∃ m, t.heap.Ns ce.locals m ∧ ∀ g, Heap.SameBut ce.locals t.heap g → wpAny M A (PySem.passOn "comprehension.variables-let-go" x ce : Sem Value) (fun _ _ => False) E { t with heap := g }
def postX (M : Model) (A : Around) (E : Value → Shared → Prop) (use : Option (Value → Sem Unit)) (Q : Value → Shared → Prop) (acc : Value) (ce : Env) (r : Result) (t : Shared) : Prop :=
  match r with
  | .ok _ => compPost M A E use Q acc ce.locals (.ok .next) t
  | .error x => errX M A E ce x t
section
variable {M : Model} {A : Around} {E : Value → Shared → Prop} {s : Shared} {env : Env}
theorem comp_freeX {e : Expr} {scope : Scope} {pos : Pos} {newAcc first : Sem Value} {g : Comprehension} {gs : List Comprehension} {cl : List (Str × Addr)} {use : Option (Value → Sem Unit)} {Q : Value → Shared → Prop} (hcl : clausesOf e = g :: gs) (hs : ∀ x, foldedSetIterable g.iter env x = pure x) (hclos : closureFor scope env = pure cl) (hkind : scope.kind = .function) (hnames : ∀ x ∈ scope.names, x.2 = .local → scope.names.lookup x.1 = some .local)
    (h : wpAny M A first (fun x t1 => wpAny M A (pyIter x) (fun it t2 => wpAny M A newAcc (fun acc t3 => wpAny M A (newFunctionEnv scope env.globals cl [] env.qual none .none (some env)) (fun ce t4 => codeAny M A (.compStart e 0 it acc { ce with scope := relabel scope env }) (postX M A E use Q acc { ce with scope := relabel scope env }) t4) E t3) E t2) E t1) E s) : wpAny M A (comprehension e scope env pos newAcc false first use) Q E s := by
  unfold comprehension
  rw [hclos, hcl]
  refine wpAny_bind (wpAny_mono h (fun x t1 k1 => wpAny_bind (wpAny_standAt (wpAny_bind (wpAny_of_eq (hs x) (wpAny_bind (wpAny_holding (wpAny_mono k1 (fun it t2 k2 => wpAny_standIf (wpAny_bind (wpAny_mono k2 (fun acc t3 k3 => wpAny_bind (wpAny_pure (wpAny_bind (wpAny_mono k3 (fun ce t4 k4 => ?_) fun _ _ z => z)))) fun _ _ z => z))) fun _ _ z => z))))))) fun _ _ z => z)
  dsimp only
  have hv : ∀ x ∈ (scope.names.filter fun x => (x.2 == .local || x.2 == .cell) && x.1 != (".0" : Str)).reverse, x.2 = .local → Env.kindOf { ce with scope := relabel scope env } x.1 = some .local := fun x hx hl => lookup_relabel_local (hnames x (List.mem_filter.mp (List.mem_reverse.mp hx)).1 hl)
  have hv2 : ∀ x ∈ (scope.names.filter fun x => (x.2 == .local || x.2 == .cell) && x.1 != (".0" : Str)).reverse.drop 1 ++ (scope.names.filter fun x => (x.2 == .local || x.2 == .cell) && x.1 != (".0" : Str)).reverse.take 1, x.2 = .local → Env.kindOf { ce with scope := relabel scope env } x.1 = some .local := fun x hx hl => (List.mem_append.mp hx).elim (fun z => hv x (List.mem_of_mem_drop z) hl) fun z => hv x (List.mem_of_mem_take z) hl
  refine wpAny_holding (wpAny_bind (wpAny_attempt (wpAny_holding (wpAny_run (codeAny_mono k4 fun r t hr => ?_)))))
  cases r with
  | ok f =>
    cases use with
    | none =>
      obtain ⟨m, hn, hr⟩ := hr
      exact wpAny_bind (wpAny_holding (wpAny_comp_letGo (cenv := { ce with scope := relabel scope env }) hkind _ t m hv hn fun g m' _ z => wpAny_pure (hr g z)))
    | some u =>
      refine wpAny_bind (wpAny_rule (wpAny_bind (wpAny_holding (wpAny_mono hr (fun _ t5 k5 => ?_) fun _ _ z => z))))
      obtain ⟨m, hn, k6⟩ := k5
      exact wpAny_bind (wpAny_comp_letGo (cenv := { ce with scope := relabel scope env }) hkind _ t5 m hv2 hn fun g m' _ z => wpAny_pure (k6 g z))
  | error x =>
    obtain ⟨m, hn, hr⟩ := hr
    exact wpAny_bind (wpAny_holding (wpAny_comp_letGo (cenv := { ce with scope := relabel scope env }) hkind _ t m hv hn fun g m' _ z => wpAny_mono (hr g z) (fun _ _ f => f.elim) fun _ _ y => y))
theorem note_env {x : Value} {e1 e2 : Env} (h : e1.frame = e2.frame) : noteFrame x e1 = noteFrame x e2 := by
  unfold noteFrame PySem.frameOf
  rw [h]
theorem pass_env {α : Type} {w : String} {x : Value} {e1 e2 : Env} (h : e1.frame = e2.frame) : (PySem.passOn w x e1 : Sem α) = passOn w x e2 := by
  unfold PySem.passOn
  rw [h]
theorem frames_but {C : Addr} {h g B B' : Heap} (k : ∀ b, b ≠ C → g.get? b = h.get? b) (kb : ∀ b, B.get? b = none → B'.get? b = none) : ∀ {l : List Env}, C ∉ frs l → h.FunFrames B l → g.FunFrames B' l
  | [], _, _ => trivial
  | e :: l, hC, hl => by
    obtain ⟨hk, ⟨L, o, hf, hn, ho, hd⟩, hr⟩ := hl
    have hm : L ∈ frs (e :: l) := List.mem_filterMap.mpr ⟨e, List.mem_cons_self, hf⟩
    refine ⟨hk, ⟨L, o, hf, kb L hn, (k L fun z => hC (z ▸ hm)).trans ho, hd⟩, frames_but k kb (fun z => hC ?_) hr⟩
    obtain ⟨e2, he, q⟩ := List.mem_filterMap.mp z
    exact List.mem_filterMap.mpr ⟨e2, List.mem_cons_of_mem _ he, q⟩
end
section
variable {X : Cx} {pins pins' : List (Addr × Obj)} {σ σ' : L2.St} {H H' : Hp} {s s' : Shared} {W : WX} {E : XK}
/-- a call's exception is in our air, and flies -/
theorem air_of_call (I : Inv X pins σ H s) {u : Value} (c : L2.CX X.prog X.w X.stack H s E u s') : ∃ (a : Addr) (B : Heap) (sI : Shared) (pins : List (Addr × Obj)) (σ2 : L2.St) (H2 : Hp) (cls : Value) (d : Option Addr),
    u = .ref a ∧ Inv X pins σ2 H2 sI ∧ (∀ b o, sI.heap.get? b = some o → b ∉ frs X.stack → B.get? b = some o) ∧ sI.heap.UpToSlots s'.heap ∧ HandSPX.FlyingZ B X.stack a (Zc cls d) s'.heap ∧ H2 a = none ∧ s'.os = sI.os ∧ AllBare s'.gens ∧ E cls d H2 := by
  obtain ⟨a0, B0, H0, cls0, d0, e0, fl0, _⟩ := id c
  obtain ⟨a, B, sI, p2, σ2, H2, cls, d, e1, I2, nb, up, sky, na, os, ag, w⟩ := XE.of_call (W := fun cls d _ H => E cls d H) I (fun _ _ _ h => h) c
  rw [e0] at e1
  cases e1
  obtain ⟨_, _, _, oe, vs, T, oT, ts, he, _, hd, h1, _, _, hT, hdT, h3⟩ := fl0
  refine ⟨a0, B, sI, p2, σ2, H2, cls, d, e0, I2, nb, up, ?_, na, os, ag, w⟩
  rcases sky with ⟨_, _, _, oe2, vs2, he2, _, hd2, h12⟩ | fl | ⟨_, _, _, oe2, vs2, T2, oT2, ts2, he2, _, hd2, h12, _, _, hT2, hdT2, h32⟩
  · rw [he] at he2
    cases he2
    rw [hd] at hd2
    cases hd2
    rw [h1] at h12
    cases h12
  · exact fl
  · rw [he] at he2
    cases he2
    rw [hd] at hd2
    cases hd2
    rw [h1] at h12
    cases h12
    rw [hT] at hT2
    cases hT2
    rw [hdT] at hdT2
    cases hdT2
    rw [h3] at h32
    cases h32
abbrev blkX (X : Cx) (s : Shared) (H : Hp) (scope : Scope) (ce : Env) (fp : List Addr) (xe : Value → Shared → Prop) : Cx := (X.blk s H scope ce fp).wish xe
theorem passes_comp {ce : Env} {fp : List Addr} {s3 : Shared} {H3 : Hp} {scope : Scope} {σ2 : L2.St} (hs : X.stack = X.env :: X.outer) (hf : X.env.frame = some X.env.locals) (hcf : ce.frame = X.env.frame) (hC : ce.locals = s3.heap.objs.size) (I3 : Inv X pins σ H3 s3)
    (hfp : ∀ b ∈ fp, (b ∈ X.ex ∨ X.s_0.heap.objs.size ≤ b) ∧ b ≠ X.env.locals ∧ (∀ x c, X.env.cells.lookup x = some c → c ≠ b) ∧ ∀ p ∈ X.pn ++ pins, p.1 ≠ b) (tk : Takes X W) : PassesAt (L2.CX X.prog X.w) (blkX X s3 H3 scope ce fp (notedBy (model X.prog X.w) X.A ce (errX (model X.prog X.w) X.A X.xe ce))) σ2 (fun cls d H => W cls d σ H) := by
  intro p1 H1 s1 u s2 I1 c
  obtain ⟨a, B, sI, p2, σ3, H2, cls, d, rfl, I2, nb, up, fl, na, os, ag, w⟩ := air_of_call I1 c
  have hfr : X.A.frames = some (X.env :: X.outer) := by rw [I3.ok.frames, hs]
  have fl : HandSPX.FlyingZ B X.stack a (Zc cls d) s2.heap := fl
  have hCs : ce.locals ∉ frs X.stack := by
    have f := I3.fpOk (H' := fun _ => none) (b := s3.heap.objs.size) (Nat.le_refl _) rfl
    rw [hC, hs]
    intro hm
    obtain ⟨e2, he, q⟩ := List.mem_filterMap.mp hm
    rcases List.mem_cons.mp he with z | z
    · rw [z, hf] at q
      exact f.2.1 (Option.some.inj q).symm
    · exact f.2.2.1 (List.mem_filterMap.mpr ⟨e2, z, q⟩)
  show notedBy _ _ ce _ (.ref a) s2
  unfold notedBy
  rw [note_env hcf]
  rw [hs] at fl
  refine HandSPX.looks_onZ Zc.steady hfr hf fl fun h1 hh1 up1 => ?_
  rw [← hs] at hh1
  obtain ⟨m, hm, _⟩ := I2.loc
  have hm : sI.heap.Ns ce.locals m := hm
  refine ⟨m, hm.at' fun o eo => hh1.1 _ o (nb _ o eo hCs), fun g sb => ?_⟩
  rw [pass_env hcf]
  have hold : HandSPX.HeldZ (PySem.W.hideAll B [ce.locals]) X.stack a (Zc cls d) X.env.locals g := by
    obtain ⟨k1, k2, k3, oe, vs, T, oT, ts, he, hz, hd, q1, hnT, hTe, hT, hdT, q3⟩ := hh1
    have off : ∀ b, B.get? b = none → (PySem.W.hideAll B [ce.locals]).get? b = none := fun b e => by
      cases q : (PySem.W.hideAll B [ce.locals]).get? b with
      | none => rfl
      | some o =>
        have z := PySem.W.of_hideAll _ q
        rw [e] at z
        cases z
    have hB : ∃ o, B.get? ce.locals = some o := by
      obtain ⟨o, es, ep, ho, _⟩ := hm
      exact ⟨o, nb _ o ho hCs⟩
    obtain ⟨oC, hBC⟩ := hB
    refine ⟨fun b o e => ?_, off a k2, frames_but sb.2 off hCs k3, oe, vs, T, oT, ts, (sb.2 a fun z => ?_).trans he, hz, hd, q1, off T hnT, hTe, (sb.2 T fun z => ?_).trans hT, hdT, q3⟩
    · have hb : b ≠ ce.locals := fun z => by
        rw [z, PySem.W.hideAll_none _ (List.mem_singleton.mpr rfl)] at e
        cases e
      exact (sb.2 b hb).trans (k1 b o (PySem.W.of_hideAll _ e))
    · rw [z, hBC] at k2
      cases k2
    · rw [z, hBC] at hnT
      cases hnT
  obtain ⟨k1, k2, k3, oe, vs, T, oT, ts, he, hz, hd, q1, hnT, hTe, hT, hdT, q3⟩ := id hold
  unfold PySem.passOn
  refine wpAny_bind (wpAny_field he hd q1 ?_)
  rw [if_neg (show ¬ ((Value.ref T == Value.none) = true) from by simp)]
  have fin : wpAny (model X.prog X.w) X.A (setFlight (.ref a) X.env.frame) (fun _ s4 => wpAny (model X.prog X.w) X.A (throw (.ref a) : Sem Value) (fun _ _ => False) X.xe s4) X.xe { s2 with heap := g } := by
    rw [hf]
    refine HandSPX.setFlight_onZ hold fun h4 hh4 up4 => wpAny_throw (tk _ _ ?_)
    have hid : ∀ b o, (PySem.W.hideAll sI.heap [ce.locals]).get? b = some o → sI.heap.get? b = some o ∧ b ≠ ce.locals := fun b o e => ⟨PySem.W.of_hideAll _ e, fun z => by
      rw [z, PySem.W.hideAll_none _ (List.mem_singleton.mpr rfl)] at e
      cases e⟩
    have keep : ∀ b o, sI.heap.get? b = some o → b ≠ ce.locals → (PySem.W.hideAll sI.heap [ce.locals]).get? b = some o := fun b o e n => PySem.W.hideAll_get _ e fun z => n (List.mem_singleton.mp z)
    have old : ∀ b o, s3.heap.get? b = some o → b ≠ ce.locals := fun b o e z => by
      have := Heap.lt_size e
      rw [z, hC] at this
      exact Nat.lt_irrefl _ this
    have fC : H2 ce.locals = none := I2.free
    have u2 : Un (frs X.stack) fp H3 H2 s3.heap (PySem.W.hideAll sI.heap [ce.locals]) := ⟨fun b o e n nf nx => keep b o (I2.base.keep b o e n nf nx) (old b o e), fun b o e n hb nx => by
        obtain ⟨sl, q⟩ := I2.base.slot b o e n hb nx
        exact ⟨sl, keep b _ q (old b o e)⟩, fun b o e n nx => I2.base.free b o e n nx, fun b o e nx => by
        obtain ⟨o', q⟩ := I2.base.there b o e nx
        exact ⟨o', keep b o' q (old b o e)⟩, I2.base.tups, I2.base.frzs, I2.base.tbls⟩
    have hok2 : HOk X.prog X.w H2 (PySem.W.hideAll sI.heap [ce.locals]) := fun b o q => (I2.hok b o q).stay (fun c v hc r => keep c v r fun z => by
      rcases hc with y | y
      · rw [z] at y
        rw [y, q] at fC
        cases fC
      · rw [z, fC] at y
        cases y) (fun _ r => r) fun _ _ r => r
    have J : Inv X pins σ H2 { sI with heap := PySem.W.hideAll sI.heap [ce.locals] } := I3.call' (ch := fp) I2.os u2 hok2 I2.bare hfp
    refine ⟨a, PySem.W.hideAll B [ce.locals], { sI with heap := PySem.W.hideAll sI.heap [ce.locals] }, pins, σ, H2, cls, d, rfl, J, fun b o e nf => ?_, fun b o e nfl => ?_, .inr (.inr hh4), na, os, ag, w⟩
    · obtain ⟨e1, n1⟩ := hid b o e
      exact PySem.W.hideAll_get _ (nb b o e1 nf) fun z => n1 (List.mem_singleton.mp z)
    · obtain ⟨e1, n1⟩ := hid b o e
      obtain ⟨sl1, r1⟩ := up b o e1 nfl
      obtain ⟨sl2, r2⟩ := up1 b _ r1 nfl
      obtain ⟨sl3, r3⟩ := up4 b _ ((sb.2 b n1).trans r2) nfl
      exact ⟨sl3, r3⟩
  first
    | exact wpAny_bind (wpAny_pure (wpAny_bind fin))
    | exact wpAny_bind fin
end
/-- [elt for target in iter if ..], the element may raise what W takes -/
def tLcX (W : WX) (wi : TI) (g : TG) (tt : TT) (te : XK → TE) (vs : List Nat) : TE := fun σ H Q => tLc wi g tt (te fun cls d H' => W cls d σ H') vs σ H Q
theorem lc_coreX {X : Cx} {W : WX} {pins : List (Addr × Obj)} {s : Shared} {σ : L2.St} {H : Hp} {Q : VK} {elt tg iter : Expr} {ifs : List Expr} {scope : Scope} {own : List (Str × Nat)} {pos pos' : Pos} {wi : TI} {g : TG} {tt : TT} {te : XK → TE} {use : Option (Value → Sem Unit)} {Qf : Value → Shared → Prop}
    (hs1 : X.stack = X.env :: X.outer) (hf : X.env.frame = some X.env.locals) (tk : Takes X W) (hc : X.calm = true) (hN : X.N.Nodup) (I : Inv X pins σ H s) (hi : PI X tg iter wi) (ok : BlkOk X.N X.env.scope scope own)
    (hg : ∀ (s : Shared) (H : Hp) (C : Addr) (cl : List (Str × Addr)) (fp : List Addr) (xe : Value → Shared → Prop), PG (blkX X s H scope (compEnvC scope cl C X.env) fp xe) tg g) (ht : ∀ (s : Shared) (H : Hp) (C : Addr) (cl : List (Str × Addr)) (fp : List Addr) (xe : Value → Shared → Prop), PTs (blkX X s H scope (compEnvC scope cl C X.env) fp xe) ifs tt)
    (he : ∀ (s : Shared) (H : Hp) (C : Addr) (cl : List (Str × Addr)) (fp : List Addr) (xe : Value → Shared → Prop) (E0 : XK), (∀ σ', PassesAt (L2.CX X.prog X.w) (blkX X s H scope (compEnvC scope cl C X.env) fp xe) σ' E0) → PE (blkX X s H scope (compEnvC scope cl C X.env) fp xe) elt (te E0)) (hs : ∀ x, foldedSetIterable iter X.env x = pure x)
    (h : tLcX W wi g tt te (own.map (·.2)) σ H Q)
    (hRR : ∀ D C s' m H', Inv X pins σ H' s' → Q (.ref D) H' → s'.heap.Ns C m → FpOk X pins H' C → compPost (model X.prog X.w) X.A X.xe use Qf (.ref D) C (.ok .next) s') :
    wpAny (model X.prog X.w) X.A (comprehension (.ListComp elt [⟨tg, iter, ifs, 0⟩] scope pos) scope X.env pos' (newList []) false (eval iter X.env) use) Qf X.xe s := by
  have hfree : ∀ y ∈ scope.names, y.2 = .free → ∃ c, X.env.cells.lookup y.1 = some c := fun y hy e => by
    rcases ok.free y hy e with k | k
    · exact I.ok.has _ (.inl k)
    · exact I.ok.has _ (.inr k)
  refine comp_freeX (use := use) rfl hs (closure_ok hfree) ok.kind (fun y hy e => by rw [ok.uniq y hy, e])
    (thn (hi.run pins s σ H _ I h) fun xv z1 hx => thn hx fun itv z2 h2 => ?_)
  obtain ⟨it, fp, tn, J, G2, e, v2, T, kt2, ff2, q⟩ := h2
  subst e
  refine wpAny_newObj_type (newEnv_comp ?_) (by show 0 ≤ sizeLine; decide)
  generalize hD : z2.heap.objs.size = D
  have hDn : G2 D = none := v2.hok.fresh (Nat.le_of_eq hD)
  obtain ⟨Ms, ⟨m0, ms0⟩, turn⟩ := q D hDn
  generalize hs3 : ({ z2 with heap := z2.heap.push { cls := .type "list", data := .seq ([] : List Value).toArray } } : Shared) = z3
  have v3 : Inv X pins σ (upd G2 D (.lst [])) z3 := by
    rw [← hs3]
    refine v2.laid (t' := z2.toks) (fun b o e => Heap.get?_push_of_some _ e) (Nat.le_of_eq hD) ⟨Nat.zero_le _, [], 0, .nil, ?_⟩
    rw [← hD]
    exact Heap.get?_push_size _ rfl
  have h3 : z3.heap = z2.heap.push { cls := .type "list", data := .seq ([] : List Value).toArray } := by rw [← hs3]
  have sz : ∀ b ∈ fp, b < z2.heap.objs.size := fun b hb => by
    obtain ⟨o, e, _⟩ := T.obj _ _ kt2 b hb
    exact Heap.lt_size e
  have ff3 : ∀ b ∈ fp, FpOk X pins (upd G2 D (.lst [])) b ∧ b < z3.heap.objs.size := fun b hb => by
    have hlt := sz b hb
    refine ⟨⟨?_, (ff2 b hb).2⟩, by rw [h3, Heap.size_push]; exact Nat.lt_succ_of_lt hlt⟩
    rw [upd_ne (by rw [← hD]; exact Nat.ne_of_lt hlt)]
    exact (ff2 b hb).1
  have kt3 : tn 0 z3.heap := T.keep _ _ _ kt2 fun b _ o e => by rw [h3]; exact Heap.get?_push_of_some _ e
  have v4 := block_start v3 ok hN ff3
  have pg := hg z3 (upd G2 D (.lst [])) z3.heap.objs.size (cellsFrom (z3.heap.objs.size + 1) scope.names (cloFrom X.env.cells scope.names [])) fp
  have pt := ht z3 (upd G2 D (.lst [])) z3.heap.objs.size (cellsFrom (z3.heap.objs.size + 1) scope.names (cloFrom X.env.cells scope.names [])) fp
  have pe := he z3 (upd G2 D (.lst [])) z3.heap.objs.size (cellsFrom (z3.heap.objs.size + 1) scope.names (cloFrom X.env.cells scope.names [])) fp
  show codeAny _ _ (.compStart (.ListComp elt [⟨tg, iter, ifs, 0⟩] scope pos) 0 (.ref it) (.ref D) (compEnvC scope (cellsFrom (z3.heap.objs.size + 1) scope.names (cloFrom X.env.cells scope.names [])) z3.heap.objs.size X.env)) (postX (model X.prog X.w) X.A X.xe use Qf (.ref D) (compEnvC scope (cellsFrom (z3.heap.objs.size + 1) scope.names (cloFrom X.env.cells scope.names [])) z3.heap.objs.size X.env)) { z3 with heap := pushCells (z3.heap.push { cls := .type "dict", data := .dict #[] }) scope.names }
  have nfp : ∀ b ∈ fp, (upd G2 D (.lst [])) b = none := fun b hb => (ff3 b hb).1.1
  generalize hce : compEnvC scope (cellsFrom (z3.heap.objs.size + 1) scope.names (cloFrom X.env.cells scope.names [])) z3.heap.objs.size X.env = ce at v4 pg pt pe ⊢
  have cL : ce.locals = z3.heap.objs.size := by subst hce; rfl
  have cF : ce.frame = X.env.frame := by subst hce; rfl
  generalize hH3 : upd G2 D (.lst []) = G3 at v3 v4 pg pt pe ms0 nfp ff3
  have hps : ∀ σ2, PassesAt (L2.CX X.prog X.w) (blkX X z3 G3 scope ce fp (notedBy (model X.prog X.w) X.A ce (errX (model X.prog X.w) X.A X.xe ce))) σ2 (fun cls d H => W cls d σ H) := fun σ2 => passes_comp hs1 hf cF cL v3 (fun b hb => ⟨(ff3 b hb).1.2.2.2.1, (ff3 b hb).1.2.1, (ff3 b hb).1.2.2.2.2.1, (ff3 b hb).1.2.2.2.2.2⟩) tk
  generalize hs4 : ({ z3 with heap := pushCells (z3.heap.push { cls := .type "dict", data := .dict #[] }) scope.names } : Shared) = z4 at v4 ⊢
  have kt4 : tn 0 z4.heap := T.keep _ _ _ kt3 fun b _ o e => by rw [← hs4]; exact pushCells_keeps _ _ _ _ (Heap.get?_push_of_some _ e)
  replace pg := pg (notedBy (model X.prog X.w) X.A ce (errX (model X.prog X.w) X.A X.xe ce))
  replace pt := pt (notedBy (model X.prog X.w) X.A ce (errX (model X.prog X.w) X.A X.xe ce))
  replace pe := pe _ _ hps
  replace v4 := v4.wish (notedBy (model X.prog X.w) X.A ce (errX (model X.prog X.w) X.A X.xe ce))
  generalize hxe : notedBy (model X.prog X.w) X.A ce (errX (model X.prog X.w) X.A X.xe ce) = xe at pg pt pe v4
  have stat : ∀ {σ' : L2.St} {H' : Hp} {s' : Shared}, Inv (blkX X z3 G3 scope ce fp xe) [] σ' H' s' → (∀ b ∈ fp, H' b = none) → ∀ b ∈ fp, FpOk (blkX X z3 G3 scope ce fp xe) [] H' b := fun {σ' H' s'} I' hn b hb =>
    ⟨hn b hb, (I'.ok.exf b hb).1, I'.ok.exfs b hb, .inl hb, fun x c e => (I'.ok.exf b hb).2 x c e, fun p hp => absurd (show p ∈ ([] : List (Addr × Obj)) ++ [] from hp) (by simp)⟩
  have loop : codeAny (model X.prog X.w) X.A (.compLoop (.ListComp elt [⟨tg, iter, ifs, 0⟩] scope pos) 0 (.ref it) (.ref D) ce) (postX (model X.prog X.w) X.A X.xe use Qf (.ref D) ce) z4 := by
    have hxe2 : notedBy (model X.prog X.w) X.A ce (fun e s' => postX (model X.prog X.w) X.A X.xe use Qf (.ref D) ce (.error e) s') = xe := hxe
    refine compLoop_any (fun n s' => ∃ i H', Inv (blkX X z3 G3 scope ce fp xe) [] (wipe σ (own.map (·.2))) H' s' ∧ tn i s'.heap ∧ (∀ b ∈ fp, H' b = none) ∧ Ms i n H') ?_ m0 ⟨0, G3, v4, kt4, nfp, ms0⟩
    rintro n z5 ⟨i, G5, v5, kt5, nn5, ms5⟩
    rw [hxe2]
    rcases turn i n G5 ms5 with ⟨stop, qq⟩ | ⟨go, Nx, hNx, step⟩
    · have td := T.done (blkX X z3 G3 scope ce fp xe) rfl rfl rfl hc i [] z5 _ G5 xe v5 (stat v5 nn5) kt5 stop
      refine thn td fun r z6 ⟨hr, v6⟩ => ?_
      subst hr
      have v7 : Inv X pins σ G5 z6 := v3.call' (ch := fp) v6.os v6.base v6.hok v6.bare fun b hb => ⟨(ff3 b hb).1.2.2.2.1, (ff3 b hb).1.2.1, (ff3 b hb).1.2.2.2.2.1, (ff3 b hb).1.2.2.2.2.2⟩
      have nC : G5 z3.heap.objs.size = none := by
        have z : G5 ce.locals = none := v6.free
        rw [cL] at z
        exact z
      obtain ⟨m, hn, _⟩ := v6.loc
      have hn : z6.heap.Ns ce.locals m := hn
      rw [cL] at hn
      have fin1 := hRR D z3.heap.objs.size z6 m G5 v7 qq hn (v3.fpOk (Nat.le_refl _) nC)
      rw [← cL] at fin1
      exact fin1
    · have ti := T.item (blkX X z3 G3 scope ce fp xe) rfl rfl rfl hc i [] z5 _ G5 xe v5 (stat v5 nn5) kt5 go
      refine thn ti fun r z6 ⟨u, hr, h6⟩ => ?_
      subst hr
      refine thn h6 fun _ z7 ⟨x, G7, v7, rv7, y7, kt7, nn7⟩ => ?_
      have v7' := v7.pinned (stat v7 nn7) (T.obj _ _ kt7)
      refine thn (pg.run _ z7 _ G7 x u _ v7' rv7 (step x G7 y7)) fun _ z8 ⟨σ8, G8, v8, hw8, qu8⟩ => ?_
      refine thn (pt.run _ z8 σ8 G8 _ v8 qu8) fun b z9 ⟨G9, v9, qu9⟩ => ?_
      have fin : ∀ {s' : Shared} {H' : Hp}, Inv (blkX X z3 G3 scope ce fp xe) ([] ++ pinsAt fp z7.heap) σ8 H' s' → Nx H' → ∃ m, m < n ∧ ∃ i H', Inv (blkX X z3 G3 scope ce fp xe) [] (wipe σ (own.map (·.2))) H' s' ∧ tn i s'.heap ∧ (∀ b ∈ fp, H' b = none) ∧ Ms i m H' := fun {s' H'} I' nx => by
        obtain ⟨m', hm, w'⟩ := hNx H' nx
        have pin' : ∀ b ∈ fp, ∀ o, z7.heap.get? b = some o → s'.heap.get? b = some o ∧ H' b = none := fun b hb o e =>
          let z := I'.pin (b, o) (List.mem_append_right _ (List.mem_append_right _ (mem_pinsAt hb e)))
          ⟨z.1, z.2.1⟩
        have hl : (wipe σ (own.map (·.2))).length = σ8.length := by rw [← hw8, wipe_length]
        refine ⟨m', hm, i + 1, H', (I'.unpinned (pins := [])).weak hl (fun j v e => ?_), T.keep _ _ _ kt7 fun b hb o e => (pin' b hb o e).1, fun b hb => ?_, w'⟩
        · rw [← hw8] at e
          exact (wipe_some e).1
        · obtain ⟨o, e, _⟩ := T.obj _ _ kt7 b hb
          exact (pin' b hb o e).2
      cases b with
      | false =>
        simp only [Bool.false_eq_true, if_false] at qu9 ⊢
        exact fin v9 qu9
      | true =>
        simp only [if_true] at qu9 ⊢
        refine thn (pe.run _ z9 σ8 G9 _ v9 qu9) fun z z10 ⟨yv, G10, v10, rv10, acc, hD10, hz10, nx⟩ => ?_
        exact app_ok (X := blkX X z3 G3 scope ce fp xe) v10 hD10 hz10 rv10 fun z11 v11 => fin v11 nx
  exact codeAny_compStart_list loop (T.self X.A 0 _ _ _ kt4 loop)
/-- as a value -/
theorem pe_lcX {X : Cx} {W : WX} {elt tg iter : Expr} {ifs : List Expr} {scope : Scope} {own : List (Str × Nat)} {pos : Pos} {wi : TI} {g : TG} {tt : TT} {te : XK → TE} (hs1 : X.stack = X.env :: X.outer) (hf : X.env.frame = some X.env.locals) (tk : Takes X W) (hc : X.calm = true) (hN : X.N.Nodup) (hi : PI X tg iter wi) (ok : BlkOk X.N X.env.scope scope own)
    (hg : ∀ (s : Shared) (H : Hp) (C : Addr) (cl : List (Str × Addr)) (fp : List Addr) (xe : Value → Shared → Prop), PG (blkX X s H scope (compEnvC scope cl C X.env) fp xe) tg g) (ht : ∀ (s : Shared) (H : Hp) (C : Addr) (cl : List (Str × Addr)) (fp : List Addr) (xe : Value → Shared → Prop), PTs (blkX X s H scope (compEnvC scope cl C X.env) fp xe) ifs tt)
    (he : ∀ (s : Shared) (H : Hp) (C : Addr) (cl : List (Str × Addr)) (fp : List Addr) (xe : Value → Shared → Prop) (E0 : XK), (∀ σ', PassesAt (L2.CX X.prog X.w) (blkX X s H scope (compEnvC scope cl C X.env) fp xe) σ' E0) → PE (blkX X s H scope (compEnvC scope cl C X.env) fp xe) elt (te E0)) (hs : ∀ x, foldedSetIterable iter X.env x = pure x := by intro _; rfl) :
    PE X (.ListComp elt [⟨tg, iter, ifs, 0⟩] scope pos) (tLcX W wi g tt te (own.map (·.2))) := by
  refine ⟨fun pins s σ H Q I h => ?_⟩
  rw [eval_ListComp]
  refine lc_coreX hs1 hf tk hc hN I hi ok hg ht he hs h fun D C t m G I2 q hn f => ⟨m, hn, fun g2 sb => ?_⟩
  exact ⟨.ref D, G, I2.turned (t' := t.toks) (fun b o hb e => (sb.2 b hb).trans e) f.1 f.2.1 f.2.2.2.1 f.2.2.2.2.1 f.2.2.2.2.2, rfl, q⟩
/-- name = [..] on one line, the name a local -/
theorem ps_setLcX {X : Cx} {W : WX} {i : Nat} {y : Str} {py : Pos} {elt tg iter : Expr} {ifs : List Expr} {scope : Scope} {own : List (Str × Nat)} {pos spos : Pos} {wi : TI} {g : TG} {tt : TT} {te : XK → TE} (hs1 : X.stack = X.env :: X.outer) (hf : X.env.frame = some X.env.locals) (tk : Takes X W) (hc : X.calm = true) (hN : X.N.Nodup) (hy : X.N[i]? = some y) (hyl : X.env.scope.names.lookup y = some .local)
    (hsw : swapsWith (.ListComp elt [⟨tg, iter, ifs, 0⟩] scope pos) (some (.Name y py)) spos.line X.env = pure true) (hi : PI X tg iter wi) (ok : BlkOk X.N X.env.scope scope own)
    (hg : ∀ (s : Shared) (H : Hp) (C : Addr) (cl : List (Str × Addr)) (fp : List Addr) (xe : Value → Shared → Prop), PG (blkX X s H scope (compEnvC scope cl C X.env) fp xe) tg g) (ht : ∀ (s : Shared) (H : Hp) (C : Addr) (cl : List (Str × Addr)) (fp : List Addr) (xe : Value → Shared → Prop), PTs (blkX X s H scope (compEnvC scope cl C X.env) fp xe) ifs tt)
    (he : ∀ (s : Shared) (H : Hp) (C : Addr) (cl : List (Str × Addr)) (fp : List Addr) (xe : Value → Shared → Prop) (E0 : XK), (∀ σ', PassesAt (L2.CX X.prog X.w) (blkX X s H scope (compEnvC scope cl C X.env) fp xe) σ' E0) → PE (blkX X s H scope (compEnvC scope cl C X.env) fp xe) elt (te E0)) (hs : ∀ x, foldedSetIterable iter X.env x = pure x := by intro _; rfl) :
    PS X (.Assign [.Name y py] (.ListComp elt [⟨tg, iter, ifs, 0⟩] scope pos) spos) (tAsg (tLcX W wi g tt te (own.map (·.2))) (gName i)) := by
  refine ⟨fun pins s σ H D I h => ?_⟩
  rw [exec_Assign_Name_used _ _ _ _ hsw]
  refine wpAny_bind (wpAny_standAt (wpAny_bind ?_))
  have k : tLcX W wi g tt te (own.map (·.2)) σ H (fun x H1 => gName i x σ H1 D.nx) := h
  refine (show wpAny _ X.A (do let _ ← comprehension (.ListComp elt [⟨tg, iter, ifs, 0⟩] scope pos) scope X.env (firstIterPos [⟨tg, iter, ifs, 0⟩] pos) (newList []) false (eval iter X.env) (some (assign (.Name y py) X.env))) _ _ s from wpAny_bind (thn (lc_coreX (Qf := fun _ t => SP X pins D .next t) hs1 hf tk hc hN I hi ok hg ht he hs k fun L C t m G I2 q hn f => ?_) fun _ t hq => wpAny_pure (wpAny_pure hq)))
  refine (show wpAny _ _ (assign (.Name y py) X.env (.ref L)) _ _ _ from wpAny_assign_Name (store_ok2 (v := V.ref L) I2 hN hy (.inl hyl) rfl (fun t2 J2 ⟨a, sb, ha⟩ => ?_) (.inr hyl)))
  have haC : C ≠ a := fun z => by
    rcases ha with y2 | y2
    · exact f.2.1 (z.trans y2)
    · exact f.2.2.2.2.1 _ _ y2 z.symm
  exact ⟨m, hn.sameBut sb haC, fun g3 sb3 => ⟨_, G, J2.turned (t' := t2.toks) (fun b o hb e => (sb3.2 b hb).trans e) f.1 f.2.1 f.2.2.2.1 f.2.2.2.2.1 f.2.2.2.2.2, q⟩⟩
end Lx

/-! Own data layer: a list comprehension whose element may raise. -/
namespace Ja
open PySem PySem.Spec PyProof.Rows L2 Evl Cm
/-- every item, if there is one for each -/
def mapO {A B : Type} (v : A → Option B) : List A → Option (List B)
  | [] => some []
  | x :: r => (v x).bind fun y => (mapO v r).map fun ys => y :: ys
theorem mapO_snoc {A B : Type} (v : A → Option B) (x : A) : ∀ l : List A, mapO v (l ++ [x]) = (mapO v l).bind fun ys => (v x).map fun y => ys ++ [y]
  | [] => by
    show (v x).bind _ = (v x).map _
    cases v x <;> rfl
  | z :: l => by
    show (v z).bind (fun y => (mapO v (l ++ [x])).map fun ys => y :: ys) = ((v z).bind fun y => (mapO v l).map fun ys => y :: ys).bind _
    rw [mapO_snoc v x l]
    cases v z with
    | none => rfl
    | some y =>
      cases mapO v l with
      | none => rfl
      | some ys =>
        cases v x <;> rfl
theorem mapO_none {A B : Type} {v : A → Option B} {x : A} (h : v x = none) : ∀ {l : List A}, x ∈ l → mapO v l = none
  | z :: l, hm => by
    show (v z).bind (fun y => (mapO v l).map fun ys => y :: ys) = none
    rcases List.mem_cons.mp hm with e | e
    · rw [← e, h]
      rfl
    · rw [mapO_none h e]
      cases v z <;> rfl
theorem mapO_some {A B : Type} {v : A → Option B} {f : A → B} : ∀ {l : List A}, (∀ x ∈ l, v x = some (f x)) → mapO v l = some (l.map f)
  | [], _ => rfl
  | z :: l, h => by
    show (v z).bind (fun y => (mapO v l).map fun ys => y :: ys) = _
    rw [h z (List.mem_cons_self ..), mapO_some fun x hx => h x (List.mem_cons_of_mem _ hx)]
    rfl
theorem mapO_len {A B : Type} {v : A → Option B} : ∀ {l : List A} {ys : List B}, mapO v l = some ys → ys.length = l.length
  | [], ys, h => by
    cases h
    rfl
  | z :: l, ys, h => by
    have h : (v z).bind (fun y => (mapO v l).map fun ys => y :: ys) = some ys := h
    cases hz : v z with
    | none =>
      rw [hz] at h
      cases h
    | some y =>
      rw [hz] at h
      cases hl : mapO v l with
      | none =>
        rw [hl] at h
        cases h
      | some zs =>
        rw [hl] at h
        cases h
        rw [List.length_cons, mapO_len hl]
        rfl
/-- a new list of which P is true, or one of ex is raised -/
def EvNX (K : PySem.W.Frag) (B0 H0 : Hp) (W : WX) (te : TE) (δ : List Sl) (P : List PyData → Prop) (ex : Addr → Prop) : Prop := ∀ B H σ, Sc K B0 H0 B H σ δ → (∀ C B' H', Stp B H B' H' → ex C → W (.ref C) none σ H') → ∀ Q : VK, (∀ l vs ds B' H', P ds → Stp B H B' H' → H l = none → B' l = none → H' l = some (.lst vs) → DtAll K B' vs ds → Q (.ref l) H') → te σ H Q
section
variable {K : PySem.W.Frag} {B0 H0 B H B' H' : Hp} {W : WX} {σ : L2.St} {δ δ1 δ2 : List Sl} {te : TE} {t u : TS} {E : DE}
theorem nx_lc {A : Type} {wi : TI} {g : TG} {vs ix : List Nat} {te : XK → TE} (xs : List A) (enc : A → PyData) (δt : A → List Sl) (v : A → Option PyData) (bad : Addr) (hw : EvW K B0 H0 wi δ (xs.map enc)) (hix : ∀ i ∈ ix, i ∈ vs) (hz : xs.length ≤ 40000)
    (hg : ∀ x ∈ xs, TGd K B0 H0 g ix (wipeD δ vs) (enc x) (δt x)) (he : ∀ x ∈ xs, ∀ E0 : XK, EvX K B0 H0 (fun cls d _ H => E0 cls d H) (te E0) (δt x) (fun d => v x = some d) (fun C => C = bad ∧ v x = none)) : EvNX K B0 H0 W (Lx.tLcX W wi g tYes te vs) δ (fun ds => mapO v xs = some ds) (fun C => C = bad ∧ mapO v xs = none) := fun B H σ S qx Q q => by
  refine hw B H σ S _ fun J G Y B1 H1 s1 Wk hG hY => ?_
  intro D hD
  have hBD : B1 D = none := none_of s1.bh hD
  refine lc_it Wk (fun i H' => ∃ B' ws ds, mapO v (xs.take i) = some ds ∧ Ex B1 B' ∧ Ex B' H' ∧ Ex H1 H' ∧ (∀ a, B' a ≠ none → B1 a ≠ none ∨ H1 a = none) ∧ B' D = none ∧ H' D = some (.lst ws) ∧ DtAll K B' ws ds) ?_ (fun i H' hi ⟨B', ws, ds, e0, e1, e2, e3, hn, e4, e5, e6⟩ => hG B' H' e1 e2) ?_ fun H' ⟨B', ws, ds, e0, e1, e2, e3, hn, e4, e5, e6⟩ => ?_
  · exact ⟨B1, [], [], rfl, .refl _, Ex.mut s1.bh hBD, Ex.new hD, fun a h => .inl h, hBD, upd_same, .nil⟩
  · intro i x H2 H3 hi ⟨B2, ws, ds, e0, e1, e2, e3, hn, e4, e5, e6⟩ y
    rw [List.length_map] at hi
    have hx : (xs.map enc)[i]? = some (enc xs[i]) := by rw [List.getElem?_map, List.getElem?_eq_getElem hi]; rfl
    obtain ⟨B3, s3, dx⟩ := hY i H2 x H3 B2 _ hx e1 e2 y
    have hmem : xs[i] ∈ xs := List.getElem_mem hi
    have tk : xs.take (i + 1) = xs.take i ++ [xs[i]] := by rw [List.take_succ, List.getElem?_eq_getElem hi]; rfl
    have hDn : H2 D ≠ none := by rw [e5]; exact fun z => by cases z
    have b3 : B3 D = none := by
      cases e : B3 D with
      | none => rfl
      | some o =>
        rcases s3.n D (by rw [e]; exact fun z => by cases z) with z | z
        · exact absurd e4 z
        · exact absurd z hDn
    have st12 : Stp B1 H1 B2 H2 := ⟨e1, e2, e3, hn⟩
    have S3 : Sc K B0 H0 B3 H3 σ δ := (S.go s1).go (st12.trans s3)
    refine hg _ hmem B3 H3 (wipe σ vs) x (S3.wipe vs) dx _ fun σ2 S2 w2 => ⟨?_, ?_⟩
    · rw [w2 vs hix]
      exact wipe_id fun _ h => h
    · show tYes σ2 H3 _
      unfold tYes
      show if true = true then _ else _
      rw [if_pos rfl]
      have b4 : ∀ {B5 H5 : Hp}, Stp B3 H3 B5 H5 → B5 D = none := fun {B5 H5} s5 => by
        cases e : B5 D with
        | none => rfl
        | some o =>
          rcases s5.n D (by rw [e]; exact fun z => by cases z) with z | z
          · exact absurd b3 z
          · rw [s3.h _ _ e5] at z
            cases z
      refine he _ hmem _ B3 H3 σ2 S2 (fun C B5 H5 s5 ⟨hC, hv⟩ => qx C B5 H5 (s1.trans ((st12.trans s3).trans s5)) ⟨hC, mapO_none hv hmem⟩) _ fun u d B5 H5 hd s5 i5 => ?_
      have sAll := (st12.trans s3).trans s5
      have h5 : H5 D = some (.lst ws) := s5.h _ _ (s3.h _ _ e5)
      refine ⟨ws, h5, ?_, B5, ws ++ [u], ds ++ [d], ?_, sAll.b, Ex.mut sAll.bh (b4 s5), Ex.mut sAll.h hD, sAll.n, b4 s5, upd_same, (dts_mono (s3.b.trans s5.b) _ _ e6).app (.cons i5 .nil)⟩
      · rw [e6.len, mapO_len e0, List.length_take]
        exact sz_lt (by omega)
      · rw [tk, mapO_snoc, e0, hd]
        rfl
  · rw [List.length_map, List.take_length] at e0
    exact q D ws ds B' H' e0 (s1.trans (⟨e1, e2, e3, hn⟩ : Stp B1 H1 B' H')) (none_of s1.h hD) e4 e5 e6
theorem sd_asgNX {n : Nat} {P : List PyData → Prop} {ex : Addr → Prop} (h : EvNX K B0 H0 W te δ P ex) (hx : ∀ C, ex C → E.ex C δ) (k : ∀ ds, P ds → E.nx (δ.set n (.own ds))) : SD K B0 H0 W (tAsg te (gName n)) δ E := fun D B H σ S L => h B H σ S (fun C B' H' st hC => L.ex C B' H' σ δ st.b (S.go st) (hx C hC)) _ fun l vs ds B1 H1 p s1 f1 f2 f3 f4 => by
  refine L.nx B1 H1 _ _ s1.b ((S.go s1).setO n f3 f2 (none_of S.st.h f1) f4 fun j es _ hj hl => ?_) (k ds p)
  obtain ⟨m, ws, g1, g2, _⟩ := S.own j es hj
  rw [hl] at g1
  cases Option.some.inj (Option.some.inj g1)
  rw [f1] at g2
  cases g2
theorem q_asgNX {n : Nat} {P : List PyData → Prop} {ex : Addr → Prop} (h : EvNX K B0 H0 W te δ P ex) (hx : ∀ C, ex C → E.ex C δ) (k : ∀ ds, P ds → SD K B0 H0 W u (δ.set n (.own ds)) E) : SD K B0 H0 W (tSeq (tAsg te (gName n)) u) δ E := sd_seq (sd_asgNX h hx k)
end
end Ja

/-! Own data layer: texts cut and split, tuples. -/
namespace Ja
open PySem PySem.Spec PyProof.Rows L2 Evl Cm
open SX (S S_cat S_len num_S)
open TL (numL numL_lt)
section
variable {K : PySem.W.Frag} {P : Program} {w : World} {B0 H0 : Hp} {W : WX} {E : DE} {δ : List Sl} {ta tb te to : TE} {a b : List Nat} {ds es : List PyData} {d : PyData} {i : Int}
theorem d_m1 {g : Str → Str → Bool} (h : EvS K B0 H0 to δ (nS (S a))) (h2 : EvS K B0 H0 te δ (nS (S b))) : EvS K B0 H0 (tM1 (fun x xs H Q => ∃ a b, x = .str a ∧ xs = [.str b] ∧ Q (.bl (g a b)) H) to te) δ (nB (g (S a) (S b))) := fun B H σ Z Q q => h B H σ Z _ fun v B1 H1 s1 i1 => by
  cases i1
  refine ⟨⟨_, rfl⟩, h2 B1 H1 σ (Z.go s1) _ fun u B2 H2 s2 i2 => ?_⟩
  cases i2
  exact ⟨S a, S b, rfl, rfl, q _ B2 H2 (s1.trans s2) (Dt.bl _)⟩
theorem d_m0 {g : Str → Bool} (h : EvS K B0 H0 to δ (nS (S a))) : EvS K B0 H0 (tM0 (fun x xs H Q => ∃ a, x = .str a ∧ xs = [] ∧ True ∧ Q (.bl (g a)) H) to) δ (nB (g (S a))) := fun B H σ Z Q q => h B H σ Z _ fun v B1 H1 s1 i1 => by
  cases i1
  exact ⟨⟨_, rfl⟩, S a, rfl, rfl, trivial, q _ B1 H1 s1 (Dt.bl _)⟩
/-- a part of a text -/
theorem d_slX {tl th : TO} {lo hi : Option Int} {w1 : List Nat} (h : EvS K B0 H0 te δ (nS (S a))) (h1 : EvO K B0 H0 tl δ lo) (h2 : EvO K B0 H0 th δ hi) (hz : a.length ≤ 100000) (e : Txt.slice (S a) lo hi = S w1) : EvS K B0 H0 (tSl C8.rSlX te tl th) δ (nS (S w1)) := fun B H σ Z Q q =>
  h B H σ Z _ fun v B1 H1 s1 i1 => h1 B1 H1 σ (Z.go s1) _ fun B2 H2 s2 => h2 B2 H2 σ (Z.go (s1.trans s2)) _ fun B3 H3 s3 => by
    cases i1
    exact ⟨S a, rfl, by rw [S_len]; exact sz_of hz, by rw [e]; exact q _ B3 H3 ((s1.trans s2).trans s3) (Dt.str _)⟩
abbrev encT (x : List Nat) : PyData := .str (S x)
theorem dt_strs {B : Hp} : ∀ ys : List (List Nat), DtAll K B ((ys.map S).map V.str) (ys.map encT)
  | [] => .nil
  | y :: r => .cons (Dt.str _) (dt_strs r)
/-- x.split(c), by the parts -/
theorem n_split {c : Nat} {parts : List (List Nat)} (h : EvS K B0 H0 to δ (nS (S (TL.joinL [c] parts)))) (h2 : EvS K B0 H0 te δ (nS (S [c]))) (hc : c < 256) (hne : parts ≠ []) (hp : ∀ p ∈ parts, c ∉ p) (hz : (TL.joinL [c] parts).length ≤ 50000) :
    EvN K B0 H0 (tM1 (fun x xs H Q => ∃ a b, x = .str a ∧ xs = [.str b] ∧ (b.length == 0) = false ∧ a.length + 2 ≤ sizeLine ∧ rNewStrs (Txt.split a b) H Q) to te) δ (parts.map encT) := fun B H σ Z Q q => h B H σ Z _ fun v B1 H1 s1 i1 => by
  cases i1
  refine ⟨⟨_, rfl⟩, h2 B1 H1 σ (Z.go s1) _ fun u B2 H2 s2 i2 => ?_⟩
  cases i2
  have s := s1.trans s2
  refine ⟨_, _, rfl, rfl, by rw [S_len]; rfl, by rw [S_len]; have := sz_of (n := (TL.joinL [c] parts).length + 2) (by omega); exact this, fun p hp2 => ?_⟩
  have e : Txt.split (S (TL.joinL [c] parts)) (S [c]) = parts.map S := by
    rw [SX.split_S (by simp) (by simp [hc]), SX.spl_join hne hp]
  rw [e]
  exact q p _ B2 _ (s.trans (.same s.bh (.new hp2))) (none_of s.h hp2) (none_of s.bh hp2) upd_same (dt_strs parts)
/-- tuple(a list) -/
theorem d_tupL (h : EvS K B0 H0 te δ (.dat (.list ds))) : EvS K B0 H0 (tCB (fun xs H Q => ∃ p ys, xs = [.ref p] ∧ ((SqL K H p ys ∧ ∀ l, H l = none → Q (.ref l) (upd H l (.tup ys))) ∨ (SqT K H p ys ∧ Q (.ref p) H))) (tCons te tNil)) δ (.dat (.tuple ds)) := fun B H σ Z Q q => h B H σ Z _ fun v B1 H1 s1 i1 => by
  cases i1 with
  | lst g1 g2 => exact ⟨_, _, rfl, .inl ⟨sq_of (s1.bh _ _ g1), fun p hp => q _ _ _ (s1.trans (.new s1.bh hp)) (.tup (st_of upd_same) (dts_mono (Ex.new (none_of s1.bh hp)) _ _ g2))⟩⟩
/-- *xs among the items -/
theorem ds_star {tr : TA} (h : EvS K B0 H0 te δ (.dat (.list ds))) (hr : EvD K B0 H0 tr δ es) : EvD K B0 H0 (StX.tStar K te tr) δ (ds ++ es) := fun B H σ Z Q q => h B H σ Z _ fun v B1 H1 s1 i1 => by
  cases i1 with
  | lst g1 g2 => exact ⟨_, _, rfl, .inr (sq_of (s1.bh _ _ g1)), hr B1 H1 σ (Z.go s1) _ fun vs B2 H2 s2 i2 => q _ B2 H2 (s1.trans s2) ((dts_mono s2.b _ _ g2).app i2)⟩
theorem d_is_ds {tr : TA} (h : EvD K B0 H0 tr δ ds) (e : ds = es) : EvD K B0 H0 tr δ es := e ▸ h
/-- enumerate(a tuple) -/
theorem w_enumT {tr : TA} (h : EvD K B0 H0 tr δ [.tuple ds]) : EvW K B0 H0 (Et.iEnumT K tr) δ (enumD ds) := fun B H σ S R q => h B H σ S _ fun vs B1 H1 s1 i1 => by
  cases i1 with
  | cons g1 g2 =>
    cases g2
    cases g1 with
    | @tup a xs _ h1 h2 =>
      have hw : Walk (Et.Iet K a) xs.length (fun H => SqT K H a xs) (fun i H v H' => ∃ T x, v = .ref T ∧ H T = none ∧ H' = upd H T (.tup [.int (i : Nat), x]) ∧ xs[i]? = some x) := ⟨fun i _ hi q => ⟨xs, xs[i], q, by simp [hi]⟩, fun _ q => ⟨xs, q, Nat.le_refl _⟩, fun i H v H' _ q ⟨T, x, k1, k2, k3, k4⟩ => ⟨T, x, k1, k2, k3, k4 xs q⟩⟩
      refine ⟨a, xs, rfl, ex_t s1.bh h1, q _ _ _ B1 H1 s1 (by unfold enumD; rw [List.length_map, List.length_zipIdx, ← h2.len]; exact hw) (fun B2 H2 e1 e2 => ex_t (e1.trans e2) h1) fun i H2 v H3 B2 d hd e1 e2 y => ?_⟩
      obtain ⟨T, u, rfl, hT, rfl, hu⟩ := y
      obtain ⟨f, hf, df⟩ := h2.getV hu
      have e : d = .tuple [.int (i : Int), f] := by
        unfold enumD at hd
        rw [List.getElem?_map, List.getElem?_zipIdx, hf] at hd
        have := Option.some.inj hd
        simpa using this.symm
      rw [e]
      exact ⟨_, .new e2 hT, .tup (st_of upd_same) (.cons (.int _) (.cons (dt_mono (e1.trans (Ex.new (none_of e2 hT))) _ _ df) .nil))⟩
/-- a part of a tuple, not the whole -/
theorem d_slT {tl th : TO} {lo hi : Option Int} (h : EvS K B0 H0 te δ (.dat (.tuple ds))) (h1 : EvO K B0 H0 tl δ lo) (h2 : EvO K B0 H0 th δ hi) (hn : HT.sIx ds.length 0 lo ≠ 0 ∨ ds = []) (hd : ds ≠ []) : EvS K B0 H0 (tSl (rSlT K) te tl th) δ (.dat (.tuple (cutD ds lo hi))) := fun B H σ S Q q =>
  h B H σ S _ fun v B1 H1 s1 i1 => h1 B1 H1 σ (S.go s1) _ fun B2 H2 s2 => h2 B2 H2 σ (S.go (s1.trans s2)) _ fun B3 H3 s3 => by
    have s := (s1.trans s2).trans s3
    cases i1 with
    | tup g1 g2 =>
      refine ⟨_, _, rfl, ex_t ((s2.b.trans s3.b).trans s3.bh) g1, fun z => ?_, fun p hp => q _ _ _ (s.trans (.new s.bh hp)) (.tup (st_of upd_same) (dts_mono (Ex.new (none_of s.bh hp)) _ _ (cut_dt (dts_mono (s2.b.trans s3.b) _ _ g2) lo hi)))⟩
      rw [g2.len] at z
      rcases hn with y | y
      · exact y z.1
      · exact hd y
/-- a word that is no key, its count -/
theorem d_niK {x : Str} {D : Addr} {r : Option Value} (h : EvS K B0 H0 ta δ (nS x)) (h2 : EvS K B0 H0 tb δ (.raw (.ref D))) (hr : PySem.W.nsIn K D x = some r) : EvS K B0 H0 (tOp (fun x y H Q => ∃ (z : Str) (r : Option Value), x = .str z ∧ y = .ref D ∧ PySem.W.nsIn K D z = some r ∧ Q (.bl (!r.isSome)) H) ta tb) δ (nB (!r.isSome)) := fun B H σ Z Q q => h B H σ Z _ fun v B1 H1 s1 i1 => h2 B1 H1 σ (Z.go s1) _ fun u B2 H2 s2 i2 => by
  cases i1
  cases i2
  exact ⟨x, r, rfl, rfl, hr, q _ B2 H2 (s1.trans s2) (Dt.bl _)⟩
theorem d_ixK {x : Str} {D : Addr} (h : EvS K B0 H0 ta δ (.raw (.ref D))) (h2 : EvS K B0 H0 tb δ (nS x)) (hr : KDct K w D x (.int i)) : EvS K B0 H0 (tOp (rIxD K w) ta tb) δ (nI i) := fun B H σ Z Q q => h B H σ Z _ fun v B1 H1 s1 i1 => h2 B1 H1 σ (Z.go s1) _ fun u B2 H2 s2 i2 => by
  cases i1
  cases i2
  exact ⟨D, x, .int i, rfl, rfl, hr, q _ B2 H2 (s1.trans s2) (Dt.int _)⟩
/-- str(i) -/
theorem log_small {i : Int} (h : Sm i.natAbs) : i.natAbs.log2 < 1920 := sm_lg h
theorem d_strI (h : EvS K B0 H0 te δ (nI i)) (hs : Sm i.natAbs) : EvS K B0 H0 (tCB (fun xs H Q => ∃ i, xs = [.int i] ∧ i.natAbs.log2 < 1920 ∧ Q (.str (toString i)) H) (tCons te tNil)) δ (nS (S (Tx.intL i))) := d_cb1 h (.int _) (fun _ H1 _ Q q => ⟨i, rfl, sm_lg hs, by
  have e : (toString i : Str) = S (Tx.intL i) := Tx.int_text i
  rw [e]
  exact q H1 (Ex.refl H1)⟩) (.str _)
/-- xs.pop(i), xs of its own -/
theorem sd_popAt {n m : Nat} {e : PyData} {es : List PyData} (hn : δ[n]? = some (Sl.own (ds ++ [e] ++ es))) (hm : ds.length = m) (hl : ds.length + es.length ≤ 100000) (hi : EvS K B0 H0 tb δ (nI (m : Int))) (k : E.nx (δ.set n (.own (ds ++ es)))) : SD K B0 H0 W (tDrop (tBM K "list" rPopAt (tVar n) (tCons tb tNil))) δ E := fun D B H σ S L => by
  obtain ⟨l, vs, h1, h2, h3, h4, h5⟩ := S.own n _ hn
  refine ⟨.ref l, h1, .inl ⟨rfl, _, sq_of h2⟩, hi B H σ S _ fun w B1 H1 s1 i1 => ?_⟩
  cases i1
  obtain ⟨l', ws, g1, g2, g3, g4, g5⟩ := (S.go s1).own n _ hn
  rw [h1] at g1
  cases Option.some.inj (Option.some.inj g1)
  have hlen := g5.len
  rw [List.length_append, List.length_append] at hlen
  have e1 : [e].length = 1 := rfl
  have hlt : m < ws.length := by omega
  refine ⟨l, ws, (m : Int), m, ws[m], rfl, rfl, g2, ?_, ?_, ?_, List.getElem?_eq_getElem hlt, ?_⟩
  · have : (0 : Int) < 2 ^ 63 := by decide
    omega
  · have : (200000 : Int) < 2 ^ 63 := by decide
    omega
  · unfold seqIndex?
    simp only [show ¬ ((m : Int) < 0) by omega, if_false]
    rw [if_pos (by simp; omega)]
    exact congrArg some (Int.toNat_natCast m)
  · refine L.nx B1 _ σ _ s1.b ((S.go s1).mut hn h1 ?_) k
    have q1 := g5.take m
    have q2 := g5.drop (m + 1)
    rw [List.append_assoc, ← hm, List.take_left] at q1
    have e2 : (ds ++ [e] ++ es).drop (m + 1) = es := by
      rw [show m + 1 = (ds ++ [e]).length by rw [List.length_append, hm]; rfl, List.drop_left]
    rw [e2] at q2
    rw [List.eraseIdx_eq_take_drop_succ, ← hm]
    rw [← hm] at q2
    exact q1.app q2
/-! ### raising within tuples -/
theorem x_imp {P P' : PyData → Prop} {ex ex' : Addr → Prop} (h : EvX K B0 H0 W te δ P ex) (hp : ∀ d, P d → P' d) (hx : ∀ C, ex C → ex' C) : EvX K B0 H0 W te δ P' ex' := fun B H σ Z q Q k => h B H σ Z (fun C B' H' s e => q C B' H' s (hx C e)) Q fun v d B' H' p s i => k v d B' H' (hp d p) s i
def EvDX (K : PySem.W.Frag) (B0 H0 : Hp) (W : WX) (tr : TA) (δ : List Sl) (P : List PyData → Prop) (ex : Addr → Prop) : Prop := ∀ B H σ, Sc K B0 H0 B H σ δ → (∀ C B' H', Stp B H B' H' → ex C → W (.ref C) none σ H') → ∀ Q : List V → Hp → Prop, (∀ vs ds B' H', P ds → Stp B H B' H' → DtAll K B' vs ds → Q vs H') → tr σ H Q
theorem dx_nil {P : List PyData → Prop} {ex : Addr → Prop} (h : P []) : EvDX K B0 H0 W tNil δ P ex := fun B H σ Z q Q k => k [] [] B H h (.refl Z.st.bh) .nil
theorem dx_cons {tr : TA} {P1 : PyData → Prop} {P2 P : List PyData → Prop} {ex : Addr → Prop} (h : EvX K B0 H0 W te δ P1 ex) (hr : EvDX K B0 H0 W tr δ P2 ex) (hp : ∀ d es, P1 d → P2 es → P (d :: es)) : EvDX K B0 H0 W (tCons te tr) δ P ex := fun B H σ Z q Q k =>
  h B H σ Z q _ fun v d B1 H1 p1 s1 i1 => hr B1 H1 σ (Z.go s1) (fun C B' H' s e => q C B' H' (s1.trans s) e) _ fun vs es B2 H2 p2 s2 i2 => k _ _ B2 H2 (hp d es p1 p2) (s1.trans s2) (.cons (dt_mono s2.b _ _ i1) i2)
theorem x_tup {tr : TA} {P : List PyData → Prop} {ex : Addr → Prop} (h : EvDX K B0 H0 W tr δ P ex) (hl : ∀ ds, P ds → ds.length ≤ 100000) : EvX K B0 H0 W (tTup tr) δ (fun d => ∃ ds, d = .tuple ds ∧ P ds) ex := fun B H σ Z q Q k =>
  h B H σ Z q _ fun vs ds B1 H1 p s1 i1 => ⟨by rw [i1.len]; exact sz_of (hl ds p), fun x hx => k _ _ _ _ ⟨ds, rfl, p⟩ (s1.trans (.new (o := .tup vs) s1.bh hx)) (.tup (st_of upd_same) (dts_mono (Ex.new (none_of s1.bh hx)) _ _ i1))⟩
theorem x_ofS {ex : Addr → Prop} (h : EvS K B0 H0 te δ (.dat d)) : EvX K B0 H0 W te δ (fun e => e = d) ex := x_of (r_of h rfl)
end
end Ja

/-! Own: functions of a def handed to another one. -/
namespace Ln
open PySem PySem.Spec PyProof.Rows L2 Evl Cm Ja LamX NdefX
section
variable {X : Cx}
theorem ps_never {st : Stmt} : PS X st (fun _ _ _ => False) := ⟨fun _ _ _ _ _ _ h => h.elim⟩
theorem pss_never {sts : List Stmt} : PSs X sts (fun _ _ _ => False) := ⟨fun _ _ _ _ _ _ h => h.elim⟩
theorem pe_never {e : Expr} : PE X e (fun _ _ _ => False) := ⟨fun _ _ _ _ _ _ h => h.elim⟩
end
/-- a promise that speaks of the callers and the heap too -/
abbrev SpC : Type := List Env → Heap → Sp
structure FnC (P : Program) (w : World) (K : PySem.W.Frag) (mg : Str → Option Value) (base : Heap) (CX : CXT) (k : Nat) (f : Addr) (fd : FuncData) (ps : List Str) (sp : SpC) : Prop where
  len : ∀ o h vs H Q E, sp o h vs H Q E → vs.length = ps.length
  run : ∀ (A : Around) (outer : List Env) (s : Shared) (H : Hp) (args : Args) (us : List Value) (vs : List V) (Q : VK) (E : XK), Room k A → Env0 P w K mg base A outer s H → BindsTo s fd args (ps.zip us) → Vals vs us → sp outer s.heap vs H Q E →
    codeAny (model P w) A (.call (.ref f) args) (CR CX outer P w H s Q E) s
theorem FnC.mono {P : Program} {w : World} {K : PySem.W.Frag} {mg : Str → Option Value} {base : Heap} {CX : CXT} {j k : Nat} {f : Addr} {fd : FuncData} {ps : List Str} {sp : SpC} (F : FnC P w K mg base CX j f fd ps sp) (h : j ≤ k) : FnC P w K mg base CX k f fd ps sp :=
  ⟨F.len, fun A outer s H args us vs Q E hr => F.run A outer s H args us vs Q E (hr.mono h)⟩
section
variable {P : Program} {w : World} {K : PySem.W.Frag} {mg : Str → Option Value} {base : Heap}
/-- a def of K by its body, which may use what is true of the heap at its entry -/
theorem okC {x qual : Str} {st : Stmt} {f : Addr} {fd : FuncData} {N ps : List Str} {k : Nat} {sp : SpC} (F : Fun K x qual st f fd) (S : FnScope N ps (defScope st)) (len : ∀ o h vs H Q E, sp o h vs H Q E → vs.length = ps.length)
    (hbody : ∀ (A : Around) (outer : List Env) (s : Shared) (H : Hp) (vs : List V) (Q : VK) (E : XK), Env0 P w K mg base A outer s H → Room k (A.deeper (envOfC qual (defScope st) s.heap.objs.size f fd.code)) → sp outer s.heap vs H Q E →
      ∃ t, PSs (cxOf CX0 P w K mg base N qual (defScope st) f fd.code A outer s H E).nox (defBody st) t ∧ t { nx := fun _ H' => Q .non H', rt := Q } (start N vs) H) : FnC P w K mg base CX0 (k + 1) f fd ps sp := by
  obtain ⟨oc, od, kV, doc, pm, an, cdv, ct, osl, rfl, lk, hcd⟩ := F.ex
  constructor
  · exact len
  intro A outer s H args us vs Q E hr env hb rel promise
  have inK : K.In s.heap := env.mod.kin.keeps fun b o e => (env.bs b o e).1
  have noLim : s.heap.NoLimit := env.mod.nolimit.keeps fun b o e => (env.bs b o e).1
  apply codeAny_call_function hr.depth (inK _ _ lk) rfl S.co S.gen rfl (PySem.W.codeRec_of inK hcd)
  apply hb
  have params : ∀ y ∈ ps.zip us, (defScope st).names.lookup y.1 = some .local ∨ ((defScope st).names.lookup y.1 = some .cell ∧ ((cellsFrom (s.heap.objs.size + 1) (defScope st).names []).lookup y.1).isSome = true) := by
    intro y hy
    rcases S.par y.1 (List.of_mem_zip (a := y.1) (b := y.2) hy).1 with q | q
    · exact .inl q
    · exact .inr ⟨q, PySem.W.cellsFrom_some _ _ _ (.inl q)⟩
  apply wpAny_newFunctionEnv_cells S.kind params
  intro e he s1 made
  subst he
  refine ⟨noLim.keeps made.toInCall.keep, codeAny_func ?_⟩
  obtain ⟨t, ht, hq⟩ := hbody A outer s H vs Q E env (hr.deeper _) promise
  have I := inv_start (CX := CX0) (E := E) (f := f) (cd := cdv) S hr.hd env (len _ _ _ _ _ _ promise) rel made
  refine wpAny_mono (ht.nox.run [] s1 (start N vs) H _ I hq) ?_ fun e s' hs => hs
  intro fl s' hs
  cases fl with
  | ret u =>
    obtain ⟨v, σ', H', J, rv, q⟩ := hs
    exact ⟨v, H', J.os, J.bare, J.base, J.hok, rv, q⟩
  | next =>
    obtain ⟨σ', H', J, q⟩ := hs
    exact ⟨V.non, H', J.os, J.bare, J.base, J.hok, rfl, q⟩
  | brk => exact hs.elim fun _ z => z.elim fun _ z => z.2.elim
  | cont => exact hs.elim fun _ z => z.elim fun _ z => z.2.elim
end
/-- f(e, ..), f a def of such a promise: c tells what the caller must know -/
def tCallC (sp : List V → List (Option V) → Hp → VK → Prop) (t : TA) : TE := fun σ H Q => t σ H fun vs H1 => sp vs σ H1 Q
section
variable {X : Cx} {k : Nat} {f : Addr} {fd : FuncData} {ps : List Str} {sp : SpC} {c : List V → List (Option V) → Hp → VK → Prop} {E : XK} {x : Str} {p pos : Pos} {e : Expr} {es : List Expr} {t : TA}
theorem pe_callC (F : FnC X.prog X.w X.K X.mg X.base CX0 k f fd ps sp) (hr : Room k X.A) (hg : Gl X x) (hm : X.mg x = some (.ref f)) (hk : PySem.W.keepIn X.K (.ref f) = true) (hb : Binds X.K fd ps []) (hx : Passes CX0 X E)
    (hc : ∀ pins σ H s vs Q, Inv X pins σ H s → c vs σ H Q → sp X.stack s.heap vs H Q E)
    (ha : PA X (e :: es) t) (hdb : (x == ("__debug__" : Str)) = false := by decide) (he : starEach (e :: es) X.env = (false, eval e X.env) :: starEach es X.env := by rfl) (hpl : (backTo pos (starEach es X.env)).any (·.1) = false := by rfl) :
    PE X (.Call (.Name x p) (e :: es) [] pos) (tCallC c t) := by
  refine ⟨fun pins s σ H Q I h => ?_⟩
  refine wpAny_Call_Name_kw (ld_glob I hg hm ?_ hdb)
  refine PySem.W.callWith_K (h₀ := X.base) I.ok.mod.kin hk (thn (ha.run pos pins s σ H _ I h) fun us s1 ⟨vs, H1, I1, r, q⟩ => ⟨I1.kIn, ?_⟩) he hpl
  have promise := hc pins σ H1 s1 vs Q I1 q
  have hl := F.len _ _ _ _ _ _ promise
  have bind := hb s1 us I1.kIn (by rw [List.append_nil, ← r.length]; exact hl)
  rw [List.append_nil] at bind
  refine wpAny_call (codeAny_mono (F.run X.A X.stack s1 H1 ⟨us, []⟩ us vs Q E hr I1.env0 bind r promise) fun r s' hq => ?_)
  cases r with
  | error e => exact hx pins σ H1 s1 e s' I1 hq
  | ok fl =>
    cases fl with
    | ret u => exact I1.after hq
    | next => exact hq.elim
    | brk => exact hq.elim
    | cont => exact hq.elim
end
/-- f(e, ..), f a name of the def that holds a function with cells, which stand since the entry -/
def tCallV (f : Addr) (F : NF) (i : Nat) (ws : List (Option V)) (sp : List (Option V) → Sp) (E : XK) (t : TA) : TE := fun σ H Q => σ[i]? = some (some (.ref f)) ∧ H f = some (FnO f F) ∧
  t σ H fun vs H1 => H1 f = some (FnO f F) ∧ H1 F.c = some (CodeO F.c F.qual) ∧ sp ws vs H1 Q E
section
variable {X : Cx} {k j i : Nat} {f : Addr} {F : NF} {ps fr : List Str} {ws : List (Option V)} {sp : List (Option V) → Sp} {E : XK} {x : Str} {p pos : Pos} {e : Expr} {es : List Expr} {t : TA}
theorem pe_callV (Fn : NOk X.prog X.w X.K X.mg X.base CX0 k f F ps fr sp) (C : CellsAt F.cl fr ws X.s_0.heap X.H_0) (nf : ∀ y c, F.cl.lookup y = some c → c ∉ X.fs) (hex : X.ex = []) (hr : Room j X.A) (hk : k ≤ j) (hx : Passes CX0 X E) (hN : X.N[i]? = some x) (hv : Vis X.env.scope x)
    (ha : PA X (e :: es) t) (hd : (x == ("__debug__" : Str)) = false := by decide) (hcd : (x == ("__classdict__" : Str)) = false := by decide)
    (he : starEach (e :: es) X.env = (false, eval e X.env) :: starEach es X.env := by rfl) (hpl : (backTo pos (starEach es X.env)).any (·.1) = false := by rfl) :
    PE X (.Call (.Name x p) (e :: es) [] pos) (tCallV f F i ws sp E t) := by
  refine ⟨fun pins s σ H Q I h => ?_⟩
  obtain ⟨hs, hf, ht⟩ := h
  refine wpAny_Call_Name_kw (thn ((pe_var (pos := p) hN hv hd hcd).run pins s σ H (fun v H1 => v = .ref f ∧ H1 = H) I ⟨.ref f, hs, rfl, rfl⟩) fun u s1 ⟨v, H1, I1, r1, q1⟩ => ?_)
  obtain ⟨ev, eH⟩ := q1
  subst ev
  rw [eH] at I1
  obtain rfl : u = Value.ref f := r1
  refine PySem.W.callWith_F (first := []) (fnAt_of I1 hf) (thn (ha.run pos pins s1 σ H _ I1 ht) fun us s2 ⟨vs, H2, I2, r, h1, h2, q⟩ => ⟨fnAt_of I2 h1, ?_⟩) he hpl
  have C2 : CellsAt F.cl fr ws s2.heap H2 := C.later nf (fun y c _ z => by rw [hex] at z; cases z) I2
  refine wpAny_call (codeAny_mono (Fn.run X.A X.stack s2 H2 us vs ws Q E (hr.mono hk) I2.env0 h1 h2 C2 r q) fun r s' hq => ?_)
  cases r with
  | error e => exact hx pins σ H2 s2 e s' I2 hq
  | ok fl =>
    cases fl with
    | ret u => exact I2.after hq
    | next => exact hq.elim
    | brk => exact hq.elim
    | cont => exact hq.elim
end
/-- the cells of the def that makes a function: no frame of the stack -/
theorem cells_nofr {X : Cx} {pins : List (Addr × Obj)} {σ : L2.St} {H : Hp} {s : Shared} (I : Inv X pins σ H s) (hfn : ∀ x, X.fn x = true) {y : Str} {c : Addr} (h : X.env.cells.lookup y = some c) : c ∉ frs X.stack := by
  intro hb
  obtain ⟨v, o, ho, hd⟩ := I.cell y c h
  rcases List.mem_cons.mp (I.stkSub c hb) with z | z
  · obtain ⟨m, ⟨o', es, ep, e, d, _⟩, _⟩ := I.loc
    rw [z] at ho
    rw [ho] at e
    cases e
    rw [hd] at d
    cases d
  · have h1 := I.ok.cab y c (hfn y) h
    obtain ⟨_, o2, h2, _⟩ := I.ok.funs.mem z
    exact absurd (Heap.lt_size h2) (Nat.not_lt.mpr h1)
/-- the law's end, when a def of the program makes functions: its table of code objects is empty at the start -/
theorem walk_tab {l : PySem.W.OpenLaw} {n k : Nat} {q : Program} {loose : List Str} {XP : (Str → Option Value) → Heap → Prop} {YP : World → Heap → Prop} {d : DefRec} {K : Params → PySem.W.Frag} {CX : World → CXT} {x : Str} (nm : Str)
    (hn : l.most = some n) (hn2 : n ≤ sizeLine) (hdf : d.params.defaults = []) (hr : Room k callerA) (hrec : ((recsOf q).any fun e => e.name == nm) = true) (hY : ∀ (w : World) (h : Heap), YP w h → (K w.params).In h)
    (F : ∀ (w : World) (mg : Str → Option Value) (fa : Addr) (h : Heap), YP w h → (K w.params).In h → h.Ns mainGlobals mg → mg d.name = some (.ref fa) → (∀ c p, PySem.W.tabIn (K w.params) nm = some (c, p) → PySem.W.CodeHd h c p ∧ h.get? p = some { cls := .none, data := .fields #[] }) → LawAtS l w (K w.params) (CX w) k n x mg fa h)
    (hCX : ∀ (w : World) (H : Hp) (s : Shared) (e : Value) (s' : Shared), CX w [] H s (fun _ _ _ => False) e s' → False) :
    PySem.W.WalkO q loose XP YP l.row.toRowW d [] (fun f vs => PySem.call f vs) := by
  refine Att.attach_callB hn hdf fun w s₀ s₁ mg mb fa o pm cd doc a vs ns G Y ho hd hcd hmg hobj hints hlen hbits hg => ?_
  have KX := hY w _ Y
  obtain ⟨fd, cs, sp, hT, nT, C, hb, hsp, hF⟩ := F w mg fa _ Y KX G.T.g hmg fun c p ht => by
    cases e : (recsOf q).find? fun e => e.name == nm with
    | none =>
      obtain ⟨z, h1, h2⟩ := List.any_eq_true.mp hrec
      exact absurd h2 (List.find?_eq_none.mp e z h1)
    | some dd => exact PySem.W.tab_of G.T KX e ht
  exact law_callTs KX G.T.g G.T.b G.T.builtins G.T.nolimit hg hT nT C G.T.bmain hobj hints (Nat.le_trans hlen hn2) hr hF hb (fun H hH hS => hsp H a ns hlen hbits hH hS) fun H e s' => hCX w H s₁ e s'
/-! ### data behind a table that has grown -/
section
variable {K : PySem.W.Frag} {H H' : Hp}
theorem rd_monoN {a : Addr} {xs : List V} (e : ExtN H H') (h : Rd H a (.tup xs)) : Rd H' a (.tup xs) := by
  rcases h with h | ⟨o, h⟩
  · exact .inl (e _ _ h fun _ z => by cases z)
  · exact .inr ⟨o, e _ _ h fun _ z => by cases z⟩
theorem sqT_monoN {a : Addr} {xs : List V} (e : ExtN H H') (h : SqT K H a xs) : SqT K H' a xs := h.elim (fun z => .inl (rd_monoN e z)) .inr
mutual
theorem dt_monoN (e : ExtN H H') : ∀ (d : PyData) (v : V), Dt K H v d → Dt K H' v d
  | _, _, .non => .non
  | _, _, .bl b => .bl b
  | _, _, .int i => .int i
  | _, _, .str x => .str x
  | _, _, .lst h a => .lst (e _ _ h fun _ z => by cases z) (dts_monoN e _ _ a)
  | _, _, .tup h a => .tup (sqT_monoN e h) (dts_monoN e _ _ a)
theorem dts_monoN (e : ExtN H H') : ∀ (ds : List PyData) (vs : List V), DtAll K H vs ds → DtAll K H' vs ds
  | _, _, .nil => .nil
  | _, _, .cons h t => .cons (dt_monoN e _ _ h) (dts_monoN e _ _ t)
end
theorem extN_of (e : Ex H H') : ExtN H H' := fun b o h _ => e b o h
theorem extN_trans {H1 H2 H3 : Hp} (a : ExtN H1 H2) (b : ExtN H2 H3) : ExtN H1 H3 := fun x o h n => b x o (a x o h n) n
end
/-! ### data again, from a heap on -/
section
variable {K : PySem.W.Frag} {H : Hp}
theorem sc_at {σ : L2.St} {δ : List Sl} (hl : σ.length = δ.length) (h : ∀ (i : Nat) (s : Sl), δ[i]? = some s → s = .no ∨ ∃ v, σ[i]? = some (some v) ∧ Is K H v s) : Sc K H H H H σ δ := by
  refine ⟨.refl (.refl H), hl, fun i s hi hv => ?_, fun i ds hi => ?_, fun i j ds es l hi hj h1 h2 => ?_⟩
  · rcases h i s hi with z | z
    · subst z
      cases hv
    · exact z
  · rcases h i _ hi with z | ⟨v, _, z⟩
    · cases z
    · exact z.elim
  · rcases h i _ hi with z | ⟨v, _, z⟩
    · cases z
    · exact z.elim
/-- the ints among the slots, in any later heap -/
theorem sc_ints {B0 H0 B H1 : Hp} {σ : L2.St} {δ δ' : List Sl} (S : Sc K B0 H0 B H1 σ δ) (hl : δ'.length = δ.length) (h : ∀ (i : Nat) (s : Sl), δ'[i]? = some s → s = .no ∨ ∃ n, s = nI n ∧ δ[i]? = some (nI n)) : Sc K H H H H σ δ' := by
  refine sc_at (by rw [S.len, hl]) fun i s hi => ?_
  rcases h i s hi with z | ⟨n, rfl, z⟩
  · exact .inl z
  · obtain ⟨v, h1, h2⟩ := S.val i _ z rfl
    cases h2
    exact .inr ⟨_, h1, .int n⟩
end
/-! ### statements, what comes behind is told by itself -/
def SDq (K : PySem.W.Frag) (B0 H0 : Hp) (D : Ends) (ts : TS) (δ : List Sl) : Prop := ∀ B H σ, Sc K B0 H0 B H σ δ → ts D σ H
theorem qq {K : PySem.W.Frag} {B0 H0 : Hp} {D : Ends} {t u : TS} {δ : List Sl} {R : PyData → Prop} (hr : ∀ v d (B' H' : Hp), R d → Dt K B' v d → D.rt v H') (h : SD K B0 H0 (fun _ _ _ _ => False) t δ { nx := fun δ' => SDq K B0 H0 D u δ', rt := R }) : SDq K B0 H0 D (tSeq t u) δ := fun B H σ S =>
  h { D with nx := u D } B H σ S ⟨fun B' H' σ' δ' _ S' q => q B' H' σ' S', fun v d B' H' _ _ dv r => hr v d B' H' r dv, fun _ _ _ _ _ _ z => z.elim, fun _ _ _ _ _ _ z => z.elim, fun _ _ _ _ _ _ _ z => z.elim, fun _ _ _ _ _ _ _ _ _ _ _ z => z.elim⟩
/-- the body of a function with one cell, an int -/
theorem run_nbody {K : PySem.W.Frag} {A : Type} {enc : A → List Sl} {pre : A → Prop} {post : A → PyData → Prop} {N : List Str} {vs : List V} {H : Hp} {Q : VK} {R : XK} {b : Int} {ts : TS} (h : SpA K enc pre post vs H Q R)
    (hb : ∀ a B, pre a → SD K B H (fun _ _ _ _ => False) ts ((enc a ++ [nI b]) ++ List.replicate (N.length - (enc a).length - 1) Sl.no) { nx := fun _ => post a .none, rt := post a }) : ts { nx := fun _ H' => Q .non H', rt := Q } (startF N vs [some (.int b)]) H := by
  obtain ⟨B, a, e, iv, hp, q⟩ := h
  have iv2 : IsAll K B (vs ++ [V.int b]) (enc a ++ [nI b]) := by
    have key : ∀ {vs : List V} {ss : List Sl}, IsAll K B vs ss → IsAll K B (vs ++ [V.int b]) (ss ++ [nI b]) := by
      intro vs ss h
      induction h with
      | nil => exact .cons (Dt.int b) .nil
      | cons h _ ih => exact .cons h ih
    exact key iv
  have S := sc_start (N.length - vs.length - 1) e iv2
  have hl := iv.len
  have hb' := hb a B hp
  rw [← hl] at hb'
  have e2 : startF N vs [some (.int b)] = (vs ++ [V.int b]).map some ++ List.replicate (N.length - vs.length - 1) none := by
    unfold startF
    rw [List.map_append, List.append_assoc]
    rfl
  rw [e2]
  exact hb' _ B H _ S ⟨fun B' H' σ' δ' _ S' hp => q .non .none B' H' hp S'.st .non, fun v d B' H' _ st dv hp => q v d B' H' hp st dv, fun _ _ _ _ _ _ z => z.elim, fun _ _ _ _ _ _ z => z.elim, fun _ _ _ _ _ _ _ z => z.elim, fun _ _ _ _ _ _ _ _ _ _ _ z => z.elim⟩
/-- the call of such a function by data -/
def spNest (K : PySem.W.Frag) {A : Type} (enc : A → List Sl) (pre : Int → A → Prop) (post : Int → A → PyData → Prop) : List (Option V) → Sp := fun ws vs H Q E => ∃ b, ws = [some (.int b)] ∧ SpA K enc (pre b) (post b) vs H Q E
theorem d_callV {K : PySem.W.Frag} {B0 H0 : Hp} {δ : List Sl} {A : Type} {enc : A → List Sl} {pre : Int → A → Prop} {post : Int → A → PyData → Prop} {f : Addr} {F : NF} {i : Nat} {b : Int} {E : XK} {t : TA} (a : A) (hi : δ[i]? = some (.raw (.ref f))) (h1 : B0 f = some (FnO f F)) (h2 : B0 F.c = some (CodeO F.c F.qual)) (h : EvA K B0 H0 t δ (enc a)) (hp : pre b a) :
    EvR K B0 H0 (tCallV f F i [some (.int b)] (spNest K enc pre post) E t) δ (post b a) := fun B H σ S Q q => by
  obtain ⟨v, g1, g2⟩ := S.val i _ hi rfl
  have g2 : v = .ref f := g2
  subst g2
  refine ⟨g1, S.st.bh _ _ (S.st.b _ _ h1), h B H σ S _ fun vs B1 H1 s1 i1 => ⟨s1.bh _ _ (s1.b _ _ (S.st.b _ _ h1)), s1.bh _ _ (s1.b _ _ (S.st.b _ _ h2)), b, rfl, B1, a, s1.bh, i1, hp, fun v d B2 H2 p st dv => q v d B2 H2 p (s1.trans st) dv⟩⟩
/-- any value -/
def anyS : Sl := .sem ⟨fun _ _ => True, fun _ _ => True.intro⟩
theorem d_any {K : PySem.W.Frag} {B0 H0 : Hp} {δ : List Sl} {n : Nat} {s : Sl} (h : δ[n]? = some s) (hs : s ≠ .no) : EvS K B0 H0 (tVar n) δ anyS := fun B H σ S Q q => by
  cases s with
  | no => exact absurd rfl hs
  | own ds =>
    obtain ⟨l, vs, h1, _⟩ := S.own n ds h
    exact ⟨_, h1, q _ B H (.refl S.st.bh) True.intro⟩
  | raw v =>
    obtain ⟨v, h1, _⟩ := S.val n _ h rfl
    exact ⟨_, h1, q _ B H (.refl S.st.bh) True.intro⟩
  | dat d =>
    obtain ⟨v, h1, _⟩ := S.val n _ h rfl
    exact ⟨_, h1, q _ B H (.refl S.st.bh) True.intro⟩
  | sem m =>
    obtain ⟨v, h1, _⟩ := S.val n _ h rfl
    exact ⟨_, h1, q _ B H (.refl S.st.bh) True.intro⟩
end Ln


namespace K52
open PySem PySem.Spec PyProof.Rows L2 Evl Cm Et Fm Td Mi Ja Ln
open Ld hiding hu65
open NdefX LamX
def topS (i : Nat) : Stmt := PySem.Challenge.pw_portolan_k52_ellipsoids.main.body.getD i (.Pass ⟨0, 0, 0, 0⟩)
abbrev s_exact_values : Stmt := topS 4
theorem sc_exact_values : FnScope ["steps", "found", "step"] ["steps"] (defScope s_exact_values) := ⟨rfl, rfl, rfl, by decide +kernel, rfl, by decide +kernel, by decide +kernel⟩
abbrev s_exact_value : Stmt := topS 5
theorem sc_exact_value : FnScope ["step", "found"] ["step", "found"] (defScope s_exact_value) := ⟨rfl, rfl, rfl, by decide +kernel, rfl, by decide +kernel, by decide +kernel⟩
abbrev s_operation : Stmt := topS 6
theorem sc_operation : FnScope ["word", "first", "second", "a", "b", "c", "d"] ["word", "first", "second"] (defScope s_operation) := ⟨rfl, rfl, rfl, by decide +kernel, rfl, by decide +kernel, by decide +kernel⟩
abbrev s_lowest_terms : Stmt := topS 7
theorem sc_lowest_terms : FnScope ["p", "q", "divisor"] ["p", "q"] (defScope s_lowest_terms) := ⟨rfl, rfl, rfl, by decide +kernel, rfl, by decide +kernel, by decide +kernel⟩
abbrev s_number : Stmt := topS 9
theorem sc_number : FnScope ["p", "q"] ["p", "q"] (defScope s_number) := ⟨rfl, rfl, rfl, by decide +kernel, rfl, by decide +kernel, by decide +kernel⟩
abbrev s_moved : Stmt := topS 10
theorem sc_moved : FnScope ["step", "places"] ["step", "places"] (defScope s_moved) := ⟨rfl, rfl, rfl, by decide +kernel, rfl, by decide +kernel, by decide +kernel⟩
abbrev s_merged : Stmt := topS 11
theorem sc_merged : FnScope ["formula", "kept", "places"] ["formula"] (defScope s_merged) := ⟨rfl, rfl, rfl, by decide +kernel, rfl, by decide +kernel, by decide +kernel⟩
abbrev s_merged_into : Stmt := topS 12
theorem sc_merged_into : FnScope ["kept", "place_of", "formula", "places", "step", "fitted"] ["kept", "place_of", "formula"] (defScope s_merged_into) := ⟨rfl, rfl, rfl, by decide +kernel, rfl, by decide +kernel, by decide +kernel⟩
abbrev s_fraction : Stmt := topS 14
theorem sc_fraction : FnScope ["p", "q"] ["p", "q"] (defScope s_fraction) := ⟨rfl, rfl, rfl, by decide +kernel, rfl, by decide +kernel, by decide +kernel⟩
abbrev s_of_fraction : Stmt := topS 21
theorem sc_of_fraction : FnScope ["bits", "p", "q", "scaled"] ["bits", "p", "q"] (defScope s_of_fraction) := ⟨rfl, rfl, rfl, by decide +kernel, rfl, by decide +kernel, by decide +kernel⟩
abbrev s_rescaled : Stmt := topS 22
theorem sc_rescaled : FnScope ["a", "bits", "other"] ["a", "bits", "other"] (defScope s_rescaled) := ⟨rfl, rfl, rfl, by decide +kernel, rfl, by decide +kernel, by decide +kernel⟩
abbrev s_added : Stmt := topS 23
theorem sc_added : FnScope ["a", "b"] ["a", "b"] (defScope s_added) := ⟨rfl, rfl, rfl, by decide +kernel, rfl, by decide +kernel, by decide +kernel⟩
abbrev s_subtracted : Stmt := topS 24
theorem sc_subtracted : FnScope ["a", "b"] ["a", "b"] (defScope s_subtracted) := ⟨rfl, rfl, rfl, by decide +kernel, rfl, by decide +kernel, by decide +kernel⟩
abbrev s_multiplied : Stmt := topS 25
theorem sc_multiplied : FnScope ["a", "b", "bits", "products"] ["a", "b", "bits"] (defScope s_multiplied) := ⟨rfl, rfl, rfl, by decide +kernel, rfl, by decide +kernel, by decide +kernel⟩
abbrev s_divided : Stmt := topS 26
theorem sc_divided : FnScope ["a", "b", "bits", "low", "high", "least", "greatest"] ["a", "b", "bits"] (defScope s_divided) := ⟨rfl, rfl, rfl, by decide +kernel, rfl, by decide +kernel, by decide +kernel⟩
abbrev s_rooted : Stmt := topS 27
theorem sc_rooted : FnScope ["a", "bits"] ["a", "bits"] (defScope s_rooted) := ⟨rfl, rfl, rfl, by decide +kernel, rfl, by decide +kernel, by decide +kernel⟩
abbrev s_fewer_bits : Stmt := topS 28
theorem sc_fewer_bits : FnScope ["low", "high", "bits"] ["low", "high", "bits"] (defScope s_fewer_bits) := ⟨rfl, rfl, rfl, by decide +kernel, rfl, by decide +kernel, by decide +kernel⟩
abbrev s_root_above : Stmt := topS 29
theorem sc_root_above : FnScope ["n", "root"] ["n"] (defScope s_root_above) := ⟨rfl, rfl, rfl, by decide +kernel, rfl, by decide +kernel, by decide +kernel⟩
abbrev s_nearest : Stmt := topS 33
theorem sc_nearest : FnScope ["n", "bits"] ["n", "bits"] (defScope s_nearest) := ⟨rfl, rfl, rfl, by decide +kernel, rfl, by decide +kernel, by decide +kernel⟩
abbrev s_halvings_for : Stmt := topS 34
theorem sc_halvings_for : FnScope ["bits"] ["bits"] (defScope s_halvings_for) := ⟨rfl, rfl, rfl, by decide +kernel, rfl, by decide +kernel, by decide +kernel⟩
abbrev s_reciprocal_series : Stmt := topS 35
theorem sc_reciprocal_series : FnScope ["n", "bits", "sign", "square", "power", "total", "direction", "divisor"] ["n", "bits", "sign"] (defScope s_reciprocal_series) := ⟨rfl, rfl, rfl, by decide +kernel, rfl, by decide +kernel, by decide +kernel⟩
abbrev s_pi_scaled : Stmt := topS 36
theorem sc_pi_scaled : FnScope ["bits", "work", "quarter"] ["bits"] (defScope s_pi_scaled) := ⟨rfl, rfl, rfl, by decide +kernel, rfl, by decide +kernel, by decide +kernel⟩
abbrev s_log_of_two : Stmt := topS 37
theorem sc_log_of_two : FnScope ["bits"] ["bits"] (defScope s_log_of_two) := ⟨rfl, rfl, rfl, by decide +kernel, rfl, by decide +kernel, by decide +kernel⟩
abbrev s_inverse_tangent : Stmt := topS 38
theorem sc_inverse_tangent : FnScope ["t", "bits", "sign", "halvings", "work", "one", "square_of_one", "_", "root"] ["t", "bits", "sign"] (defScope s_inverse_tangent) := ⟨rfl, rfl, rfl, by decide +kernel, rfl, by decide +kernel, by decide +kernel⟩
abbrev s_odd_series : Stmt := topS 39
theorem sc_odd_series : FnScope ["t", "bits", "sign", "square", "power", "total", "direction", "divisor"] ["t", "bits", "sign"] (defScope s_odd_series) := ⟨rfl, rfl, rfl, by decide +kernel, rfl, by decide +kernel, by decide +kernel⟩
abbrev s_angle_scaled : Stmt := topS 40
theorem sc_angle_scaled : FnScope ["y", "x", "bits", "work", "angle"] ["y", "x", "bits"] (defScope s_angle_scaled) := ⟨rfl, rfl, rfl, by decide +kernel, rfl, by decide +kernel, by decide +kernel⟩
abbrev s_arctangent_scaled : Stmt := topS 41
theorem sc_arctangent_scaled : FnScope ["n", "bits", "work", "angle"] ["n", "bits", "work"] (defScope s_arctangent_scaled) := ⟨rfl, rfl, rfl, by decide +kernel, rfl, by decide +kernel, by decide +kernel⟩
abbrev s_arcsine_scaled : Stmt := topS 42
theorem sc_arcsine_scaled : FnScope ["n", "bits", "work", "more", "other", "angle"] ["n", "bits", "work"] (defScope s_arcsine_scaled) := ⟨rfl, rfl, rfl, by decide +kernel, rfl, by decide +kernel, by decide +kernel⟩
abbrev s_arccosine_scaled : Stmt := topS 43
theorem sc_arccosine_scaled : FnScope ["n", "bits", "work", "more"] ["n", "bits", "work"] (defScope s_arccosine_scaled) := ⟨rfl, rfl, rfl, by decide +kernel, rfl, by decide +kernel, by decide +kernel⟩
abbrev s_cosine_scaled : Stmt := topS 44
theorem sc_cosine_scaled : FnScope ["n", "bits", "work", "quarter", "more", "half_pi", "turn", "angle"] ["n", "bits", "work", "quarter"] (defScope s_cosine_scaled) := ⟨rfl, rfl, rfl, by decide +kernel, rfl, by decide +kernel, by decide +kernel⟩
abbrev s_cosine_of : Stmt := topS 45
theorem sc_cosine_of : FnScope ["angle", "bits", "halvings", "work", "square", "term", "total", "direction", "count", "_"] ["angle", "bits"] (defScope s_cosine_of) := ⟨rfl, rfl, rfl, by decide +kernel, rfl, by decide +kernel, by decide +kernel⟩
abbrev s_exponential_scaled : Stmt := topS 46
theorem sc_exponential_scaled : FnScope ["n", "bits", "work", "size", "growth", "squarings", "more", "total", "_"] ["n", "bits", "work"] (defScope s_exponential_scaled) := ⟨rfl, rfl, rfl, by decide +kernel, rfl, by decide +kernel, by decide +kernel⟩
abbrev s_exponential_series : Stmt := topS 47
theorem sc_exponential_series : FnScope ["t", "bits", "term", "total", "count"] ["t", "bits"] (defScope s_exponential_series) := ⟨rfl, rfl, rfl, by decide +kernel, rfl, by decide +kernel, by decide +kernel⟩
abbrev s_logarithm_scaled : Stmt := topS 48
theorem sc_logarithm_scaled : FnScope ["n", "bits", "work", "size", "power", "more", "one", "mantissa", "ratio", "value"] ["n", "bits", "work"] (defScope s_logarithm_scaled) := ⟨rfl, rfl, rfl, by decide +kernel, rfl, by decide +kernel, by decide +kernel⟩
abbrev s_pi_enclosed : Stmt := topS 52
theorem sc_pi_enclosed : FnScope ["bits"] ["bits"] (defScope s_pi_enclosed) := ⟨rfl, rfl, rfl, by decide +kernel, rfl, by decide +kernel, by decide +kernel⟩
abbrev s_sine : Stmt := topS 53
theorem sc_sine : FnScope ["a", "bits"] ["a", "bits"] (defScope s_sine) := ⟨rfl, rfl, rfl, by decide +kernel, rfl, by decide +kernel, by decide +kernel⟩
abbrev s_cosine : Stmt := topS 54
theorem sc_cosine : FnScope ["a", "bits"] ["a", "bits"] (defScope s_cosine) := ⟨rfl, rfl, rfl, by decide +kernel, rfl, by decide +kernel, by decide +kernel⟩
abbrev s_exponential : Stmt := topS 55
theorem sc_exponential : FnScope ["a", "bits"] ["a", "bits"] (defScope s_exponential) := ⟨rfl, rfl, rfl, by decide +kernel, rfl, by decide +kernel, by decide +kernel⟩
abbrev s_logarithm : Stmt := topS 56
theorem sc_logarithm : FnScope ["a", "bits"] ["a", "bits"] (defScope s_logarithm) := ⟨rfl, rfl, rfl, by decide +kernel, rfl, by decide +kernel, by decide +kernel⟩
abbrev s_arctangent : Stmt := topS 57
theorem sc_arctangent : FnScope ["a", "bits"] ["a", "bits"] (defScope s_arctangent) := ⟨rfl, rfl, rfl, by decide +kernel, rfl, by decide +kernel, by decide +kernel⟩
abbrev s_arcsine : Stmt := topS 58
theorem sc_arcsine : FnScope ["a", "bits"] ["a", "bits"] (defScope s_arcsine) := ⟨rfl, rfl, rfl, by decide +kernel, rfl, by decide +kernel, by decide +kernel⟩
abbrev s_arccosine : Stmt := topS 59
theorem sc_arccosine : FnScope ["a", "bits", "low", "high"] ["a", "bits"] (defScope s_arccosine) := ⟨rfl, rfl, rfl, by decide +kernel, rfl, by decide +kernel, by decide +kernel⟩
abbrev s_demand_small : Stmt := topS 60
theorem sc_demand_small : FnScope ["a", "bits", "limit"] ["a", "bits"] (defScope s_demand_small) := ⟨rfl, rfl, rfl, by decide +kernel, rfl, by decide +kernel, by decide +kernel⟩
abbrev s_demand_sines : Stmt := topS 61
theorem sc_demand_sines : FnScope ["a", "bits", "one"] ["a", "bits"] (defScope s_demand_sines) := ⟨rfl, rfl, rfl, by decide +kernel, rfl, by decide +kernel, by decide +kernel⟩
abbrev s_outwards : Stmt := topS 62
theorem sc_outwards : FnScope ["value"] ["value"] (defScope s_outwards) := ⟨rfl, rfl, rfl, by decide +kernel, rfl, by decide +kernel, by decide +kernel⟩
abbrev s_rising : Stmt := topS 63
theorem sc_rising : FnScope ["enclosed_at", "a", "bits", "first"] ["enclosed_at", "a", "bits"] (defScope s_rising) := ⟨rfl, rfl, rfl, by decide +kernel, rfl, by decide +kernel, by decide +kernel⟩
abbrev s_exponential_at : Stmt := topS 64
theorem sc_exponential_at : FnScope ["n", "bits", "low", "high"] ["n", "bits"] (defScope s_exponential_at) := ⟨rfl, rfl, rfl, by decide +kernel, rfl, by decide +kernel, by decide +kernel⟩
abbrev s_logarithm_at : Stmt := topS 65
theorem sc_logarithm_at : FnScope ["n", "bits"] ["n", "bits"] (defScope s_logarithm_at) := ⟨rfl, rfl, rfl, by decide +kernel, rfl, by decide +kernel, by decide +kernel⟩
abbrev s_arctangent_at : Stmt := topS 66
theorem sc_arctangent_at : FnScope ["n", "bits"] ["n", "bits"] (defScope s_arctangent_at) := ⟨rfl, rfl, rfl, by decide +kernel, rfl, by decide +kernel, by decide +kernel⟩
abbrev s_arcsine_at : Stmt := topS 67
theorem sc_arcsine_at : FnScope ["n", "bits"] ["n", "bits"] (defScope s_arcsine_at) := ⟨rfl, rfl, rfl, by decide +kernel, rfl, by decide +kernel, by decide +kernel⟩
abbrev s_arccosine_at : Stmt := topS 68
theorem sc_arccosine_at : FnScope ["n", "bits"] ["n", "bits"] (defScope s_arccosine_at) := ⟨rfl, rfl, rfl, by decide +kernel, rfl, by decide +kernel, by decide +kernel⟩
abbrev s_waved : Stmt := topS 69
theorem sc_waved : FnScope ["a", "bits", "quarter", "one", "first", "last", "low", "high", "least", "greatest"] ["a", "bits", "quarter"] (defScope s_waved) := ⟨rfl, rfl, rfl, by decide +kernel, rfl, by decide +kernel, by decide +kernel⟩
abbrev s_wave_at : Stmt := topS 70
theorem sc_wave_at : FnScope ["n", "bits", "quarter"] ["n", "bits", "quarter"] (defScope s_wave_at) := ⟨rfl, rfl, rfl, by decide +kernel, rfl, by decide +kernel, by decide +kernel⟩
abbrev s_right_angles : Stmt := topS 71
theorem sc_right_angles : FnScope ["a", "bits", "half_pi", "low", "high"] ["a", "bits"] (defScope s_right_angles) := ⟨rfl, rfl, rfl, by decide +kernel, rfl, by decide +kernel, by decide +kernel⟩
abbrev s_has_turn : Stmt := topS 72
theorem sc_has_turn : FnScope ["least", "greatest", "rest"] ["least", "greatest", "rest"] (defScope s_has_turn) := ⟨rfl, rfl, rfl, by decide +kernel, rfl, by decide +kernel, by decide +kernel⟩
abbrev s_results : Stmt := topS 74
theorem sc_results : FnScope ["step", "enclosures", "bits", "word", "first"] ["step", "enclosures", "bits"] (defScope s_results) := ⟨rfl, rfl, rfl, by decide +kernel, rfl, by decide +kernel, by decide +kernel⟩
abbrev s_function_results : Stmt := topS 75
theorem sc_function_results : FnScope ["word", "a", "bits"] ["word", "a", "bits"] (defScope s_function_results) := ⟨rfl, rfl, rfl, by decide +kernel, rfl, by decide +kernel, by decide +kernel⟩
abbrev s_wave_results : Stmt := topS 76
theorem sc_wave_results : FnScope ["word", "a", "bits", "middle", "value", "reach", "low", "high", "one"] ["word", "a", "bits"] (defScope s_wave_results) := ⟨rfl, rfl, rfl, by decide +kernel, rfl, by decide +kernel, by decide +kernel⟩
abbrev s_lacks_value : Stmt := topS 77
theorem sc_lacks_value : FnScope ["word", "low", "high", "one"] ["word", "low", "high", "one"] (defScope s_lacks_value) := ⟨rfl, rfl, rfl, by decide +kernel, rfl, by decide +kernel, by decide +kernel⟩
abbrev s_decided : Stmt := topS 83
theorem sc_decided : FnScope ["formula", "bits", "verdict", "steps", "places", "exacts", "work", "found", "enclosures", "place", "answer"] ["formula", "bits", "verdict"] (defScope s_decided) := ⟨rfl, rfl, rfl, by decide +kernel, rfl, by decide +kernel, by decide +kernel⟩
abbrev s_narrow_steps : Stmt := topS 84
theorem sc_narrow_steps : FnScope ["formula", "bits", "low", "high"] ["formula", "bits"] (defScope s_narrow_steps) := ⟨rfl, rfl, rfl, by decide +kernel, rfl, by decide +kernel, by decide +kernel⟩
abbrev s_bits_to_try : Stmt := topS 85
theorem sc_bits_to_try : FnScope ["bits", "tried"] ["bits"] (defScope s_bits_to_try) := ⟨rfl, rfl, rfl, by decide +kernel, rfl, by decide +kernel, by decide +kernel⟩
abbrev s_enclosed_steps : Stmt := topS 86
theorem sc_enclosed_steps : FnScope ["steps", "exacts", "bits", "found", "step", "exact", "p", "q"] ["steps", "exacts", "bits"] (defScope s_enclosed_steps) := ⟨rfl, rfl, rfl, by decide +kernel, rfl, by decide +kernel, by decide +kernel⟩
abbrev s_refuse_undefined : Stmt := topS 87
theorem sc_refuse_undefined : FnScope ["step", "exacts", "found", "bits", "exact", "p", "q", "certain", "enclosure"] ["step", "exacts", "found", "bits"] (defScope s_refuse_undefined) := ⟨rfl, rfl, rfl, by decide +kernel, rfl, by decide +kernel, by decide +kernel⟩
abbrev s_results_or_none : Stmt := topS 88
theorem sc_results_or_none : FnScope ["step", "found", "bits", "index", "enclosure"] ["step", "found", "bits"] (defScope s_results_or_none) := ⟨rfl, rfl, rfl, by decide +kernel, rfl, by decide +kernel, by decide +kernel⟩
abbrev s_enclose : Stmt := topS 90
theorem sc_enclose : FnScope ["formula", "bits", "work", "enclosures"] ["formula", "bits"] (defScope s_enclose) := ⟨rfl, rfl, rfl, by decide +kernel, rfl, by decide +kernel, by decide +kernel⟩
abbrev s_is_ellipsoid : Stmt := topS 93
theorem sc_is_ellipsoid : FnScope ["value", "a", "p", "q"] ["value"] (defScope s_is_ellipsoid) := ⟨rfl, rfl, rfl, by decide +kernel, rfl, by decide +kernel, by decide +kernel⟩
abbrev s_eccentricity2 : Stmt := topS 94
theorem sc_eccentricity2 : FnScope ["ellipsoid", "_", "p", "q"] ["ellipsoid"] (defScope s_eccentricity2) := ⟨rfl, rfl, rfl, by decide +kernel, rfl, by decide +kernel, by decide +kernel⟩
abbrev s_half_axis : Stmt := topS 95
theorem sc_half_axis : FnScope ["ellipsoid", "a", "p", "q"] ["ellipsoid"] (defScope s_half_axis) := ⟨rfl, rfl, rfl, by decide +kernel, rfl, by decide +kernel, by decide +kernel⟩
abbrev s_law_is_integer : Stmt := topS 97
theorem sc_law_is_integer : FnScope ["actual"] ["actual"] (defScope s_law_is_integer) := ⟨rfl, rfl, rfl, by decide +kernel, rfl, by decide +kernel, by decide +kernel⟩
abbrev s_law_cell : Stmt := topS 98
theorem sc_law_cell : FnScope ["script", "k"] ["script", "k"] (defScope s_law_cell) := ⟨rfl, rfl, rfl, by decide +kernel, rfl, by decide +kernel, by decide +kernel⟩
abbrev s_law_rich : Stmt := topS 99
theorem sc_law_rich : FnScope ["cell", "mixed"] ["cell"] (defScope s_law_rich) := ⟨rfl, rfl, rfl, by decide +kernel, rfl, by decide +kernel, by decide +kernel⟩
abbrev s_law_fits : Stmt := topS 100
theorem sc_law_fits : FnScope ["found", "bits", "value", "b", "slack", "shift"] ["found", "bits", "value", "b"] (defScope s_law_fits) := ⟨rfl, rfl, rfl, by decide +kernel, rfl, by decide +kernel, by decide +kernel⟩
abbrev s_law_common : Stmt := topS 101
theorem sc_law_common : FnScope ["p", "q", "k", "rest"] ["p", "q"] (defScope s_law_common) := ⟨rfl, rfl, rfl, by decide +kernel, rfl, by decide +kernel, by decide +kernel⟩
abbrev s_law : Stmt := topS 102
theorem sc_law : FnScope ["script", "head", "a", "q", "p", "due", "found", "above", "below", "common", "bits", "b"] ["script"] (defScope s_law) := ⟨rfl, rfl, rfl, by decide +kernel, rfl, by decide +kernel, by decide +kernel⟩
section
variable {P : Program} {w : World} {K : PySem.W.Frag} {mg : Str → Option Value} {base : Heap}
/-! ### fractions and their enclosures -/
theorem d_gcd {B0 H0 : Hp} {δ : List Sl} {ta tb : TE} {i j : Int} (ha : EvS K B0 H0 ta δ (nI i)) (hb : EvS K B0 H0 tb δ (nI j)) : EvS K B0 H0 (tCB rGcd (tCons ta (tCons tb tNil))) δ (nI ((Nat.gcd i.natAbs j.natAbs : Nat) : Int)) := fun B H σ S Q q =>
  ha B H σ S _ fun v B1 H1 s1 i1 => hb B1 H1 σ (S.go s1) _ fun w B2 H2 s2 i2 => by
    cases i1
    cases i2
    exact ⟨i, j, rfl, q _ B2 H2 (s1.trans s2) (Dt.int _)⟩
def gc (p q : Int) : Int := ((Nat.gcd p.natAbs q.natAbs : Nat) : Int)
theorem gc_pos {p q : Int} (h : 1 ≤ q) : 1 ≤ gc p q ∧ gc p q ≤ q := by
  unfold gc
  have h1 : 0 < Nat.gcd p.natAbs q.natAbs := Nat.gcd_pos_of_pos_right _ (by omega)
  have h2 : Nat.gcd p.natAbs q.natAbs ≤ q.natAbs := Nat.gcd_le_right _ (by omega)
  omega
theorem lg40 {n : Int} {k : Nat} (h : n.natAbs < 2 ^ k) (hk : 0 < k ∧ k ≤ 9000) : n.natAbs.log2 < 9000 := Nat.lt_of_lt_of_le (lg h hk.1) hk.2
abbrev spLow (K : PySem.W.Frag) : Sp := SpF K (fun a : Int × Int => [nI a.1, nI a.2]) (fun a => 1 ≤ a.2 ∧ a.2 < 2 ^ 100) fun a => .tuple [.int (a.1 / gc a.1 a.2), .int (a.2 / gc a.1 a.2)]
theorem ok_low {f : Addr} {fd : FuncData} (F : Fun K "lowest_terms" "lowest_terms" s_lowest_terms f fd) (g_gcd : mg "gcd" = some (.builtin "math.gcd")) : FnOk P w K mg base CX0 1 f fd ["p", "q"] (spLow K) := by
  refine F.ok sc_lowest_terms (fun vs H Q E ⟨_, _, _, iv, _⟩ => iv.len) (fun cdv A outer s H vs Q E hr h => ⟨_, (pss_cons (ps_set (i := 2) sc_lowest_terms.nd rfl (.inl rfl) (pe_callBfun cr_gcd (by rfl) g_gcd (pa_cons (pv 0) (pa_cons (pv 1) pa_nil))))
        (pss_cons (ps_if (pt_cmpR op_lt (pv 1) pe_int (nomark _)) (pss_one (ps_set (i := 2) sc_lowest_terms.nd rfl (.inl rfl) (pe_un un_neg (pv 2)))) pss_nil)
        (pss_one (ps_ret (pe_tup (pa_cons (pe_op op_fdivA (pv 0) (pv 2)) (pa_cons (pe_op op_fdivA (pv 1) (pv 2)) pa_nil))))))), run_body h fun a B hp => ?_⟩)
  obtain ⟨p, q⟩ := a
  obtain ⟨h1, h2⟩ := hp
  simp only at h1 h2
  have hg : 1 ≤ gc p q ∧ gc p q ≤ q := gc_pos h1
  refine sd_env (δ1 := [nI p, nI q, .no]) rfl ?_
  refine q_asg [nI p, nI q, nI (gc p q)] (d_gcd (d_var rfl) (d_var rfl)) ?_
  refine q_when (b_is (c := false) (b_test (d_b0 (d_var rfl) d_ci)) (decide_eq_false (by omega))) (fun hb => nomatch hb) (fun _ => ?_)
  have hz : (gc p q).natAbs.log2 < 9000 := lg40 (k := 100) (by omega) (by decide)
  exact sd_ret (d_tup (ds_cons (d_fdivA (d_var rfl) (d_var rfl) (by omega) hz) (ds_cons (d_fdivA (d_var rfl) (d_var rfl) (by omega) hz) ds_nil))) rfl
/-- the enclosure of a fraction -/
def enc1 (b : Nat) (p q : Int) : Int := p * 2 ^ b / q
def enc2 (b : Nat) (p q : Int) : Int := -(-(p * 2 ^ b) / q)
def encE (b : Nat) (p q : Int) : PyData := .tuple [.int (enc1 b p q), .int (enc2 b p q)]
abbrev spOf (K : PySem.W.Frag) : Sp := SpF K (fun a : Nat × Int × Int => [nI (a.1 : Int), nI a.2.1, nI a.2.2]) (fun a => a.1 ≤ 4000 ∧ a.2.1.natAbs < 2 ^ 100 ∧ 1 ≤ a.2.2 ∧ a.2.2 < 2 ^ 100) fun a => encE a.1 a.2.1 a.2.2
theorem ok_of {f : Addr} {fd : FuncData} (F : Fun K "of_fraction" "of_fraction" s_of_fraction f fd) : FnOk P w K mg base CX0 1 f fd ["bits", "p", "q"] (spOf K) := by
  refine F.ok sc_of_fraction (fun vs H Q E ⟨_, _, _, iv, _⟩ => iv.len) (fun cdv A outer s H vs Q E hr h => ⟨_, (pss_cons (ps_set (i := 3) sc_of_fraction.nd rfl (.inl rfl) (pe_op op_shlN (pv 1) (pv 0)))
        (pss_one (ps_ret (pe_tup (pa_cons (pe_op op_fdivA (pv 3) (pv 2)) (pa_cons (pe_un un_neg (pe_op op_fdivA (pe_un un_neg (pv 3)) (pv 2))) pa_nil)))))), run_body h fun a B hp => ?_⟩)
  obtain ⟨b, p, q⟩ := a
  obtain ⟨h1, h2, h3, h4⟩ := hp
  simp only at h1 h2 h3 h4
  have hz : q.natAbs.log2 < 9000 := lg40 (k := 100) (by omega) (by decide)
  refine sd_env (δ1 := [nI (b : Int), nI p, nI q, .no]) rfl ?_
  refine q_asg [_, _, _, nI (p * 2 ^ b)] (d_shl (d_var rfl) (d_var rfl) (shl_ok (n := 100) h2 (by omega))) ?_
  exact sd_ret (d_tup (ds_cons (d_fdivA (d_var rfl) (d_var rfl) (by omega) hz) (ds_cons (d_neg (d_fdivA (d_neg (d_var rfl)) (d_var rfl) (by omega) hz)) ds_nil))) rfl
abbrev spFewer (K : PySem.W.Frag) : Sp := SpF K (fun a : Int × Int × Nat => [nI a.1, nI a.2.1, nI (a.2.2 : Int)]) (fun _ => True) fun a => .tuple [.int (a.1 / 2 ^ a.2.2), .int (-(-a.2.1 / 2 ^ a.2.2))]
theorem ok_fewer {f : Addr} {fd : FuncData} (F : Fun K "fewer_bits" "fewer_bits" s_fewer_bits f fd) : FnOk P w K mg base CX0 1 f fd ["low", "high", "bits"] (spFewer K) := by
  refine F.ok sc_fewer_bits (fun vs H Q E ⟨_, _, _, iv, _⟩ => iv.len) (fun cdv A outer s H vs Q E hr h => ⟨_, (pss_one (ps_ret (pe_tup (pa_cons (pe_op op_shrN (pv 0) (pv 2)) (pa_cons (pe_un un_neg (pe_op op_shrN (pe_un un_neg (pv 1)) (pv 2))) pa_nil))))), run_body h fun a B _ => ?_⟩)
  obtain ⟨lo, hi, b⟩ := a
  refine sd_env (δ1 := [nI lo, nI hi, nI (b : Int)]) rfl ?_
  exact sd_ret (d_tup (ds_cons (d_shr (d_var rfl) (d_var rfl)) (ds_cons (d_neg (d_shr (d_neg (d_var rfl)) (d_var rfl))) ds_nil))) rfl
/-- rescaled to fewer bits -/
abbrev spResc (K : PySem.W.Frag) : Sp := SpF K (fun a : (Int × Int) × Nat × Nat => [.dat (.tuple [.int a.1.1, .int a.1.2]), nI (a.2.1 : Int), nI (a.2.2 : Int)]) (fun a => a.2.2 < a.2.1) fun a => .tuple [.int (a.1.1 / 2 ^ (a.2.1 - a.2.2)), .int (-(-a.1.2 / 2 ^ (a.2.1 - a.2.2)))]
theorem ok_resc {f f0 : Addr} {fd fd0 : FuncData} (F : Fun K "rescaled" "rescaled" s_rescaled f fd) (F_fewer_bits : Fun K "fewer_bits" "fewer_bits" s_fewer_bits f0 fd0) (b_fewer_bits : Binds K fd0 ["low", "high", "bits"] []) (g_fewer_bits : mg "fewer_bits" = some (.ref f0)) : FnOk P w K mg base CX0 2 f fd ["a", "bits", "other"] (spResc K) := by
  have G_fewer_bits : FnOk P w K mg base CX0 1 f0 fd0 ["low", "high", "bits"] (spFewer K) := ok_fewer F_fewer_bits
  refine F.ok sc_rescaled (fun vs H Q E ⟨_, _, _, iv, _⟩ => iv.len) (fun cdv A outer s H vs Q E hr h => ⟨_, (pss_cons (ps_if (pt_cmpR op_ge (pv 2) (pv 1) (nomark _)) (pss_one (ps_ret (pe_tup (pa_cons (pe_op op_shlN (pe_ix ix_tup (pv 0) pe_int (fun _ _ => rfl)) (pe_op op_sub (pv 2) (pv 1))) (pa_cons (pe_op op_shlN (pe_ix ix_tup (pv 0) pe_int (fun _ _ => rfl)) (pe_op op_sub (pv 2) (pv 1))) pa_nil))))) pss_nil)
        (pss_one (ps_ret (pe_call G_fewer_bits (hr.mono (by decide)) (by rfl) g_fewer_bits F_fewer_bits.kp b_fewer_bits .nil pass0 (pa_cons (pe_ix ix_tup (pv 0) pe_int (fun _ _ => rfl)) (pa_cons (pe_ix ix_tup (pv 0) pe_int (fun _ _ => rfl)) (pa_cons (pe_op op_sub (pv 1) (pv 2)) pa_nil))))))), run_body h fun a B hp => ?_⟩)
  obtain ⟨⟨lo, hi⟩, b, o⟩ := a
  have hp : o < b := hp
  refine sd_env (δ1 := [.dat (.tuple [.int lo, .int hi]), nI (b : Int), nI (o : Int)]) rfl ?_
  refine q_when (b_is (c := false) (b_test (d_b0 (d_var rfl) (d_var rfl))) (decide_eq_false (by omega))) (fun hb => nomatch hb) (fun _ => ?_)
  exact sd_ret (d_callF (lo, hi, b - o) (a_cons (d_ixT (d_var rfl) d_ci rfl) (a_cons (d_ixT (d_var rfl) d_ci rfl) (a_cons (d_isI (j := ((b - o : Nat) : Int)) (d_i0 (d_var rfl) (d_var rfl)) (by omega)) a_nil))) True.intro) rfl
/-! ### one step: a number -/
def numD (p q : Int) : PyData := .tuple [.str "number", .int p, .int q]
def fracD (p q : Int) : PyData := .tuple [.int p, .int q]
abbrev spExact (K : PySem.W.Frag) : Sp := SpF K (fun a : Int × Int => [.dat (numD a.1 a.2), anyS]) (fun _ => True) fun a => fracD a.1 a.2
theorem ok_exact {f : Addr} {fd : FuncData} (F : Fun K "exact_value" "exact_value" s_exact_value f fd) : FnOk P w K mg base CX0 1 f fd ["step", "found"] (spExact K) := by
  refine F.ok sc_exact_value (fun vs H Q E ⟨_, _, _, iv, _⟩ => iv.len) (fun cdv A outer s H vs Q E hr h => ⟨_, (pss_cons (ps_if (pt_cmpR op_eq (pe_ix ix_tup (pv 0) pe_int (fun _ _ => rfl)) pe_str (nomark _)) (pss_one (ps_ret (pe_tup (pa_cons (pe_ix ix_tup (pv 0) pe_int (fun _ _ => rfl)) (pa_cons (pe_ix ix_tup (pv 0) pe_int (fun _ _ => rfl)) pa_nil))))) pss_nil)
        Ln.pss_never), run_body h fun a B _ => ?_⟩)
  obtain ⟨p, q⟩ := a
  refine sd_env (δ1 := [.dat (numD p q), anyS]) rfl ?_
  refine q_when (b_is (c := true) (b_test (d_eqS (d_ixT (d_var rfl) d_ci rfl) d_cs)) (decide_eq_true rfl)) (fun _ => ?_) (fun hb => nomatch hb)
  exact sd_ret (d_tup (ds_cons (d_ixT (d_var rfl) d_ci rfl) (ds_cons (d_ixT (d_var rfl) d_ci rfl) ds_nil))) rfl
abbrev spExacts (K : PySem.W.Frag) : Sp := SpN K (fun a : Int × Int => [.dat (.list [numD a.1 a.2])]) (fun _ => True) fun a ds => ds = [fracD a.1 a.2]
theorem ok_exacts {f f0 : Addr} {fd fd0 : FuncData} (F : Fun K "exact_values" "exact_values" s_exact_values f fd) (F_exact_value : Fun K "exact_value" "exact_value" s_exact_value f0 fd0) (b_exact_value : Binds K fd0 ["step", "found"] []) (g_exact_value : mg "exact_value" = some (.ref f0)) : FnOk P w K mg base CX0 2 f fd ["steps"] (spExacts K) := by
  have G_exact_value : FnOk P w K mg base CX0 1 f0 fd0 ["step", "found"] (spExact K) := ok_exact F_exact_value
  refine F.ok sc_exact_values (fun vs H Q E ⟨_, _, _, iv, _⟩ => iv.len) (fun cdv A outer s H vs Q E hr h => ⟨_, (pss_cons (ps_set (i := 1) sc_exact_values.nd rfl (.inl rfl) (pe_lst pa_nil))
        (pss_cons (ps_for PassesOwn.never rfl (pi_list (pv 0)) (pg_name (i := 2) sc_exact_values.nd rfl (.inl rfl)) (pss_one (ps_expr (pe_bm PySem.F.plainAttrs_list PySem.F.slot_list_append PySem.F.type_list_append mt_append (pv 1) (pa_cons (pe_call G_exact_value (hr.mono (by decide)) (by rfl) g_exact_value F_exact_value.kp b_exact_value .nil pass0 (pa_cons (pv 2) (pa_cons (pv 1) pa_nil))) pa_nil)))))
        (pss_one (ps_ret (pv 1))))), run_bodyN h fun a B _ => ?_⟩)
  obtain ⟨p, q⟩ := a
  refine sd_env (δ1 := [.dat (.list [numD p q]), .no, .no]) rfl ?_
  refine q_asgO [_, .own [], _] (n_lst ds_nil) ?_
  refine q_for (w_list (d_var rfl)) (fun i δ => ∃ s, δ = [.dat (.list [numD p q]), .own (([fracD p q] : List PyData).take i), s]) ⟨_, rfl⟩ (fun i d δ' hd hq => ?_) (fun δ' hq => ?_)
  · obtain ⟨s, rfl⟩ := hq
    obtain rfl : i = 0 := by
      have := (List.getElem?_eq_some_iff.mp hd).1
      simp at this
      exact this
    cases Option.some.inj hd
    refine ⟨[2], [_, .own [], .dat (numD p q)], g_name, ?_⟩
    exact sd_app (n := 1) rfl (d_callF (p, q) (a_cons (d_var rfl) (a_cons (d_any (s := .own []) rfl (fun z => by cases z)) a_nil)) True.intro) (by decide) ⟨_, rfl⟩
  · obtain ⟨s, rfl⟩ := hq
    exact sd_retO rfl rfl
/-- the numbers of bits to try -/
def tryF : Nat → Nat → List Nat
  | 0, _ => [2048]
  | n + 1, c => if c < 2048 then c :: tryF n (2 * c) else [2048]
theorem tryF_end {c : Nat} (h : ¬ c < 2048) : ∀ n, tryF n c = [2048]
  | 0 => rfl
  | n + 1 => if_neg h
def natD (n : Nat) : PyData := .int (n : Int)
abbrev spTry (K : PySem.W.Frag) : Sp := SpN K (fun b : Nat => [nI (b : Int)]) (fun b => 8 ≤ b ∧ b < 2048) fun b ds => ds = (tryF 4096 b).map natD
theorem ok_try {f : Addr} {fd : FuncData} {t0 : Tok} (F : Fun K "bits_to_try" "bits_to_try" s_bits_to_try f fd) (g_MOST_BITS : mg "MOST_BITS" = some (.int 2048 t0)) : FnOk P w K mg base CX0 1 f fd ["bits"] (spTry K) := by
  refine F.ok sc_bits_to_try (fun vs H Q E ⟨_, _, _, iv, _⟩ => iv.len) (fun cdv A outer s H vs Q E hr h => ⟨_, (pss_cons (ps_set (i := 1) sc_bits_to_try.nd rfl (.inl rfl) (pe_lst pa_nil))
        (pss_cons (ps_while PassesOwn.never (pt_cmpR op_lt (pv 0) (pe_glob (by rfl) g_MOST_BITS (show RelV (.int 2048) _ from ⟨_, rfl⟩)) (nomark _)) (pss_cons (ps_expr (pe_bm PySem.F.plainAttrs_list PySem.F.slot_list_append PySem.F.type_list_append mt_append (pv 1) (pa_cons (pv 0) pa_nil)))
        (pss_one (ps_set (i := 0) sc_bits_to_try.nd rfl (.inl rfl) (pe_op op_mulX pe_int (pv 0))))))
        (pss_cons (ps_expr (pe_bm PySem.F.plainAttrs_list PySem.F.slot_list_append PySem.F.type_list_append mt_append (pv 1) (pa_cons (pe_glob (by rfl) g_MOST_BITS (show RelV (.int 2048) _ from ⟨_, rfl⟩)) pa_nil)))
        (pss_one (ps_ret (pv 1)))))), run_bodyN h fun b B hp => ?_⟩)
  obtain ⟨h1, h2⟩ := hp
  refine sd_env (δ1 := [nI (b : Int), .no]) rfl ?_
  refine q_asgO [_, .own []] (n_lst ds_nil) ?_
  refine q_while (fun m δ => ∃ (c n : Nat) (cs : List Nat), 8 ≤ c ∧ c ≤ 4096 ∧ 4096 ≤ c + n ∧ m = 4096 - c ∧ cs.length ≤ c ∧ cs ++ tryF n c = tryF 4096 b ∧ δ = [nI (c : Int), .own (cs.map natD)]) (4096 - b) ⟨b, 4096, [], h1, by omega, by omega, rfl, by simp, rfl, rfl⟩ (fun m δ' hq => ?_)
  obtain ⟨c, n, cs, c1, c2, c3, rfl, hl, hd, rfl⟩ := hq
  refine ⟨_, b_test (d_b0 (d_var rfl) d_ci), fun hb => ?_, fun hb => ?_⟩
  · have hc : c < 2048 := by
      have := of_decide_eq_true hb
      omega
    obtain ⟨n', rfl⟩ : ∃ n', n = n' + 1 := ⟨n - 1, by omega⟩
    refine q_app [_, .own ((cs ++ [c]).map natD)] rfl (d_var rfl) (by rw [List.length_map]; omega) ?_ (by rw [List.map_append]; rfl)
    refine sd_asg (s := nI ((2 * c : Nat) : Int)) (d_isI (i := 2 * (c : Int)) (d_iC d_ci (d_var rfl) (mulx_ok (a := 100) (b := 100) (by decide) (by omega) (by decide))) (by omega)) ⟨4096 - 2 * c, by omega, 2 * c, n', cs ++ [c], by omega, by omega, by omega, rfl, by rw [List.length_append]; simp; omega, ?_, rfl⟩
    rw [← hd, List.append_assoc]
    show cs ++ (c :: tryF n' (2 * c)) = cs ++ (if c < 2048 then c :: tryF n' (2 * c) else [2048])
    rw [if_pos hc]
  · have hc : ¬ c < 2048 := by
      have := of_decide_eq_false hb
      omega
    refine q_app [_, .own ((cs ++ [2048]).map natD)] rfl d_ci (by rw [List.length_map]; omega) ?_ (by rw [List.map_append]; rfl)
    refine sd_retO rfl ?_
    show _ = (tryF 4096 b).map natD
    rw [← hd, tryF_end hc]
theorem d_notN {B0 H0 : Hp} {δ : List Sl} {ta : TE} {d : PyData} (ha : EvS K B0 H0 ta δ (.dat d)) (hd : d ≠ .none) : EvS K B0 H0 (tOp (fun x y H Q => y = .non ∧ Q (.bl (!decide (x = .non))) H) ta (tC .non)) δ (nB true) := fun B H σ S Q q =>
  ha B H σ S _ fun v B1 H1 s1 i1 => by
    have hv : v ≠ .non := fun z => by
      subst z
      cases i1
      exact hd rfl
    refine ⟨rfl, ?_⟩
    rw [decide_eq_false hv]
    exact q _ B1 H1 s1 (Dt.bl true)
abbrev spEncl (K : PySem.W.Frag) : Sp := SpN K (fun a : Int × Int × Nat => [.dat (.list [numD a.1 a.2.1]), .dat (.list [fracD a.1 a.2.1]), nI (a.2.2 : Int)]) (fun a => a.2.2 ≤ 4000 ∧ a.1.natAbs < 2 ^ 100 ∧ 1 ≤ a.2.1 ∧ a.2.1 < 2 ^ 100) fun a ds => ds = [encE a.2.2 a.1 a.2.1]
theorem ok_encl {f f0 : Addr} {fd fd0 : FuncData} (F : Fun K "enclosed_steps" "enclosed_steps" s_enclosed_steps f fd) (F_of_fraction : Fun K "of_fraction" "of_fraction" s_of_fraction f0 fd0) (b_of_fraction : Binds K fd0 ["bits", "p", "q"] []) (g_of_fraction : mg "of_fraction" = some (.ref f0)) (m_zip : mg "zip" = none) : FnOk P w K mg base CX0 2 f fd ["steps", "exacts", "bits"] (spEncl K) := by
  have G_of_fraction : FnOk P w K mg base CX0 1 f0 fd0 ["bits", "p", "q"] (spOf K) := ok_of F_of_fraction
  refine F.ok sc_enclosed_steps (fun vs H Q E ⟨_, _, _, iv, _⟩ => iv.len) (fun cdv A outer s H vs Q E hr h => ⟨_, (pss_cons (ps_set (i := 3) sc_enclosed_steps.nd rfl (.inl rfl) (pe_lst pa_nil))
        (pss_cons (ps_for PassesOwn.never rfl (RZ.pi_zipA (by rfl) m_zip (pa_cons (pv 0) (pa_cons (pv 1) pa_nil))) (pg_tup rfl (pgs_cons (pg_name (i := 4) sc_enclosed_steps.nd rfl (.inl rfl)) (pgs_cons (pg_name (i := 5) sc_enclosed_steps.nd rfl (.inl rfl)) pgs_nil))) (pss_one (ps_if (pt_cmpR op_notN (pv 5) pe_non (nomark _)) (pss_cons (ps_asg (pv 5) (pg_tup rfl (pgs_cons (pg_name (i := 6) sc_enclosed_steps.nd rfl (.inl rfl)) (pgs_cons (pg_name (i := 7) sc_enclosed_steps.nd rfl (.inl rfl)) pgs_nil))))
        (pss_one (ps_expr (pe_bm PySem.F.plainAttrs_list PySem.F.slot_list_append PySem.F.type_list_append mt_append (pv 3) (pa_cons (pe_call G_of_fraction (hr.mono (by decide)) (by rfl) g_of_fraction F_of_fraction.kp b_of_fraction .nil pass0 (pa_cons (pv 2) (pa_cons (pv 6) (pa_cons (pv 7) pa_nil)))) pa_nil))))) Ln.pss_never)))
        (pss_one (ps_ret (pv 3))))), run_bodyN h fun a B hp => ?_⟩)
  obtain ⟨p, q, b⟩ := a
  have hp : b ≤ 4000 ∧ p.natAbs < 2 ^ 100 ∧ 1 ≤ q ∧ q < 2 ^ 100 := hp
  refine sd_env (δ1 := [.dat (.list [numD p q]), .dat (.list [fracD p q]), nI (b : Int), .no, .no, .no, .no, .no]) rfl ?_
  refine q_asgO [_, _, _, .own [], _, _, _, _] (n_lst ds_nil) ?_
  refine q_for (w_zip (ds_cons (d_var rfl) (ds_cons (d_var rfl) ds_nil))) (fun i δ => ∃ s4 s5 s6 s7, δ = [.dat (.list [numD p q]), .dat (.list [fracD p q]), nI (b : Int), .own (([encE b p q] : List PyData).take i), s4, s5, s6, s7]) ⟨_, _, _, _, rfl⟩ (fun i d δ' hd hq => ?_) (fun δ' hq => ?_)
  · obtain ⟨s4, s5, s6, s7, rfl⟩ := hq
    obtain rfl : i = 0 := by
      have := (List.getElem?_eq_some_iff.mp hd).1
      have e : (zipD [numD p q] [fracD p q]).length = 1 := rfl
      rw [e] at this
      omega
    cases Option.some.inj hd
    refine ⟨_, [_, _, _, .own [], .dat (numD p q), .dat (fracD p q), s6, s7], g_tup (g_cons g_name (g_cons g_name g_nil)), ?_⟩
    refine sd_if (b := true) (b_test (d_notN (d_var rfl) (fun z => by cases z))) (fun _ => ?_) (fun hb => nomatch hb)
    refine q_unp [_, _, _, _, _, _, nI p, nI q] (d_var rfl) (g_tup (g_cons g_name (g_cons g_name g_nil))) ?_
    exact sd_app (n := 3) rfl (d_callF (b, p, q) (a_cons (d_var rfl) (a_cons (d_var rfl) (a_cons (d_var rfl) a_nil))) hp) (by decide) ⟨_, _, _, _, rfl⟩
  · obtain ⟨s4, s5, s6, s7, rfl⟩ := hq
    exact sd_retO rfl rfl
/-! ### the program: steps moved -/
theorem steps_updN {H : Hp} {l : Addr} {o : HO} {us : List V} {ss : List FStep} (hl : ∀ xs, H l ≠ some (.tup xs)) (h : StepsAt H us ss) : StepsAt (upd H l o) us ss := ⟨h.1, fun i v s a b => by
  obtain ⟨p, r1, r2⟩ := h.2 i v s a b
  exact ⟨p, r1, by rw [upd_ne (fun z => hl _ (z ▸ r2))]; exact r2⟩⟩
theorem step_updN {H : Hp} {l : Addr} {o : HO} {v : V} {s : FStep} (hl : ∀ xs, H l ≠ some (.tup xs)) (h : StepAt H v s) : StepAt (upd H l o) v s := by
  obtain ⟨p, r1, r2⟩ := h
  exact ⟨p, r1, by rw [upd_ne (fun z => hl _ (z ▸ r2))]; exact r2⟩
def nats (ps : List Nat) : List V := ps.map fun p : Nat => V.int ((p : Nat) : Int)
theorem nats_at {ps : List Nat} {i : Int} (h0 : 0 ≤ i) (h1 : i < (ps.length : Int)) : atI (nats ps) i = some (.int (ps.getD i.toNat 0 : Nat)) := by
  obtain ⟨j, rfl⟩ := Int.eq_ofNat_of_zero_le h0
  refine atI_nat ?_
  have hj : j < ps.length := by omega
  unfold nats
  rw [List.getElem?_map, List.getElem?_eq_getElem hj, Int.toNat_natCast, List.getD_eq_getElem?_getD, List.getElem?_eq_getElem hj]
  rfl
def spMv (K : PySem.W.Frag) : Sp := fun vs H Q _ => ∃ (v : V) (st : FStep) (pl : Addr) (ps : List Nat) (n : Nat), vs = [v, .ref pl] ∧ StepAt H v st ∧ OkStep n st ∧ SqL K H pl (nats ps) ∧ n ≤ ps.length ∧ RetS (ren (fun i => ps.getD i 0) st) H Q
theorem ok_moved {f : Addr} {fd : FuncData} (F : Fun K "moved" "moved" s_moved f fd) (m_len : mg "len" = none) : FnOk P w K mg base CX0 1 f fd ["step", "places"] (spMv K) := by
  refine F.ok sc_moved (fun vs H Q E h => ?_) (fun cdv A outer s H vs Q E hr h => ?_)
  · obtain ⟨v, st, pl, m, n, rfl, _⟩ := h
    rfl
  · obtain ⟨v, st, pl, ps, n, rfl, hst, hok, hpl, hn, q⟩ := h
    obtain ⟨p, rfl, hp⟩ := hst
    refine ⟨_, (pss_cons (ps_if (PW.pt (pw_or (pt_cmpR op_eq (pe_ix ix_tup (pv 0) pe_int (fun _ _ => rfl)) pe_str (nomark _)) (pw_or1 (pt_cmpR op_eq (pe_callB call_len (by rfl) m_len (by decide +kernel) (pa_cons (pv 0) pa_nil)) pe_int (nomark _))))) (pss_one (ps_ret (pv 0))) pss_nil)
        (pss_cons (ps_if (pt_cmpR op_eq (pe_callB call_len (by rfl) m_len (by decide +kernel) (pa_cons (pv 0) pa_nil)) pe_int (nomark _)) (pss_one (ps_ret (pe_tup (pa_cons (pe_ix ix_tup (pv 0) pe_int (fun _ _ => rfl)) (pa_cons (pe_ix ix_list (pv 1) (pe_ix ix_tup (pv 0) pe_int (fun _ _ => rfl)) (fun _ _ => rfl)) pa_nil))))) pss_nil)
        (pss_one (ps_ret (pe_tup (pa_cons (pe_ix ix_tup (pv 0) pe_int (fun _ _ => rfl)) (pa_cons (pe_ix ix_list (pv 1) (pe_ix ix_tup (pv 0) pe_int (fun _ _ => rfl)) (fun _ _ => rfl)) (pa_cons (pe_ix ix_list (pv 1) (pe_ix ix_tup (pv 0) pe_int (fun _ _ => rfl)) (fun _ _ => rfl)) pa_nil)))))))), ?_⟩
    have t_step : SqT K H p (stV st) := st_of hp
    have lenT : ∀ {Hh : Hp} {xs : List V}, SqT K Hh p xs → RC (fun xs H Q => ∃ x n, xs = [x] ∧ LenV K x H n ∧ Q (.int n) H) [.ref p] Hh (.int (xs.length : Int)) := fun h H1 e _ q => ⟨.ref p, (_ : Nat), rfl, .inr ⟨_, ex_t e h, rfl⟩, q H1 (Ex.refl H1)⟩
    rcases hok with ⟨p0, q0, rfl, h⟩ | rfl | ⟨x, i, j, hx, rfl, h1, h2⟩ | ⟨x, i, hx, rfl, h1⟩
    · refine q_when (b := true) (et_is (et_or (a := true) (b := true) (et_is (et_test (ev_op (ev_op (ev_var rfl) ev_c (rv_ixT t_step rfl)) ev_c (rv_eq rfl))) (decide_eq_true rfl)) (fun z => nomatch z)) rfl) (fun _ H4 e4 => ?_) (fun hb => nomatch hb)
      exact s_ret (ev_var rfl) fun H5 e5 => q _ _ (e4.trans e5) ⟨p, rfl, (e4.trans e5) _ _ hp⟩
    · refine q_when (b := true) (et_is (et_or (a := false) (b := true) (et_is (et_test (ev_op (ev_op (ev_var rfl) ev_c (rv_ixT t_step rfl)) ev_c (rv_eq rfl))) (by decide +kernel)) (fun _ => (et_is (et_test (ev_op (ev_cb (ea_cons (ev_var rfl) ea_nil) (lenT t_step)) ev_c (rv_eq rfl))) rfl))) rfl) (fun _ H4 e4 => ?_) (fun hb => nomatch hb)
      exact s_ret (ev_var rfl) fun H5 e5 => q _ _ (e4.trans e5) ⟨p, rfl, (e4.trans e5) _ _ hp⟩
    · have hnum : x ≠ "number" := fun z => absurd hx (by rw [z]; decide +kernel)
      refine q_when (b := false) (et_is (et_or (a := false) (b := false) (et_is (et_test (ev_op (ev_op (ev_var rfl) ev_c (rv_ixT t_step rfl)) ev_c (rv_eq rfl))) (decide_eq_false fun z => hnum (V.str.inj z))) (fun _ => (et_is (et_test (ev_op (ev_cb (ea_cons (ev_var rfl) ea_nil) (lenT t_step)) ev_c (rv_eq rfl))) rfl))) rfl) (fun hb => nomatch hb) (fun _ H4 e4 => ?_)
      replace t_step := ex_t e4 t_step
      refine q_when (b := false) (et_is (et_test (ev_op (ev_cb (ea_cons (ev_var rfl) ea_nil) (lenT t_step)) ev_c (rv_eq rfl))) rfl) (fun hb => nomatch hb) (fun _ H5 e5 => ?_)
      replace t_step := ex_t e5 t_step
      replace hpl := ex_l (e4.trans e5) hpl
      refine s_retU (eu_tup (ea_cons (ev_op (ev_var rfl) ev_c (rv_ixT t_step rfl)) (ea_cons (ev_op (ev_var rfl) (ev_op (ev_var rfl) ev_c (rv_ixT t_step rfl)) (rv_ixL hpl (nats_at h1.1 (by omega)))) (ea_cons (ev_op (ev_var rfl) (ev_op (ev_var rfl) ev_c (rv_ixT t_step rfl)) (rv_ixL hpl (nats_at h2.1 (by omega)))) ea_nil))) (show 3 ≤ 100000 by decide)) fun a H6 na e6 ha => q _ _ ((e4.trans e5).trans e6) ⟨a, rfl, ?_⟩
      rw [ha]
      unfold ren stV
      rw [if_neg hnum]
      rfl
    · have hnum : x ≠ "number" := fun z => absurd hx (by rw [z]; decide +kernel)
      refine q_when (b := false) (et_is (et_or (a := false) (b := false) (et_is (et_test (ev_op (ev_op (ev_var rfl) ev_c (rv_ixT t_step rfl)) ev_c (rv_eq rfl))) (decide_eq_false fun z => hnum (V.str.inj z))) (fun _ => (et_is (et_test (ev_op (ev_cb (ea_cons (ev_var rfl) ea_nil) (lenT t_step)) ev_c (rv_eq rfl))) rfl))) rfl) (fun hb => nomatch hb) (fun _ H4 e4 => ?_)
      replace t_step := ex_t e4 t_step
      refine q_when (b := true) (et_is (et_test (ev_op (ev_cb (ea_cons (ev_var rfl) ea_nil) (lenT t_step)) ev_c (rv_eq rfl))) rfl) (fun _ H5 e5 => ?_) (fun hb => nomatch hb)
      replace t_step := ex_t e5 t_step
      replace hpl := ex_l (e4.trans e5) hpl
      refine s_retU (eu_tup (ea_cons (ev_op (ev_var rfl) ev_c (rv_ixT t_step rfl)) (ea_cons (ev_op (ev_var rfl) (ev_op (ev_var rfl) ev_c (rv_ixT t_step rfl)) (rv_ixL hpl (nats_at h1.1 (by omega)))) ea_nil)) (show 2 ≤ 100000 by decide)) fun a H6 na e6 ha => q _ _ ((e4.trans e5).trans e6) ⟨a, rfl, ?_⟩
      rw [ha]
      unfold ren stV
      rw [if_neg hnum]
      rfl
/-! ### the program: each step once -/
def keyS (s : FStep) : List L2.Key := .inr s.1 :: s.2.map .inl
theorem keyS_v (s : FStep) : (keyS s).map kV = stV s := by
  unfold keyS stV
  rw [List.map_cons, List.map_map]
  rfl
theorem keyS_inj {s t : FStep} (h : keyS s = keyS t) : s = t := by
  unfold keyS at h
  have h1 := Sum.inr.inj (List.cons.inj h).1
  have h2 : s.2 = t.2 := by
    have := (List.cons.inj h).2
    have e : ∀ {l m : List Int}, l.map (Sum.inl : Int → L2.Key) = m.map Sum.inl → l = m := by
      intro l
      induction l with
      | nil =>
        intro m h
        cases m with
        | nil => rfl
        | cons b m => simp at h
      | cons a l ih =>
        intro m h
        cases m with
        | nil => simp at h
        | cons b m =>
          rw [List.map_cons, List.map_cons] at h
          rw [Sum.inl.inj (List.cons.inj h).1, ih (List.cons.inj h).2]
    exact e this
  exact Prod.ext h1 h2
theorem et_dnotin {σ : L2.St} {H : Hp} {tx td : TE} {y : V} {a : Addr} {o : Option V} (hx : Ev tx σ H y) (hd : Ev td σ H (.ref a)) (g : ∀ H1, Ex H H1 → DGet H1 a y o) : EvT (tB (tDNotIn tx td)) σ H (!o.isSome) := fun H1 e Q q =>
  hx H1 e _ fun H2 e2 => hd H2 (e.trans e2) _ fun H3 e3 => ⟨a, o, rfl, g H3 ((e.trans e2).trans e3), _, rfl, q H3 (e2.trans e3)⟩
theorem ev_dget {σ : L2.St} {H : Hp} {tx td : TE} {y v : V} {a : Addr} (hd : Ev td σ H (.ref a)) (hx : Ev tx σ H y) (g : ∀ H1, Ex H H1 → DGet H1 a y (some v)) : Ev (tDGet td tx) σ H v := fun H1 e Q q =>
  hd H1 e _ fun H2 e2 => hx H2 (e.trans e2) _ fun H3 e3 => ⟨a, v, rfl, g H3 ((e.trans e2).trans e3), q H3 (e2.trans e3)⟩
theorem q_setD {σ : L2.St} {H : Hp} {te td tx : TE} {v : V} {a b : Addr} {kvs : List (List L2.Key × V)} {k : List L2.Key} {D : Ends} {tz : TS} (hd : H a = some (.dT kvs)) (hb : H b = some (.tup (k.map kV))) (hl : kvs.length < sizeLine) (h : Ev te σ H v) (h1 : Ev td σ H (.ref a)) (h2 : Ev tx σ H (.ref b))
    (q : ∀ H1, Ex H H1 → tz D σ (upd H1 a (.dT (putK kvs k v)))) : tSeq (tAsg te (gSub td tx rSetD)) tz D σ H := h H (Ex.refl H) _ fun H1 e1 => h1 H1 e1 _ fun H2 e2 => h2 H2 (e1.trans e2) _ fun H3 e3 =>
  ⟨a, _, rfl, DPut.t (((e1.trans e2).trans e3) _ _ hd) (((e1.trans e2).trans e3) _ _ hb) hl, q H3 ((e1.trans e2).trans e3)⟩
/-- the list, the dict and the places, behind some steps -/
structure MgAt (H H' : Hp) (kp dp pl : Addr) (A : List FStep) (B : List Nat) : Prop where
  ex : ∀ p o, p ≠ kp → p ≠ dp → p ≠ pl → H p = some o → H' p = some o
  kept : ∃ us, H' kp = some (.lst us) ∧ StepsAt H' us A
  dict : ∃ kvs, H' dp = some (.dT kvs) ∧ kvs.length = A.length ∧ ∀ s, valV kvs (keyS s) = if s ∈ A then some (.int (A.idxOf s : Nat)) else none
  places : H' pl = some (.lst (nats B))
theorem MgAt.mono {H H1 H2 : Hp} {kp dp pl : Addr} {A : List FStep} {B : List Nat} (M : MgAt H H1 kp dp pl A B) (e : Ex H1 H2) : MgAt H H2 kp dp pl A B := by
  obtain ⟨us, h1, h2⟩ := M.kept
  obtain ⟨kvs, h3, h4, h5⟩ := M.dict
  exact ⟨fun p o a b c h => e _ _ (M.ex p o a b c h), ⟨us, e _ _ h1, h2.mono e⟩, ⟨kvs, e _ _ h3, h4, h5⟩, e _ _ M.places⟩
theorem len_put {kvs : List (List L2.Key × V)} {k : List L2.Key} {v : V} (h : valV kvs k = none) : (putK kvs k v).length = kvs.length + 1 := by
  unfold putK
  rw [valV_any, h]
  show (if false = true then _ else kvs ++ [(k, v)]).length = _
  rw [if_neg (by decide), List.length_append]
  rfl
theorem idx_snoc {A : List FStep} {s t : FStep} (h : s ∉ A) : (if t ∈ A ++ [s] then some (V.int ((A ++ [s]).idxOf t : Nat)) else none) = if keyS t = keyS s then some (V.int (A.length : Nat)) else if t ∈ A then some (V.int (A.idxOf t : Nat)) else none := by
  by_cases e : t = s
  · subst e
    rw [if_pos rfl, if_pos (by simp), List.idxOf_append, if_neg h]
    simp
  · rw [if_neg (fun z => e (keyS_inj z))]
    by_cases hm : t ∈ A
    · rw [if_pos hm, if_pos (List.mem_append_left _ hm), List.idxOf_append, if_pos hm]
    · rw [if_neg hm, if_neg (by
        intro z
        rcases List.mem_append.mp z with z | z
        · exact hm z
        · exact e (List.mem_singleton.mp z))]
/-- a new step is put into the dict and the list -/
theorem MgAt.put {H H1 H2 H3 : Hp} {kp dp pl b : Addr} {A : List FStep} {B : List Nat} {s : FStep} {us : List V} {kvs : List (List L2.Key × V)} (M : MgAt H H1 kp dp pl A B) (hk : H1 kp = some (.lst us)) (hd : H1 dp = some (.dT kvs)) (hb : H1 b = some (.tup (stV s))) (hs : s ∉ A)
    (e2 : Ex H1 H2) (e3 : Ex (upd H2 dp (.dT (putK kvs (keyS s) (.int (A.length : Nat))))) H3) (h1 : pl ≠ kp) (h2 : pl ≠ dp) : MgAt H (upd H3 kp (.lst (us ++ [.ref b]))) kp dp pl (A ++ [s]) B := by
  obtain ⟨us', k1, k2⟩ := M.kept
  cases k1.symm.trans hk
  obtain ⟨kvs', d1, d2, d3⟩ := M.dict
  cases d1.symm.trans hd
  have nkd : kp ≠ dp := fun z => by rw [z, hd] at hk; cases hk
  have nD : ∀ xs, H2 dp ≠ some (.tup xs) := fun xs z => by
    rw [e2 _ _ hd] at z
    cases z
  have kp3 : H3 kp = some (.lst us) := e3 _ _ (by rw [upd_ne nkd]; exact e2 _ _ hk)
  have nK : ∀ xs, H3 kp ≠ some (.tup xs) := fun xs z => by
    rw [kp3] at z
    cases z
  have vn : valV kvs (keyS s) = none := by rw [d3 s, if_neg hs]
  refine ⟨fun p o a c d h => ?_, ⟨_, upd_same, ?_⟩, ⟨putK kvs (keyS s) (.int (A.length : Nat)), ?_, ?_, fun t => ?_⟩, ?_⟩
  · rw [upd_ne a]
    refine e3 _ _ ?_
    rw [upd_ne c]
    exact e2 _ _ (M.ex p o a c d h)
  · refine StepsAt.snoc (steps_updN nK ((steps_updN nD (k2.mono e2)).mono e3)) (step_updN nK ((step_updN nD ?_).mono e3))
    exact ⟨b, rfl, e2 _ _ hb⟩
  · rw [upd_ne (fun z => nkd z.symm)]
    exact e3 _ _ upd_same
  · rw [len_put vn, d2, List.length_append]
    rfl
  · rw [valV_put, d3 t, idx_snoc hs]
  · rw [upd_ne h1]
    refine e3 _ _ ?_
    rw [upd_ne h2]
    exact e2 _ _ M.places
theorem MgAt.place {H H1 H2 : Hp} {kp dp pl : Addr} {A : List FStep} {B : List Nat} {n : Nat} (M : MgAt H H1 kp dp pl A B) (e : Ex H1 H2) : MgAt H (upd H2 pl (.lst (nats B ++ [.int (n : Nat)]))) kp dp pl A (B ++ [n]) ∨ pl = kp ∨ pl = dp := by
  by_cases h1 : pl = kp
  · exact .inr (.inl h1)
  · by_cases h2 : pl = dp
    · exact .inr (.inr h2)
    · left
      have M2 := M.mono e
      have nP : ∀ xs, H2 pl ≠ some (.tup xs) := fun xs z => by
        rw [M2.places] at z
        cases z
      obtain ⟨us, k1, k2⟩ := M2.kept
      obtain ⟨kvs, d1, d2, d3⟩ := M2.dict
      refine ⟨fun p o a b c h => ?_, ⟨us, ?_, steps_updN nP k2⟩, ⟨kvs, ?_, d2, d3⟩, ?_⟩
      · rw [upd_ne c]
        exact M2.ex p o a b c h
      · rw [upd_ne (fun z => h1 z.symm)]
        exact k1
      · rw [upd_ne (fun z => h2 z.symm)]
        exact d1
      · rw [upd_same]
        unfold nats
        rw [List.map_append]
        rfl
def spMergeInto : Sp := fun vs H Q _ => ∃ (kp dp fa : Addr) (fs : List V) (ff : List FStep), vs = [.ref kp, .ref dp, .ref fa] ∧ H kp = some (.lst []) ∧ H dp = some (.dT []) ∧ H fa = some (.tup fs) ∧ StepsAt H fs ff ∧ OkForm ff ∧ ff.length ≤ 1000 ∧
  ∀ pl H2, H pl = none → MgAt H H2 kp dp pl (merge ff).1 (merge ff).2 → Q (.ref pl) H2
theorem mstep_of (A : List FStep) (B : List Nat) (s : FStep) : mstep (A, B) s = if ren (fun i => B.getD i 0) s ∈ A then (A, B ++ [A.idxOf (ren (fun i => B.getD i 0) s)]) else (A ++ [ren (fun i => B.getD i 0) s], B ++ [A.length]) := rfl
theorem ok_mergeinto {f f0 : Addr} {fd fd0 : FuncData} (F : Fun K "merged_into" "merged_into" s_merged_into f fd) (F_moved : Fun K "moved" "moved" s_moved f0 fd0) (b_moved : Binds K fd0 ["step", "places"] []) (g_moved : mg "moved" = some (.ref f0)) (m_len : mg "len" = none) : FnOk P w K mg base CX0 2 f fd ["kept", "place_of", "formula"] spMergeInto := by
  have G_moved : FnOk P w K mg base CX0 1 f0 fd0 ["step", "places"] (spMv K) := ok_moved F_moved m_len
  refine F.ok sc_merged_into (fun vs H Q E h => ?_) (fun cdv A outer s H vs Q E hr h => ?_)
  · obtain ⟨kp, dp, fa, fs, ff, rfl, _⟩ := h
    rfl
  · obtain ⟨kp, dp, fa, fs, ff, rfl, hk, hd, hf, hfs, hok, hl, q⟩ := h
    refine ⟨_, (pss_cons (ps_set (i := 3) sc_merged_into.nd rfl (.inl rfl) (pe_lst pa_nil))
        (pss_cons (ps_for PassesOwn.never rfl (pi_tup (pv 2)) (pg_name (i := 4) sc_merged_into.nd rfl (.inl rfl)) (pss_cons (ps_set (i := 5) sc_merged_into.nd rfl (.inl rfl) (pe_call G_moved (hr.mono (by decide)) (by rfl) g_moved F_moved.kp b_moved .nil pass0 (pa_cons (pv 4) (pa_cons (pv 3) pa_nil))))
        (pss_cons (ps_if (pt_cmp (pc_dnotin (hu_of hr) (pv 5) (pv 1))) (pss_cons (ps_asg (pe_callB call_len (by rfl) m_len (by decide +kernel) (pa_cons (pv 0) pa_nil)) (pg_sub (pv 1) (pv 5) (set_dict (hu_of hr))))
        (pss_one (ps_expr (pe_bm PySem.F.plainAttrs_list PySem.F.slot_list_append PySem.F.type_list_append mt_append (pv 0) (pa_cons (pv 5) pa_nil))))) pss_nil)
        (pss_one (ps_expr (pe_bm PySem.F.plainAttrs_list PySem.F.slot_list_append PySem.F.type_list_append mt_append (pv 3) (pa_cons (pe_dget (hu_of hr) (pv 1) (pv 5) (fun _ _ => rfl)) pa_nil)))))))
        (pss_one (ps_ret (pv 3))))), ?_⟩
    refine q_asgL (el_lst ea_nil (show 0 ≤ 100000 by decide)) fun pl H1 npl e1 hpl => ?_
    refine st_is (σ' := [_, _, _, _, _, _]) rfl ?_
    have n1 : pl ≠ kp := fun z => by rw [z, hk] at npl; cases npl
    have n2 : pl ≠ dp := fun z => by rw [z, hd] at npl; cases npl
    have n3 : fa ≠ kp := fun z => by rw [z, hk] at hf; cases hf
    have n4 : fa ≠ dp := fun z => by rw [z, hd] at hf; cases hf
    have n5 : fa ≠ pl := fun z => by rw [← z, hf] at npl; cases npl
    refine q_forT (ev_var rfl) (st_of (e1 _ _ hf)) (fun i σ' H' => ∃ x4 x5, σ' = [some (.ref kp), some (.ref dp), some (.ref fa), some (.ref pl), x4, x5] ∧ MgAt H H' kp dp pl ((ff.take i).foldl mstep ([], [])).1 ((ff.take i).foldl mstep ([], [])).2)
      (fun H2 e2 => ⟨_, _, rfl, ⟨fun p o a b c h => (e1.trans e2) _ _ h, ⟨[], (e1.trans e2) _ _ hk, .nil⟩, ⟨[], (e1.trans e2) _ _ hd, rfl, fun s => by
        rw [if_neg (by simp)]
        rfl⟩, e2 _ _ hpl⟩⟩) (fun i σ' H' _ pp => ?_) (fun i x σ' H' hx pp => ?_) (fun σ' H' pp => ?_)
    · obtain ⟨x4, x5, _, M⟩ := pp
      exact st_of (M.ex _ _ n3 n4 n5 hf)
    · obtain ⟨x4, x5, rfl, M⟩ := pp
      obtain ⟨st, hst, p, rfl, sat⟩ := hfs.get hx
      have sat2 : StepAt H' (.ref p) st := ⟨p, rfl, M.ex _ _ (fun z => by rw [z, hk] at sat; cases sat) (fun z => by rw [z, hd] at sat; cases sat) (fun z => by rw [← z, sat] at npl; cases npl) sat⟩
      have hi : i < ff.length := (List.getElem?_eq_some_iff.mp hst).1
      have G := mg_take hok i (Nat.le_of_lt hi)
      have next : (ff.take (i + 1)).foldl mstep ([], []) = mstep ((ff.take i).foldl mstep ([], [])) st := by
        rw [List.take_add_one, hst]
        show (ff.take i ++ [st]).foldl mstep ([], []) = _
        rw [List.foldl_append]
        rfl
      have hos := hok i st hst
      have hfit := G.step hos
      rw [next]
      generalize (ff.take i).foldl mstep ([], []) = acc at M G hfit
      obtain ⟨A, B⟩ := acc
      rw [mstep_of]
      have hlen := G.le
      have hBl := G.len
      simp only at M hfit hlen hBl
      show tSeq _ _ _ [some (.ref kp), some (.ref dp), some (.ref fa), some (.ref pl), some (.ref p), x5] H'
      refine q_asgP (fun v H2 => StepAt H2 v (ren (fun i => B.getD i 0) st)) (fun Q1 k1 => ⟨_, rfl, _, rfl, .ref p, st, pl, B, i, rfl, sat2, hos, sq_of M.places, by omega, fun v H2 e2 h2 => k1 v H2 e2 h2⟩) fun v H2 e2 hP => ?_
      obtain ⟨b, rfl, hb⟩ := hP
      refine st_is (σ' := [_, _, _, _, _, _]) rfl ?_
      generalize ren (fun i => B.getD i 0) st = fit at hb hfit
      replace M := M.mono e2
      obtain ⟨us, k1, k2⟩ := M.kept
      obtain ⟨kvs, d1, d2, d3⟩ := M.dict
      -- behind the if
      have done : ∀ {A' : List FStep} {H3 : Hp}, MgAt H H3 kp dp pl A' B → fit ∈ A' → H3 b = some (.tup (stV fit)) → ∀ (Nx : L2.St → Hp → Prop), (∀ H4, MgAt H H4 kp dp pl A' (B ++ [A'.idxOf fit]) → Nx [some (.ref kp), some (.ref dp), some (.ref fa), some (.ref pl), some (.ref p), some (.ref b)] H4) → ∀ D : Ends, D.nx = Nx →
          tDrop (tBM K "list" rAppend (tVar 3) (tCons (tDGet (tVar 1) (tVar 5)) tNil)) D [some (.ref kp), some (.ref dp), some (.ref fa), some (.ref pl), some (.ref p), some (.ref b)] H3 := fun {A' H3} M3 hm hb3 Nx kN D hD => by
        obtain ⟨kv3, g1, g2, g3⟩ := M3.dict
        have gv := g3 fit
        rw [if_pos hm] at gv
        refine s_app M3.places (ev_var rfl) (v := .int (A'.idxOf fit : Nat)) (ev_dget (ev_var rfl) (ev_var rfl) fun H4 e4 => ?_) (by unfold nats; rw [List.length_map]; omega) fun H4 e4 => ?_
        · rw [← gv]
          exact DGet.t (e4 _ _ g1) (by rw [keyS_v]; exact e4 _ _ hb3)
        · rw [hD]
          rcases M3.place e4 (n := A'.idxOf fit) with h | h | h
          · exact kN _ h
          · exact absurd h n1
          · exact absurd h n2
      by_cases hm : fit ∈ A
      · rw [if_pos hm]
        have dm := d3 fit
        rw [if_pos hm] at dm
        refine q_when (b := false) (et_is (et_dnotin (o := some (.int (A.idxOf fit : Nat))) (ev_var rfl) (ev_var rfl) fun H3 e3 => by
          rw [← dm]
          exact DGet.t (e3 _ _ d1) (by rw [keyS_v]; exact e3 _ _ hb)) rfl) (fun hb => nomatch hb) fun _ H3 e3 => ?_
        exact done (M.mono e3) hm (e3 _ _ hb) _ (fun H4 M4 => ⟨_, _, rfl, M4⟩) _ rfl
      · rw [if_neg hm]
        have dm := d3 fit
        rw [if_neg hm] at dm
        refine q_when (b := true) (et_is (et_dnotin (o := none) (ev_var rfl) (ev_var rfl) fun H3 e3 => by
          rw [← dm]
          exact DGet.t (e3 _ _ d1) (by rw [keyS_v]; exact e3 _ _ hb)) rfl) (fun _ H3 e3 => ?_) (fun hb => nomatch hb)
        have hus : us.length = A.length := k2.1
        refine q_setD (k := keyS fit) (v := .int (A.length : Nat)) (e3 _ _ d1) (by rw [keyS_v]; exact e3 _ _ hb) (by rw [d2]; exact sz_lt (by omega)) (ev_is (ev_cb (ea_cons (ev_var rfl) ea_nil) (rc_lenL (sq_of (e3 _ _ k1)))) (congrArg (fun n : Nat => V.int (n : Int)) hus)) (ev_var rfl) (ev_var rfl) fun H4 e4 => ?_
        have nkd : kp ≠ dp := fun z => by rw [z, d1] at k1; cases k1
        refine s_app (by rw [upd_ne nkd]; exact e4 _ _ (e3 _ _ k1)) (ev_var rfl) (v := .ref b) (ev_var rfl) (by omega) fun H5 e5 => ?_
        have M6 := (M.mono e3).put (e3 _ _ k1) (e3 _ _ d1) (e3 _ _ hb) hm e4 e5 n1 n2
        have ix : (A ++ [fit]).idxOf fit = A.length := by
          rw [List.idxOf_append, if_neg hm]
          simp
        have hb6 : (upd H5 kp (.lst (us ++ [.ref b]))) b = some (.tup (stV fit)) := by
          have nb1 : b ≠ kp := fun z => by rw [z, k1] at hb; cases hb
          have nb2 : b ≠ dp := fun z => by rw [z, d1] at hb; cases hb
          rw [upd_ne nb1]
          refine e5 _ _ ?_
          rw [upd_ne nb2]
          exact e4 _ _ (e3 _ _ hb)
        exact done M6 (by simp) hb6 _ (fun H7 M7 => ⟨_, _, rfl, ix ▸ M7⟩) _ rfl
    · obtain ⟨x4, x5, rfl, M⟩ := pp
      have el : fs.length = ff.length := hfs.1
      rw [el, List.take_length] at M
      exact s_ret (ev_var rfl) fun H3 e3 => q pl H3 npl (M.mono e3)
def spMerged : Sp := fun vs H Q _ => ∃ (fa : Addr) (fs : List V) (ff : List FStep), vs = [.ref fa] ∧ H fa = some (.tup fs) ∧ StepsAt H fs ff ∧ OkForm ff ∧ ff.length ≤ 1000 ∧
  ∀ t kp pl us H2, H t = none → Ex H H2 → H2 t = some (.tup [.ref kp, .ref pl]) → H2 kp = some (.lst us) → StepsAt H2 us (merge ff).1 → H2 pl = some (.lst (nats (merge ff).2)) → Q (.ref t) H2
theorem ok_merged {f f0 f1 : Addr} {fd fd0 fd1 : FuncData} (F : Fun K "merged" "merged" s_merged f fd) (F_moved : Fun K "moved" "moved" s_moved f0 fd0) (b_moved : Binds K fd0 ["step", "places"] []) (g_moved : mg "moved" = some (.ref f0))
    (F_merged_into : Fun K "merged_into" "merged_into" s_merged_into f1 fd1) (b_merged_into : Binds K fd1 ["kept", "place_of", "formula"] []) (g_merged_into : mg "merged_into" = some (.ref f1)) (m_len : mg "len" = none) : FnOk P w K mg base CX0 3 f fd ["formula"] spMerged := by
  have G_merged_into : FnOk P w K mg base CX0 2 f1 fd1 ["kept", "place_of", "formula"] spMergeInto := ok_mergeinto F_merged_into F_moved b_moved g_moved m_len
  refine F.ok sc_merged (fun vs H Q E h => ?_) (fun cdv A outer s H vs Q E hr h => ?_)
  · obtain ⟨fa, fs, ff, rfl, _⟩ := h
    rfl
  · obtain ⟨fa, fs, ff, rfl, hf, hfs, hok, hl, q⟩ := h
    refine ⟨_, (pss_cons (ps_set (i := 1) sc_merged.nd rfl (.inl rfl) (pe_lst pa_nil))
        (pss_cons (ps_set (i := 2) sc_merged.nd rfl (.inl rfl) (pe_call G_merged_into (hr.mono (by decide)) (by rfl) g_merged_into F_merged_into.kp b_merged_into .nil pass0 (pa_cons (pv 1) (pa_cons pe_dnewT (pa_cons (pv 0) pa_nil)))))
        (pss_one (ps_ret (pe_tup (pa_cons (pv 1) (pa_cons (pv 2) pa_nil))))))), ?_⟩
    refine q_asgL (el_lst ea_nil (show 0 ≤ 100000 by decide)) fun kp H1 nkp e1 hk => ?_
    refine st_is (σ' := [_, _, _]) rfl ?_
    refine ⟨_, rfl, fun dp hdp => ⟨_, rfl, kp, dp, fa, fs, ff, rfl, ?_, upd_same, ex_app (Ex.new hdp) (e1 _ _ hf), hfs.mono (e1.trans (Ex.new hdp)), hok, hl, fun pl H2 npl M => ?_⟩⟩
    · exact ex_app (Ex.new hdp) hk
    · refine st_is (σ' := [_, _, _]) rfl ?_
      have e2 : Ex H (upd H1 dp (.dT [])) := e1.trans (Ex.new hdp)
      have e3 : Ex H H2 := fun p o h => M.ex p o (fun z => by rw [z, nkp] at h; cases h) (fun z => by
        have := fresh_back e1 hdp
        rw [z, this] at h
        cases h) (fun z => by
        have := fresh_back e2 npl
        rw [z, this] at h
        cases h) (e2 _ _ h)
      obtain ⟨us, k1, k2⟩ := M.kept
      exact s_retU (eu_tup (ea_cons (ev_var rfl) (ea_cons (ev_var rfl) ea_nil)) (show 2 ≤ 100000 by decide)) fun t H3 nt e4 ht => q t kp pl us H3 (fresh_back e3 nt) (e3.trans e4) ht (e4 _ _ k1) (k2.mono e4) (e4 _ _ M.places)
/-! ### the function that is handed over -/
def s_narrow : Stmt := (defBody s_narrow_steps).getD 0 (.Pass ⟨0, 0, 0, 0⟩)
def qN : Str := "narrow_steps.<locals>.narrow"
def nfN (cl : List (Str × Addr)) (c : Addr) : NF := NF.of s_narrow "narrow" qN cl c
theorem sc_narrow : NScope ["_", "enclosures", "work", "bits", "low", "high"] ["_", "enclosures", "work"] ["bits"] (C8.fnScope s_narrow) := nscope_by (by decide +kernel)
def lastE (lo hi : Int) : PyData := .tuple [.int lo, .int hi]
abbrev NarA : Type := PyData × (Int × Int) × Nat
abbrev encN (a : NarA) : List Sl := [.dat a.1, .dat (.list [lastE a.2.1.1 a.2.1.2]), nI (a.2.2 : Int)]
abbrev preN (b : Int) (a : NarA) : Prop := ∃ n : Nat, b = (n : Int) ∧ n < a.2.2 ∧ -(-a.2.1.2 / 2 ^ (a.2.2 - n)) - a.2.1.1 / 2 ^ (a.2.2 - n) ≤ 4
abbrev postN (_ : Int) (a : NarA) (d : PyData) : Prop := d = .tuple [.int (a.2.2 : Int), .tuple [lastE a.2.1.1 a.2.1.2]]
abbrev spNar (K : PySem.W.Frag) : List (Option V) → Sp := spNest K encN preN postN
theorem ok_nar {f f0 f1 : Addr} {cl : List (Str × Addr)} {c' : Addr} {fd0 fd1 : FuncData} {t0 : Tok} (F_rescaled : Fun K "rescaled" "rescaled" s_rescaled f0 fd0) (b_rescaled : Binds K fd0 ["a", "bits", "other"] []) (g_rescaled : mg "rescaled" = some (.ref f0))
    (F_fewer_bits : Fun K "fewer_bits" "fewer_bits" s_fewer_bits f1 fd1) (b_fewer_bits : Binds K fd1 ["low", "high", "bits"] []) (g_fewer_bits : mg "fewer_bits" = some (.ref f1)) (g_WIDTH : mg "WIDTH" = some (.int 4 t0)) (m_tuple : mg "tuple" = none) :
    NOk P w K mg base CX0 3 f (nfN cl c') ["_", "enclosures", "work"] ["bits"] (spNar K) := by
  have G_rescaled : FnOk P w K mg base CX0 2 f0 fd0 ["a", "bits", "other"] (spResc K) := ok_resc F_rescaled F_fewer_bits b_fewer_bits g_fewer_bits
  refine nok_of sc_narrow (fun doc pm ctv us hl => match us, hl with | [_, _, _], _ => rfl) (fun ws vs H Q E ⟨_, _, _, _, _, iv, _⟩ => iv.len) (fun A outer s H vs ws Q E hr hf hc hw h => ?_)
  obtain ⟨b, rfl, h⟩ := h
  refine ⟨_, (pss_cons (ps_asg (pe_call G_rescaled (hr.mono (by decide)) (by rfl) g_rescaled F_rescaled.kp b_rescaled .nil pass0 (pa_cons (pe_ix ix_list (pv 1) (pe_un un_neg pe_int) (fun _ _ => rfl)) (pa_cons (pv 2) (pa_cons (pv 3) pa_nil)))) (pg_tup rfl (pgs_cons (pg_name (i := 4) sc_narrow.nd rfl (.inl rfl)) (pgs_cons (pg_name (i := 5) sc_narrow.nd rfl (.inl rfl)) pgs_nil))))         (pss_cons (ps_if (pt_cmpR op_gt (pe_op op_sub (pv 5) (pv 4)) (pe_glob (by rfl) g_WIDTH (show RelV (.int 4) _ from ⟨_, rfl⟩)) (nomark _)) (pss_one (ps_ret pe_non)) pss_nil)         (pss_one (ps_ret (pe_tup (pa_cons (pv 2) (pa_cons (pe_callTy call_tuple_of (by rfl) m_tuple (by decide +kernel) (pa_cons (pv 1) pa_nil)) pa_nil))))))), run_nbody h fun a B hp => ?_⟩
  obtain ⟨d0, ⟨lo, hi⟩, wk⟩ := a
  obtain ⟨n, rfl, hn, hwd⟩ := hp
  refine sd_env (δ1 := [.dat d0, .dat (.list [lastE lo hi]), nI (wk : Int), nI (n : Int), .no, .no]) rfl ?_
  refine q_unp [_, _, _, _, nI (lo / 2 ^ (wk - n)), nI (-(-hi / 2 ^ (wk - n)))] (d_callF ((lo, hi), wk, n) (a_cons (d_ixL (d_var rfl) (d_neg d_ci) rfl) (a_cons (d_var rfl) (a_cons (d_var rfl) a_nil))) hn) (g_tup (g_cons g_name (g_cons g_name g_nil))) ?_
  refine q_when (b_is (c := false) (b_test (d_b0 (d_i0 (d_var rfl) (d_var rfl)) d_ci)) (decide_eq_false (by simp only at hwd; omega))) (fun hb => nomatch hb) (fun _ => ?_)
  exact sd_ret (d_tup (ds_cons (d_var rfl) (ds_cons (d_tupL (d_var rfl)) ds_nil))) rfl
/-! ### decided, with that function -/
def ansD (b : Nat) (p q : Int) : PyData := .tuple [.int (b : Int), .tuple [encE b p q]]
/-- the formula of one number, in the heap -/
def FormAt (H : Hp) (v : V) (p q : Int) : Prop := ∃ fa fs, v = .ref fa ∧ H fa = some (.tup fs) ∧ StepsAt H fs [(("number" : Str), [p, q])]
def Small (p q : Int) : Prop := p.natAbs < 2 ^ 100 ∧ 1 ≤ q ∧ q < 2 ^ 100
def Wide (b : Nat) (n : Int) (p q : Int) : Prop := preN n (.none, (enc1 b p q, enc2 b p q), b)
def spDec (K : PySem.W.Frag) : SpC := fun outer h vs H Q _ => ∃ (v : V) (f c' : Addr) (cl : List (Str × Addr)) (b : Nat) (n p q : Int), vs = [v, .int (b : Int), .ref f] ∧ FormAt H v p q ∧ Small p q ∧ 8 ≤ b ∧ b < 2048 ∧ Wide b n p q ∧
  H f = some (FnO f (nfN cl c')) ∧ H c' = some (CodeO c' qN) ∧ CellsAt cl ["bits"] [some (.int n)] h H ∧ (∀ y c, cl.lookup y = some c → c ∉ frs outer) ∧ ∀ v' H', Ex H H' → Dt K H' v' (ansD b p q) → Q v' H'
theorem merge_num (p q : Int) : merge [(("number" : Str), [p, q])] = ([(("number" : Str), [p, q])], [0]) := by
  unfold merge
  show mstep ([], []) (("number" : Str), [p, q]) = _
  unfold mstep
  have e : ren (fun i => ([] : List Nat).getD i 0) (("number" : Str), [p, q]) = (("number" : Str), [p, q]) := if_pos rfl
  simp only [e]
  rfl
theorem ok_dec {f f0 f1 f2 f3 f4 f5 f6 f7 f8 f9 : Addr} {fd fd0 fd1 fd2 fd3 fd4 fd5 fd6 fd7 fd8 fd9 : FuncData} {t0 t1 : Tok} (F : Fun K "decided" "decided" s_decided f fd)
    (F_merged : Fun K "merged" "merged" s_merged f0 fd0) (b_merged : Binds K fd0 ["formula"] []) (g_merged : mg "merged" = some (.ref f0))
    (F_merged_into : Fun K "merged_into" "merged_into" s_merged_into f1 fd1) (b_merged_into : Binds K fd1 ["kept", "place_of", "formula"] []) (g_merged_into : mg "merged_into" = some (.ref f1))
    (F_moved : Fun K "moved" "moved" s_moved f2 fd2) (b_moved : Binds K fd2 ["step", "places"] []) (g_moved : mg "moved" = some (.ref f2))
    (F_exact_values : Fun K "exact_values" "exact_values" s_exact_values f3 fd3) (b_exact_values : Binds K fd3 ["steps"] []) (g_exact_values : mg "exact_values" = some (.ref f3))
    (F_exact_value : Fun K "exact_value" "exact_value" s_exact_value f4 fd4) (b_exact_value : Binds K fd4 ["step", "found"] []) (g_exact_value : mg "exact_value" = some (.ref f4))
    (F_bits_to_try : Fun K "bits_to_try" "bits_to_try" s_bits_to_try f5 fd5) (b_bits_to_try : Binds K fd5 ["bits"] []) (g_bits_to_try : mg "bits_to_try" = some (.ref f5))
    (F_enclosed_steps : Fun K "enclosed_steps" "enclosed_steps" s_enclosed_steps f6 fd6) (b_enclosed_steps : Binds K fd6 ["steps", "exacts", "bits"] []) (g_enclosed_steps : mg "enclosed_steps" = some (.ref f6))
    (F_of_fraction : Fun K "of_fraction" "of_fraction" s_of_fraction f7 fd7) (b_of_fraction : Binds K fd7 ["bits", "p", "q"] []) (g_of_fraction : mg "of_fraction" = some (.ref f7))
    (F_rescaled : Fun K "rescaled" "rescaled" s_rescaled f8 fd8) (b_rescaled : Binds K fd8 ["a", "bits", "other"] []) (g_rescaled : mg "rescaled" = some (.ref f8))
    (F_fewer_bits : Fun K "fewer_bits" "fewer_bits" s_fewer_bits f9 fd9) (b_fewer_bits : Binds K fd9 ["low", "high", "bits"] []) (g_fewer_bits : mg "fewer_bits" = some (.ref f9))
    (g_WIDTH : mg "WIDTH" = some (.int 4 t0)) (g_MOST_BITS : mg "MOST_BITS" = some (.int 2048 t1)) (m_tuple : mg "tuple" = none) (m_len : mg "len" = none) (m_zip : mg "zip" = none) : FnC P w K mg base CX0 4 f fd ["formula", "bits", "verdict"] (spDec K) := by
  have G_merged : FnOk P w K mg base CX0 3 f0 fd0 ["formula"] spMerged := ok_merged F_merged F_moved b_moved g_moved F_merged_into b_merged_into g_merged_into m_len
  have G_exact_values : FnOk P w K mg base CX0 2 f3 fd3 ["steps"] (spExacts K) := ok_exacts F_exact_values F_exact_value b_exact_value g_exact_value
  have G_bits_to_try : FnOk P w K mg base CX0 1 f5 fd5 ["bits"] (spTry K) := ok_try F_bits_to_try g_MOST_BITS
  have G_enclosed_steps : FnOk P w K mg base CX0 2 f6 fd6 ["steps", "exacts", "bits"] (spEncl K) := ok_encl F_enclosed_steps F_of_fraction b_of_fraction g_of_fraction m_zip
  refine okC F sc_decided (fun o h vs H Q E z => ?_) (fun A outer s H vs Q E env hr h => ?_)
  · obtain ⟨_, _, _, _, _, _, _, _, rfl, _⟩ := z
    rfl
  obtain ⟨v, vf, c', cl, b, n, p, q, rfl, ⟨fa, fs, rfl, hfa, hfs⟩, ⟨hp1, hp2, hp3⟩, hb1, hb2, hw, hf, hc, C_verdict, nf_verdict, k⟩ := h
  have G_verdict : NOk P w K mg base CX0 3 vf (nfN cl c') ["_", "enclosures", "work"] ["bits"] (spNar K) := ok_nar F_rescaled b_rescaled g_rescaled F_fewer_bits b_fewer_bits g_fewer_bits g_WIDTH m_tuple
  refine ⟨_, (pss_cons (ps_asg (pe_call G_merged (hr.mono (by decide)) (by rfl) g_merged F_merged.kp b_merged .nil pass0 (pa_cons (pv 0) pa_nil)) (pg_tup rfl (pgs_cons (pg_name (i := 3) sc_decided.nd rfl (.inl rfl)) (pgs_cons (pg_name (i := 4) sc_decided.nd rfl (.inl rfl)) pgs_nil))))
        (pss_cons (ps_set (i := 5) sc_decided.nd rfl (.inl rfl) (pe_call G_exact_values (hr.mono (by decide)) (by rfl) g_exact_values F_exact_values.kp b_exact_values .nil pass0 (pa_cons (pv 3) pa_nil)))
        (pss_cons (ps_for PassesOwn.never rfl (pi_list (pe_call G_bits_to_try (hr.mono (by decide)) (by rfl) g_bits_to_try F_bits_to_try.kp b_bits_to_try .nil pass0 (pa_cons (pv 1) pa_nil))) (pg_name (i := 6) sc_decided.nd rfl (.inl rfl)) (pss_cons (ps_set (i := 7) sc_decided.nd rfl (.inr rfl) (pe_call G_enclosed_steps (hr.mono (by decide)) (by rfl) g_enclosed_steps F_enclosed_steps.kp b_enclosed_steps .nil pass0 (pa_cons (pv 3) (pa_cons (pv 5) (pa_cons (pv 6) pa_nil)))))
        (pss_one (ps_if (pt_cmpR (op_notInD (hu65 hr)) pe_non (pv 7) (by rfl)) (pss_cons (ps_setLc (i := 8) (own := [("place", 9)]) (g := gName 9) rfl sc_decided.nd rfl rfl (sw_true rfl rfl rfl (by decide +kernel)) (pi_list (pv 4)) (blkOk_by (own := [("place", 9)]) (N := ["formula", "bits", "verdict", "steps", "places", "exacts", "work", "found", "enclosures", "place", "answer"]) (sc := defScope s_decided) (by decide +kernel)) (fun _ _ _ _ _ => (pg_name (i := 9) sc_decided.nd rfl (.inl rfl))) (fun _ _ _ _ _ => pts_nil) (fun _ _ _ _ _ => (pe_ix (r := rIxL K) ix_list (pv 7) (pv 9) (fun _ _ => rfl))))
        (pss_cons (ps_set (i := 10) sc_decided.nd rfl (.inl rfl) (Ln.pe_callV (i := 2) G_verdict C_verdict nf_verdict rfl hr (by decide) pass0 rfl (.inl rfl) (pa_cons (pe_ix ix_list (pv 5) (pe_ix ix_list (pv 4) (pe_un un_neg pe_int) (fun _ _ => rfl)) (fun _ _ => rfl)) (pa_cons (pv 8) (pa_cons (pv 6) pa_nil)))))
        (pss_one (ps_if (pt_cmpR op_notN (pv 10) pe_non (nomark _)) (pss_one (ps_ret (pv 10))) pss_nil)))) pss_nil))))
        Ln.pss_never))), ?_⟩
  refine ⟨_, rfl, fa, fs, [(("number" : Str), [p, q])], rfl, hfa, hfs, fun i s hi => ?_, (show 1 ≤ 1000 by decide), fun t kp pl us H2 nt e2 ht hkp hus hpl => ?_⟩
  · cases i with
    | zero =>
      cases Option.some.inj hi
      exact .inl ⟨p, q, rfl, hp2⟩
    | succ i => simp at hi
  rw [merge_num] at hus hpl
  refine ⟨t, _, rfl, st_of ht, rfl, _, _, rfl, _, _, rfl, rfl, ?_⟩
  have dus : DtAll K H2 us [numD p q] := by
    obtain ⟨l1, l2⟩ := hus
    match us, l1 with
    | [u], _ =>
      obtain ⟨a, rfl, ha⟩ := l2 0 u _ rfl rfl
      exact .cons (.tup (st_of ha) (.cons (.str _) (.cons (.int p) (.cons (.int q) .nil)))) .nil
  have dpl : DtAll K H2 (nats [0]) [.int 0] := .cons (.int 0) .nil
  have S : Sc K H2 H2 H2 H2 [some (.ref fa), some (.int (b : Int)), some (.ref vf), some (.ref kp), some (.ref pl), none, none, none, none, none, none] [.no, nI (b : Int), .raw (.ref vf), .dat (.list [numD p q]), .dat (.list [.int 0]), .no, .no, .no, .no, .no, .no] := by
    refine sc_at rfl fun i s hi => ?_
    match i with
    | 0 => exact .inl (Option.some.inj hi).symm
    | 1 =>
      cases Option.some.inj hi
      exact .inr ⟨_, rfl, .int _⟩
    | 2 =>
      cases Option.some.inj hi
      exact .inr ⟨_, rfl, rfl⟩
    | 3 =>
      cases Option.some.inj hi
      exact .inr ⟨_, rfl, .lst hkp dus⟩
    | 4 =>
      cases Option.some.inj hi
      exact .inr ⟨_, rfl, .lst hpl dpl⟩
    | 5 | 6 | 7 | 8 | 9 | 10 => exact .inl (Option.some.inj hi).symm
    | i + 11 => simp at hi
  dsimp only
  have fin : ∀ (D : Ends) (ts : TS), D.rt = Q → SD K H2 H2 (fun _ _ _ _ => False) ts [.no, nI (b : Int), .raw (.ref vf), .dat (.list [numD p q]), .dat (.list [.int 0]), .no, .no, .no, .no, .no, .no] { nx := fun _ => False, rt := fun d => d = ansD b p q } → ts D [some (.ref fa), some (.int (b : Int)), some (.ref vf), some (.ref kp), some (.ref pl), none, none, none, none, none, none] H2 := fun D ts hD hs =>
    hs D H2 H2 _ S ⟨fun _ _ _ _ _ _ z => z.elim, fun v' d B' H' _ st dv hd => by rw [hD]; exact k v' H' (e2.trans st.h) (hd ▸ dt_mono st.bh _ _ dv), fun _ _ _ _ _ _ z => z.elim, fun _ _ _ _ _ _ z => z.elim, fun _ _ _ _ _ _ _ z => z.elim, fun _ _ _ _ _ _ _ _ _ _ _ z => z.elim⟩
  refine fin _ _ rfl ?_
  refine q_asg [_, _, _, _, _, .dat (.list [fracD p q]), _, _, _, _, _] (d_new (n_call (f := fun a : Int × Int => [fracD a.1 a.2]) (p, q) (a_cons (d_var (s := .dat (.list [numD p q])) rfl) a_nil) True.intro)) ?_
  have h0 : (tryF 4096 b)[0]? = some b := by
    show (if b < 2048 then b :: tryF 4095 (2 * b) else [2048])[0]? = some b
    rw [if_pos hb2]
    rfl
  refine q_for (w_list (d_new (n_call (f := fun b : Nat => (tryF 4096 b).map natD) b (a_cons (d_var (s := nI (b : Int)) rfl) a_nil) ⟨hb1, hb2⟩))) (fun i δ => i = 0 ∧ δ = [.no, nI (b : Int), .raw (.ref vf), .dat (.list [numD p q]), .dat (.list [.int 0]), .dat (.list [fracD p q]), .no, .no, .no, .no, .no]) ⟨rfl, rfl⟩ (fun i d δ' hd hq => ?_) (fun δ' hq => ?_)
  · obtain ⟨rfl, rfl⟩ := hq
    rw [List.getElem?_map, h0] at hd
    cases Option.some.inj hd
    refine ⟨[6], [_, _, _, _, _, _, nI (b : Int), _, _, _, _], g_name, ?_⟩
    refine q_asg [_, _, _, _, _, _, _, .dat (.list [encE b p q]), _, _, _] (d_new (n_call (f := fun a : Int × Int × Nat => [encE a.2.2 a.1 a.2.1]) (p, q, b) (a_cons (d_var (s := .dat (.list [numD p q])) rfl) (a_cons (d_var (s := .dat (.list [fracD p q])) rfl) (a_cons (d_var (s := nI (b : Int)) rfl) a_nil))) ⟨(show b ≤ 4000 by omega), hp1, hp2, hp3⟩)) ?_
    refine sd_if (b := true) (b_is (b_test (d_niD d_cn (d_var rfl) rfl rfl)) rfl) (fun _ => ?_) (fun hb => nomatch hb)
    refine q_asg [_, _, _, _, _, _, _, _, .dat (.list [encE b p q]), _, _] (d_new (n_lc1 (ix := [9]) ([0] : List Int) PyData.int (fun z => [.no, nI (b : Int), .raw (.ref vf), .dat (.list [numD p q]), .dat (.list [.int 0]), .dat (.list [fracD p q]), nI (b : Int), .dat (.list [encE b p q]), .no, nI z, .no]) (fun _ => encE b p q) (w_list (ds := [PyData.int 0]) (d_var (s := .dat (.list [PyData.int 0])) rfl)) (by decide) (by decide) (fun z hz => ?_) (fun z hz => ?_))) ?_
    · exact g_name
    · obtain rfl : z = 0 := List.mem_singleton.mp hz
      exact d_ixL (d_var rfl) (d_var rfl) rfl
    refine q_asgR (d_callV (b := n) (fracD p q, (enc1 b p q, enc2 b p q), b) rfl (e2 _ _ hf) (e2 _ _ hc) (a_cons (d_ixL (d_var rfl) (d_ixL (d_var rfl) (d_neg d_ci) rfl) rfl) (a_cons (d_var rfl) (a_cons (d_var rfl) a_nil))) hw) fun d hd => ?_
    obtain rfl : d = ansD b p q := hd
    refine sd_env (δ1 := [_, _, _, _, _, _, _, _, _, _, .dat (ansD b p q)]) rfl ?_
    refine sd_if (b := true) (b_test (d_notN (d_var rfl) (fun z => by cases z))) (fun _ => ?_) (fun hb => nomatch hb)
    exact sd_ret (d_var (s := .dat (ansD b p q)) rfl) rfl
  · obtain ⟨hz, _⟩ := hq
    have hlen : 0 < (tryF 4096 b).length := by
      have := (List.getElem?_eq_some_iff.mp h0).1
      exact this
    rw [List.length_map] at hz
    omega
/-! ### narrow_steps: it makes the function -/
theorem sc_ns : FnScope ["formula", "bits", "narrow"] ["formula", "bits"] (defScope s_narrow_steps) := ⟨rfl, rfl, rfl, by decide +kernel, rfl, by decide +kernel, by decide +kernel⟩
theorem nd_ns : ndefB (defScope s_narrow_steps) (C8.fnScope s_narrow) ["bits"] = true := by decide +kernel
def nmN (_ _ : Nat) : Str := qN
def cDec (K : PySem.W.Frag) (cells : List (Str × Addr)) : List V → List (Option V) → Hp → VK → Prop := fun vs σ H Q => ∃ (v : V) (f c' : Addr) (b n : Nat) (p q : Int), vs = [v, .int (b : Int), .ref f] ∧ σ[1]? = some (some (.int (n : Int))) ∧ FormAt H v p q ∧ Small p q ∧ 8 ≤ b ∧ b < 2048 ∧ Wide b (n : Int) p q ∧
  H f = some (FnO f (nfN (cloFrom cells (C8.fnScope s_narrow).names []) c')) ∧ H c' = some (CodeO c' qN) ∧ ∀ v' H', Ex H H' → Dt K H' v' (ansD b p q) → Q v' H'
def spNS (K : PySem.W.Frag) (Pt : Addr) : Sp := fun vs H Q _ => ∃ (v : V) (n : Nat) (p q : Int), vs = [v, .int (n : Int)] ∧ FormAt H v p q ∧ Small p q ∧ n ≤ 1000 ∧ TabsN [(Pt, nmN)] H ∧ ∀ v' H', ExtN H H' → Dt K H' v' (ansD (n + 64) p q) → Q v' H'
theorem formAt_monoN {H H' : Hp} {v : V} {p q : Int} (e : ExtN H H') (h : FormAt H v p q) : FormAt H' v p q := by
  obtain ⟨fa, fs, rfl, h1, h2, h3⟩ := h
  exact ⟨fa, fs, rfl, e _ _ h1 (fun _ z => by cases z), h2, fun i v s a b => by
    obtain ⟨r, e1, e2⟩ := h3 i v s a b
    exact ⟨r, e1, e _ _ e2 (fun _ z => by cases z)⟩⟩
/-- 64 bits more than asked: narrow enough -/
theorem wide_ok (n : Nat) (p q : Int) (hq : 1 ≤ q) : Wide (n + 64) (n : Int) p q := by
  refine ⟨n, rfl, show n < n + 64 by omega, ?_⟩
  have e : n + 64 - n = 64 := by omega
  show -(-enc2 (n + 64) p q / 2 ^ (n + 64 - n)) - enc1 (n + 64) p q / 2 ^ (n + 64 - n) ≤ 4
  rw [e]
  have h1 : enc2 (n + 64) p q ≤ enc1 (n + 64) p q + 1 := by
    unfold enc1 enc2
    generalize p * 2 ^ (n + 64) = x
    have a1 := Int.mul_ediv_add_emod x q
    have a2 := Int.emod_nonneg x (show q ≠ 0 by omega)
    have h : -(x / q) - 1 ≤ -x / q := by
      refine (Int.le_ediv_iff_mul_le (by omega)).mpr ?_
      have a3 := Int.emod_lt_of_pos x (show 0 < q by omega)
      have a4 : (-(x / q) - 1) * q = -(q * (x / q)) - q := by
        rw [Int.sub_mul, Int.neg_mul, Int.mul_comm, Int.one_mul]
      omega
    omega
  have d : (2 : Int) ^ 64 = 18446744073709551616 := by decide
  rw [d]
  omega
theorem ok_ns {Pt c : Addr} {f f0 f1 f2 f3 f4 f5 f6 f7 f8 f9 fd' : Addr} {fd fd0 fd1 fd2 fd3 fd4 fd5 fd6 fd7 fd8 fd9 fdd : FuncData} {t0 t1 t2 : Tok} (F : Fun K "narrow_steps" "narrow_steps" s_narrow_steps f fd) (hcd : fd.code = .ref c) (TB : TabB base mg c Pt)
    (F_decided : Fun K "decided" "decided" s_decided fd' fdd) (b_decided : Binds K fdd ["formula", "bits", "verdict"] []) (g_decided : mg "decided" = some (.ref fd')) (g_SPARE_BITS : mg "SPARE_BITS" = some (.int 64 t2))
    (F_merged : Fun K "merged" "merged" s_merged f0 fd0) (b_merged : Binds K fd0 ["formula"] []) (g_merged : mg "merged" = some (.ref f0))
    (F_merged_into : Fun K "merged_into" "merged_into" s_merged_into f1 fd1) (b_merged_into : Binds K fd1 ["kept", "place_of", "formula"] []) (g_merged_into : mg "merged_into" = some (.ref f1))
    (F_moved : Fun K "moved" "moved" s_moved f2 fd2) (b_moved : Binds K fd2 ["step", "places"] []) (g_moved : mg "moved" = some (.ref f2))
    (F_exact_values : Fun K "exact_values" "exact_values" s_exact_values f3 fd3) (b_exact_values : Binds K fd3 ["steps"] []) (g_exact_values : mg "exact_values" = some (.ref f3))
    (F_exact_value : Fun K "exact_value" "exact_value" s_exact_value f4 fd4) (b_exact_value : Binds K fd4 ["step", "found"] []) (g_exact_value : mg "exact_value" = some (.ref f4))
    (F_bits_to_try : Fun K "bits_to_try" "bits_to_try" s_bits_to_try f5 fd5) (b_bits_to_try : Binds K fd5 ["bits"] []) (g_bits_to_try : mg "bits_to_try" = some (.ref f5))
    (F_enclosed_steps : Fun K "enclosed_steps" "enclosed_steps" s_enclosed_steps f6 fd6) (b_enclosed_steps : Binds K fd6 ["steps", "exacts", "bits"] []) (g_enclosed_steps : mg "enclosed_steps" = some (.ref f6))
    (F_of_fraction : Fun K "of_fraction" "of_fraction" s_of_fraction f7 fd7) (b_of_fraction : Binds K fd7 ["bits", "p", "q"] []) (g_of_fraction : mg "of_fraction" = some (.ref f7))
    (F_rescaled : Fun K "rescaled" "rescaled" s_rescaled f8 fd8) (b_rescaled : Binds K fd8 ["a", "bits", "other"] []) (g_rescaled : mg "rescaled" = some (.ref f8))
    (F_fewer_bits : Fun K "fewer_bits" "fewer_bits" s_fewer_bits f9 fd9) (b_fewer_bits : Binds K fd9 ["low", "high", "bits"] []) (g_fewer_bits : mg "fewer_bits" = some (.ref f9))
    (g_WIDTH : mg "WIDTH" = some (.int 4 t0)) (g_MOST_BITS : mg "MOST_BITS" = some (.int 2048 t1)) (m_tuple : mg "tuple" = none) (m_len : mg "len" = none) (m_zip : mg "zip" = none) : FnOk P w K mg base CX0 5 f fd ["formula", "bits"] (spNS K Pt) := by
  have G_decided : FnC P w K mg base CX0 4 fd' fdd ["formula", "bits", "verdict"] (spDec K) := ok_dec F_decided F_merged b_merged g_merged F_merged_into b_merged_into g_merged_into F_moved b_moved g_moved F_exact_values b_exact_values g_exact_values F_exact_value b_exact_value g_exact_value F_bits_to_try b_bits_to_try g_bits_to_try F_enclosed_steps b_enclosed_steps g_enclosed_steps F_of_fraction b_of_fraction g_of_fraction F_rescaled b_rescaled g_rescaled F_fewer_bits b_fewer_bits g_fewer_bits g_WIDTH g_MOST_BITS m_tuple m_len m_zip
  have C : FnC P w K mg base CX0 5 f fd ["formula", "bits"] (fun _ _ => spNS K Pt) := by
    refine okC F sc_ns (fun o h vs H Q E z => ?_) (fun A outer s H vs Q E env hr h => ?_)
    · obtain ⟨_, _, _, _, rfl, _⟩ := z
      rfl
    obtain ⟨v, n, p, q, rfl, hf, hs, hn, hT, k⟩ := h
    refine ⟨_, (pss_cons (ps_ndefS (st := s_narrow) (T := [(Pt, nmN)]) (nm := nmN) (P := Pt) (c := c) (name := "narrow") (i := 2) rfl TB hcd (List.mem_singleton.mpr rfl) rfl (fun p hp _ => by rw [List.mem_singleton.mp hp]) (ndef_free nd_ns) rfl rfl rfl sc_ns.nd rfl (.inl rfl) (.inr rfl))
        (pss_one (ps_ret (pe_callC (c := cDec K (cellsFrom (s.heap.objs.size + 1) (defScope s_narrow_steps).names [])) (E := fun _ _ _ => False) G_decided (hr.mono (by decide)) (by rfl) g_decided F_decided.kp b_decided pass0 (fun pins σ H1 s1 vs1 Q1 I hc => ?_) (pa_cons (pv 0) (pa_cons (pe_op op_add (pv 1) (pe_glob (by rfl) g_SPARE_BITS (show RelV (.int 64) _ from ⟨_, rfl⟩))) (pa_cons (pv 2) pa_nil))))))), ?_⟩
    · obtain ⟨v1, f1', c', b, m, p', q', rfl, hσ, h1, h2, h3, h4, h5, h6, h7, h8⟩ := hc
      have hcp := Caps.made (fr := ["bits"]) (js := [1]) I.ok (ndef_free nd_ns) (ndef_fr nd_ns) rfl
      have hcells := cells_of I hcp
      rw [show ([1] : List Nat).map (slotAt σ) = [some (.int (m : Int))] from by
        show [slotAt σ 1] = _
        rw [slotAt_of hσ]] at hcells
      exact ⟨v1, f1', c', _, b, m, p', q', rfl, h1, h2, h3, h4, h5, h6, h7, hcells, fun y cc hy => cells_nofr I (fun _ => rfl) (hcp.sub y cc hy), h8⟩
    · refine ⟨hT, fun f1' c' H1 eN hT1 n0 hf1 hc1 => ?_⟩
      refine ⟨_, rfl, _, rfl, _, _, rfl, rfl, _, rfl, v, f1', c', n + 64, n, p, q, rfl, rfl, formAt_monoN eN hf, hs, by omega, by omega, wide_ok n p q hs.2.1, hf1, hc1, fun v' H' e dv => k v' H' (extN_trans eN (extN_of e)) dv⟩
  exact ⟨fun vs H Q E ⟨_, _, _, _, z, _⟩ => by rw [z] <;> rfl, fun A outer s H args us vs Q E => C.run A outer s H args us vs Q E⟩
/-! ### enclose -/
def outD (n : Nat) (p q : Int) : PyData := .tuple [.int (enc1 (n + 64) p q / 2 ^ 64), .int (-(-enc2 (n + 64) p q / 2 ^ 64))]
def spEnc (K : PySem.W.Frag) (Pt : Addr) : Sp := fun vs H Q _ => ∃ (v : V) (n : Nat) (p q : Int), vs = [v, .int (n : Int)] ∧ FormAt H v p q ∧ Small p q ∧ n ≤ 1000 ∧ TabsN [(Pt, nmN)] H ∧ ∀ v' H', ExtN H H' → Dt K H' v' (outD n p q) → Q v' H'
theorem ok_enc {Pt : Addr} {f f0 f1 f2 : Addr} {fd fd0 fd1 fd2 : FuncData} (F : Fun K "enclose" "enclose" s_enclose f fd) (F_narrow_steps : Fun K "narrow_steps" "narrow_steps" s_narrow_steps f0 fd0) (b_narrow_steps : Binds K fd0 ["formula", "bits"] []) (g_narrow_steps : mg "narrow_steps" = some (.ref f0))
    (G_narrow_steps : FnOk P w K mg base CX0 5 f0 fd0 ["formula", "bits"] (spNS K Pt))
    (F_rescaled : Fun K "rescaled" "rescaled" s_rescaled f1 fd1) (b_rescaled : Binds K fd1 ["a", "bits", "other"] []) (g_rescaled : mg "rescaled" = some (.ref f1))
    (F_fewer_bits : Fun K "fewer_bits" "fewer_bits" s_fewer_bits f2 fd2) (b_fewer_bits : Binds K fd2 ["low", "high", "bits"] []) (g_fewer_bits : mg "fewer_bits" = some (.ref f2)) : FnOk P w K mg base CX0 6 f fd ["formula", "bits"] (spEnc K Pt) := by
  have G_rescaled : FnOk P w K mg base CX0 2 f1 fd1 ["a", "bits", "other"] (spResc K) := ok_resc F_rescaled F_fewer_bits b_fewer_bits g_fewer_bits
  refine F.ok sc_enclose (fun vs H Q E ⟨_, _, _, _, z, _⟩ => by rw [z] <;> rfl) (fun cdv A outer s H vs Q E hr h => ?_)
  obtain ⟨v, n, p, q, rfl, hf, hs, hn, hT, k⟩ := h
  refine ⟨_, (pss_cons (ps_asg (pe_call G_narrow_steps (hr.mono (by decide)) (by rfl) g_narrow_steps F_narrow_steps.kp b_narrow_steps .nil pass0 (pa_cons (pv 0) (pa_cons (pv 1) pa_nil))) (pg_tup rfl (pgs_cons (pg_name (i := 2) sc_enclose.nd rfl (.inl rfl)) (pgs_cons (pg_name (i := 3) sc_enclose.nd rfl (.inl rfl)) pgs_nil))))
        (pss_one (ps_ret (pe_call G_rescaled (hr.mono (by decide)) (by rfl) g_rescaled F_rescaled.kp b_rescaled .nil pass0 (pa_cons (pe_ix ix_tup (pv 3) (pe_un un_neg pe_int) (fun _ _ => rfl)) (pa_cons (pv 2) (pa_cons (pv 1) pa_nil))))))), ?_⟩
  refine ⟨_, rfl, _, rfl, v, n, p, q, rfl, hf, hs, hn, hT, fun v' H' e dv => ?_⟩
  cases dv with
  | tup h1 h2 =>
    cases h2 with
    | cons g1 g2 =>
      cases g2 with
      | cons g3 g4 =>
        cases g4
        cases g1
        refine ⟨_, _, rfl, h1, rfl, _, _, rfl, _, _, rfl, rfl, ?_⟩
        dsimp only
        rename_i v4
        have S : Sc K H' H' H' H' [some v, some (.int (n : Int)), some (.int ((n + 64 : Nat) : Int)), some v4] [.no, nI (n : Int), nI ((n + 64 : Nat) : Int), .dat (.tuple [encE (n + 64) p q])] := by
          refine sc_at rfl fun i s hi => ?_
          match i with
          | 0 => exact .inl (Option.some.inj hi).symm
          | 1 =>
            cases Option.some.inj hi
            exact .inr ⟨_, rfl, .int _⟩
          | 2 =>
            cases Option.some.inj hi
            exact .inr ⟨_, rfl, .int _⟩
          | 3 =>
            cases Option.some.inj hi
            exact .inr ⟨_, rfl, g3⟩
          | i + 4 => simp at hi
        have fin : ∀ (D : Ends) (ts : TS), D.rt = Q → SD K H' H' (fun _ _ _ _ => False) ts [.no, nI (n : Int), nI ((n + 64 : Nat) : Int), .dat (.tuple [encE (n + 64) p q])] { nx := fun _ => False, rt := fun d => d = outD n p q } → ts D [some v, some (.int (n : Int)), some (.int ((n + 64 : Nat) : Int)), some v4] H' := fun D ts hD hs =>
          hs D H' H' _ S ⟨fun _ _ _ _ _ _ z => z.elim, fun v' d B2 H2 _ st dv hd => by rw [hD]; exact k v' H2 (extN_trans e (extN_of st.h)) (hd ▸ dt_mono st.bh _ _ dv), fun _ _ _ _ _ _ z => z.elim, fun _ _ _ _ _ _ z => z.elim, fun _ _ _ _ _ _ _ z => z.elim, fun _ _ _ _ _ _ _ _ _ _ _ z => z.elim⟩
        refine fin _ _ rfl ?_
        refine sd_ret (d_callF ((enc1 (n + 64) p q, enc2 (n + 64) p q), n + 64, n) (a_cons (d_ixT (d_var (s := .dat (.tuple [encE (n + 64) p q])) rfl) (d_neg d_ci) rfl) (a_cons (d_var rfl) (a_cons (d_var rfl) a_nil))) (show n < n + 64 by omega)) ?_
        show PyData.tuple [.int (enc1 (n + 64) p q / 2 ^ (n + 64 - n)), .int (-(-enc2 (n + 64) p q / 2 ^ (n + 64 - n)))] = outD n p q
        rw [show n + 64 - n = 64 by omega]
        rfl
/-! ### formulas of one number -/
def RetN (p q : Int) (H : Hp) (Q : VK) : Prop := ∀ v H', Ex H H' → FormAt H' v p q → Q v H'
def spNum : Sp := fun vs H Q _ => ∃ p q : Int, vs = [.int p, .int q] ∧ RetN p q H Q
theorem ok_num {f : Addr} {fd : FuncData} (F : Fun K "number" "number" s_number f fd) : FnOk P w K mg base CX0 1 f fd ["p", "q"] spNum := by
  refine F.ok sc_number (fun vs H Q E h => ?_) (fun cdv A outer s H vs Q E hr h => ?_)
  · obtain ⟨p, q, rfl, _⟩ := h
    rfl
  · obtain ⟨p, q, rfl, k⟩ := h
    refine ⟨_, (pss_one (ps_ret (pe_tup (pa_cons (pe_tup (pa_cons pe_str (pa_cons (pv 0) (pa_cons (pv 1) pa_nil)))) pa_nil)))), ?_⟩
    refine ⟨_, rfl, _, rfl, (by show 3 ≤ sizeLine; decide), fun b hb => ⟨(by show 1 ≤ sizeLine; decide), fun a ha => ?_⟩⟩
    refine k _ _ ((Ex.new hb).trans (Ex.new ha)) ⟨a, [.ref b], rfl, upd_same, rfl, fun i v s hv hs => ?_⟩
    cases i with
    | zero =>
      cases Option.some.inj hv
      cases Option.some.inj hs
      exact ⟨b, rfl, by rw [upd_ne (fun z => by rw [← z, upd_same] at ha; cases ha)]; exact upd_same⟩
    | succ i => simp at hs
def spFrc : Sp := fun vs H Q _ => ∃ p q : Int, vs = [.int p, .int q] ∧ (1 ≤ q ∧ q < 2 ^ 100) ∧ RetN (p / gc p q) (q / gc p q) H Q
theorem ok_frc {f f0 f1 : Addr} {fd fd0 fd1 : FuncData} (F : Fun K "fraction" "fraction" s_fraction f fd) (F_lowest_terms : Fun K "lowest_terms" "lowest_terms" s_lowest_terms f0 fd0) (b_lowest_terms : Binds K fd0 ["p", "q"] []) (g_lowest_terms : mg "lowest_terms" = some (.ref f0))
    (F_number : Fun K "number" "number" s_number f1 fd1) (b_number : Binds K fd1 ["p", "q"] []) (g_number : mg "number" = some (.ref f1)) (g_gcd : mg "gcd" = some (.builtin "math.gcd")) : FnOk P w K mg base CX0 2 f fd ["p", "q"] spFrc := by
  have G_lowest_terms : FnOk P w K mg base CX0 1 f0 fd0 ["p", "q"] (spLow K) := ok_low F_lowest_terms g_gcd
  have G_number : FnOk P w K mg base CX0 1 f1 fd1 ["p", "q"] spNum := ok_num F_number
  refine F.ok sc_fraction (fun vs H Q E h => ?_) (fun cdv A outer s H vs Q E hr h => ?_)
  · obtain ⟨p, q, rfl, _⟩ := h
    rfl
  · obtain ⟨p, q, rfl, hq, k⟩ := h
    refine ⟨_, (pss_cons (ps_asg (pe_call G_lowest_terms (hr.mono (by decide)) (by rfl) g_lowest_terms F_lowest_terms.kp b_lowest_terms .nil pass0 (pa_cons (pv 0) (pa_cons (pv 1) pa_nil))) (pg_tup rfl (pgs_cons (pg_name (i := 0) sc_fraction.nd rfl (.inl rfl)) (pgs_cons (pg_name (i := 1) sc_fraction.nd rfl (.inl rfl)) pgs_nil))))
        (pss_one (ps_ret (pe_call G_number (hr.mono (by decide)) (by rfl) g_number F_number.kp b_number .nil pass0 (pa_cons (pv 0) (pa_cons (pv 1) pa_nil)))))), ?_⟩
    refine ⟨_, rfl, _, rfl, H, (p, q), .refl H, .cons (.int p) (.cons (.int q) .nil), hq, fun v d B' H' hd st dv => ?_⟩
    cases hd
    cases dv with
    | tup h1 h2 =>
      obtain rfl : _ = [V.int _, V.int _] := dt_ints_inv [p / gc p q, q / gc p q] h2
      refine ⟨_, _, rfl, ex_t st.bh h1, rfl, _, _, rfl, _, _, rfl, rfl, ?_⟩
      exact ⟨_, rfl, _, rfl, _, _, rfl, fun v2 H2 e2 hf => k v2 H2 (st.h.trans e2) hf⟩
/-- an ellipsoid: three ints -/
def ellD (a p q : Int) : PyData := .tuple [.int a, .int p, .int q]
def spHalf (K : PySem.W.Frag) : Sp := fun vs H Q _ => ∃ (v : V) (a p q : Int), vs = [v] ∧ Dt K H v (ellD a p q) ∧ a.natAbs < 2 ^ 100 ∧ p.natAbs < 2 ^ 99 ∧ (1 ≤ q ∧ q < 2 ^ 99) ∧ RetN (a * (q - p) / gc (a * (q - p)) q) (q / gc (a * (q - p)) q) H Q
theorem ok_half {f f0 f1 f2 : Addr} {fd fd0 fd1 fd2 : FuncData} (F : Fun K "half_axis" "half_axis" s_half_axis f fd) (F_fraction : Fun K "fraction" "fraction" s_fraction f2 fd2) (b_fraction : Binds K fd2 ["p", "q"] []) (g_fraction : mg "fraction" = some (.ref f2))
    (F_lowest_terms : Fun K "lowest_terms" "lowest_terms" s_lowest_terms f0 fd0) (b_lowest_terms : Binds K fd0 ["p", "q"] []) (g_lowest_terms : mg "lowest_terms" = some (.ref f0))
    (F_number : Fun K "number" "number" s_number f1 fd1) (b_number : Binds K fd1 ["p", "q"] []) (g_number : mg "number" = some (.ref f1)) (g_gcd : mg "gcd" = some (.builtin "math.gcd")) : FnOk P w K mg base CX0 3 f fd ["ellipsoid"] (spHalf K) := by
  have G_fraction : FnOk P w K mg base CX0 2 f2 fd2 ["p", "q"] spFrc := ok_frc F_fraction F_lowest_terms b_lowest_terms g_lowest_terms F_number b_number g_number g_gcd
  refine F.ok sc_half_axis (fun vs H Q E h => ?_) (fun cdv A outer s H vs Q E hr h => ?_)
  · obtain ⟨v, a, p, q, rfl, _⟩ := h
    rfl
  · obtain ⟨v, a, p, q, rfl, dv, ha, hp, hq, k⟩ := h
    refine ⟨_, (pss_cons (ps_asg (pv 0) (pg_tup rfl (pgs_cons (pg_name (i := 1) sc_half_axis.nd rfl (.inl rfl)) (pgs_cons (pg_name (i := 2) sc_half_axis.nd rfl (.inl rfl)) (pgs_cons (pg_name (i := 3) sc_half_axis.nd rfl (.inl rfl)) pgs_nil)))))
        (pss_one (ps_ret (pe_call G_fraction (hr.mono (by decide)) (by rfl) g_fraction F_fraction.kp b_fraction .nil pass0 (pa_cons (pe_op op_mulX (pv 1) (pe_op op_sub (pv 3) (pv 2))) (pa_cons (pv 3) pa_nil)))))), ?_⟩
    cases dv with
    | tup h1 h2 =>
      obtain rfl : _ = [V.int _, V.int _, V.int _] := dt_ints_inv [a, p, q] h2
      refine ⟨_, rfl, _, _, rfl, h1, rfl, _, _, rfl, _, _, rfl, _, _, rfl, rfl, ?_⟩
      have hqp : (q - p).natAbs < 2 ^ 101 := by omega
      refine ⟨_, rfl, _, rfl, _, rfl, _, _, rfl, rfl, _, _, rfl, rfl, mulx_ok (a := 100) (b := 101) ha hqp (by decide), _, rfl, _, _, rfl, ⟨hq.1, by omega⟩, k⟩
/-! ### ellipsoids -/
abbrev spIsE (K : PySem.W.Frag) : Sp := SpF K (fun a : Int × Int × Int => [.dat (ellD a.1 a.2.1 a.2.2)]) (fun a => a.2.1.natAbs < 2 ^ 100) fun a => .bool (decide (a.1 ≥ 1) && (decide (a.2.1 ≥ 0) && (decide (a.2.2 ≥ 1) && decide (10 * a.2.1 ≤ a.2.2))))
theorem ok_ise {f : Addr} {fd : FuncData} (F : Fun K "is_ellipsoid" "is_ellipsoid" s_is_ellipsoid f fd) : FnOk P w K mg base CX0 1 f fd ["value"] (spIsE K) := by
  refine F.ok sc_is_ellipsoid (fun vs H Q E ⟨_, _, _, iv, _⟩ => iv.len) (fun cdv A outer s H vs Q E hr h => ⟨_, (pss_cons (ps_asg (pv 0) (pg_tup rfl (pgs_cons (pg_name (i := 1) sc_is_ellipsoid.nd rfl (.inl rfl)) (pgs_cons (pg_name (i := 2) sc_is_ellipsoid.nd rfl (.inl rfl)) (pgs_cons (pg_name (i := 3) sc_is_ellipsoid.nd rfl (.inl rfl)) pgs_nil)))))
        (pss_one (ps_ret (pe_and (pe_cmpR op_ge (pv 1) pe_int (nomark _)) (pe_and (pe_cmpR op_ge (pv 2) pe_int (nomark _)) (pe_and (pe_cmpR op_ge (pv 3) pe_int (nomark _)) (pe_one (pe_cmpR op_le (pe_op op_mulX pe_int (pv 2)) (pv 3) (nomark _))))))))), run_body h fun a B hp => ?_⟩)
  obtain ⟨a, p, q⟩ := a
  have hp : p.natAbs < 2 ^ 100 := hp
  refine sd_env (δ1 := [.dat (ellD a p q), .no, .no, .no]) rfl ?_
  refine q_unp [_, nI a, nI p, nI q] (d_var (s := .dat (ellD a p q)) rfl) (g_tup (g_cons g_name (g_cons g_name (g_cons g_name g_nil)))) ?_
  exact sd_ret (d_andV (d_b0 (d_var rfl) d_ci) fun _ => d_andV (d_b0 (d_var rfl) d_ci) fun _ => d_andV (d_b0 (d_var rfl) d_ci) fun _ => d_b0 (d_iC d_ci (d_var rfl) (mulx_ok (a := 100) (b := 100) (by decide) hp (by decide))) (d_var rfl)) rfl
def abv (p q : Int) : Int := p * (2 * q - p)
abbrev spEcc (K : PySem.W.Frag) : Sp := SpF K (fun a : Int × Int × Int => [.dat (ellD a.1 a.2.1 a.2.2)]) (fun a => a.2.1.natAbs < 2 ^ 49 ∧ 1 ≤ a.2.2 ∧ a.2.2 < 2 ^ 49) fun a => .tuple [.int (abv a.2.1 a.2.2 / gc (abv a.2.1 a.2.2) (a.2.2 * a.2.2)), .int (a.2.2 * a.2.2 / gc (abv a.2.1 a.2.2) (a.2.2 * a.2.2))]
theorem ok_ecc {f f0 : Addr} {fd fd0 : FuncData} (F : Fun K "eccentricity2" "eccentricity2" s_eccentricity2 f fd) (F_lowest_terms : Fun K "lowest_terms" "lowest_terms" s_lowest_terms f0 fd0) (b_lowest_terms : Binds K fd0 ["p", "q"] []) (g_lowest_terms : mg "lowest_terms" = some (.ref f0)) (g_gcd : mg "gcd" = some (.builtin "math.gcd")) : FnOk P w K mg base CX0 2 f fd ["ellipsoid"] (spEcc K) := by
  have G_lowest_terms : FnOk P w K mg base CX0 1 f0 fd0 ["p", "q"] (spLow K) := ok_low F_lowest_terms g_gcd
  refine F.ok sc_eccentricity2 (fun vs H Q E ⟨_, _, _, iv, _⟩ => iv.len) (fun cdv A outer s H vs Q E hr h => ⟨_, (pss_cons (ps_asg (pv 0) (pg_tup rfl (pgs_cons (pg_name (i := 1) sc_eccentricity2.nd rfl (.inl rfl)) (pgs_cons (pg_name (i := 2) sc_eccentricity2.nd rfl (.inl rfl)) (pgs_cons (pg_name (i := 3) sc_eccentricity2.nd rfl (.inl rfl)) pgs_nil)))))
        (pss_one (ps_ret (pe_call G_lowest_terms (hr.mono (by decide)) (by rfl) g_lowest_terms F_lowest_terms.kp b_lowest_terms .nil pass0 (pa_cons (pe_op op_mulX (pv 2) (pe_op op_sub (pe_op op_mulX pe_int (pv 3)) (pv 2))) (pa_cons (pe_op op_mulX (pv 3) (pv 3)) pa_nil)))))), run_body h fun a B hp => ?_⟩)
  obtain ⟨a, p, q⟩ := a
  have hp : p.natAbs < 2 ^ 49 ∧ 1 ≤ q ∧ q < 2 ^ 49 := hp
  obtain ⟨hp, h1, h2⟩ := hp
  refine sd_env (δ1 := [.dat (ellD a p q), .no, .no, .no]) rfl ?_
  refine q_unp [_, nI a, nI p, nI q] (d_var (s := .dat (ellD a p q)) rfl) (g_tup (g_cons g_name (g_cons g_name (g_cons g_name g_nil)))) ?_
  have hqq : 1 ≤ q * q ∧ q * q < 2 ^ 100 := by
    have := Int.mul_le_mul (a := q) (b := q) (c := 2 ^ 49) (d := 2 ^ 49) (by omega) (by omega) (by omega) (by omega)
    have := Int.mul_le_mul (a := 1) (b := 1) (c := q) (d := q) (by omega) (by omega) (by omega) (by omega)
    omega
  exact sd_ret (d_callF (abv p q, q * q) (a_cons (d_iC (d_var rfl) (d_i0 (d_iC d_ci (d_var rfl) (mulx_ok (a := 100) (b := 100) (by decide) (by omega) (by decide))) (d_var rfl)) (mulx_ok (a := 100) (b := 100) (by omega) (by omega) (by decide))) (a_cons (d_iC (d_var rfl) (d_var rfl) (mulx_ok (a := 100) (b := 100) (by omega) (by omega) (by decide))) a_nil)) hqq) rfl
/-! ### the law's cells, by data -/
def cellOf (ns : List Int) (k : Nat) : Int := ns.getD k 0
abbrev spCell (K : PySem.W.Frag) : Sp := SpF K (fun a : List Int × Nat => [.sem (scrP K a.1), nI (a.2 : Int)]) (fun _ => True) fun a => .int (cellOf a.1 a.2)
theorem ok_cell {f : Addr} {fd : FuncData} (F : Fun K "_law_cell" "_law_cell" s_law_cell f fd) (m_len : mg "len" = none) : FnOk P w K mg base CX0 1 f fd ["script", "k"] (spCell K) := by
  refine F.ok sc_law_cell (fun vs H Q E ⟨_, _, _, iv, _⟩ => iv.len) (fun cdv A outer s H vs Q E hr h => ⟨_, (pss_cons (ps_if (pt_cmpR op_lt (pv 1) (pe_callB call_len (by rfl) m_len (by decide +kernel) (pa_cons (pv 0) pa_nil)) (nomark _)) (pss_one (ps_ret (pe_ix ix_list (pv 0) (pv 1) (fun _ _ => rfl)))) pss_nil)
        (pss_one (ps_ret pe_int))), run_body h fun a B _ => ?_⟩)
  obtain ⟨ns, k⟩ := a
  refine sd_env (δ1 := [.sem (scrP K ns), nI (k : Int)]) rfl ?_
  refine q_when (b_test (d_b0 (d_var rfl) (d_lenSc (d_var rfl)))) (fun hb => ?_) (fun hb => ?_)
  · have hk : k < ns.length := by
      have := of_decide_eq_true hb
      omega
    refine sd_ret (d_ixS (j := ns[k]) (d_var rfl) (d_var rfl) (atI_nat (List.getElem?_eq_getElem hk))) ?_
    show PyData.int _ = .int (ns.getD k 0)
    rw [List.getD_eq_getElem?_getD, List.getElem?_eq_getElem hk]
    rfl
  · have hk : ns.length ≤ k := by
      have := of_decide_eq_false hb
      omega
    refine sd_ret d_ci ?_
    show PyData.int 0 = .int (ns.getD k 0)
    rw [List.getD_eq_getElem?_getD, List.getElem?_eq_none hk]
    rfl
theorem mulc {x : Int} {c : Int} (h : x.natAbs < 2 ^ 100) (hc : c.natAbs < 2 ^ 100) : CMulX x c := mulx_ok (a := 100) (b := 100) h hc (by decide)
/-- the same, by a bound in figures -/
theorem mulk {x : Int} {k : Nat} (c : Int) (h : x.natAbs ≤ k) (hk : k < 2 ^ 100 := by decide +kernel) (hc : c.natAbs < 2 ^ 100 := by decide +kernel) : CMulX x c := mulc (Nat.lt_of_le_of_lt h hk) hc
/-! ### ints of a bounded number of bits -/
def Big (i : Int) : Prop := Builtin.Int.intBits i ≤ 1048576
theorem big_lt {i : Int} {a : Nat} (h : i.natAbs < 2 ^ a) (ha : a ≤ 1048576 := by decide) : Big i := Nat.le_trans (PyProof.Rows.intBits_le h) ha
theorem big_k {i : Int} {k : Nat} (h : i.natAbs ≤ k) (hk : k < 2 ^ 100 := by decide +kernel) : Big i := big_lt (Nat.lt_of_le_of_lt h hk)
theorem big_abs {i : Int} (h : Big i) : Big (i.natAbs : Int) := by
  unfold Big Builtin.Int.intBits at *
  have e : (((i.natAbs : Nat) : Int) == 0) = (i == 0) := by
    by_cases z : i = 0
    · subst z
      rfl
    · rw [beq_eq_false_iff_ne.mpr z, beq_eq_false_iff_ne.mpr (by omega)]
  rw [e, Int.natAbs_natCast]
  exact h
theorem mul_big {i : Int} (c : Int) (h : Big i) (hc : c.natAbs < 2 ^ 100 := by decide +kernel) : CMulX i c := by
  have := PyProof.Rows.intBits_le hc
  unfold Big at h
  unfold CMulX
  omega
theorem big_cell {ns : List Int} (h : ∀ z ∈ ns, Builtin.Int.intBits z ≤ 1048576) (k : Nat) : Big (cellOf ns k) := by
  unfold cellOf
  rw [List.getD_eq_getElem?_getD]
  cases e : ns[k]? with
  | none => exact big_k (k := 0) (Nat.le_refl _)
  | some z => exact h z (List.mem_of_getElem? e)
abbrev spRich (K : PySem.W.Frag) : Sp := SpA K (fun c : Int => [nI c]) (fun _ => True) fun c d => ∃ n : Nat, d = .int (n : Int) ∧ (Big c → Big (n : Int))
theorem ok_rich {f : Addr} {fd : FuncData} (F : Fun K "_law_rich" "_law_rich" s_law_rich f fd) (m_abs : mg "abs" = none) (m_int : mg "int" = none) : FnOk P w K mg base CX0 1 f fd ["cell"] (spRich K) := by
  refine F.ok sc_law_rich (fun vs H Q E ⟨_, _, _, iv, _⟩ => iv.len) (fun cdv A outer s H vs Q E hr h => ⟨_, (pss_cons (ps_set (i := 0) sc_law_rich.nd rfl (.inl rfl) (pe_callB call_abs (by rfl) m_abs (by decide +kernel) (pa_cons (pv 0) pa_nil)))
        (pss_cons (ps_if (pt_cmpR op_ge (pv 0) pe_int (nomark _)) (pss_one (ps_ret (pv 0))) pss_nil)
        (pss_cons (ps_set (i := 1) sc_law_rich.nd rfl (.inl rfl) (pe_op op_mod (pe_callTy call_int1 (by rfl) m_int (by decide +kernel) (pa_cons (pe_op op_add (pe_op op_mulX (pv 0) pe_int) pe_int) pa_nil)) pe_int))
        (pss_one (ps_ret (pe_op op_add (pe_op op_add (pe_op op_mulX (pe_op op_mulX (pv 1) pe_int) pe_int) (pe_op op_mulX (pe_op op_mod (pe_callTy call_int1 (by rfl) m_int (by decide +kernel) (pa_cons (pe_op op_add (pe_op op_mulX (pv 1) pe_int) (pv 0)) pa_nil)) pe_int) pe_int)) (pe_op op_fdiv (pv 1) pe_int))))))), run_body h fun c B _ => ?_⟩)
  refine sd_env (δ1 := [nI c, .no]) rfl ?_
  refine q_asg [_, _] (d_abs (d_var rfl)) ?_
  have hbig : Big c → Big (c.natAbs : Int) := big_abs
  generalize c.natAbs = n at hbig ⊢
  refine q_when (b_test (d_b0 (d_var rfl) d_ci)) (fun hb => ?_) (fun hb => ?_)
  · exact sd_ret (d_var rfl) ⟨_, rfl, hbig⟩
  · have hn : n < 1000000000000000000 := by
      have := of_decide_eq_false hb
      omega
    refine q_asg [_, _] (d_iC (d_int (d_i0 (d_iC (d_var rfl) d_ci (mulk (k := 1000000000000000000) _ (by omega))) d_ci)) d_ci (by decide)) ?_
    have hm : 0 ≤ ((n : Int) * 48271 + 7) % 2147483647 ∧ ((n : Int) * 48271 + 7) % 2147483647 < 2147483647 := ⟨by omega, by omega⟩
    generalize ((n : Int) * 48271 + 7) % 2147483647 = m at hm
    refine sd_ret (d_i0 (d_i0 (d_iC (d_iC (d_var rfl) d_ci (mulk (k := 2147483647) _ (by omega))) d_ci (mulk (k := 2147483647000000000000) _ (by omega))) (d_iC (d_iC (d_int (d_i0 (d_iC (d_var rfl) d_ci (mulk (k := 2147483647) _ (by omega))) (d_var rfl))) d_ci (by decide)) d_ci (mulk (k := 2147483647) _ (by omega)))) (d_iC (d_var rfl) d_ci ⟨by decide, by decide⟩)) ?_
    exact ⟨(m * 1000003 * 2147483629 + (m * 69621 + (n : Int)) % 2147483629 * 1000003 + m / 11).toNat, congrArg PyData.int (by omega), fun _ => big_k (k := 2147483647 * 1000003 * 2147483629 * 3) (by omega)⟩
/-! ### the law's own defs -/
abbrev spIntg (K : PySem.W.Frag) : Sp := SpF K (fun i : Int => [nI i]) (fun _ => True) fun _ => .bool true
theorem ok_intg {f : Addr} {fd : FuncData} (F : Fun K "_law_is_integer" "_law_is_integer" s_law_is_integer f fd) (m_isinstance : mg "isinstance" = none) (m_int : mg "int" = none) (m_bool : mg "bool" = none) : FnOk P w K mg base CX0 1 f fd ["actual"] (spIntg K) := by
  refine F.ok sc_law_is_integer (fun vs H Q E ⟨_, _, _, iv, _⟩ => iv.len) (fun cdv A outer s H vs Q E hr h => ⟨_, (pss_one (ps_ret (pe_and (pe_callB call_isi (by rfl) m_isinstance (by decide +kernel) (pa_cons (pv 0) (pa_cons (pe_bltn (by rfl) m_int (by decide +kernel) (show RelV (.ty "int") _ from rfl)) pa_nil))) (pe_one (pe_not (pe_callB call_isi (by rfl) m_isinstance (by decide +kernel) (pa_cons (pv 0) (pa_cons (pe_bltn (by rfl) m_bool (by decide +kernel) (show RelV (.ty "bool") _ from rfl)) pa_nil)))))))), run_body h fun i B _ => ?_⟩)
  refine sd_env (δ1 := [nI i]) rfl ?_
  exact sd_ret (d_andV (d_isi (b := true) (d_var (s := nI i) rfl) rfl rfl) fun _ => d_notV (d_isi (b := false) (d_var (s := nI i) rfl) rfl rfl)) rfl
structure Fit (lo hi v : Int) : Prop where
  w1 : 0 ≤ hi - lo
  w2 : hi - lo ≤ 4
  l : lo * 2 ^ 100 ≤ v + 2 ^ 80
  h : hi * 2 ^ 100 ≥ v - 2 ^ 80
  s1 : lo.natAbs < 2 ^ 300
  s2 : hi.natAbs < 2 ^ 300
abbrev spFits (K : PySem.W.Frag) : Sp := SpF K (fun a : (Int × Int) × Nat × Int => [.dat (.tuple [.int a.1.1, .int a.1.2]), nI (a.2.1 : Int), nI a.2.2, nI ((a.2.1 + 100 : Nat) : Int)]) (fun a => Fit a.1.1 a.1.2 a.2.2) fun _ => .bool true
theorem ok_fits {f f0 : Addr} {fd fd0 : FuncData} (F : Fun K "_law_fits" "_law_fits" s_law_fits f fd) (F_law_is_integer : Fun K "_law_is_integer" "_law_is_integer" s_law_is_integer f0 fd0) (b_law_is_integer : Binds K fd0 ["actual"] []) (g_law_is_integer : mg "_law_is_integer" = some (.ref f0))
    (m_isinstance : mg "isinstance" = none) (m_int : mg "int" = none) (m_bool : mg "bool" = none) (m_tuple : mg "tuple" = none) (m_len : mg "len" = none) : FnOk P w K mg base CX0 2 f fd ["found", "bits", "value", "b"] (spFits K) := by
  have G_law_is_integer : FnOk P w K mg base CX0 1 f0 fd0 ["actual"] (spIntg K) := ok_intg F_law_is_integer m_isinstance m_int m_bool
  refine F.ok sc_law_fits (fun vs H Q E ⟨_, _, _, iv, _⟩ => iv.len) (fun cdv A outer s H vs Q E hr h => ⟨_, (pss_cons (ps_if (PW.pt (pw_or (pt_not (pt_val (pe_callB call_isi (by rfl) m_isinstance (by decide +kernel) (pa_cons (pv 0) (pa_cons (pe_bltn (by rfl) m_tuple (by decide +kernel) (show RelV (.ty "tuple") _ from rfl)) pa_nil))))) (pw_or (pt_cmpR op_ne (pe_callB call_len (by rfl) m_len (by decide +kernel) (pa_cons (pv 0) pa_nil)) pe_int (nomark _)) (pw_or (pt_not (pt_val (pe_call G_law_is_integer (hr.mono (by decide)) (by rfl) g_law_is_integer F_law_is_integer.kp b_law_is_integer .nil pass0 (pa_cons (pe_ix ix_tup (pv 0) pe_int (fun _ _ => rfl)) pa_nil)))) (pw_or1 (pt_not (pt_val (pe_call G_law_is_integer (hr.mono (by decide)) (by rfl) g_law_is_integer F_law_is_integer.kp b_law_is_integer .nil pass0 (pa_cons (pe_ix ix_tup (pv 0) pe_int (fun _ _ => rfl)) pa_nil))))))))) (pss_one (ps_ret pe_bl)) pss_nil)
        (pss_cons (ps_set (i := 4) sc_law_fits.nd rfl (.inl rfl) (pe_op op_oneShl pe_int (pe_op op_sub (pe_op op_sub (pv 3) (pv 1)) pe_int)))
        (pss_cons (ps_set (i := 5) sc_law_fits.nd rfl (.inl rfl) (pe_op op_sub (pv 3) (pv 1)))
        (pss_cons (ps_if (pt_not (pt_chain op_le op_le pe_int (pe_op op_sub (pe_ix ix_tup (pv 0) pe_int (fun _ _ => rfl)) (pe_ix ix_tup (pv 0) pe_int (fun _ _ => rfl))) pe_int)) (pss_one (ps_ret pe_bl)) pss_nil)
        (pss_one (ps_ret (pe_and (pe_cmpR op_le (pe_op op_shlN (pe_ix ix_tup (pv 0) pe_int (fun _ _ => rfl)) (pv 5)) (pe_op op_add (pv 2) (pv 4)) (nomark _)) (pe_one (pe_cmpR op_ge (pe_op op_shlN (pe_ix ix_tup (pv 0) pe_int (fun _ _ => rfl)) (pv 5)) (pe_op op_sub (pv 2) (pv 4)) (nomark _)))))))))), run_body h fun a B hp => ?_⟩)
  obtain ⟨⟨lo, hi⟩, n, v⟩ := a
  obtain ⟨h1, h2, h3, h4, h5, h6⟩ := hp
  simp only at h1 h2 h3 h4 h5 h6
  refine sd_env (δ1 := [.dat (.tuple [.int lo, .int hi]), nI (n : Int), nI v, nI ((n + 100 : Nat) : Int), .no, .no]) rfl ?_
  have e0 : EvS K B H (tVar 0) [.dat (.tuple [.int lo, .int hi]), nI (n : Int), nI v, nI ((n + 100 : Nat) : Int), .no, .no] (.dat (.tuple [.int lo, .int hi])) := d_var rfl
  refine q_when (b_is (c := false) (b_or (b_not (b_val (d_isi (b := true) e0 rfl rfl))) fun _ => (b_or (b_test (d_neI (d_lenT e0) d_ci)) fun _ => (b_or (b_not (b_val (d_callF lo (a_cons (d_ixT e0 d_ci rfl) a_nil) True.intro))) fun _ => (b_not (b_val (d_callF hi (a_cons (d_ixT e0 d_ci rfl) a_nil) True.intro)))))) rfl) (fun hb => nomatch hb) (fun _ => ?_)
  refine q_asg [_, _, _, _, nI (2 ^ 80), _] (d_one (k := 80) d_ci (d_isI (i := ((n + 100 : Nat) : Int) - (n : Int) - 20) (j := ((80 : Nat) : Int)) (d_i0 (d_i0 (d_var rfl) (d_var rfl)) d_ci) (by omega)) (by decide)) ?_
  refine q_asg [_, _, _, _, _, nI ((100 : Nat) : Int)] (d_isI (i := ((n + 100 : Nat) : Int) - (n : Int)) (j := ((100 : Nat) : Int)) (d_i0 (d_var rfl) (d_var rfl)) (by omega)) ?_
  have e1 : EvS K B H (tVar 0) [.dat (.tuple [.int lo, .int hi]), nI (n : Int), nI v, nI ((n + 100 : Nat) : Int), nI (2 ^ 80), nI ((100 : Nat) : Int)] (.dat (.tuple [.int lo, .int hi])) := d_var rfl
  refine q_when (b_is (c := false) (b_not (b_val (d_chain d_ci (d_i0 (d_ixT e1 d_ci rfl) (d_ixT e1 d_ci rfl)) d_ci (fun _ => Evl.rv_I0) (fun _ => Evl.rv_I0)))) (by rw [decide_eq_true h1, decide_eq_true h2] <;> rfl)) (fun hb => nomatch hb) (fun _ => ?_)
  refine sd_ret (d_andV (d_b0 (d_shl (d_ixT e1 d_ci rfl) (d_var rfl) (shl_ok (n := 300) h5 (by decide))) (d_i0 (d_var rfl) (d_var rfl))) fun _ => (d_b0 (d_shl (d_ixT e1 d_ci rfl) (d_var rfl) (shl_ok (n := 300) h6 (by decide))) (d_i0 (d_var rfl) (d_var rfl)))) ?_
  rw [decide_eq_true h3, decide_eq_true h4] <;> rfl
theorem euc {x y Q i : Nat} (h1 : y ≤ x) (h2 : x * y * 2 ^ i ≤ Q) (hy : 0 < y) : x % y ≤ y ∧ y * (x % y) * 2 ^ (i + 1) ≤ Q := by
  have hlt := Nat.mod_lt x hy
  refine ⟨Nat.le_of_lt hlt, Nat.le_trans ?_ h2⟩
  have hx := Nat.div_add_mod x y
  have hq : 1 ≤ x / y := (Nat.le_div_iff_mul_le hy).mpr (by omega)
  have hm : y * 1 ≤ y * (x / y) := Nat.mul_le_mul_left _ hq
  have h3 : 2 * (x % y) ≤ x := by omega
  calc y * (x % y) * 2 ^ (i + 1) = (2 * (x % y)) * y * 2 ^ i := by
        rw [Nat.pow_succ, Nat.mul_comm y, Nat.mul_comm (2 ^ i) 2, ← Nat.mul_assoc, Nat.mul_right_comm (x % y) y 2, Nat.mul_comm (x % y) 2]
    _ ≤ x * y * 2 ^ i := Nat.mul_le_mul_right _ (Nat.mul_le_mul_right _ h3)
abbrev spCommon (K : PySem.W.Frag) : Sp := SpF K (fun a : Nat × Nat => [nI (a.1 : Int), nI (a.2 : Int)]) (fun a => 1 ≤ a.2 ∧ a.2 < 2 ^ 100) fun a => .int ((Nat.gcd a.1 a.2 : Nat) : Int)
theorem ok_common {f : Addr} {fd : FuncData} (F : Fun K "_law_common" "_law_common" s_law_common f fd) (m_range : mg "range" = none) (m_int : mg "int" = none) : FnOk P w K mg base CX0 1 f fd ["p", "q"] (spCommon K) := by
  refine F.ok sc_law_common (fun vs H Q E ⟨_, _, _, iv, _⟩ => iv.len) (fun cdv A outer s H vs Q E hr h => ⟨_, (pss_cons (ps_for PassesOwn.never rfl (pi_range1 (by rfl) m_range (pa_cons pe_int pa_nil)) (pg_name (i := 2) sc_law_common.nd rfl (.inl rfl)) (pss_one (ps_if (pt_cmpR op_ne (pv 1) pe_int (nomark _)) (pss_cons (ps_set (i := 3) sc_law_common.nd rfl (.inl rfl) (pe_op op_mod (pe_callTy call_int1 (by rfl) m_int (by decide +kernel) (pa_cons (pv 0) pa_nil)) (pv 1)))
        (pss_cons (ps_set (i := 0) sc_law_common.nd rfl (.inl rfl) (pv 1))
        (pss_one (ps_set (i := 1) sc_law_common.nd rfl (.inl rfl) (pv 3))))) pss_nil)))
        (pss_one (ps_ret (pv 0)))), run_body h fun a B hp => ?_⟩)
  obtain ⟨p, q⟩ := a
  obtain ⟨h1, h2⟩ := hp
  simp only at h1 h2
  refine sd_env (δ1 := [nI (p : Int), nI (q : Int), .no, .no]) rfl ?_
  refine q_for (w_rng1 (n := 400) (ds_cons d_ci ds_nil) (by decide) (by decide)) (fun i δ => ∃ (x y : Nat) (s2 s3 : Sl), δ = [nI (x : Int), nI (y : Int), s2, s3] ∧ Nat.gcd x y = Nat.gcd p q ∧ ((i = 0 ∧ y = q) ∨ ∃ j, i = j + 1 ∧ y ≤ x ∧ x * y * 2 ^ j ≤ q * q)) ⟨p, q, _, _, rfl, rfl, .inl ⟨rfl, rfl⟩⟩ (fun i d δ' hd hq => ?_) (fun δ' hq => ?_)
  · obtain ⟨x, y, s2, s3, rfl, hg, hc⟩ := hq
    refine ⟨[2], [nI (x : Int), nI (y : Int), .dat d, s3], g_name, ?_⟩
    refine sd_when (b_test (d_neI (d_var rfl) d_ci)) (fun hb => ?_) (fun hb => ?_)
    · have hy : 0 < y := by
        have : ¬ (y : Int) = 0 := fun z => by rw [decide_eq_true z] at hb; cases hb
        omega
      refine q_asg [_, _, _, nI ((x % y : Nat) : Int)] (d_isI (d_iC (d_int (d_var rfl)) (d_var rfl) (show (0 : Int) < (y : Int) by omega)) (Int.natCast_emod x y).symm) ?_
      refine q_asg [nI (y : Int), _, _, _] (d_var rfl) ?_
      refine sd_asg (s := nI ((x % y : Nat) : Int)) (d_var rfl) ⟨y, x % y, _, _, rfl, ?_, .inr ⟨i, rfl, ?_⟩⟩
      · rw [← hg, Nat.gcd_comm x y, Nat.gcd_rec y x, Nat.gcd_comm]
      · rcases hc with ⟨rfl, rfl⟩ | ⟨j, rfl, c1, c2⟩
        · have := Nat.mod_lt x hy
          refine ⟨by omega, ?_⟩
          rw [Nat.pow_zero, Nat.mul_one]
          exact Nat.mul_le_mul_left _ (by omega)
        · exact euc c1 c2 hy
    · have hy : y = 0 := by
        by_cases z : (y : Int) = 0
        · omega
        · rw [decide_eq_false z] at hb
          cases hb
      subst hy
      exact ⟨x, 0, _, _, rfl, hg, .inr ⟨i, rfl, Nat.zero_le _, by simp⟩⟩
  · obtain ⟨x, y, s2, s3, rfl, hg, hc⟩ := hq
    refine sd_ret (d_var rfl) ?_
    have hy : y = 0 := by
      rcases hc with ⟨z, _⟩ | ⟨j, hj, c1, c2⟩
      · rw [upto_len] at z
        exact absurd z (by decide)
      · by_cases z : y = 0
        · exact z
        · exfalso
          have hj : j = 399 := by
            rw [upto_len] at hj
            have e : (400 : Int).toNat = 400 := rfl
            omega
          subst hj
          have a1 : 1 * 1 ≤ x * y := Nat.mul_le_mul (by omega) (by omega)
          have a2 : 1 * 2 ^ 399 ≤ x * y * 2 ^ 399 := Nat.mul_le_mul_right _ a1
          have a3 : q * q ≤ 2 ^ 100 * 2 ^ 100 := Nat.mul_le_mul (by omega) (by omega)
          have a4 : (2 : Nat) ^ 100 * 2 ^ 100 < 1 * 2 ^ 399 := by decide +kernel
          omega
    subst hy
    rw [Nat.gcd_zero_right] at hg
    show PyData.int (x : Int) = .int ((Nat.gcd p q : Nat) : Int)
    rw [hg]
/-! ### the half axis, by numbers -/
theorem sc_div (X q g : Int) (m : Nat) (hg : 0 < g) (h1 : g ∣ X) (h2 : g ∣ q) : X / g * 2 ^ m / (q / g) = X * 2 ^ m / q := by
  obtain ⟨x, rfl⟩ := h1
  obtain ⟨y, rfl⟩ := h2
  rw [Int.mul_ediv_cancel_left _ (by omega), Int.mul_ediv_cancel_left _ (by omega), Int.mul_assoc, Int.mul_ediv_mul_of_pos _ _ hg]
theorem drop64 (X q : Int) (n : Nat) (hq : 1 ≤ q) : X * 2 ^ (n + 64) / q / 2 ^ 64 = X * 2 ^ n / q := by
  rw [Int.ediv_ediv_of_nonneg (by omega), Int.pow_add, ← Int.mul_assoc, Int.mul_ediv_mul_of_pos_left _ _ (by decide)]
theorem half_fit (X q : Int) (n : Nat) (hq : 1 ≤ q) (hX : X.natAbs < 2 ^ 100) (hn : n ≤ 100) : Fit (enc1 (n + 64) (X / gc X q) (q / gc X q) / 2 ^ 64) (-(-enc2 (n + 64) (X / gc X q) (q / gc X q) / 2 ^ 64)) (X * 2 ^ (n + 100) / q) := by
  have hg := gc_pos (p := X) hq
  have d1 : gc X q ∣ X := by
    unfold gc
    exact Int.ofNat_dvd_left.mpr (Nat.gcd_dvd_left _ _)
  have d2 : gc X q ∣ q := by
    unfold gc
    exact Int.ofNat_dvd_left.mpr (Nat.gcd_dvd_right _ _)
  have e1 : enc1 (n + 64) (X / gc X q) (q / gc X q) / 2 ^ 64 = X * 2 ^ n / q := by
    unfold enc1
    rw [sc_div X q _ _ (by omega) d1 d2, drop64 X q n hq]
  have e2 : -(-enc2 (n + 64) (X / gc X q) (q / gc X q) / 2 ^ 64) = -(-(X * 2 ^ n) / q) := by
    unfold enc2
    have d3 : gc X q ∣ -X := Int.dvd_neg.mpr d1
    rw [Int.neg_neg, ← Int.neg_mul, ← Int.neg_ediv_of_dvd d1, sc_div (-X) q _ _ (by omega) d3 d2, drop64 (-X) q n hq, Int.neg_mul]
  rw [e1, e2]
  have hv : X * 2 ^ (n + 100) = X * 2 ^ n * 2 ^ 100 := by rw [Int.pow_add, Int.mul_assoc]
  have hb : (X * 2 ^ n).natAbs < 2 ^ 200 := by
    rw [Int.natAbs_mul, Int.natAbs_pow]
    have a1 : (2 : Nat) ^ n ≤ 2 ^ 100 := Nat.pow_le_pow_right (by decide) hn
    have a2 : X.natAbs * 2 ^ n ≤ X.natAbs * 2 ^ 100 := Nat.mul_le_mul_left _ a1
    have a3 : (2 : Nat) ^ 100 * 2 ^ 100 = 2 ^ 200 := by decide +kernel
    have e : (2 : Int).natAbs = 2 := rfl
    rw [e]
    omega
  rw [hv]
  generalize X * 2 ^ n = x at hb
  have f1 := Int.mul_ediv_add_emod x q
  have f2 := Int.emod_nonneg x (show q ≠ 0 by omega)
  have f3 := Int.emod_lt_of_pos x (show 0 < q by omega)
  have f4 := Int.mul_ediv_add_emod (-x) q
  have f5 := Int.emod_nonneg (-x) (show q ≠ 0 by omega)
  have f6 := Int.emod_lt_of_pos (-x) (show 0 < q by omega)
  have g1 : x / q ≤ -(-x / q) := by
    have : q * (x / q) ≤ q * (-(-x / q)) := by rw [Int.mul_neg]; omega
    exact Int.le_of_mul_le_mul_left this (by omega)
  have g2 : -(-x / q) ≤ x / q + 1 := by
    have : q * (-(-x / q)) < q * (x / q + 2) := by rw [Int.mul_neg, Int.mul_add]; omega
    have := Int.lt_of_mul_lt_mul_left this (by omega)
    omega
  have g3 : (x / q).natAbs ≤ x.natAbs := Int.natAbs_ediv_le_natAbs x q
  have g4 : (-x / q).natAbs ≤ (-x).natAbs := Int.natAbs_ediv_le_natAbs (-x) q
  have hc : (0 : Int) < 2 ^ 100 := by decide
  have g5 : x / q * 2 ^ 100 ≤ x * 2 ^ 100 / q := by
    refine (Int.le_ediv_iff_mul_le (by omega)).mpr ?_
    rw [Int.mul_right_comm]
    exact Int.mul_le_mul_of_nonneg_right (by rw [Int.mul_comm]; omega) (Int.le_of_lt hc)
  have g6 : x * 2 ^ 100 / q ≤ -(-x / q) * 2 ^ 100 := by
    refine Int.ediv_le_of_le_mul (by omega) ?_
    rw [Int.mul_right_comm]
    exact Int.mul_le_mul_of_nonneg_right (by rw [Int.neg_mul, Int.mul_comm]; omega) (Int.le_of_lt hc)
  exact ⟨by omega, by omega, by omega, by omega, by omega, by omega⟩
theorem small_of (X q : Int) (hq : 1 ≤ q) (hX : X.natAbs < 2 ^ 100) (hq2 : q < 2 ^ 100) : Small (X / gc X q) (q / gc X q) := by
  have hg := gc_pos (p := X) hq
  have d2 : gc X q ∣ q := by
    unfold gc
    exact Int.ofNat_dvd_left.mpr (Nat.gcd_dvd_right _ _)
  have g3 : (X / gc X q).natAbs ≤ X.natAbs := Int.natAbs_ediv_le_natAbs _ _
  have g4 : (q / gc X q).natAbs ≤ q.natAbs := Int.natAbs_ediv_le_natAbs _ _
  have g5 : 0 < q / gc X q := Int.ediv_pos_of_pos_of_dvd (by omega) (by omega) d2
  exact ⟨by omega, by omega, by omega⟩
/-! ### the law -/
section
variable {B0 H0 : Hp} {D : Ends} {t u : TS} {te : TE} {tt : TT} {δ δ1 : List Sl} {s : Sl} {n : Nat} {b : Bool}
abbrev yes : PyData → Prop := fun d => d = .bool true
theorem qq_asg (hr : ∀ v d (B' H' : Hp), yes d → Dt K B' v d → D.rt v H') (δ1 : List Sl) (h : EvS K B0 H0 te δ s) (k : SDq K B0 H0 D u δ1) (he : δ.set n s = δ1 := by rfl) : SDq K B0 H0 D (tSeq (tAsg te (gName n)) u) δ := qq hr (sd_asg h (by subst he; exact k))
theorem qq_asgR {M : PyData → Prop} (hr : ∀ v d (B' H' : Hp), yes d → Dt K B' v d → D.rt v H') (h : EvR K B0 H0 te δ M) (k : ∀ d, M d → SDq K B0 H0 D u (δ.set n (.dat d))) : SDq K B0 H0 D (tSeq (tAsg te (gName n)) u) δ := qq hr (sd_asgR h k)
theorem qq_when (hr : ∀ v d (B' H' : Hp), yes d → Dt K B' v d → D.rt v H') (h : EvB K B0 H0 tt δ b) (h1 : b = true → SD K B0 H0 (fun _ _ _ _ => False) t δ { nx := fun δ' => SDq K B0 H0 D u δ', rt := yes }) (h2 : b = false → SDq K B0 H0 D u δ) : SDq K B0 H0 D (tSeq (tIfS tt t tNext) u) δ := qq hr (sd_when h h1 h2)
theorem qq_if2 {M : List Sl → Prop} (hr : ∀ v d (B' H' : Hp), yes d → Dt K B' v d → D.rt v H') (h : EvB K B0 H0 tt δ b) (h1 : b = true → ∀ E : DE, (∀ δ', M δ' → E.nx δ') → SD K B0 H0 (fun _ _ _ _ => False) t δ E) (h2 : b = false → M δ) (k : ∀ δ', M δ' → SDq K B0 H0 D u δ') : SDq K B0 H0 D (tSeq (tIfS tt t tNext) u) δ :=
  qq hr (sd_when h (fun hb => h1 hb _ k) fun hb => k _ (h2 hb))
end
theorem d_kt {B0 H0 : Hp} {δ : List Sl} {a : Addr} {ns : List Int} (h : ∀ H, SqT K H a (ns.map V.int)) : EvS K B0 H0 (tC (.ref a)) δ (.dat (.tuple (ns.map PyData.int))) := fun B H σ S Q q => q _ B H (.refl S.st.bh) (.tup (h B) (dt_ints ns))
def spLaw (K : PySem.W.Frag) (Pt : Addr) : Sp := fun vs H Q _ => ∃ (sa : Addr) (ns : List Int), vs = [.ref sa] ∧ SqL K H sa (ns.map V.int) ∧ ns.length ≤ 63 ∧ (∀ z ∈ ns, Builtin.Int.intBits z ≤ 1048576) ∧ TabsN [(Pt, nmN)] H ∧ ∀ H', Q (.bl true) H'
section
variable {B0 H0 : Hp} {δ : List Sl} {ta tb : TE} {r : R2} {j : Int} {g : Int → Int}
theorem r_opI {M : Int → Prop} (ha : EvR K B0 H0 ta δ fun d => ∃ i, d = .int i ∧ M i) (hb : EvS K B0 H0 tb δ (nI j)) (hr : ∀ i H, RV r (.int i) (.int j) H (.int (g i))) : EvR K B0 H0 (tOp r ta tb) δ fun d => ∃ k, d = .int k ∧ ∃ i, M i ∧ k = g i := fun B H σ S Q q =>
  ha B H σ S _ fun v d B1 H1 ⟨i, e, hm⟩ s1 i1 => hb B1 H1 σ (S.go s1) _ fun w B2 H2 s2 i2 => by
    subst e
    cases i1
    cases i2
    exact hr i H2 H2 (.refl _) Q fun H3 e3 => q _ _ B2 H3 ⟨_, rfl, i, hm, rfl⟩ ((s1.trans s2).trans (.same s2.bh e3)) (Dt.int _)
theorem r_int {M : Int → Prop} (ha : EvR K B0 H0 ta δ fun d => ∃ i, d = .int i ∧ M i) : EvR K B0 H0 (tCB (fun xs H Q => (∃ i, xs = [V.int i] ∧ Q (V.int i) H) ∨ ∃ k, xs = [V.bl k] ∧ Q (V.int (if k = true then 1 else 0)) H) (tCons ta tNil)) δ fun d => ∃ i, d = .int i ∧ M i := fun B H σ S Q q =>
  ha B H σ S _ fun v d B1 H1 ⟨i, e, hm⟩ s1 i1 => by
    subst e
    cases i1
    exact .inl ⟨i, rfl, q _ _ B1 H1 ⟨i, rfl, hm⟩ s1 (Dt.int _)⟩
end
theorem nest3 {spF spE spH : Sp} {E1 E2 E3 : XK} {tH tr1 tr2 : TA} {D : Ends} {σ : L2.St} {H : Hp} (h : tH σ H fun vs H1 => spH (vs ++ []) H1 (fun vf H3 => tr2 σ H3 fun ws H4 => spE ((vf :: ws) ++ []) H4 (fun v4 H5 => tr1 σ H5 fun us H6 => spF ((v4 :: us) ++ []) H6 D.rt E1) E2) E3) :
    tRet (tCall spF [] E1 (tCons (tCall spE [] E2 (tCons (tCall spH [] E3 tH) tr2)) tr1)) D σ H := h
/-! the law -/
theorem ok_law {Pt aW : Addr} {f fe0 fe1 fe2 fe3 fe4 fe5 fe6 fe7 fe8 fe9 : Addr} {fd fde0 fde1 fde2 fde3 fde4 fde5 fde6 fde7 fde8 fde9 : FuncData} (F : Fun K "law" "law" s_law f fd)
    (F_law_rich : Fun K "_law_rich" "_law_rich" s_law_rich fe0 fde0) (b_law_rich : Binds K fde0 ["cell"] []) (g_law_rich : mg "_law_rich" = some (.ref fe0))
    (F_law_cell : Fun K "_law_cell" "_law_cell" s_law_cell fe1 fde1) (b_law_cell : Binds K fde1 ["script", "k"] []) (g_law_cell : mg "_law_cell" = some (.ref fe1))
    (F_law_fits : Fun K "_law_fits" "_law_fits" s_law_fits fe2 fde2) (b_law_fits : Binds K fde2 ["found", "bits", "value", "b"] []) (g_law_fits : mg "_law_fits" = some (.ref fe2))
    (F_law_is_integer : Fun K "_law_is_integer" "_law_is_integer" s_law_is_integer fe3 fde3) (b_law_is_integer : Binds K fde3 ["actual"] []) (g_law_is_integer : mg "_law_is_integer" = some (.ref fe3))
    (F_law_common : Fun K "_law_common" "_law_common" s_law_common fe4 fde4) (b_law_common : Binds K fde4 ["p", "q"] []) (g_law_common : mg "_law_common" = some (.ref fe4))
    (F_is_ellipsoid : Fun K "is_ellipsoid" "is_ellipsoid" s_is_ellipsoid fe5 fde5) (b_is_ellipsoid : Binds K fde5 ["value"] []) (g_is_ellipsoid : mg "is_ellipsoid" = some (.ref fe5))
    (F_eccentricity2 : Fun K "eccentricity2" "eccentricity2" s_eccentricity2 fe6 fde6) (b_eccentricity2 : Binds K fde6 ["ellipsoid"] []) (g_eccentricity2 : mg "eccentricity2" = some (.ref fe6))
    (F_lowest_terms : Fun K "lowest_terms" "lowest_terms" s_lowest_terms fe7 fde7) (b_lowest_terms : Binds K fde7 ["p", "q"] []) (g_lowest_terms : mg "lowest_terms" = some (.ref fe7))
    (F_half_axis : Fun K "half_axis" "half_axis" s_half_axis fe8 fde8) (b_half_axis : Binds K fde8 ["ellipsoid"] []) (g_half_axis : mg "half_axis" = some (.ref fe8)) (G_half_axis : FnOk P w K mg base CX0 3 fe8 fde8 ["ellipsoid"] (spHalf K))
    (F_enclose : Fun K "enclose" "enclose" s_enclose fe9 fde9) (b_enclose : Binds K fde9 ["formula", "bits"] []) (g_enclose : mg "enclose" = some (.ref fe9)) (G_enclose : FnOk P w K mg base CX0 6 fe9 fde9 ["formula", "bits"] (spEnc K Pt))
    (g_WGS84 : mg "WGS84" = some (.ref aW)) (hW : ∀ H, SqT K H aW (([6378137, 1000000000, 298257223563] : List Int).map V.int))
    (g_gcd : mg "gcd" = some (.builtin "math.gcd")) (m_len : mg "len" = none) (m_abs : mg "abs" = none) (m_int : mg "int" = none) (m_bool : mg "bool" = none) (m_tuple : mg "tuple" = none) (m_max : mg "max" = none) (m_range : mg "range" = none) (m_isinstance : mg "isinstance" = none) :
    FnOk P w K mg base CX0 7 f fd ["script"] (spLaw K Pt) := by
  have G_law_rich : FnOk P w K mg base CX0 1 fe0 fde0 ["cell"] (spRich K) := ok_rich F_law_rich m_abs m_int
  have G_law_cell : FnOk P w K mg base CX0 1 fe1 fde1 ["script", "k"] (spCell K) := ok_cell F_law_cell m_len
  have G_law_fits : FnOk P w K mg base CX0 2 fe2 fde2 ["found", "bits", "value", "b"] (spFits K) := ok_fits F_law_fits F_law_is_integer b_law_is_integer g_law_is_integer m_isinstance m_int m_bool m_tuple m_len
  have G_law_common : FnOk P w K mg base CX0 1 fe4 fde4 ["p", "q"] (spCommon K) := ok_common F_law_common m_range m_int
  have G_is_ellipsoid : FnOk P w K mg base CX0 1 fe5 fde5 ["value"] (spIsE K) := ok_ise F_is_ellipsoid
  have G_eccentricity2 : FnOk P w K mg base CX0 2 fe6 fde6 ["ellipsoid"] (spEcc K) := ok_ecc F_eccentricity2 F_lowest_terms b_lowest_terms g_lowest_terms g_gcd
  refine F.ok sc_law (fun vs H Q E ⟨_, _, z, _⟩ => by rw [z] <;> rfl) (fun cdv A outer s H vs Q E hr h => ?_)
  obtain ⟨sa, ns, rfl, hS, hl, hbits, hT, hq⟩ := h
  refine ⟨_, (pss_cons (ps_set (i := 1) sc_law.nd rfl (.inl rfl) (pe_call G_law_rich (hr.mono (by decide)) (by rfl) g_law_rich F_law_rich.kp b_law_rich .nil pass0 (pa_cons (pe_call G_law_cell (hr.mono (by decide)) (by rfl) g_law_cell F_law_cell.kp b_law_cell .nil pass0 (pa_cons (pv 0) (pa_cons pe_int pa_nil))) pa_nil)))
        (pss_cons (ps_set (i := 2) sc_law.nd rfl (.inl rfl) (pe_op op_sub (pe_op op_mod (pe_callTy call_int1 (by rfl) m_int (by decide +kernel) (pa_cons (pe_op op_fdiv (pv 1) pe_int) pa_nil)) pe_int) (pe_op op_mod (pe_callTy call_int1 (by rfl) m_int (by decide +kernel) (pa_cons (pv 1) pa_nil)) pe_int)))
        (pss_cons (ps_set (i := 3) sc_law.nd rfl (.inl rfl) (pe_op op_sub (pe_op op_mod (pe_callTy call_int1 (by rfl) m_int (by decide +kernel) (pa_cons (pe_call G_law_rich (hr.mono (by decide)) (by rfl) g_law_rich F_law_rich.kp b_law_rich .nil pass0 (pa_cons (pe_call G_law_cell (hr.mono (by decide)) (by rfl) g_law_cell F_law_cell.kp b_law_cell .nil pass0 (pa_cons (pv 0) (pa_cons pe_int pa_nil))) pa_nil)) pa_nil)) pe_int) pe_int))
        (pss_cons (ps_set (i := 4) sc_law.nd rfl (.inl rfl) (pe_op op_sub (pe_op op_mod (pe_callTy call_int1 (by rfl) m_int (by decide +kernel) (pa_cons (pe_op op_fdiv (pv 1) pe_int) pa_nil)) (pe_op op_add (pe_op op_fdiv (pe_callB (call_max2 rfl) (by rfl) m_max (by decide +kernel) (pa_cons pe_int (pa_cons (pv 3) pa_nil))) pe_int) pe_int)) (pe_op op_mod (pe_callTy call_int1 (by rfl) m_int (by decide +kernel) (pa_cons (pe_op op_fdiv (pv 1) pe_int) pa_nil)) pe_int)))
        (pss_cons (ps_if (pt_cmpR op_eq (pe_op op_mod (pe_callTy call_int1 (by rfl) m_int (by decide +kernel) (pa_cons (pe_op op_fdiv (pv 1) pe_int) pa_nil)) pe_int) pe_int (nomark _)) (pss_one (ps_set (i := 4) sc_law.nd rfl (.inl rfl) (pe_op op_sub (pe_op op_add (pe_op op_fdiv (pe_callB (call_max2 rfl) (by rfl) m_max (by decide +kernel) (pa_cons pe_int (pa_cons (pv 3) pa_nil))) pe_int) (pe_op op_mod (pe_callTy call_int1 (by rfl) m_int (by decide +kernel) (pa_cons (pe_op op_fdiv (pv 1) pe_int) pa_nil)) pe_int)) pe_int))) pss_nil)
        (pss_cons (ps_set (i := 5) sc_law.nd rfl (.inl rfl) (pe_and (pe_cmpR op_ge (pv 2) pe_int (nomark _)) (pe_and (pe_cmpR op_ge (pv 4) pe_int (nomark _)) (pe_and (pe_cmpR op_ge (pv 3) pe_int (nomark _)) (pe_one (pe_cmpR op_le (pe_op op_mulX pe_int (pv 4)) (pv 3) (nomark _)))))))
        (pss_cons (ps_set (i := 6) sc_law.nd rfl (.inl rfl) (pe_call G_is_ellipsoid (hr.mono (by decide)) (by rfl) g_is_ellipsoid F_is_ellipsoid.kp b_is_ellipsoid .nil pass0 (pa_cons (pe_tup (pa_cons (pv 2) (pa_cons (pv 4) (pa_cons (pv 3) pa_nil)))) pa_nil)))
        (pss_cons (ps_if (PW.pt (pw_or (pt_not (pt_val (pe_callB call_isi (by rfl) m_isinstance (by decide +kernel) (pa_cons (pv 6) (pa_cons (pe_bltn (by rfl) m_bool (by decide +kernel) (show RelV (.ty "bool") _ from rfl)) pa_nil))))) (pw_or (pt_cmpR op_ne (pv 6) (pv 5) (nomark _)) (pw_or1 (pt_cmpR (op_neD hr.units) (pe_glob (by rfl) g_WGS84 (show RelV (.ref _) _ from rfl)) (pe_tup (pa_cons pe_int (pa_cons pe_int (pa_cons pe_int pa_nil)))) (nomark _)))))) (pss_one (ps_ret pe_bl)) pss_nil)
        (pss_cons (ps_if (pt_not (pt_val (pv 5))) (pss_one (ps_ret pe_bl)) pss_nil)
        (pss_cons (ps_set (i := 7) sc_law.nd rfl (.inl rfl) (pe_op op_sub (pe_op op_mulX (pe_op op_mulX pe_int (pv 4)) (pv 3)) (pe_op op_mulX (pv 4) (pv 4))))
        (pss_cons (ps_set (i := 8) sc_law.nd rfl (.inl rfl) (pe_op op_mulX (pv 3) (pv 3)))
        (pss_cons (ps_set (i := 9) sc_law.nd rfl (.inl rfl) (pe_call G_law_common (hr.mono (by decide)) (by rfl) g_law_common F_law_common.kp b_law_common .nil pass0 (pa_cons (pv 7) (pa_cons (pv 8) pa_nil))))
        (pss_cons (ps_if (pt_cmpR (op_neD hr.units) (pe_call G_eccentricity2 (hr.mono (by decide)) (by rfl) g_eccentricity2 F_eccentricity2.kp b_eccentricity2 .nil pass0 (pa_cons (pe_tup (pa_cons (pv 2) (pa_cons (pv 4) (pa_cons (pv 3) pa_nil)))) pa_nil)) (pe_tup (pa_cons (pe_op op_fdivA (pv 7) (pv 9)) (pa_cons (pe_op op_fdivA (pv 8) (pv 9)) pa_nil))) (nomark _)) (pss_one (ps_ret pe_bl)) pss_nil)
        (pss_cons (ps_set (i := 10) sc_law.nd rfl (.inl rfl) (pe_op op_add pe_int (pe_op op_mod (pe_callTy call_int1 (by rfl) m_int (by decide +kernel) (pa_cons (pe_op op_fdiv (pv 1) pe_int) pa_nil)) pe_int)))
        (pss_cons (ps_set (i := 11) sc_law.nd rfl (.inl rfl) (pe_op op_add (pv 10) pe_int))
        (pss_one (ps_ret (pe_call G_law_fits (hr.mono (by decide)) (by rfl) g_law_fits F_law_fits.kp b_law_fits .nil pass0 (pa_cons (pe_call G_enclose (hr.mono (by decide)) (by rfl) g_enclose F_enclose.kp b_enclose .nil pass0 (pa_cons (pe_call G_half_axis (hr.mono (by decide)) (by rfl) g_half_axis F_half_axis.kp b_half_axis .nil pass0 (pa_cons (pe_tup (pa_cons (pv 2) (pa_cons (pv 4) (pa_cons (pv 3) pa_nil)))) pa_nil)) (pa_cons (pv 10) pa_nil))) (pa_cons (pv 10) (pa_cons (pe_op op_fdivA (pe_op op_shlN (pe_op op_mulX (pv 2) (pe_op op_sub (pv 3) (pv 4))) (pv 11)) (pv 3)) (pa_cons (pv 11) pa_nil)))))))))))))))))))))), ?_⟩
  have S0 : Sc K H H H H (L2.start ["script", "head", "a", "q", "p", "due", "found", "above", "below", "common", "bits", "b"] [.ref sa]) [.sem (scrP K ns), .no, .no, .no, .no, .no, .no, .no, .no, .no, .no, .no] := sc_start (vs := [V.ref sa]) (ss := [Sl.sem (scrP K ns)]) 11 (.refl H) (.cons ⟨sa, rfl, hS⟩ .nil)
  have fin : ∀ (D : Ends) (ts : TS), SDq K H H D ts [.sem (scrP K ns), .no, .no, .no, .no, .no, .no, .no, .no, .no, .no, .no] → ts D (L2.start ["script", "head", "a", "q", "p", "due", "found", "above", "below", "common", "bits", "b"] [.ref sa]) H := fun D ts h => h H H _ S0
  refine fin _ _ ?_
  generalize hDD : ({ nx := fun _ H' => Q .non H', rt := Q } : Ends) = D
  have hD : D.rt = Q := by rw [← hDD]
  have hY : ∀ v d (B' H' : Hp), yes d → Dt K B' v d → D.rt v H' := fun v d B' H' hd dv => by
    obtain rfl : d = .bool true := hd
    cases dv
    rw [hD]
    exact hq H'
  clear fin S0
  refine qq_asgR hY (r_call1 (r_of (d_callF (ns, 0) (a_cons (d_var rfl) (a_cons d_ci a_nil)) True.intro) (P := fun d => d = .int (cellOf ns 0)) rfl) fun d hd => ⟨cellOf ns 0, by rw [hd], True.intro⟩) fun d hd => ?_
  obtain ⟨_, _, n0, rfl, _⟩ := hd
  -- the half axis and the flattening
  obtain ⟨a, ea, ha1, ha2⟩ : ∃ a : Int, (n0 : Int) / 8 % 10000000 - (n0 : Int) % 3 = a ∧ -2 ≤ a ∧ a < 10000000 := ⟨_, rfl, by omega, by omega⟩
  refine qq_asg hY [.sem (scrP K ns), nI (n0 : Int), nI a, .no, .no, .no, .no, .no, .no, .no, .no, .no] (d_isI (d_i0 (d_iC (d_int (d_iC (d_var rfl) d_ci ⟨by decide, by decide⟩)) d_ci (by decide)) (d_iC (d_int (d_var rfl)) d_ci (by decide))) ea) ?_
  clear ea
  refine qq_asgR hY (r_imp (r_opI (r_opI (r_int (r_imp (r_call1 (r_of (d_callF (ns, 1) (a_cons (d_var rfl) (a_cons d_ci a_nil)) True.intro) (P := fun d => d = .int (cellOf ns 1)) rfl) fun d hd => ⟨cellOf ns 1, by rw [hd], True.intro⟩) (P' := fun d => ∃ i, d = .int i ∧ True) fun d ⟨_, _, m, hm, _⟩ => ⟨_, hm, True.intro⟩)) (j := 1000000) (g := fun i => i % 1000000) d_ci fun i _ => rv_I (by decide)) (j := 1) (g := fun i => i - 1) d_ci fun i _ => rv_I0) (P' := fun d => ∃ q : Int, d = .int q ∧ -1 ≤ q ∧ q < 999999) fun d hd => ?_) fun d hd => ?_
  · obtain ⟨k, e, _, ⟨i, _, rfl⟩, rfl⟩ := hd
    exact ⟨_, e, by omega, by omega⟩
  obtain ⟨q, rfl, hq1, hq2⟩ := hd
  obtain ⟨p0, ep, hp1, hp2⟩ : ∃ p0 : Int, (n0 : Int) / 1048576 % (max 1 q / 8 + 2) - (n0 : Int) / 4 % 2 = p0 ∧ -1 ≤ p0 ∧ p0 ≤ 300000 := by
    have h8 : 2 ≤ max 1 q / 8 + 2 ∧ max 1 q / 8 + 2 ≤ 300000 := by omega
    generalize max 1 q / 8 + 2 = m at h8
    have := Int.emod_nonneg ((n0 : Int) / 1048576) (show m ≠ 0 by omega)
    have := Int.emod_lt_of_pos ((n0 : Int) / 1048576) (show 0 < m by omega)
    exact ⟨_, rfl, by omega, by omega⟩
  refine qq_asg hY [.sem (scrP K ns), nI (n0 : Int), nI a, nI q, nI p0, .no, .no, .no, .no, .no, .no, .no] (d_isI (d_i0 (d_iC (d_int (d_iC (d_var rfl) d_ci ⟨by decide, by decide⟩)) (d_i0 (d_iC (d_max d_ci (d_var rfl)) d_ci ⟨by decide, by decide⟩) d_ci) (show (0 : Int) < max 1 q / 8 + 2 by omega)) (d_iC (d_int (d_iC (d_var rfl) d_ci ⟨by decide, by decide⟩)) d_ci (by decide))) ep) ?_
  clear ep
  obtain ⟨p1, ep, hp3, hp4⟩ : ∃ p1 : Int, max 1 q / 10 + (n0 : Int) / 64 % 3 - 1 = p1 ∧ -1 ≤ p1 ∧ p1 ≤ 300000 := ⟨_, rfl, by omega, by omega⟩
  refine qq_if2 hY (M := fun δ' => ∃ p : Int, (-1 ≤ p ∧ p ≤ 300000) ∧ δ' = [.sem (scrP K ns), nI (n0 : Int), nI a, nI q, nI p, .no, .no, .no, .no, .no, .no, .no]) (b_test (d_eqI (d_iC (d_int (d_iC (d_var rfl) d_ci ⟨by decide, by decide⟩)) d_ci (by decide)) d_ci))
    (fun _ E hE => sd_asg (s := nI p1) (d_isI (d_i0 (d_i0 (d_iC (d_max d_ci (d_var rfl)) d_ci ⟨by decide, by decide⟩) (d_iC (d_int (d_iC (d_var rfl) d_ci ⟨by decide, by decide⟩)) d_ci (by decide))) d_ci) ep) (hE _ ⟨p1, ⟨hp3, hp4⟩, rfl⟩)) (fun _ => ⟨p0, ⟨hp1, hp2⟩, rfl⟩) (fun δ' hM => ?_)
  obtain ⟨p, ⟨hp5, hp6⟩, rfl⟩ := hM
  clear ep hp1 hp2 hp3 hp4 p0 p1
  -- the ranges
  generalize hdu : (decide (a ≥ 1) && (decide (p ≥ 0) && (decide (q ≥ 1) && decide (10 * p ≤ q)))) = du
  refine qq_asg hY [.sem (scrP K ns), nI (n0 : Int), nI a, nI q, nI p, nB du, .no, .no, .no, .no, .no, .no] (d_isB (d_andV (d_b0 (d_var rfl) d_ci) fun _ => d_andV (d_b0 (d_var rfl) d_ci) fun _ => d_andV (d_b0 (d_var rfl) d_ci) fun _ => d_b0 (d_iC d_ci (d_var rfl) (mulx_ok (a := 100) (b := 100) (by decide) (by omega) (by decide))) (d_var rfl)) hdu) ?_
  refine qq_asg hY [.sem (scrP K ns), nI (n0 : Int), nI a, nI q, nI p, nB du, nB du, .no, .no, .no, .no, .no] (d_isB (d_callF (a, p, q) (a_cons (d_tup (ds_cons (d_var rfl) (ds_cons (d_var rfl) (ds_cons (d_var rfl) ds_nil)))) a_nil) (show p.natAbs < 2 ^ 100 by omega)) hdu) ?_
  refine qq_when hY (b_is (c := false) (b_or (b_not (b_val (d_isi (b := true) (d_var (s := nB du) rfl) rfl rfl))) fun _ => (b_or (b_test (d_neB (d_var (s := nB du) rfl) (d_var (s := nB du) rfl))) fun _ => (b_test (d_neD (d_kt hW) (d_tup (ds_cons d_ci (ds_cons d_ci (ds_cons d_ci ds_nil)))) rfl rfl)))) (by rw [decide_eq_true rfl] <;> decide +kernel)) (fun hb => nomatch hb) (fun _ => ?_)
  refine qq_when hY (b_not (b_val (d_var (s := nB du) rfl))) (fun _ => sd_ret d_cb rfl) (fun hb => ?_)
  have hdu2 : du = true := by
    cases du
    · cases hb
    · rfl
  rw [hdu2] at hdu
  simp only [Bool.and_eq_true, decide_eq_true_eq] at hdu
  obtain ⟨r1, r2, r3, r4⟩ := hdu
  clear hb
  have hU : 0 ≤ abv p q := Int.mul_nonneg r2 (by omega)
  have hqq : 1 ≤ q * q ∧ q * q < 2 ^ 100 := by
    have := Int.mul_le_mul (a := q) (b := q) (c := 2 ^ 49) (d := 2 ^ 49) (by omega) (by omega) (by omega) (by omega)
    have := Int.mul_le_mul (a := 1) (b := 1) (c := q) (d := q) (by omega) (by omega) (by omega) (by omega)
    omega
  obtain ⟨U, eU⟩ : ∃ U : Nat, abv p q = (U : Int) := ⟨(abv p q).toNat, by omega⟩
  obtain ⟨W, eW⟩ : ∃ W : Nat, q * q = (W : Int) := ⟨(q * q).toNat, by omega⟩
  have eU2 : 2 * p * q - p * p = (U : Int) := by
    rw [← eU]
    unfold abv
    rw [Int.mul_sub, Int.mul_left_comm p 2 q, ← Int.mul_assoc]
  refine qq_asg hY [.sem (scrP K ns), nI (n0 : Int), nI a, nI q, nI p, nB du, nB du, nI (U : Int), .no, .no, .no, .no] (d_isI (d_i0 (d_iC (d_iC d_ci (d_var rfl) (mulx_ok (a := 100) (b := 100) (by decide) (by omega) (by decide))) (d_var rfl) (mulx_ok (a := 100) (b := 100) (show (2 * p).natAbs < 2 ^ 100 by omega) (by omega) (by decide))) (d_iC (d_var rfl) (d_var rfl) (mulx_ok (a := 100) (b := 100) (by omega) (by omega) (by decide)))) eU2) ?_
  refine qq_asg hY [.sem (scrP K ns), nI (n0 : Int), nI a, nI q, nI p, nB du, nB du, nI (U : Int), nI (W : Int), .no, .no, .no] (d_isI (d_iC (d_var rfl) (d_var rfl) (mulx_ok (a := 100) (b := 100) (by omega) (by omega) (by decide))) eW) ?_
  have hW1 : 1 ≤ W ∧ W < 2 ^ 100 := by omega
  refine qq_asg hY [.sem (scrP K ns), nI (n0 : Int), nI a, nI q, nI p, nB du, nB du, nI (U : Int), nI (W : Int), nI ((Nat.gcd U W : Nat) : Int), .no, .no] (d_callF (U, W) (a_cons (d_var rfl) (a_cons (d_var rfl) a_nil)) hW1) ?_
  have hgc : gc (abv p q) (q * q) = ((Nat.gcd U W : Nat) : Int) := by
    rw [eU, eW]
    rfl
  have hg1 : 0 < ((Nat.gcd U W : Nat) : Int) ∧ ((Nat.gcd U W : Nat) : Int) < 2 ^ 100 := by
    have := Nat.gcd_pos_of_pos_right U (show 0 < W by omega)
    have := Nat.gcd_le_right U (show 0 < W by omega)
    omega
  have hglog : ((Nat.gcd U W : Nat) : Int).natAbs.log2 < 9000 := lg40 (k := 100) (by omega) (by decide)
  refine qq_when hY (b_is (c := false) (b_test (d_neD (d_callF (a, p, q) (a_cons (d_tup (ds_cons (d_var rfl) (ds_cons (d_var rfl) (ds_cons (d_var rfl) ds_nil)))) a_nil) ⟨show p.natAbs < 2 ^ 49 by omega, show 1 ≤ q by omega, show q < 2 ^ 49 by omega⟩) (d_tup (ds_cons (d_fdivA (d_var rfl) (d_var rfl) hg1.1 hglog) (ds_cons (d_fdivA (d_var rfl) (d_var rfl) hg1.1 hglog) ds_nil))) rfl rfl)) (by
    simp only
    rw [hgc, eU, eW, eqv_self] <;> rfl)) (fun hb => nomatch hb) (fun _ => ?_)
  obtain ⟨n, en, hn1⟩ : ∃ n : Nat, 8 + (n0 : Int) / 32 % 60 = (n : Int) ∧ n ≤ 67 := ⟨(8 + (n0 : Int) / 32 % 60).toNat, by omega, by omega⟩
  refine qq_asg hY [.sem (scrP K ns), nI (n0 : Int), nI a, nI q, nI p, nB du, nB du, nI (U : Int), nI (W : Int), nI ((Nat.gcd U W : Nat) : Int), nI (n : Int), .no] (d_isI (d_i0 d_ci (d_iC (d_int (d_iC (d_var rfl) d_ci ⟨by decide, by decide⟩)) d_ci (by decide))) en) ?_
  refine qq_asg hY [.sem (scrP K ns), nI (n0 : Int), nI a, nI q, nI p, nB du, nB du, nI (U : Int), nI (W : Int), nI ((Nat.gcd U W : Nat) : Int), nI (n : Int), nI ((n + 100 : Nat) : Int)] (d_isI (i := (n : Int) + 100) (j := ((n + 100 : Nat) : Int)) (d_i0 (d_var rfl) d_ci) (by omega)) ?_
  -- the last statement: the table of code objects grows in it
  intro B1 H1 σ S
  have hX : (a * (q - p)).natAbs < 2 ^ 100 := by
    rw [Int.natAbs_mul]
    have := Nat.mul_le_mul (show a.natAbs ≤ 2 ^ 40 by omega) (show (q - p).natAbs ≤ 2 ^ 40 by omega)
    have e : (2 : Nat) ^ 40 * 2 ^ 40 < 2 ^ 100 := by decide
    omega
  have hA : ∀ r : TE, EvS K H H r [.sem (scrP K ns), nI (n0 : Int), nI a, nI q, nI p, nB du, nB du, nI (U : Int), nI (W : Int), nI ((Nat.gcd U W : Nat) : Int), nI (n : Int), nI ((n + 100 : Nat) : Int)] (.dat (ellD a p q)) → EvA K H H (tCons r tNil) [.sem (scrP K ns), nI (n0 : Int), nI a, nI q, nI p, nB du, nB du, nI (U : Int), nI (W : Int), nI ((Nat.gcd U W : Nat) : Int), nI (n : Int), nI ((n + 100 : Nat) : Int)] [.dat (ellD a p q)] := fun r h => a_cons h a_nil
  refine nest3 ?_
  refine hA (tTup (tCons (tVar 2) (tCons (tVar 4) (tCons (tVar 3) tNil)))) (d_tup (ds_cons (d_var rfl) (ds_cons (d_var rfl) (ds_cons (d_var rfl) ds_nil)))) B1 H1 σ S _ fun vs B2 H2 s2 i2 => ?_
  cases i2 with
  | cons i2 i3 =>
  cases i3
  rename_i ve
  obtain ⟨v10, h10, i10⟩ := S.val 10 _ rfl rfl
  cases i10
  refine ⟨ve, a, p, q, rfl, dt_mono s2.bh _ _ i2, by omega, by omega, ⟨by omega, by omega⟩, fun vf H3 e3 hf => ?_⟩
  have eH3 : Ex H H3 := (S.st.h.trans s2.h).trans e3
  refine ⟨_, h10, vf, n, _, _, rfl, hf, small_of _ _ (by omega) hX (by omega), by omega, hT.ext eH3, fun v4 H4 e4 dv => ?_⟩
  have S4 : Sc K H4 H4 H4 H4 σ [.no, .no, nI a, nI q, nI p, .no, .no, .no, .no, .no, nI (n : Int), nI ((n + 100 : Nat) : Int)] := sc_ints S rfl fun i s hi => by
    match i with
    | 0 | 1 | 5 | 6 | 7 | 8 | 9 => exact .inl (Option.some.inj hi).symm
    | 2 | 3 | 4 | 10 | 11 => exact .inr ⟨_, (Option.some.inj hi).symm, rfl⟩
    | i + 12 => simp at hi
  have fin4 : ∀ (ta : TA) (Q4 : List V → Hp → Prop), EvA K H4 H4 ta [.no, .no, nI a, nI q, nI p, .no, .no, .no, .no, .no, nI (n : Int), nI ((n + 100 : Nat) : Int)] [nI (n : Int), nI (a * (q - p) * 2 ^ (n + 100) / q), nI ((n + 100 : Nat) : Int)] →
      (∀ us B5 H5, Stp H4 H4 B5 H5 → IsAll K B5 us [nI (n : Int), nI (a * (q - p) * 2 ^ (n + 100) / q), nI ((n + 100 : Nat) : Int)] → Q4 us H5) → ta σ H4 Q4 := fun ta Q4 h q4 => h H4 H4 σ S4 Q4 q4
  simp only []
  refine fin4 _ _ ?_ fun us B5 H5 s5 i5 => ?_
  · exact a_cons (d_var rfl) (a_cons (d_fdivA (d_shl (d_iC (d_var rfl) (d_i0 (d_var rfl) (d_var rfl)) (mulx_ok (a := 100) (b := 100) (by omega) (show (q - p).natAbs < 2 ^ 100 by omega) (by decide))) (d_var rfl) (shl_ok (n := 100) hX (by omega))) (d_var rfl) (by omega) (lg40 (k := 100) (by omega) (by decide))) (a_cons (d_var rfl) a_nil))
  · refine ⟨B5, ((enc1 (n + 64) (a * (q - p) / gc (a * (q - p)) q) (q / gc (a * (q - p)) q) / 2 ^ 64, -(-enc2 (n + 64) (a * (q - p) / gc (a * (q - p)) q) (q / gc (a * (q - p)) q) / 2 ^ 64)), n, a * (q - p) * 2 ^ (n + 100) / q), s5.bh, ?_, half_fit _ _ n (by omega) hX (by omega), fun v d B' H' hd st dv => hY v d B' H' hd dv⟩
    rw [List.append_nil]
    exact .cons (dt_mono s5.b _ _ dv) i5
theorem all_mk {l : PySem.W.OpenLaw} {w : World} {K : PySem.W.Frag} {h : Heap} {mg : Str → Option Value} {fa f0 f1 f2 f3 f4 f5 f6 f7 f8 f9 f10 f11 f12 f13 f14 f15 f16 f17 f18 f19 f20 f21 f22 f23 f24 : Addr} (X : K.In h) (G : h.Ns mainGlobals mg) (hfa : mg "law" = some (.ref fa))
    {od0 an0 od1 an1 od2 an2 od3 an3 od4 an4 od5 an5 od6 an6 od7 an7 od8 an8 od9 an9 od10 an10 od11 an11 od12 an12 od13 an13 od14 an14 od15 an15 od16 an16 od17 an17 od18 an18 od19 an19 od20 an20 od21 an21 od22 an22 od23 an23 od24 an24 : Option Addr} {sl0 sl1 sl2 sl3 sl4 sl5 sl6 sl7 sl8 sl9 sl10 sl11 sl12 sl13 sl14 sl15 sl16 sl17 sl18 sl19 sl20 sl21 sl22 sl23 sl24 : Array (Option Value)} {oc0 kV0 dc0 pm0 cd0 ct0 oc1 kV1 dc1 pm1 cd1 ct1 oc2 kV2 dc2 pm2 cd2 ct2 oc3 kV3 dc3 pm3 cd3 ct3 oc4 kV4 dc4 pm4 cd4 ct4 oc5 kV5 dc5 pm5 cd5 ct5 oc6 kV6 dc6 pm6 cd6 ct6 oc7 kV7 dc7 pm7 cd7 ct7 oc8 kV8 dc8 pm8 cd8 ct8 oc9 kV9 dc9 pm9 cd9 ct9 oc10 kV10 dc10 pm10 cd10 ct10 oc11 kV11 dc11 pm11 cd11 ct11 oc12 kV12 dc12 pm12 cd12 ct12 oc13 kV13 dc13 pm13 cd13 ct13 oc14 kV14 dc14 pm14 cd14 ct14 oc15 kV15 dc15 pm15 cd15 ct15 oc16 kV16 dc16 pm16 cd16 ct16 oc17 kV17 dc17 pm17 cd17 ct17 oc18 kV18 dc18 pm18 cd18 ct18 oc19 kV19 dc19 pm19 cd19 ct19 oc20 kV20 dc20 pm20 cd20 ct20 oc21 kV21 dc21 pm21 cd21 ct21 oc22 kV22 dc22 pm22 cd22 ct22 oc23 kV23 dc23 pm23 cd23 ct23 oc24 kV24 dc24 pm24 cd24 ct24 : Value}
    (a0 : PySem.W.nsIn K mainGlobals "exact_values" = some (some (.ref f0))) (l0 : K.lookup f0 = some ⟨oc0, od0, .func (PySem.W.fnOf "exact_values" "exact_values" (defArgs s_exact_values) (defBody s_exact_values) (defScope s_exact_values) .none kV0 dc0 pm0 an0 cd0 ct0), sl0⟩) (c0 : PySem.W.codeIn K cd0 "exact_values" = true) (k0 : PySem.W.keepIn K (.ref f0) = true)
    (a1 : PySem.W.nsIn K mainGlobals "exact_value" = some (some (.ref f1))) (l1 : K.lookup f1 = some ⟨oc1, od1, .func (PySem.W.fnOf "exact_value" "exact_value" (defArgs s_exact_value) (defBody s_exact_value) (defScope s_exact_value) .none kV1 dc1 pm1 an1 cd1 ct1), sl1⟩) (c1 : PySem.W.codeIn K cd1 "exact_value" = true) (k1 : PySem.W.keepIn K (.ref f1) = true)
    (a2 : PySem.W.nsIn K mainGlobals "lowest_terms" = some (some (.ref f2))) (l2 : K.lookup f2 = some ⟨oc2, od2, .func (PySem.W.fnOf "lowest_terms" "lowest_terms" (defArgs s_lowest_terms) (defBody s_lowest_terms) (defScope s_lowest_terms) .none kV2 dc2 pm2 an2 cd2 ct2), sl2⟩) (c2 : PySem.W.codeIn K cd2 "lowest_terms" = true) (k2 : PySem.W.keepIn K (.ref f2) = true)
    (a3 : PySem.W.nsIn K mainGlobals "number" = some (some (.ref f3))) (l3 : K.lookup f3 = some ⟨oc3, od3, .func (PySem.W.fnOf "number" "number" (defArgs s_number) (defBody s_number) (defScope s_number) .none kV3 dc3 pm3 an3 cd3 ct3), sl3⟩) (c3 : PySem.W.codeIn K cd3 "number" = true) (k3 : PySem.W.keepIn K (.ref f3) = true)
    (a4 : PySem.W.nsIn K mainGlobals "moved" = some (some (.ref f4))) (l4 : K.lookup f4 = some ⟨oc4, od4, .func (PySem.W.fnOf "moved" "moved" (defArgs s_moved) (defBody s_moved) (defScope s_moved) .none kV4 dc4 pm4 an4 cd4 ct4), sl4⟩) (c4 : PySem.W.codeIn K cd4 "moved" = true) (k4 : PySem.W.keepIn K (.ref f4) = true)
    (a5 : PySem.W.nsIn K mainGlobals "merged" = some (some (.ref f5))) (l5 : K.lookup f5 = some ⟨oc5, od5, .func (PySem.W.fnOf "merged" "merged" (defArgs s_merged) (defBody s_merged) (defScope s_merged) .none kV5 dc5 pm5 an5 cd5 ct5), sl5⟩) (c5 : PySem.W.codeIn K cd5 "merged" = true) (k5 : PySem.W.keepIn K (.ref f5) = true)
    (a6 : PySem.W.nsIn K mainGlobals "merged_into" = some (some (.ref f6))) (l6 : K.lookup f6 = some ⟨oc6, od6, .func (PySem.W.fnOf "merged_into" "merged_into" (defArgs s_merged_into) (defBody s_merged_into) (defScope s_merged_into) .none kV6 dc6 pm6 an6 cd6 ct6), sl6⟩) (c6 : PySem.W.codeIn K cd6 "merged_into" = true) (k6 : PySem.W.keepIn K (.ref f6) = true)
    (a7 : PySem.W.nsIn K mainGlobals "fraction" = some (some (.ref f7))) (l7 : K.lookup f7 = some ⟨oc7, od7, .func (PySem.W.fnOf "fraction" "fraction" (defArgs s_fraction) (defBody s_fraction) (defScope s_fraction) .none kV7 dc7 pm7 an7 cd7 ct7), sl7⟩) (c7 : PySem.W.codeIn K cd7 "fraction" = true) (k7 : PySem.W.keepIn K (.ref f7) = true)
    (a8 : PySem.W.nsIn K mainGlobals "of_fraction" = some (some (.ref f8))) (l8 : K.lookup f8 = some ⟨oc8, od8, .func (PySem.W.fnOf "of_fraction" "of_fraction" (defArgs s_of_fraction) (defBody s_of_fraction) (defScope s_of_fraction) .none kV8 dc8 pm8 an8 cd8 ct8), sl8⟩) (c8 : PySem.W.codeIn K cd8 "of_fraction" = true) (k8 : PySem.W.keepIn K (.ref f8) = true)
    (a9 : PySem.W.nsIn K mainGlobals "rescaled" = some (some (.ref f9))) (l9 : K.lookup f9 = some ⟨oc9, od9, .func (PySem.W.fnOf "rescaled" "rescaled" (defArgs s_rescaled) (defBody s_rescaled) (defScope s_rescaled) .none kV9 dc9 pm9 an9 cd9 ct9), sl9⟩) (c9 : PySem.W.codeIn K cd9 "rescaled" = true) (k9 : PySem.W.keepIn K (.ref f9) = true)
    (a10 : PySem.W.nsIn K mainGlobals "fewer_bits" = some (some (.ref f10))) (l10 : K.lookup f10 = some ⟨oc10, od10, .func (PySem.W.fnOf "fewer_bits" "fewer_bits" (defArgs s_fewer_bits) (defBody s_fewer_bits) (defScope s_fewer_bits) .none kV10 dc10 pm10 an10 cd10 ct10), sl10⟩) (c10 : PySem.W.codeIn K cd10 "fewer_bits" = true) (k10 : PySem.W.keepIn K (.ref f10) = true)
    (a11 : PySem.W.nsIn K mainGlobals "decided" = some (some (.ref f11))) (l11 : K.lookup f11 = some ⟨oc11, od11, .func (PySem.W.fnOf "decided" "decided" (defArgs s_decided) (defBody s_decided) (defScope s_decided) .none kV11 dc11 pm11 an11 cd11 ct11), sl11⟩) (c11 : PySem.W.codeIn K cd11 "decided" = true) (k11 : PySem.W.keepIn K (.ref f11) = true)
    (a12 : PySem.W.nsIn K mainGlobals "narrow_steps" = some (some (.ref f12))) (l12 : K.lookup f12 = some ⟨oc12, od12, .func (PySem.W.fnOf "narrow_steps" "narrow_steps" (defArgs s_narrow_steps) (defBody s_narrow_steps) (defScope s_narrow_steps) .none kV12 dc12 pm12 an12 cd12 ct12), sl12⟩) (c12 : PySem.W.codeIn K cd12 "narrow_steps" = true) (k12 : PySem.W.keepIn K (.ref f12) = true)
    (a13 : PySem.W.nsIn K mainGlobals "bits_to_try" = some (some (.ref f13))) (l13 : K.lookup f13 = some ⟨oc13, od13, .func (PySem.W.fnOf "bits_to_try" "bits_to_try" (defArgs s_bits_to_try) (defBody s_bits_to_try) (defScope s_bits_to_try) .none kV13 dc13 pm13 an13 cd13 ct13), sl13⟩) (c13 : PySem.W.codeIn K cd13 "bits_to_try" = true) (k13 : PySem.W.keepIn K (.ref f13) = true)
    (a14 : PySem.W.nsIn K mainGlobals "enclosed_steps" = some (some (.ref f14))) (l14 : K.lookup f14 = some ⟨oc14, od14, .func (PySem.W.fnOf "enclosed_steps" "enclosed_steps" (defArgs s_enclosed_steps) (defBody s_enclosed_steps) (defScope s_enclosed_steps) .none kV14 dc14 pm14 an14 cd14 ct14), sl14⟩) (c14 : PySem.W.codeIn K cd14 "enclosed_steps" = true) (k14 : PySem.W.keepIn K (.ref f14) = true)
    (a15 : PySem.W.nsIn K mainGlobals "enclose" = some (some (.ref f15))) (l15 : K.lookup f15 = some ⟨oc15, od15, .func (PySem.W.fnOf "enclose" "enclose" (defArgs s_enclose) (defBody s_enclose) (defScope s_enclose) .none kV15 dc15 pm15 an15 cd15 ct15), sl15⟩) (c15 : PySem.W.codeIn K cd15 "enclose" = true) (k15 : PySem.W.keepIn K (.ref f15) = true)
    (a16 : PySem.W.nsIn K mainGlobals "is_ellipsoid" = some (some (.ref f16))) (l16 : K.lookup f16 = some ⟨oc16, od16, .func (PySem.W.fnOf "is_ellipsoid" "is_ellipsoid" (defArgs s_is_ellipsoid) (defBody s_is_ellipsoid) (defScope s_is_ellipsoid) .none kV16 dc16 pm16 an16 cd16 ct16), sl16⟩) (c16 : PySem.W.codeIn K cd16 "is_ellipsoid" = true) (k16 : PySem.W.keepIn K (.ref f16) = true)
    (a17 : PySem.W.nsIn K mainGlobals "eccentricity2" = some (some (.ref f17))) (l17 : K.lookup f17 = some ⟨oc17, od17, .func (PySem.W.fnOf "eccentricity2" "eccentricity2" (defArgs s_eccentricity2) (defBody s_eccentricity2) (defScope s_eccentricity2) .none kV17 dc17 pm17 an17 cd17 ct17), sl17⟩) (c17 : PySem.W.codeIn K cd17 "eccentricity2" = true) (k17 : PySem.W.keepIn K (.ref f17) = true)
    (a18 : PySem.W.nsIn K mainGlobals "half_axis" = some (some (.ref f18))) (l18 : K.lookup f18 = some ⟨oc18, od18, .func (PySem.W.fnOf "half_axis" "half_axis" (defArgs s_half_axis) (defBody s_half_axis) (defScope s_half_axis) .none kV18 dc18 pm18 an18 cd18 ct18), sl18⟩) (c18 : PySem.W.codeIn K cd18 "half_axis" = true) (k18 : PySem.W.keepIn K (.ref f18) = true)
    (a19 : PySem.W.nsIn K mainGlobals "_law_is_integer" = some (some (.ref f19))) (l19 : K.lookup f19 = some ⟨oc19, od19, .func (PySem.W.fnOf "_law_is_integer" "_law_is_integer" (defArgs s_law_is_integer) (defBody s_law_is_integer) (defScope s_law_is_integer) .none kV19 dc19 pm19 an19 cd19 ct19), sl19⟩) (c19 : PySem.W.codeIn K cd19 "_law_is_integer" = true) (k19 : PySem.W.keepIn K (.ref f19) = true)
    (a20 : PySem.W.nsIn K mainGlobals "_law_cell" = some (some (.ref f20))) (l20 : K.lookup f20 = some ⟨oc20, od20, .func (PySem.W.fnOf "_law_cell" "_law_cell" (defArgs s_law_cell) (defBody s_law_cell) (defScope s_law_cell) .none kV20 dc20 pm20 an20 cd20 ct20), sl20⟩) (c20 : PySem.W.codeIn K cd20 "_law_cell" = true) (k20 : PySem.W.keepIn K (.ref f20) = true)
    (a21 : PySem.W.nsIn K mainGlobals "_law_rich" = some (some (.ref f21))) (l21 : K.lookup f21 = some ⟨oc21, od21, .func (PySem.W.fnOf "_law_rich" "_law_rich" (defArgs s_law_rich) (defBody s_law_rich) (defScope s_law_rich) .none kV21 dc21 pm21 an21 cd21 ct21), sl21⟩) (c21 : PySem.W.codeIn K cd21 "_law_rich" = true) (k21 : PySem.W.keepIn K (.ref f21) = true)
    (a22 : PySem.W.nsIn K mainGlobals "_law_fits" = some (some (.ref f22))) (l22 : K.lookup f22 = some ⟨oc22, od22, .func (PySem.W.fnOf "_law_fits" "_law_fits" (defArgs s_law_fits) (defBody s_law_fits) (defScope s_law_fits) .none kV22 dc22 pm22 an22 cd22 ct22), sl22⟩) (c22 : PySem.W.codeIn K cd22 "_law_fits" = true) (k22 : PySem.W.keepIn K (.ref f22) = true)
    (a23 : PySem.W.nsIn K mainGlobals "_law_common" = some (some (.ref f23))) (l23 : K.lookup f23 = some ⟨oc23, od23, .func (PySem.W.fnOf "_law_common" "_law_common" (defArgs s_law_common) (defBody s_law_common) (defScope s_law_common) .none kV23 dc23 pm23 an23 cd23 ct23), sl23⟩) (c23 : PySem.W.codeIn K cd23 "_law_common" = true) (k23 : PySem.W.keepIn K (.ref f23) = true)
    (a24 : PySem.W.nsIn K mainGlobals "law" = some (some (.ref f24))) (l24 : K.lookup f24 = some ⟨oc24, od24, .func (PySem.W.fnOf "law" "law" (defArgs s_law) (defBody s_law) (defScope s_law) .none kV24 dc24 pm24 an24 cd24 ct24), sl24⟩) (c24 : PySem.W.codeIn K cd24 "law" = true) (k24 : PySem.W.keepIn K (.ref f24) = true)
    (z0 : PySem.W.nsIn K mainGlobals "len" = some none)
    (z1 : PySem.W.nsIn K mainGlobals "abs" = some none)
    (z2 : PySem.W.nsIn K mainGlobals "int" = some none)
    (z3 : PySem.W.nsIn K mainGlobals "bool" = some none)
    (z4 : PySem.W.nsIn K mainGlobals "tuple" = some none)
    (z5 : PySem.W.nsIn K mainGlobals "max" = some none)
    (z6 : PySem.W.nsIn K mainGlobals "range" = some none)
    (z7 : PySem.W.nsIn K mainGlobals "isinstance" = some none)
    (z8 : PySem.W.nsIn K mainGlobals "zip" = some none)
    {t0 t1 t2 : Tok} (u0 : PySem.W.nsIn K mainGlobals "MOST_BITS" = some (some (.int 2048 t0))) (u1 : PySem.W.nsIn K mainGlobals "WIDTH" = some (some (.int 4 t1))) (u2 : PySem.W.nsIn K mainGlobals "SPARE_BITS" = some (some (.int 64 t2))) (ug : PySem.W.nsIn K mainGlobals "gcd" = some (some (.builtin "math.gcd")))
    {aW : Addr} {wW0 wW1 wW2 : Tok} {nW : Nat} {slW : Array (Option Value)} (vW : PySem.W.nsIn K mainGlobals "WGS84" = some (some (.ref aW))) (oW : K.lookup aW = some ⟨.type "tuple", none, .seq #[.int 6378137 wW0, .int 1000000000 wW1, .int 298257223563 wW2] nW, slW⟩)
    {cT PT : Addr} (tt : PySem.W.tabIn K "narrow_steps" = some (cT, PT)) (nT : K.lookup PT = none) (hTab : ∀ c p, PySem.W.tabIn K "narrow_steps" = some (c, p) → PySem.W.CodeHd h c p ∧ h.get? p = some { cls := .none, data := .fields #[] })
    : LawAtS l w K CX0 7 63 "script" mg fa h := by
  have e := hfa.symm.trans (PySem.W.mg_of X G a24)
  cases e
  have F_exact_values := fun_mk (st := s_exact_values) l0 c0 k0
  have F_exact_value := fun_mk (st := s_exact_value) l1 c1 k1
  have F_lowest_terms := fun_mk (st := s_lowest_terms) l2 c2 k2
  have F_number := fun_mk (st := s_number) l3 c3 k3
  have F_moved := fun_mk (st := s_moved) l4 c4 k4
  have F_merged := fun_mk (st := s_merged) l5 c5 k5
  have F_merged_into := fun_mk (st := s_merged_into) l6 c6 k6
  have F_fraction := fun_mk (st := s_fraction) l7 c7 k7
  have F_of_fraction := fun_mk (st := s_of_fraction) l8 c8 k8
  have F_rescaled := fun_mk (st := s_rescaled) l9 c9 k9
  have F_fewer_bits := fun_mk (st := s_fewer_bits) l10 c10 k10
  have F_decided := fun_mk (st := s_decided) l11 c11 k11
  have F_narrow_steps := fun_mk (st := s_narrow_steps) l12 c12 k12
  have F_bits_to_try := fun_mk (st := s_bits_to_try) l13 c13 k13
  have F_enclosed_steps := fun_mk (st := s_enclosed_steps) l14 c14 k14
  have F_enclose := fun_mk (st := s_enclose) l15 c15 k15
  have F_is_ellipsoid := fun_mk (st := s_is_ellipsoid) l16 c16 k16
  have F_eccentricity2 := fun_mk (st := s_eccentricity2) l17 c17 k17
  have F_half_axis := fun_mk (st := s_half_axis) l18 c18 k18
  have F_law_is_integer := fun_mk (st := s_law_is_integer) l19 c19 k19
  have F_law_cell := fun_mk (st := s_law_cell) l20 c20 k20
  have F_law_rich := fun_mk (st := s_law_rich) l21 c21 k21
  have F_law_fits := fun_mk (st := s_law_fits) l22 c22 k22
  have F_law_common := fun_mk (st := s_law_common) l23 c23 k23
  have F_law := fun_mk (st := s_law) l24 c24 k24
  have b_exact_values := F_exact_values.binds (ps := ["steps"]) fun _ _ _ _ _ _ us hl => match us, hl with | [_], _ => rfl
  have g_exact_values := PySem.W.mg_of X G a0
  have b_exact_value := F_exact_value.binds (ps := ["step", "found"]) fun _ _ _ _ _ _ us hl => match us, hl with | [_, _], _ => rfl
  have g_exact_value := PySem.W.mg_of X G a1
  have b_lowest_terms := F_lowest_terms.binds (ps := ["p", "q"]) fun _ _ _ _ _ _ us hl => match us, hl with | [_, _], _ => rfl
  have g_lowest_terms := PySem.W.mg_of X G a2
  have b_number := F_number.binds (ps := ["p", "q"]) fun _ _ _ _ _ _ us hl => match us, hl with | [_, _], _ => rfl
  have g_number := PySem.W.mg_of X G a3
  have b_moved := F_moved.binds (ps := ["step", "places"]) fun _ _ _ _ _ _ us hl => match us, hl with | [_, _], _ => rfl
  have g_moved := PySem.W.mg_of X G a4
  have b_merged := F_merged.binds (ps := ["formula"]) fun _ _ _ _ _ _ us hl => match us, hl with | [_], _ => rfl
  have g_merged := PySem.W.mg_of X G a5
  have b_merged_into := F_merged_into.binds (ps := ["kept", "place_of", "formula"]) fun _ _ _ _ _ _ us hl => match us, hl with | [_, _, _], _ => rfl
  have g_merged_into := PySem.W.mg_of X G a6
  have b_fraction := F_fraction.binds (ps := ["p", "q"]) fun _ _ _ _ _ _ us hl => match us, hl with | [_, _], _ => rfl
  have g_fraction := PySem.W.mg_of X G a7
  have b_of_fraction := F_of_fraction.binds (ps := ["bits", "p", "q"]) fun _ _ _ _ _ _ us hl => match us, hl with | [_, _, _], _ => rfl
  have g_of_fraction := PySem.W.mg_of X G a8
  have b_rescaled := F_rescaled.binds (ps := ["a", "bits", "other"]) fun _ _ _ _ _ _ us hl => match us, hl with | [_, _, _], _ => rfl
  have g_rescaled := PySem.W.mg_of X G a9
  have b_fewer_bits := F_fewer_bits.binds (ps := ["low", "high", "bits"]) fun _ _ _ _ _ _ us hl => match us, hl with | [_, _, _], _ => rfl
  have g_fewer_bits := PySem.W.mg_of X G a10
  have b_decided := F_decided.binds (ps := ["formula", "bits", "verdict"]) fun _ _ _ _ _ _ us hl => match us, hl with | [_, _, _], _ => rfl
  have g_decided := PySem.W.mg_of X G a11
  have b_narrow_steps := F_narrow_steps.binds (ps := ["formula", "bits"]) fun _ _ _ _ _ _ us hl => match us, hl with | [_, _], _ => rfl
  have g_narrow_steps := PySem.W.mg_of X G a12
  have b_bits_to_try := F_bits_to_try.binds (ps := ["bits"]) fun _ _ _ _ _ _ us hl => match us, hl with | [_], _ => rfl
  have g_bits_to_try := PySem.W.mg_of X G a13
  have b_enclosed_steps := F_enclosed_steps.binds (ps := ["steps", "exacts", "bits"]) fun _ _ _ _ _ _ us hl => match us, hl with | [_, _, _], _ => rfl
  have g_enclosed_steps := PySem.W.mg_of X G a14
  have b_enclose := F_enclose.binds (ps := ["formula", "bits"]) fun _ _ _ _ _ _ us hl => match us, hl with | [_, _], _ => rfl
  have g_enclose := PySem.W.mg_of X G a15
  have b_is_ellipsoid := F_is_ellipsoid.binds (ps := ["value"]) fun _ _ _ _ _ _ us hl => match us, hl with | [_], _ => rfl
  have g_is_ellipsoid := PySem.W.mg_of X G a16
  have b_eccentricity2 := F_eccentricity2.binds (ps := ["ellipsoid"]) fun _ _ _ _ _ _ us hl => match us, hl with | [_], _ => rfl
  have g_eccentricity2 := PySem.W.mg_of X G a17
  have b_half_axis := F_half_axis.binds (ps := ["ellipsoid"]) fun _ _ _ _ _ _ us hl => match us, hl with | [_], _ => rfl
  have g_half_axis := PySem.W.mg_of X G a18
  have b_law_is_integer := F_law_is_integer.binds (ps := ["actual"]) fun _ _ _ _ _ _ us hl => match us, hl with | [_], _ => rfl
  have g_law_is_integer := PySem.W.mg_of X G a19
  have b_law_cell := F_law_cell.binds (ps := ["script", "k"]) fun _ _ _ _ _ _ us hl => match us, hl with | [_, _], _ => rfl
  have g_law_cell := PySem.W.mg_of X G a20
  have b_law_rich := F_law_rich.binds (ps := ["cell"]) fun _ _ _ _ _ _ us hl => match us, hl with | [_], _ => rfl
  have g_law_rich := PySem.W.mg_of X G a21
  have b_law_fits := F_law_fits.binds (ps := ["found", "bits", "value", "b"]) fun _ _ _ _ _ _ us hl => match us, hl with | [_, _, _, _], _ => rfl
  have g_law_fits := PySem.W.mg_of X G a22
  have b_law_common := F_law_common.binds (ps := ["p", "q"]) fun _ _ _ _ _ _ us hl => match us, hl with | [_, _], _ => rfl
  have g_law_common := PySem.W.mg_of X G a23
  have m_len := PySem.W.mg_none_of X G z0
  have m_abs := PySem.W.mg_none_of X G z1
  have m_int := PySem.W.mg_none_of X G z2
  have m_bool := PySem.W.mg_none_of X G z3
  have m_tuple := PySem.W.mg_none_of X G z4
  have m_max := PySem.W.mg_none_of X G z5
  have m_range := PySem.W.mg_none_of X G z6
  have m_isinstance := PySem.W.mg_none_of X G z7
  have m_zip := PySem.W.mg_none_of X G z8
  have hW : ∀ H, SqT K H aW (([6378137, 1000000000, 298257223563] : List Int).map V.int) := fun H => .inr ⟨_, _, _, oW, rfl, rfl, (show 3 ≤ sizeLine by decide +kernel), (.cons ⟨_, rfl⟩ (.cons ⟨_, rfl⟩ (.cons ⟨_, rfl⟩ .nil)))⟩
  have g_gcd := PySem.W.mg_of X G ug
  have g_MOST_BITS := PySem.W.mg_of X G u0
  have g_WIDTH := PySem.W.mg_of X G u1
  have g_SPARE_BITS := PySem.W.mg_of X G u2
  have g_WGS84 := PySem.W.mg_of X G vW
  have hcd := PySem.W.law_code X G tt (PySem.W.mg_of X G a12) (X _ _ l12) rfl
  obtain ⟨hT1, hT2⟩ := hTab _ _ tt
  exact ⟨PySem.W.fnOf "law" "law" (defArgs s_law) (defBody s_law) (defScope s_law) .none kV24 dc24 pm24 an24 cd24 ct24, [(cT, PT)], spLaw K PT, fun p hp => (by rw [List.mem_singleton.mp hp]; exact hT2), fun p hp => (by rw [List.mem_singleton.mp hp]; exact nT), fun p hp => (by rw [List.mem_singleton.mp hp]; exact hT1), fun s v => .of_eq rfl, fun H a ns hl hb hT hS => ⟨a, ns, rfl, hS, hl, hb, fun p hp => (by rw [List.mem_singleton.mp hp]; exact TabN.nil (hT _ (List.mem_singleton.mpr rfl))), fun _ => rfl⟩, fun base _ _ hTB => ok_law F_law F_law_rich b_law_rich g_law_rich F_law_cell b_law_cell g_law_cell F_law_fits b_law_fits g_law_fits F_law_is_integer b_law_is_integer g_law_is_integer F_law_common b_law_common g_law_common F_is_ellipsoid b_is_ellipsoid g_is_ellipsoid F_eccentricity2 b_eccentricity2 g_eccentricity2 F_lowest_terms b_lowest_terms g_lowest_terms F_half_axis b_half_axis g_half_axis (ok_half F_half_axis F_fraction b_fraction g_fraction F_lowest_terms b_lowest_terms g_lowest_terms F_number b_number g_number g_gcd) F_enclose b_enclose g_enclose (ok_enc F_enclose F_narrow_steps b_narrow_steps g_narrow_steps (ok_ns F_narrow_steps hcd (hTB _ (List.mem_singleton.mpr rfl)) F_decided b_decided g_decided g_SPARE_BITS F_merged b_merged g_merged F_merged_into b_merged_into g_merged_into F_moved b_moved g_moved F_exact_values b_exact_values g_exact_values F_exact_value b_exact_value g_exact_value F_bits_to_try b_bits_to_try g_bits_to_try F_enclosed_steps b_enclosed_steps g_enclosed_steps F_of_fraction b_of_fraction g_of_fraction F_rescaled b_rescaled g_rescaled F_fewer_bits b_fewer_bits g_fewer_bits g_WIDTH g_MOST_BITS m_tuple m_len m_zip) F_rescaled b_rescaled g_rescaled F_fewer_bits b_fewer_bits g_fewer_bits) g_WGS84 hW g_gcd m_len m_abs m_int m_bool m_tuple m_max m_range m_isinstance⟩
end
end K52
open PySem PySem.W PyProof.Rows
set_option maxHeartbeats 0 in
theorem PySem.Challenge.cw_portolan_k52_ellipsoids_holds : PySem.Challenge.rw_portolan_k52_ellipsoids.Holds := by
  w_on; o_law; k_head; (case hw => w_witness2)
  k_fill
  refine Ln.walk_tab (l := PySem.Challenge.rw_portolan_k52_ellipsoids) (n := 63) (k := 7) (x := "script") (CX := fun _ => L2.CX0) "narrow_steps" rfl (by decide) rfl ⟨rfl, by decide, by decide⟩ ?hrec (fun w h Y => PySem.W.km_in_of Y) ?F (fun _ _ _ _ _ h => h)
  case hrec => first | rfl | decide +kernel
  case F =>
    intro w mg fa h Y KX G hmg hTab
    refine' K52.all_mk KX G hmg ?a0 ?l0 ?c0 ?k0 ?a1 ?l1 ?c1 ?k1 ?a2 ?l2 ?c2 ?k2 ?a3 ?l3 ?c3 ?k3 ?a4 ?l4 ?c4 ?k4 ?a5 ?l5 ?c5 ?k5 ?a6 ?l6 ?c6 ?k6 ?a7 ?l7 ?c7 ?k7 ?a8 ?l8 ?c8 ?k8 ?a9 ?l9 ?c9 ?k9 ?a10 ?l10 ?c10 ?k10 ?a11 ?l11 ?c11 ?k11 ?a12 ?l12 ?c12 ?k12 ?a13 ?l13 ?c13 ?k13 ?a14 ?l14 ?c14 ?k14 ?a15 ?l15 ?c15 ?k15 ?a16 ?l16 ?c16 ?k16 ?a17 ?l17 ?c17 ?k17 ?a18 ?l18 ?c18 ?k18 ?a19 ?l19 ?c19 ?k19 ?a20 ?l20 ?c20 ?k20 ?a21 ?l21 ?c21 ?k21 ?a22 ?l22 ?c22 ?k22 ?a23 ?l23 ?c23 ?k23 ?a24 ?l24 ?c24 ?k24 ?z0 ?z1 ?z2 ?z3 ?z4 ?z5 ?z6 ?z7 ?z8 ?u0 ?u1 ?u2 ?ug ?vW ?oW ?tt ?nT hTab
    (case a0 => k_is); (case l0 => k_is); (case c0 => k_is); (case k0 => k_is); (case a1 => k_is); (case l1 => k_is); (case c1 => k_is); (case k1 => k_is); (case a2 => k_is); (case l2 => k_is); (case c2 => k_is); (case k2 => k_is); (case a3 => k_is); (case l3 => k_is); (case c3 => k_is); (case k3 => k_is); (case a4 => k_is); (case l4 => k_is); (case c4 => k_is); (case k4 => k_is); (case a5 => k_is); (case l5 => k_is); (case c5 => k_is); (case k5 => k_is); (case a6 => k_is); (case l6 => k_is); (case c6 => k_is); (case k6 => k_is); (case a7 => k_is); (case l7 => k_is); (case c7 => k_is); (case k7 => k_is); (case a8 => k_is); (case l8 => k_is); (case c8 => k_is); (case k8 => k_is); (case a9 => k_is); (case l9 => k_is); (case c9 => k_is); (case k9 => k_is); (case a10 => k_is); (case l10 => k_is); (case c10 => k_is); (case k10 => k_is); (case a11 => k_is); (case l11 => k_is); (case c11 => k_is); (case k11 => k_is); (case a12 => k_is); (case l12 => k_is); (case c12 => k_is); (case k12 => k_is); (case a13 => k_is); (case l13 => k_is); (case c13 => k_is); (case k13 => k_is); (case a14 => k_is); (case l14 => k_is); (case c14 => k_is); (case k14 => k_is); (case a15 => k_is); (case l15 => k_is); (case c15 => k_is); (case k15 => k_is); (case a16 => k_is); (case l16 => k_is); (case c16 => k_is); (case k16 => k_is); (case a17 => k_is); (case l17 => k_is); (case c17 => k_is); (case k17 => k_is); (case a18 => k_is); (case l18 => k_is); (case c18 => k_is); (case k18 => k_is); (case a19 => k_is); (case l19 => k_is); (case c19 => k_is); (case k19 => k_is); (case a20 => k_is); (case l20 => k_is); (case c20 => k_is); (case k20 => k_is); (case a21 => k_is); (case l21 => k_is); (case c21 => k_is); (case k21 => k_is); (case a22 => k_is); (case l22 => k_is); (case c22 => k_is); (case k22 => k_is); (case a23 => k_is); (case l23 => k_is); (case c23 => k_is); (case k23 => k_is); (case a24 => k_is); (case l24 => k_is); (case c24 => k_is); (case k24 => k_is); (case z0 => k_is); (case z1 => k_is); (case z2 => k_is); (case z3 => k_is); (case z4 => k_is); (case z5 => k_is); (case z6 => k_is); (case z7 => k_is); (case z8 => k_is); (case u0 => k_is); (case u1 => k_is); (case u2 => k_is); (case ug => k_is); (case vW => k_is); (case oW => k_is); (case tt => first | k_is | rfl); (case nT => first | k_is | rfl | decide +kernel)

