import PyProof.Rows.All
import Wide.All
import OpenK.AllK
import Wide.FinOn
import HandS.ForMost
import HandS.ForExc
import HandS.Flt
import HandS.Style
import HandS.TupSets
import HandS.SortRule
import HandS.ExcIs
import HandS.More
import HandS.EndBits
import PyProof.ExcBaseAll.ValueError
import HandS.Evl
import HandS.Wide
import HandS.WideBits
import HandS.IsInst
import PyProof.P3Eq
import KE.GoesEnum
import HandS.Gcd
import PyProof.MaxThree
import Flt.RightSqrt
import KE.KMathG
import HandS.Codes
import HandS.StrMore
import HandS.Text
import KE.IntTextLaws
import PyProof.Rows.StrAscii
import PyProof.Rows.StrPadFill
import PyProof.Rows.StrPadWhole
import HandS.Replace
import PyProof.StrBlock2
import KE.IntTextText
import HandS.Walk
import HandS.Deep
import HandS.Zip
import HandS.RevRange
import HandS.FStr
import KE.KDictZip
import KE.KTurns
import PyProof.ListNew
import HandS.List
import PyProof.MinMaxWalk
import PyProof.WalkInts
import HandS.Comp
import HandS.Exc
import HandS.ExcOwn
import HandS.Star
import HandS.MapJoin
import HandS.RaiseMore
import PySem.Challenge.RW_portolan_k14_faulty_texts_of_papers
set_option Elab.async false
set_option linter.all false
set_option maxRecDepth 100000
set_option maxHeartbeats 4000000
/-! Own rules over the layer: what a reading evaluates to, for texts that change nothing. -/
namespace Cm
open PySem PySem.Spec PyProof.Rows L2 Evl

theorem ex_app {H H' : Hp} (e : Ex H H') {p : Addr} {o : HO} (h : H p = some o) : H' p = some o := e p o h
/-- a new tuple comes back -/
def RetU (xs : List V) (H : Hp) (Q : VK) : Prop := ∀ p H2, H p = none → Ex H H2 → H2 p = some (.tup xs) → Q (.ref p) H2
def SpU (sp : Sp) (vs : List V) (H : Hp) (xs : List V) : Prop := ∀ H1, Ex H H1 → ∀ Q : VK, (∀ p H2, H1 p = none → Ex H1 H2 → H2 p = some (.tup xs) → Q (.ref p) H2) → ∀ E : XK, sp vs H1 Q E
section
variable {K : PySem.W.Frag} {σ : L2.St} {H H' : Hp} {ta tb tc te tx : TE} {t u : TT} {x y z v w : V} {r r' : R2} {D : Ends} {tz : TS}
/-- the slots written out anew -/
theorem st_is {σ' : L2.St} {ts : TS} (e : σ = σ') (h : ts D σ' H) : ts D σ H := by
  rw [e]
  exact h
theorem RetU.go {xs : List V} {Q : VK} (k : RetU xs H Q) (e : Ex H H') {p : Addr} {H2 : Hp} (hp : H' p = none) (e2 : Ex H' H2) (h : H2 p = some (.tup xs)) : Q (.ref p) H2 := k p H2 (fresh_back e hp) (e.trans e2) h
theorem eu_call {sp : Sp} {dvs vs xs : List V} {E : XK} {ta : TA} (h : EvA ta σ H vs) (hs : SpU sp (vs ++ dvs) H xs) : EvU (tCall sp dvs E ta) σ H xs := fun H1 e Q q =>
  h H1 e _ fun H2 e2 => hs H2 (e.trans e2) Q (fun p H3 hp e3 h3 => q p H3 (fresh_back e2 hp) (e2.trans e3) h3) E
theorem eu_is {xs ys : List V} (h : EvU te σ H xs) (e : xs = ys) : EvU te σ H ys := by
  rw [← e]
  exact h
/-- a call whose first argument is a new tuple -/
theorem ev_callU {sp : Sp} {dvs vs xs : List V} {E : XK} {tr : TA} (h1 : EvU te σ H xs) (h2 : EvA tr σ H vs) (hs : ∀ p H1, Ex H H1 → H1 p = some (.tup xs) → SpV sp (.ref p :: vs ++ dvs) H1 z) : Ev (tCall sp dvs E (tCons te tr)) σ H z := fun H1 e Q q =>
  h1 H1 e _ fun p H2 np e2 hp => h2 H2 (e.trans e2) _ fun H3 e3 => hs p H3 ((e.trans e2).trans e3) (e3 _ _ hp) H3 (Ex.refl H3) Q (fun H4 e4 => q H4 ((e2.trans e3).trans e4)) E
/-- .. whose second argument is a new tuple -/
theorem ev_callVU {sp : Sp} {dvs vs xs : List V} {E : XK} {tr : TA} (h0 : Ev ta σ H x) (h1 : EvU te σ H xs) (h2 : EvA tr σ H vs) (hs : ∀ p H1, Ex H H1 → H1 p = some (.tup xs) → SpV sp (x :: .ref p :: vs ++ dvs) H1 z) : Ev (tCall sp dvs E (tCons ta (tCons te tr))) σ H z := fun H1 e Q q =>
  h0 H1 e _ fun H2 e2 => h1 H2 (e.trans e2) _ fun p H3 np e3 hp => h2 H3 ((e.trans e2).trans e3) _ fun H4 e4 => hs p H4 (((e.trans e2).trans e3).trans e4) (e4 _ _ hp) H4 (Ex.refl H4) Q (fun H5 e5 => q H5 (((e2.trans e3).trans e4).trans e5)) E
theorem ev_chain {b c : Bool} (ha : Ev ta σ H x) (hb : Ev tb σ H y) (hc : Ev tc σ H w) (h1 : RV r x y H (.bl b)) (h2 : RV r' y w H (.bl c)) : Ev (tChain r r' ta tb tc) σ H (.bl (b && c)) := fun H1 e Q q =>
  ha H1 e _ fun H2 e2 => hb H2 (e.trans e2) _ fun H3 e3 => h1 H3 ((e.trans e2).trans e3) _ fun H4 e4 => ⟨b, rfl, by
    cases b with
    | true =>
      show tc σ H4 _
      exact hc H4 (((e.trans e2).trans e3).trans e4) _ fun H5 e5 => h2 H5 ((((e.trans e2).trans e3).trans e4).trans e5) Q fun H6 e6 => q H6 ((((e2.trans e3).trans e4).trans e5).trans e6)
    | false =>
      show Q (.bl false) H4
      exact q H4 ((e2.trans e3).trans e4)⟩
theorem rv_shl {i : Int} {k : Nat} (h : CShl i (k : Int)) : RV (fun x y H Q => ∃ (i : Int) (k : Nat), x = .int i ∧ y = .int (k : Int) ∧ CShl i (k : Int) ∧ Q (.int (i * 2 ^ k)) H) (.int i) (.int (k : Int)) H (.int (i * 2 ^ k)) :=
  fun H1 _ _ q => ⟨i, k, rfl, rfl, h, q H1 (Ex.refl H1)⟩
theorem rv_shr {i : Int} {k : Nat} : RV (fun x y H Q => ∃ (i : Int) (k : Nat), x = .int i ∧ y = .int (k : Int) ∧ Q (.int (i / 2 ^ k)) H) (.int i) (.int (k : Int)) H (.int (i / 2 ^ k)) :=
  fun H1 _ _ q => ⟨i, k, rfl, rfl, q H1 (Ex.refl H1)⟩
theorem rv_isB {a b : Bool} : RV rIsB (.bl a) (.bl b) H (.bl (decide (a = b))) := fun H1 _ _ q => ⟨a, b, rfl, rfl, q H1 (Ex.refl H1)⟩
theorem rv_notB {a b : Bool} : RV rNotB (.bl a) (.bl b) H (.bl (!decide (a = b))) := fun H1 _ _ q => ⟨a, b, rfl, rfl, q H1 (Ex.refl H1)⟩
theorem rv_isN : RV (fun x y H Q => y = .non ∧ Q (.bl (decide (x = .non))) H) x .non H (.bl (decide (x = .non))) := fun H1 _ _ q => ⟨rfl, q H1 (Ex.refl H1)⟩
theorem rv_notN : RV (fun x y H Q => y = .non ∧ Q (.bl (!decide (x = .non))) H) x .non H (.bl (!decide (x = .non))) := fun H1 _ _ q => ⟨rfl, q H1 (Ex.refl H1)⟩
theorem rc_abs {i : Int} : RC (fun xs H Q => ∃ i, xs = [.int i] ∧ Q (.int (if i < 0 then -i else i)) H) [.int i] H (.int (i.natAbs : Int)) := fun H1 _ Q q => ⟨i, rfl, by
  have e : (if i < 0 then -i else i) = (i.natAbs : Int) := by split <;> omega
  rw [e]
  exact q H1 (Ex.refl H1)⟩
theorem rc_max2 {i j : Int} : RC (fun xs H Q => ∃ i j, xs = [.int i, .int j] ∧ Q (.int (if j > i then j else i)) H) [.int i, .int j] H (.int (max i j)) := fun H1 _ Q q => ⟨i, j, rfl, by
  have e : (if j > i then j else i) = max i j := by split <;> omega
  rw [e]
  exact q H1 (Ex.refl H1)⟩
theorem rc_min2 {i j : Int} : RC (fun xs H Q => ∃ i j, xs = [.int i, .int j] ∧ Q (.int (if j < i then j else i)) H) [.int i, .int j] H (.int (min i j)) := fun H1 _ Q q => ⟨i, j, rfl, by
  have e : (if j < i then j else i) = min i j := by split <;> omega
  rw [e]
  exact q H1 (Ex.refl H1)⟩
theorem rc_intB {k : Bool} : RC (fun xs H Q => (∃ i, xs = [.int i] ∧ Q (.int i) H) ∨ ∃ k, xs = [.bl k] ∧ Q (.int (if k then 1 else 0)) H) [.bl k] H (.int (if k then 1 else 0)) := fun H1 _ Q q => Or.inr ⟨k, rfl, q H1 (Ex.refl H1)⟩
theorem rc_intI {i : Int} : RC (fun xs H Q => (∃ i, xs = [.int i] ∧ Q (.int i) H) ∨ ∃ k, xs = [.bl k] ∧ Q (.int (if k then 1 else 0)) H) [.int i] H (.int i) := fun H1 _ Q q => Or.inl ⟨i, rfl, q H1 (Ex.refl H1)⟩
theorem rc_isiT {p : Addr} {xs : List V} (h : H p = some (.tup xs)) : RC (rIsi K) [.ref p, .ty "tuple"] H (.bl true) := fun H1 e _ q =>
  ⟨.ref p, .ty "tuple", .type "tuple", .type "tuple", true, rfl, .ty _, .base (.tup (e _ _ h)), kit_ty (by decide +kernel), q H1 (Ex.refl H1)⟩
theorem rc_isiS {x : Str} : RC (rIsi K) [.str x, .ty "str"] H (.bl true) := fun H1 e _ q =>
  ⟨.str x, .ty "str", .type "str", .type "str", true, rfl, .ty _, .base (.str x), kit_ty (by decide +kernel), q H1 (Ex.refl H1)⟩
theorem rc_lenL {p : Addr} {xs : List V} (h : SqL K H p xs) : RC (fun xs H Q => ∃ x n, xs = [x] ∧ LenV K x H n ∧ Q (.int n) H) [.ref p] H (.int (xs.length : Int)) := fun H1 e _ q =>
  ⟨.ref p, (xs.length : Nat), rfl, .inl ⟨_, ex_l e h, rfl⟩, q H1 (Ex.refl H1)⟩
/-! ### data -/
mutual
theorem dp_mono (e : Ex H H') : ∀ (d : PyData) (v : V), Dp K H v d → Dp K H' v d
  | _, _, .non => .non
  | _, _, .bl b => .bl b
  | _, _, .int i => .int i
  | _, _, .str x => .str x
  | _, _, .lst h a => .lst (ex_l e h) (dps_mono e _ _ a)
  | _, _, .tup h a => .tup (ex_t e h) (dps_mono e _ _ a)
theorem dps_mono (e : Ex H H') : ∀ (ds : List PyData) (vs : List V), DpAll K H vs ds → DpAll K H' vs ds
  | _, _, .nil => .nil
  | _, _, .cons h t => .cons (dp_mono e _ _ h) (dps_mono e _ _ t)
end
theorem dpInts : ∀ (is : List Int), DpAll K H (is.map V.int) (is.map PyData.int)
  | [] => .nil
  | i :: r => .cons (.int i) (dpInts r)
theorem eqvS {d : PyData} (h : SeqAt.shaped d = true) : PyData.eqv d d = true := by
  unfold SeqAt.shaped at h
  rw [Bool.and_eq_true] at h
  exact PySem.SeqAt.eqv_refl d h.1
/-- the same data on both sides -/
theorem rv_neS {d : PyData} (hx : Dp K H x d) (hy : Dp K H y d) (hs : SeqAt.shaped d = true) : RV (rNeD K) x y H (.bl false) := fun H1 e Q q =>
  ⟨d, d, dp_mono e _ _ hx, dp_mono e _ _ hy, hs, hs, by
    rw [eqvS hs]
    exact q H1 (Ex.refl H1)⟩
theorem rv_eqS {d : PyData} (hx : Dp K H x d) (hy : Dp K H y d) (hs : SeqAt.shaped d = true) : RV (rEqD K) x y H (.bl true) := fun H1 e Q q =>
  ⟨d, d, dp_mono e _ _ hx, dp_mono e _ _ hy, hs, hs, by
    rw [eqvS hs]
    exact q H1 (Ex.refl H1)⟩
/-- a pair of ints -/
theorem dp2 {p : Addr} {i j : Int} (h : SqT K H p [.int i, .int j]) : Dp K H (.ref p) (.tuple [.int i, .int j]) := .tup h (.cons (.int i) (.cons (.int j) .nil))
theorem sh2 {i j : Int} : SeqAt.shaped (.tuple [.int i, .int j]) = true := rfl
end
/-! ### numbers -/
/-- a bound that omega does not look into -/
def Bd (k : Nat) (x : Int) : Prop := x.natAbs < 2 ^ k
theorem pow_pos (n : Nat) : (0 : Int) < 2 ^ n := PySem.W.kbt_pos n
theorem pow_abs (n : Nat) : ((2 : Int) ^ n).natAbs = 2 ^ n := by
  rw [Int.natAbs_pow]
  rfl
theorem ab_mono {x : Int} {a b : Nat} (h : x.natAbs < 2 ^ a) (hab : a ≤ b) : x.natAbs < 2 ^ b := Nat.lt_of_lt_of_le h (Nat.pow_le_pow_right (by decide) hab)
theorem ab_pow {n k : Nat} (h : n < k) : ((2 : Int) ^ n).natAbs < 2 ^ k := by
  rw [pow_abs]
  exact Nat.pow_lt_pow_right (by decide) h
theorem ab_shl {x : Int} {a n : Nat} (h : x.natAbs < 2 ^ a) : (x * 2 ^ n).natAbs < 2 ^ (a + n) := by
  rw [Int.natAbs_mul, pow_abs, Nat.pow_add]
  exact Nat.mul_lt_mul_of_pos_right h (Nat.two_pow_pos n)
theorem ab_mul {x y : Int} {a b : Nat} (hx : x.natAbs < 2 ^ a) (hy : y.natAbs < 2 ^ b) : (x * y).natAbs < 2 ^ (a + b) := wide_lt hx hy
theorem ab_add {x y : Int} {a : Nat} (hx : x.natAbs < 2 ^ a) (hy : y.natAbs < 2 ^ a) : (x + y).natAbs < 2 ^ (a + 1) := by
  have e : 2 ^ (a + 1) = 2 ^ a + 2 ^ a := by rw [Nat.pow_succ]; omega
  omega
theorem ab_neg {x : Int} {a : Nat} (hx : x.natAbs < 2 ^ a) : (-x).natAbs < 2 ^ a := by omega
theorem ab_sm {x : Int} {a c : Nat} (h : x.natAbs ≤ c) (hc : c < 2 ^ a) : x.natAbs < 2 ^ a := Nat.lt_of_le_of_lt h hc
theorem fl_le {s q : Int} (hq : 0 < q) : s / q * q ≤ s := Int.ediv_mul_le s (by omega)
theorem fl_lt {s q : Int} (hq : 0 < q) : s < (s / q + 1) * q := by
  rw [Int.add_mul, Int.one_mul]
  exact Int.lt_ediv_add_one_mul_self s hq |> fun h => by rw [Int.add_mul, Int.one_mul] at h; exact h
theorem cl_ge {s q : Int} (hq : 0 < q) : s ≤ -(-s / q) * q := by
  have h := fl_le (s := -s) hq
  rw [Int.neg_mul]
  omega
theorem cl_lt {s q : Int} (hq : 0 < q) : (-(-s / q) - 1) * q < s := by
  have h := fl_lt (s := -s) hq
  rw [Int.sub_mul, Int.one_mul, Int.neg_mul]
  rw [Int.add_mul, Int.one_mul] at h
  omega
theorem ab_div {x q : Int} {a : Nat} (hq : 0 < q) (h : x.natAbs < 2 ^ a) : (x / q).natAbs < 2 ^ a := by
  have h1 : (x / q).natAbs ≤ x.natAbs := by
    by_cases hx : 0 ≤ x
    · have := Int.ediv_le_self q hx
      have := Int.ediv_nonneg hx (Int.le_of_lt hq)
      omega
    · have h2 : x / q < 0 := Int.ediv_neg_of_neg_of_pos (by omega) hq
      have h3 := fl_lt (s := x) hq
      have h4 : (x / q + 1) * q ≤ (x / q + 1) := by
        have h5 : (x / q + 1) * (q - 1) ≤ 0 := Int.mul_nonpos_of_nonpos_of_nonneg (by omega) (by omega)
        rw [Int.mul_sub, Int.mul_one] at h5
        omega
      omega
  omega
theorem mul_le_r {a b q : Int} (h : a ≤ b) (hq : 0 < q) : a * q ≤ b * q := Int.mul_le_mul_of_nonneg_right h (Int.le_of_lt hq)
/-- the ceiling, by one more where the floor is not exact -/
theorem ceil_eq {s q : Int} (hq : 0 < q) : -(-s / q) = s / q + (if (!decide (s / q * q = s)) = true then 1 else 0) := by
  have a1 := fl_le (s := s) hq
  have a2 := fl_lt (s := s) hq
  have b1 := cl_ge (s := s) hq
  have b2 := cl_lt (s := s) hq
  have lt_of : ∀ {u v : Int}, u * q < v * q → u < v := fun h => Int.lt_of_mul_lt_mul_right h (Int.le_of_lt hq)
  have c1 : -(-s / q) - 1 < s / q + 1 := lt_of (Int.lt_trans b2 a2)
  by_cases e : s / q * q = s
  · rw [decide_eq_true e]
    have c2 : -(-s / q) - 1 < s / q := lt_of (by rw [e]; exact b2)
    have c3 : s / q - 1 < -(-s / q) := lt_of (Int.lt_of_lt_of_le (by rw [Int.sub_mul, Int.one_mul, e]; omega) b1)
    show _ = s / q + 0
    omega
  · rw [decide_eq_false e]
    have c3 : s / q < -(-s / q) := lt_of (by omega)
    show _ = s / q + 1
    omega
end Cm

/-! Own rule: for i, x in enumerate(t), t a tuple. -/
namespace Et
open PySem PySem.Spec PyProof.Rows L2

theorem meets1 {v : Value} {o : Obj} {H : Heap → Prop} (B : Begins v o H) :
    Meets (Builtin.«enumerate.__new__» ⟨[.type "enumerate", v], []⟩) (fun _ R s => H s.heap ∧
      R (.ok (.ret (.ref (s.heap.push o).objs.size))) { s with heap := (s.heap.push o).push { cls := .type "enumerate", data := .fields #[.none, .bool false, .ref s.heap.objs.size, rawInt 0, .none, .none] } }) :=
  .of_wp fun prog w A R s h => by
    obtain ⟨hp, g, d, tk, os⟩ := s; obtain ⟨h1, h⟩ := h
    have hsub := sub_enumerate
    have q1 : ∀ {A' : Around} {E : Value → Shared → Prop} {Q : Value → Shared → Prop}, Q (.ref hp.objs.size) ⟨hp.push o, g, d, tk, os⟩ → wpAny (model prog w) A' (pyIter v) Q E ⟨hp, g, d, tk, os⟩ :=
      fun q => B.iter prog w _ _ ⟨hp, g, d, tk, os⟩ _ h1 q
    wp_walk using q1
    refine wpAny_stack_any fun st => wpAny_pure ?_
    split
    · rename_i c _ _ _ _ _
      cases (c == Value.type "enumerate")
      · wp_walk using q1
        exact ⟨_, rfl, h⟩
      · wp_walk using q1
        exact ⟨_, rfl, h⟩
    · wp_walk using q1
      exact ⟨_, rfl, h⟩
section
variable {prog : Program} {w : World} {A : Around} {E : Value → Shared → Prop} {s : Shared}
theorem begins1 {v : Value} {o : Obj} {H : Heap → Prop} {Q : Value → Shared → Prop} (B : Begins v o H) (h1 : H s.heap)
    (h : ∀ h', IsEnum h' (s.heap.objs.size + 1) s.heap.objs.size 0 .none → h'.get? s.heap.objs.size = some o → h'.objs.size = s.heap.objs.size + 2 →
      (∀ b o, s.heap.get? b = some o → h'.get? b = some o) → Q (.ref (s.heap.objs.size + 1)) { s with heap := h' }) :
    wpAny (model prog w) A (call (.type "enumerate") [v]) Q E s := by
  refine callType_new F.called_enumerate (by decide) (F.typeCall_enumerate_1 _) (F.newCall_enumerate_1 _) (fun obj => F.args_object_init_2 obj _) F.entry_enumerate_new
    (meets1 B) ⟨h1, ?_⟩
  have hz : (s.heap.push o).objs.size = s.heap.objs.size + 1 := Heap.size_push ..
  show _ ∧ _
  rw [hz]
  have he : IsEnum ((s.heap.push o).push { cls := .type "enumerate", data := .fields #[.none, .bool false, .ref s.heap.objs.size, rawInt 0, .none, .none] }) (s.heap.objs.size + 1) s.heap.objs.size 0 .none := by
    have := Heap.get?_push_size (s.heap.push o) (o := { cls := .type "enumerate", data := .fields #[.none, .bool false, .ref s.heap.objs.size, rawInt 0, .none, .none] }) rfl
    rw [hz] at this; exact this
  refine ⟨⟨_, he, rfl⟩, h _ he (Heap.get?_push_of_some _ (Heap.get?_push_size _ B.free)) (by rw [Heap.size_push, hz]) fun b o x => Heap.get?_push_of_some _ (Heap.get?_push_of_some _ x)⟩
end
section
variable {prog : Program} {w : World} {A : Around} {E : Value → Shared → Prop} {s : Shared}
theorem enum_endT {e it l : Addr} {i : Nat} {items : Array Value} {old : Value} {Q : Option Value → Shared → Prop} (hh : A.handled = none)
    (he : IsEnum s.heap e it i old) (hit : s.heap.IsTupleIter it l i) (hl : s.heap.IsTuple l items) (hx : items[i]? = none)
    (hQ : ∀ h', Heap.ExtBut it s.heap h' → Q none { s with heap := h' }) : wpAny (model prog w) A (pyNext (.ref e)) Q E s := by
  have hT : s.TypeIs (.ref e) "enumerate" := ⟨_, he, rfl⟩
  unfold pyNext
  refine wpAny_bind (wpAny_attempt (wpAny_callSpecial?_slot (name := Str.ofString "__next__") hT F.slot_enumerate_next
    (wpAny_call_entry F.slot_enumerate_next hT F.entry_enumerate_next ?_ (F.args_enumerate_next_1 _))))
  show wpAny _ _ (field (.ref e) 2 >>= _) _ _ _
  refine wpAny_bind (wpAny_field he rfl (x := .ref it) rfl ?_)
  refine wpAny_bind (wpAny_nextOf_tuple_end hh hit hl hx fun h' x he' hx' => ?_)
  obtain ⟨o, ho, hc⟩ := hx'
  refine wpAny_bind (wpAny_isInstance (T := "StopIteration") (b := true) ⟨o, ho, hc⟩ isSubtype_stop ?_)
  exact wpAny_pure (hQ _ he')
end
/-- the tuple at a as it stands at each turn, each item in a new pair -/
def Iet (K : PySem.W.Frag) (a : Addr) : It :=
  ⟨fun i H => ∃ (xs : List V) (x : V), SqT K H a xs ∧ xs[i]? = some x, fun i H v H' => ∃ T x, v = .ref T ∧ H T = none ∧ H' = upd H T (.tup [.int (i : Nat), x]) ∧ ∀ xs, SqT K H a xs → xs[i]? = some x, fun i H => ∃ xs : List V, SqT K H a xs ∧ xs.length ≤ i⟩
theorem turn_enumT {P : Program} {w : World} {K : PySem.W.Frag} {elts : List Expr} {kk : Nat} {tpos : Pos} (a e it : Addr) :
    Turn P w K (.Tuple elts kk tpos) (Iet K a) [e, it] e (fun i h => (∃ old, IsEnum h e it ((i : Nat) : Int) old) ∧ h.IsTupleIter it a i ∧ e ≠ it) where
  mem := by simp
  obj := fun i h st b hb => by
    obtain ⟨⟨old, he⟩, ⟨o, ho, hc, hd⟩, _⟩ := st
    have e' : b = e ∨ b = it := by simpa using hb
    rcases e' with z | z
    · rw [z]; exact ⟨_, he, fun v q => nomatch q⟩
    · rw [z]; exact ⟨o, ho, fun v q => by rw [hd] at q; cases q⟩
  keep := fun i h h' st k => let ⟨⟨old, he⟩, hi, hne⟩ := st; ⟨⟨old, k e (by simp) _ he⟩, hi.at fun o q => k it (by simp) o q, hne⟩
  item := by
    intro X hP hw hK hc i pins s σ H E I hf st hg
    subst hP hw hK
    obtain ⟨⟨old, he⟩, hit, hne⟩ := st
    obtain ⟨xs, x, hq, hx⟩ := hg
    obtain ⟨its, rv, p, hz⟩ := I.tuple hq
    obtain ⟨u, hu, ru⟩ := rv.get hx
    have hel : e < s.heap.objs.size := Heap.lt_size he
    have hil : it < s.heap.objs.size := by obtain ⟨_, q, _⟩ := hit; exact Heap.lt_size q
    have hat : a ≠ it := fun z => by
      subst z
      obtain ⟨o1, e1, c1, _⟩ := hit
      obtain ⟨o2, e2, c2, _⟩ := p
      rw [e1] at e2
      cases e2
      rw [c1] at c2
      exact absurd (Value.type.inj c2) (by decide)
    have hae : a ≠ e := fun z => by
      subst z
      obtain ⟨o2, e2, c2, _⟩ := p
      rw [he] at e2
      cases e2
      exact absurd (Value.type.inj c2) (by decide)
    have hlt : i < its.toArray.size := by
      rw [List.size_toArray]
      exact (List.getElem?_eq_some_iff.mp hu).1
    refine wpAny_pyNext_enum_itemD (Draws.tuple (A := X.A.in1) (I.ok.hd hc) it a hat its.toArray) he ⟨hit, p⟩ hlt hne (by simp; exact ⟨hne, Ne.symm hae⟩) fun y h' tk hy ho hst' hT hsz hk => ?_
    have eu : y = u := by
      have h1 : its.toArray[i]? = some u := by simpa using hu
      rw [h1] at hy
      exact (Option.some.inj hy).symm
    subst eu
    refine ⟨_, rfl, wpAny_letOwnedTupleGo_enum (s := { s with heap := h', toks := tk + 1 }) ho fun h'' he' sb => ?_⟩
    have hT2 : h''.get? s.heap.objs.size = some { cls := .type "tuple", data := .seq #[.int i tk, y] } := (sb.2 _ (Nat.ne_of_gt hel)).trans hT
    have new : ObjOk X.prog X.w (upd H s.heap.objs.size (.tup [.int (i : Nat), x])) h'' s.heap.objs.size (.tup [.int (i : Nat), x]) :=
      ⟨by show 2 ≤ sizeLine; decide, [.int i tk, y], .cons ⟨_, rfl⟩ (.cons ru .nil), ⟨_, hT2, rfl, _, rfl⟩⟩
    have I1 : Inv X pins σ (upd H s.heap.objs.size (.tup [.int (i : Nat), x])) { s with heap := h'', toks := tk + 1 } :=
      I.turnedNew (ch := [e, it]) (fun b ob hb q => (sb.2 b (fun z => hb (by simp [z]))).trans (hk b ob (fun z => hb (by simp [z])) (fun z => hb (by simp [z])) q)) hf (Nat.le_refl _) new
    refine ⟨.ref s.heap.objs.size, _, I1, rfl, ⟨_, x, rfl, I.hok.fresh (Nat.le_refl _), rfl, fun ys hy => by rw [I.tuple_inj hy hq]; exact hx⟩, ⟨⟨y, ?_⟩, hst'.1.at fun o q => (sb.2 it (Ne.symm hne)).trans q, hne⟩, fun b hb => ?_⟩
    · have e1 : ((i + 1 : Nat) : Int) = (i : Int) + 1 := by omega
      rw [e1]; exact he'
    · have hb' : b < s.heap.objs.size := by
        have e' : b = e ∨ b = it := by simpa using hb
        rcases e' with z | z
        · rw [z]; exact hel
        · rw [z]; exact hil
      rw [upd_ne (Nat.ne_of_lt hb')]
      exact (hf b hb).1
  done := by
    intro X hP hw hK hc i pins s σ H E I hf st hg
    subst hP hw hK
    obtain ⟨⟨old, he⟩, hit, hne⟩ := st
    obtain ⟨xs, hq, hx⟩ := hg
    obtain ⟨its, rv, p, hz⟩ := I.tuple hq
    obtain ⟨f0, f1, f2, f3, f4, f5⟩ := hf it (by simp)
    have hl := rv.length
    refine enum_endT (I.ok.hd hc) he hit p (by simp; omega) fun h' eb => ⟨rfl, I.turned (t' := s.toks) (fun b o hb q => eb b o hb q) f0 f1 f3 f4 f5⟩
  self := fun A i s Q E st h => let ⟨⟨_, he⟩, _⟩ := st; wpAny_pyIter_enum he h
def iEnumT (K : PySem.W.Frag) (ta : TA) : TI := fun σ H R => ta σ H fun vs H1 => ∃ a xs, vs = [.ref a] ∧ SqT K H1 a xs ∧ R (Iet K a) H1
theorem pi_enumT {X : Cx} {e : Expr} {ta : TA} {p pos tpos : Pos} {elts : List Expr} {kk : Nat} (hg : Gl X "enumerate") (hm : X.mg "enumerate" = none) (ha : PA X [e] ta) (hs : starEach [e] X.env = [(false, eval e X.env)] := by rfl) :
    PI X (.Tuple elts kk tpos) (.Call (.Name "enumerate" p) [e] [] pos) (iEnumT X.K ta) := by
  refine ⟨fun pins s σ H R I h => ?_⟩
  refine Call_ (ld_blt I hg hm boot_enumerate (PyProof.Rows.callWith_type1 (thn (ha.run pos pins s σ H _ I h) fun us s1 ⟨vs, H1, I1, r1, q1⟩ => ?_) hs rfl))
  obtain ⟨a, xs, ex, hq, q⟩ := q1
  subst ex
  cases r1 with
  | cons r rr =>
    cases rr
    cases r
    obtain ⟨its, rv, p', hz⟩ := I1.tuple hq
    refine begins1 (begins_tuple a its.toArray) p' fun h' he hit hsz hk => wpAny_pyIter_enum he ?_
    have I2 : Inv X pins σ H1 { s1 with heap := h' } := I1.kept (t' := s1.toks) hk
    refine ⟨s1.heap.objs.size + 1, [s1.heap.objs.size + 1, s1.heap.objs.size], _, _, H1, rfl, I2, turn_enumT a (s1.heap.objs.size + 1) s1.heap.objs.size, ⟨⟨.none, he⟩, ⟨_, hit, rfl, rfl⟩, Nat.succ_ne_self _⟩, fun b hb => ?_, q⟩
    have e' : b = s1.heap.objs.size + 1 ∨ b = s1.heap.objs.size := by simpa using hb
    have hle : s1.heap.objs.size ≤ b := by
      rcases e' with z | z
      · rw [z]; exact Nat.le_add_right _ _
      · rw [z]; exact Nat.le_refl _
    exact I1.fpOk hle (I1.hok.fresh hle)
end Et

/-! Own rules: min and max of four ints, isqrt, // by any divisor. -/
namespace Mi
open PySem PySem.Spec PyProof.Rows L2 Evl Cm
theorem args_min4 (a b c d : Value) : argsOk "min" ⟨[a, b, c, d], []⟩ := by unfold argsOk; kernel_rfl
theorem args_max4 (a b c d : Value) : argsOk "max" ⟨[a, b, c, d], []⟩ := by unfold argsOk; kernel_rfl
section
variable {prog : Program} {w : World} {A : Around} {E : Value → Shared → Prop} {s : Shared}
theorem call_min_four {a b c d : Value} {Q : Value → Shared → Prop}
    (h : wpAny (model prog w) A.in1 (pyIter (.ref s.heap.objs.size)) (fun it s₂ => ∃ I fp wr n P St bt, it = .ref I ∧ Walks prog w A.in1 I fp wr n P St ∧ St 0 s₂.heap ∧ (∀ b ∈ fp, b < s₂.heap.objs.size) ∧ 0 < n ∧ CmpOf prog w A.in1 .Lt P bt ∧
      ∀ v h' tk, P (argBest bt (n - 1)) v → (∀ b o, b ∉ wr → s₂.heap.get? b = some o → h'.get? b = some o) → Q v { s₂ with heap := h', toks := tk }) E
      { s with heap := s.heap.push { cls := .type "tuple", data := .seq #[a, b, c, d] } }) :
    wpAny (model prog w) A (call (.builtin "min") [a, b, c, d]) Q E s := by
  have hname : (toString "min" ++ toString ".loop" : String) = "min.loop" := by decide
  refine call_function_tree F.kind_min F.plain_min F.entry_min (args_min4 _ _ _ _) ?_
  show wpAny _ A.in1 (Builtin.Builtins.bindParams "min" ["key", "default"] 0 ⟨[], []⟩ >>= _) _ _ s
  refine wpAny_bind (wpAny_of_eq (show Builtin.Builtins.bindParams "min" ["key", "default"] 0 ⟨[], []⟩ = pure [none, none] from rfl) ?_)
  show wpAny _ A.in1 (newTuple [a, b, c, d] >>= _) _ _ s
  refine wpAny_bind (wpAny_newObj_type ?_)
  refine wpAny_bind (wpAny_mono h (fun it s₂ h₂ => ?_) fun _ _ e => e)
  obtain ⟨I, fp, wr, n, P, St, bt, rfl, W, hst, hfp, hn, hcmp, hQ⟩ := h₂
  refine wpAny_bind (wpAny_newObj_type ?_)
  have hSf : s₂.heap.objs.size ∉ fp := fun hm => Nat.lt_irrefl _ (hfp _ hm)
  rw [hname]
  refine wpAny_pure ⟨plainId_quiet F.plain_min_loop _, codeAny_min_loop_first W bt hcmp s₂.heap.objs.size hSf hn (W.frame _ _ _ hst fun b _ o e => Heap.get?_push_of_some _ e) (Heap.get?_push_size _ rfl) fun v h' tk hP hk => ?_⟩
  exact hQ v h' tk hP fun b o hbw e => hk b o hbw (Nat.ne_of_lt (Heap.lt_size e)) (Heap.get?_push_of_some _ e)
theorem call_max_four {a b c d : Value} {Q : Value → Shared → Prop}
    (h : wpAny (model prog w) A.in1 (pyIter (.ref s.heap.objs.size)) (fun it s₂ => ∃ I fp wr n P St bt, it = .ref I ∧ Walks prog w A.in1 I fp wr n P St ∧ St 0 s₂.heap ∧ (∀ b ∈ fp, b < s₂.heap.objs.size) ∧ 0 < n ∧ CmpOf prog w A.in1 .Gt P bt ∧
      ∀ v h' tk, P (argBest bt (n - 1)) v → (∀ b o, b ∉ wr → s₂.heap.get? b = some o → h'.get? b = some o) → Q v { s₂ with heap := h', toks := tk }) E
      { s with heap := s.heap.push { cls := .type "tuple", data := .seq #[a, b, c, d] } }) :
    wpAny (model prog w) A (call (.builtin "max") [a, b, c, d]) Q E s := by
  have hname : (toString "max" ++ toString ".loop" : String) = "max.loop" := by decide
  refine call_function_tree F.kind_max F.plain_max F.entry_max (args_max4 _ _ _ _) ?_
  show wpAny _ A.in1 (Builtin.Builtins.bindParams "max" ["key", "default"] 0 ⟨[], []⟩ >>= _) _ _ s
  refine wpAny_bind (wpAny_of_eq (show Builtin.Builtins.bindParams "max" ["key", "default"] 0 ⟨[], []⟩ = pure [none, none] from rfl) ?_)
  show wpAny _ A.in1 (newTuple [a, b, c, d] >>= _) _ _ s
  refine wpAny_bind (wpAny_newObj_type ?_)
  refine wpAny_bind (wpAny_mono h (fun it s₂ h₂ => ?_) fun _ _ e => e)
  obtain ⟨I, fp, wr, n, P, St, bt, rfl, W, hst, hfp, hn, hcmp, hQ⟩ := h₂
  refine wpAny_bind (wpAny_newObj_type ?_)
  have hSf : s₂.heap.objs.size ∉ fp := fun hm => Nat.lt_irrefl _ (hfp _ hm)
  rw [hname]
  refine wpAny_pure ⟨plainId_quiet F.plain_max_loop _, codeAny_max_loop_first W bt hcmp s₂.heap.objs.size hSf hn (W.frame _ _ _ hst fun b _ o e => Heap.get?_push_of_some _ e) (Heap.get?_push_size _ rfl) fun v h' tk hP hk => ?_⟩
  exact hQ v h' tk hP fun b o hbw e => hk b o hbw (Nat.ne_of_lt (Heap.lt_size e)) (Heap.get?_push_of_some _ e)
theorem min4 {a b c d : Int} {t u x y : Tok} {Q : Value → Shared → Prop} (hh : A.handled = none)
    (h : ∀ h' tk t', (∀ z o, s.heap.get? z = some o → h'.get? z = some o) → Q (.int (min (min a b) (min c d)) t') { s with heap := h', toks := tk }) :
    wpAny (model prog w) A (call (.builtin "min") [.int a t, .int b u, .int c x, .int d y]) Q E s := by
  have hT : (s.heap.push { cls := .type "tuple", data := .seq #[.int a t, .int b u, .int c x, .int d y] }).IsTuple s.heap.objs.size (intItems #[(a, t), (b, u), (c, x), (d, y)]) := ⟨_, Heap.get?_push_size _ rfl, rfl, 0, by simp [intItems]⟩
  refine call_min_four (wpAny_pyIter_tuple hT ?_)
  have hsz : (s.heap.push { cls := .type "tuple", data := .seq #[.int a t, .int b u, .int c x, .int d y] }).objs.size = s.heap.objs.size + 1 := Heap.size_push ..
  refine ⟨_, [_, s.heap.objs.size], [_], _, _, _, _, rfl, Walks.tuple (A := A.in1) hh _ s.heap.objs.size (by rw [hsz]; exact Nat.ne_of_lt (Nat.lt_succ_self _)) (intItems #[(a, t), (b, u), (c, x), (d, y)]),
    ⟨⟨_, Heap.get?_push_size _ rfl, rfl, rfl⟩, hT.push _⟩, fun z hz => ?_, by simp [intItems], CmpOf.ints_lt (numAt #[(a, t), (b, u), (c, x), (d, y)]) (fun _ _ => intItems_at), fun v h' tk hP hk => ?_⟩
  · show z < ((s.heap.push _).push _).objs.size
    rw [Heap.size_push, hsz]
    rcases List.mem_cons.mp hz with rfl | hz
    · rw [hsz]; exact Nat.lt_succ_self _
    · rcases List.mem_cons.mp hz with rfl | hz
      · exact Nat.lt_succ_of_lt (Nat.lt_succ_self _)
      · cases hz
  · have hold : ∀ z o, s.heap.get? z = some o → h'.get? z = some o := fun z o e => by
      refine hk z o (fun hm => ?_) (Heap.get?_push_of_some _ (Heap.get?_push_of_some _ e))
      rcases List.mem_cons.mp hm with e1 | hm
      · have := Heap.lt_size e; rw [e1, hsz] at this; exact Nat.lt_irrefl _ (Nat.lt_of_succ_lt this)
      · cases hm
    have hs4 : (intItems #[(a, t), (b, u), (c, x), (d, y)]).size - 1 = 3 := by simp [intItems]
    rw [hs4] at hP
    obtain ⟨t', rfl⟩ := intItems_at hP
    obtain ⟨h1, h2⟩ := argBest_lt (numAt #[(a, t), (b, u), (c, x), (d, y)]) 3
    have n0 : numAt #[(a, t), (b, u), (c, x), (d, y)] 0 = a := rfl
    have n1 : numAt #[(a, t), (b, u), (c, x), (d, y)] 1 = b := rfl
    have n2 : numAt #[(a, t), (b, u), (c, x), (d, y)] 2 = c := rfl
    have n3 : numAt #[(a, t), (b, u), (c, x), (d, y)] 3 = d := rfl
    have m0 := h2 0 (by omega)
    have m1 := h2 1 (by omega)
    have m2 := h2 2 (by omega)
    have m3 := h2 3 (by omega)
    rw [n0] at m0
    rw [n1] at m1
    rw [n2] at m2
    rw [n3] at m3
    generalize hB : argBest (fun i j => decide (numAt #[(a, t), (b, u), (c, x), (d, y)] i < numAt #[(a, t), (b, u), (c, x), (d, y)] j)) 3 = B at *
    have hv : numAt #[(a, t), (b, u), (c, x), (d, y)] B = min (min a b) (min c d) := by
      have h4 : B = 0 ∨ B = 1 ∨ B = 2 ∨ B = 3 := by omega
      rcases h4 with z | z | z | z
      · rw [z, n0] at m0 m1 m2 m3 ⊢; omega
      · rw [z, n1] at m0 m1 m2 m3 ⊢; omega
      · rw [z, n2] at m0 m1 m2 m3 ⊢; omega
      · rw [z, n3] at m0 m1 m2 m3 ⊢; omega
    rw [hv]
    exact h h' tk t' hold
theorem max4 {a b c d : Int} {t u x y : Tok} {Q : Value → Shared → Prop} (hh : A.handled = none)
    (h : ∀ h' tk t', (∀ z o, s.heap.get? z = some o → h'.get? z = some o) → Q (.int (max (max a b) (max c d)) t') { s with heap := h', toks := tk }) :
    wpAny (model prog w) A (call (.builtin "max") [.int a t, .int b u, .int c x, .int d y]) Q E s := by
  have hT : (s.heap.push { cls := .type "tuple", data := .seq #[.int a t, .int b u, .int c x, .int d y] }).IsTuple s.heap.objs.size (intItems #[(a, t), (b, u), (c, x), (d, y)]) := ⟨_, Heap.get?_push_size _ rfl, rfl, 0, by simp [intItems]⟩
  refine call_max_four (wpAny_pyIter_tuple hT ?_)
  have hsz : (s.heap.push { cls := .type "tuple", data := .seq #[.int a t, .int b u, .int c x, .int d y] }).objs.size = s.heap.objs.size + 1 := Heap.size_push ..
  refine ⟨_, [_, s.heap.objs.size], [_], _, _, _, _, rfl, Walks.tuple (A := A.in1) hh _ s.heap.objs.size (by rw [hsz]; exact Nat.ne_of_lt (Nat.lt_succ_self _)) (intItems #[(a, t), (b, u), (c, x), (d, y)]),
    ⟨⟨_, Heap.get?_push_size _ rfl, rfl, rfl⟩, hT.push _⟩, fun z hz => ?_, by simp [intItems], CmpOf.ints_gt (numAt #[(a, t), (b, u), (c, x), (d, y)]) (fun _ _ => intItems_at), fun v h' tk hP hk => ?_⟩
  · show z < ((s.heap.push _).push _).objs.size
    rw [Heap.size_push, hsz]
    rcases List.mem_cons.mp hz with rfl | hz
    · rw [hsz]; exact Nat.lt_succ_self _
    · rcases List.mem_cons.mp hz with rfl | hz
      · exact Nat.lt_succ_of_lt (Nat.lt_succ_self _)
      · cases hz
  · have hold : ∀ z o, s.heap.get? z = some o → h'.get? z = some o := fun z o e => by
      refine hk z o (fun hm => ?_) (Heap.get?_push_of_some _ (Heap.get?_push_of_some _ e))
      rcases List.mem_cons.mp hm with e1 | hm
      · have := Heap.lt_size e; rw [e1, hsz] at this; exact Nat.lt_irrefl _ (Nat.lt_of_succ_lt this)
      · cases hm
    have hs4 : (intItems #[(a, t), (b, u), (c, x), (d, y)]).size - 1 = 3 := by simp [intItems]
    rw [hs4] at hP
    obtain ⟨t', rfl⟩ := intItems_at hP
    obtain ⟨h1, h2⟩ := argBest_gt (numAt #[(a, t), (b, u), (c, x), (d, y)]) 3
    have n0 : numAt #[(a, t), (b, u), (c, x), (d, y)] 0 = a := rfl
    have n1 : numAt #[(a, t), (b, u), (c, x), (d, y)] 1 = b := rfl
    have n2 : numAt #[(a, t), (b, u), (c, x), (d, y)] 2 = c := rfl
    have n3 : numAt #[(a, t), (b, u), (c, x), (d, y)] 3 = d := rfl
    have m0 := h2 0 (by omega)
    have m1 := h2 1 (by omega)
    have m2 := h2 2 (by omega)
    have m3 := h2 3 (by omega)
    rw [n0] at m0
    rw [n1] at m1
    rw [n2] at m2
    rw [n3] at m3
    generalize hB : argBest (fun i j => decide (numAt #[(a, t), (b, u), (c, x), (d, y)] i > numAt #[(a, t), (b, u), (c, x), (d, y)] j)) 3 = B at *
    have hv : numAt #[(a, t), (b, u), (c, x), (d, y)] B = max (max a b) (max c d) := by
      have h4 : B = 0 ∨ B = 1 ∨ B = 2 ∨ B = 3 := by omega
      rcases h4 with z | z | z | z
      · rw [z, n0] at m0 m1 m2 m3 ⊢; omega
      · rw [z, n1] at m0 m1 m2 m3 ⊢; omega
      · rw [z, n2] at m0 m1 m2 m3 ⊢; omega
      · rw [z, n3] at m0 m1 m2 m3 ⊢; omega
    rw [hv]
    exact h h' tk t' hold
end
theorem vals4 {x y z v : V} {us : List Value} (r : Vals [x, y, z, v] us) : ∃ u1 u2 u3 u4, us = [u1, u2, u3, u4] ∧ RelV x u1 ∧ RelV y u2 ∧ RelV z u3 ∧ RelV v u4 := by
  cases r with
  | cons r1 r =>
    cases r with
    | cons r2 r =>
      cases r with
      | cons r3 r =>
        cases r with
        | cons r4 r =>
          cases r
          exact ⟨_, _, _, _, rfl, r1, r2, r3, r4⟩
section
variable {X : Cx}
def rMin4 : List V → Hp → VK → Prop := fun xs H Q => ∃ i j k l, xs = [.int i, .int j, .int k, .int l] ∧ Q (.int (min (min i j) (min k l))) H
def rMax4 : List V → Hp → VK → Prop := fun xs H Q => ∃ i j k l, xs = [.int i, .int j, .int k, .int l] ∧ Q (.int (max (max i j) (max k l))) H
theorem call_min4 (hc : X.calm = true) : CallR X (.builtin "min") rMin4 := by
  intro pins s σ H xs us Q I r h
  obtain ⟨i, j, k, l, rfl, q⟩ := h
  obtain ⟨u1, u2, u3, u4, rfl, ⟨t1, rfl⟩, ⟨t2, rfl⟩, ⟨t3, rfl⟩, ⟨t4, rfl⟩⟩ := vals4 r
  exact min4 (I.ok.hd hc) fun h' tk t' k => ⟨.int _, H, I.kept k, ⟨_, rfl⟩, q⟩
theorem call_max4 (hc : X.calm = true) : CallR X (.builtin "max") rMax4 := by
  intro pins s σ H xs us Q I r h
  obtain ⟨i, j, k, l, rfl, q⟩ := h
  obtain ⟨u1, u2, u3, u4, rfl, ⟨t1, rfl⟩, ⟨t2, rfl⟩, ⟨t3, rfl⟩, ⟨t4, rfl⟩⟩ := vals4 r
  exact max4 (I.ok.hd hc) fun h' tk t' k => ⟨.int _, H, I.kept k, ⟨_, rfl⟩, q⟩
/-- isqrt of a number below 2 ^ 4000 -/
def rSqrt : List V → Hp → VK → Prop := fun xs H Q => ∃ i : Int, xs = [.int i] ∧ 0 ≤ i ∧ Bd 4000 i ∧ ∀ r : Nat, (r : Int) * r ≤ i → i < ((r : Int) + 1) * ((r : Int) + 1) → Q (.int (r : Int)) H
theorem call_sqrt : CallR X (.builtin "math.isqrt") rSqrt := by
  intro pins s σ H xs us Q I r h
  obtain ⟨i, rfl, h0, hb, q⟩ := h
  obtain ⟨u1, rfl, ⟨t1, rfl⟩⟩ := vals1 r
  obtain ⟨n, rfl⟩ := Int.eq_ofNat_of_zero_le h0
  have hl : n.log2 ≤ 3999 := PySem.W.mg_log (show n < 2 ^ (3999 + 1) from hb)
  have hs := PySem.Float64.isqrt_spec n
  have qq := q (Float64.isqrt n) (by have := hs.1; exact_mod_cast this) (by have := hs.2; exact_mod_cast this)
  exact call_function_meets PySem.W.MGF.kind_isqrt PySem.W.MGF.plain_isqrt PySem.W.MGF.entry_isqrt (PySem.W.MGF.args_isqrt _) (PySem.W.mg_run_isqrt (n : Int) t1 (by omega) (by rw [Int.toNat_natCast]; omega) (by rw [Int.toNat_natCast]; omega)).meets ⟨.int _, H, I.tok _, ⟨_, rfl⟩, qq⟩
/-- // by a divisor that is not 0 and below 2 ^ 9000 -/
def CDivA (_ j : Int) : Prop := j ≠ 0 ∧ j.natAbs.log2 < 9000
theorem op_fdivA : OpR X (binaryOp .FloorDiv) (rI CDivA fun i j => .int (i.fdiv j)) := opI fun i j _ _ _ _ _ hc q => floordiv_int hc.1 q (.inl (PyProof.noPylong_of_log2 hc.2))
end
section
variable {H : Hp} {K : PySem.W.Frag}
theorem rc_min4 {i j k l : Int} : RC rMin4 [.int i, .int j, .int k, .int l] H (.int (min (min i j) (min k l))) := fun H1 _ _ q => ⟨i, j, k, l, rfl, q H1 (Ex.refl _)⟩
theorem rc_max4 {i j k l : Int} : RC rMax4 [.int i, .int j, .int k, .int l] H (.int (max (max i j) (max k l))) := fun H1 _ _ q => ⟨i, j, k, l, rfl, q H1 (Ex.refl _)⟩
end
end Mi

/-! Own data: the digits of a number. -/
namespace Dg
open PySem PySem.Builtin PySem.Builtin.Str SX TL
/-- the last k digits -/
def pad : Nat → Nat → List Nat
  | 0, _ => []
  | k + 1, n => pad k (n / 10) ++ [48 + n % 10]
theorem pad_len : ∀ k n, (pad k n).length = k
  | 0, _ => rfl
  | k + 1, n => by
    show (pad k (n / 10) ++ [48 + n % 10]).length = k + 1
    rw [List.length_append, pad_len k]
    rfl
theorem pow_div (n k : Nat) : n / 10 / 10 ^ k = n / 10 ^ (k + 1) := by
  rw [Nat.div_div_eq_div_mul, Nat.pow_succ, Nat.mul_comm]
theorem lt_pow {n k : Nat} (h : n < 10 ^ (k + 1)) : n / 10 < 10 ^ k := by
  rw [Nat.pow_succ] at h
  exact Nat.div_lt_of_lt_mul (by rw [Nat.mul_comm]; exact h)
theorem num_split : ∀ k n, 10 ^ k ≤ n → numL n = numL (n / 10 ^ k) ++ pad k n
  | 0, n, _ => by
    show numL n = numL (n / 1) ++ []
    rw [Nat.div_one, List.append_nil]
  | k + 1, n, h => by
    have h1 : 10 ^ k * 10 ≤ n := by
      rw [← Nat.pow_succ]
      exact h
    have h0 : 0 < 10 ^ k := Nat.pow_pos (by decide)
    have h2 : 10 ^ k ≤ n / 10 := (Nat.le_div_iff_mul_le (by decide)).mpr h1
    rw [numL_step (by omega), num_split k (n / 10) h2, pow_div, List.append_assoc]
    rfl
theorem pad_zero : ∀ k, pad k 0 = List.replicate k 48
  | 0 => rfl
  | k + 1 => by
    show pad k 0 ++ [48] = _
    rw [pad_zero k, List.replicate_succ']
theorem num_len : ∀ k n, n < 10 ^ (k + 1) → (numL n).length ≤ k + 1
  | 0, n, h => by
    rw [numL_lt (by omega)]
    exact Nat.le_refl _
  | k + 1, n, h => by
    by_cases h1 : n < 10
    · rw [numL_lt h1]
      show 1 ≤ k + 1 + 1
      omega
    · rw [numL_step (by omega), List.length_append]
      have := num_len k (n / 10) (lt_pow h)
      show (numL (n / 10)).length + 1 ≤ k + 1 + 1
      omega
theorem num_pad : ∀ k n, n < 10 ^ (k + 1) → List.replicate (k + 1 - (numL n).length) 48 ++ numL n = pad (k + 1) n
  | 0, n, h => by
    have h1 : n < 10 := by omega
    rw [numL_lt h1]
    show [] ++ [48 + n] = [] ++ [48 + n % 10]
    rw [Nat.mod_eq_of_lt h1]
  | k + 1, n, h => by
    by_cases h1 : n < 10
    · rw [numL_lt h1]
      show List.replicate (k + 1) 48 ++ [48 + n] = pad (k + 1) (n / 10) ++ [48 + n % 10]
      rw [Nat.mod_eq_of_lt h1, Nat.div_eq_of_lt h1, pad_zero]
    · have ih := num_pad k (n / 10) (lt_pow h)
      rw [numL_step (by omega), List.length_append]
      show List.replicate (k + 1 + 1 - ((numL (n / 10)).length + 1)) 48 ++ (numL (n / 10) ++ [48 + n % 10]) = pad (k + 1) (n / 10) ++ [48 + n % 10]
      rw [← ih, ← List.append_assoc, show k + 1 + 1 - ((numL (n / 10)).length + 1) = k + 1 - (numL (n / 10)).length by omega]
theorem pad_cons : ∀ k n, n < 10 ^ k → pad (k + 1) n = 48 :: pad k n
  | 0, n, h => by
    have h1 : n = 0 := by
      have : (10 : Nat) ^ 0 = 1 := rfl
      omega
    subst h1
    rfl
  | k + 1, n, h => by
    show pad (k + 1) (n / 10) ++ [48 + n % 10] = 48 :: (pad k (n / 10) ++ [48 + n % 10])
    rw [pad_cons k (n / 10) (lt_pow h)]
    rfl
theorem pad_front : ∀ k n, pad (k + 1) n = (48 + n / 10 ^ k % 10) :: pad k n
  | 0, n => by
    show [] ++ [48 + n % 10] = [48 + n / 1 % 10]
    rw [Nat.div_one]
    rfl
  | k + 1, n => by
    show pad (k + 1) (n / 10) ++ [48 + n % 10] = _ :: (pad k (n / 10) ++ [48 + n % 10])
    rw [pad_front k (n / 10), pow_div]
    rfl
theorem pad_mod : ∀ k n, pad k (n % 10 ^ k) = pad k n
  | 0, _ => rfl
  | k + 1, n => by
    have e : n % 10 ^ (k + 1) = n % 10 + 10 * (n / 10 % 10 ^ k) := by
      rw [Nat.pow_succ, Nat.mul_comm, Nat.mod_mul]
    show pad k (n % 10 ^ (k + 1) / 10) ++ [48 + n % 10 ^ (k + 1) % 10] = pad k (n / 10) ++ [48 + n % 10]
    rw [e, show (n % 10 + 10 * (n / 10 % 10 ^ k)) / 10 = n / 10 % 10 ^ k by omega, show (n % 10 + 10 * (n / 10 % 10 ^ k)) % 10 = n % 10 by omega, pad_mod k]
theorem num_head (n : Nat) : ∃ c r, numL n = c :: r ∧ 48 ≤ c ∧ c ≤ 57 := by
  cases h : numL n with
  | nil => exact absurd h (numL_ne n)
  | cons c r =>
    have h2 := numL_digits n c (by rw [h]; exact List.mem_cons_self ..)
    exact ⟨c, r, rfl, h2⟩
theorem zfill_long {n m : Nat} (h : m ≤ (numL n).length) : Txt.zfill (S (numL n)) (m : Int) = S (numL n) := by
  unfold Txt.zfill
  rw [S_len, if_pos (by omega)]
theorem zfill_short {n m : Nat} (h : (numL n).length < m) : Txt.zfill (S (numL n)) (m : Int) = S (List.replicate (m - (numL n).length) 48 ++ numL n) := by
  unfold Txt.zfill
  rw [S_len, if_neg (by omega), Int.toNat_natCast]
  obtain ⟨c, r, hc, h1, h2⟩ := num_head n
  refine TL.ext_tl ?_
  have e : (S (numL n)).cps[0]? = some c := by
    show (numL n).toArray[0]? = some c
    rw [hc]
    rfl
  have e2 : zfilled (S (numL n)) (m - (numL n).length) = padded (S (numL n)) (m - (numL n).length) 0 48 := by
    unfold zfilled
    rw [e]
    split
    · rename_i z
      cases Option.some.inj z
      omega
    · rename_i z
      cases Option.some.inj z
      omega
    · rfl
  rw [e2]
  show (padded (S (numL n)) (m - (numL n).length) 0 48).cps.toList = _
  rw [PyProof.Rows.padded_list]
  simp
/-- a number with fewer than m digits, filled -/
theorem zfill_num {n m : Nat} (hm : 1 ≤ m) (h : n < 10 ^ m) : Txt.zfill (S (numL n)) (m : Int) = S (pad m n) := by
  obtain ⟨k, rfl⟩ : ∃ k, m = k + 1 := ⟨m - 1, by omega⟩
  rw [← num_pad k n h]
  by_cases hl : k + 1 ≤ (numL n).length
  · rw [zfill_long hl, show k + 1 - (numL n).length = 0 by omega]
    rfl
  · exact zfill_short (by omega)
/-- .. to one digit more than its places -/
theorem zfill_places (n p : Nat) : Txt.zfill (S (numL n)) ((p + 1 : Nat) : Int) = S (numL (n / 10 ^ p) ++ pad p n) := by
  by_cases h : 10 ^ p ≤ n
  · have e := num_split p n h
    have h1 : p + 1 ≤ (numL n).length := by
      rw [e, List.length_append, pad_len]
      have := List.length_pos_iff.mpr (numL_ne (n / 10 ^ p))
      omega
    rw [zfill_long h1, ← e]
  · have h0 : n < 10 ^ p := by omega
    have h1 : n < 10 ^ (p + 1) := by
      rw [Nat.pow_succ]
      omega
    rw [zfill_num (by omega) h1, pad_cons p n h0, Nat.div_eq_of_lt h0, numL_lt (by decide)]
    rfl
theorem joinL_nil : ∀ ps : List (List Nat), joinL [] ps = ps.flatten
  | [] => rfl
  | [p] => by
    show p = p ++ []
    rw [List.append_nil]
  | p :: q :: r => by
    show p ++ ([] ++ joinL [] (q :: r)) = p ++ (q :: r).flatten
    rw [joinL_nil (q :: r)]
    rfl
theorem join_nil (ps : List (List Nat)) : Txt.join (S []) (ps.map S) = S ps.flatten := by rw [join_S, joinL_nil]
theorem slice_to_neg {a b : List Nat} (h : 0 < b.length) : Txt.slice (S (a ++ b)) none (some (-(b.length : Int))) = S a := by
  have e := beq_iff_eq.mp (PyProof.Rows.slice_closes_to_neg (x := S (a ++ b)) (j := -(b.length : Int)) (k := (a.length : Int)) (by omega) (by rw [S_len, List.length_append]; omega) (by rw [S_len, List.length_append]; omega))
  refine e.trans (TL.ext_tl ?_)
  show ((a ++ b).drop (0 : Int).toNat).take ((a.length : Int) - 0).toNat = a
  rw [show (0 : Int).toNat = 0 from rfl, List.drop_zero, show ((a.length : Int) - 0).toNat = a.length by omega, List.take_left]
theorem slice_from_neg {a b : List Nat} (h : 0 < b.length) : Txt.slice (S (a ++ b)) (some (-(b.length : Int))) none = S b := by
  have e := beq_iff_eq.mp (PyProof.Rows.slice_closes_from_neg (x := S (a ++ b)) (i := -(b.length : Int)) (a := (a.length : Int)) (b := ((a ++ b).length : Int)) (by omega) (by rw [S_len, List.length_append]; omega) (by rw [S_len, List.length_append]; omega) (by rw [S_len]))
  refine e.trans (TL.ext_tl ?_)
  show ((a ++ b).drop (a.length : Int).toNat).take (((a ++ b).length : Int) - (a.length : Int)).toNat = b
  rw [Int.toNat_natCast, List.drop_left, List.take_of_length_le (by rw [List.length_append]; omega)]
end Dg

/-! Own data: whole numbers as texts, there and back. -/
namespace Tx
open PySem PySem.Builtin PySem.Builtin.Str SX TL Dg
/-- a whole number's signs -/
def intL (i : Int) : List Nat := if i < 0 then 45 :: numL i.natAbs else numL i.natAbs
theorem intL_neg (n : Nat) : intL (-((n + 1 : Nat) : Int)) = 45 :: numL (n + 1) := by
  unfold intL
  rw [if_pos (by omega), Int.natAbs_neg, Int.natAbs_natCast]
theorem intL_nat (n : Nat) : intL (n : Int) = numL n := by
  unfold intL
  rw [if_neg (by omega), Int.natAbs_natCast]
theorem str_cons (s : String) : Str.ofString ("-" ++ s) = S (45 :: (Str.ofString s).cps.toList) := by
  refine TL.ext_tl ?_
  show (Str.ofString ("-" ++ s)).cps.toList = _
  simp [Str.ofString_eq_toList]
theorem int_text (i : Int) : Str.ofString (toString i) = S (intL i) := by
  cases i with
  | ofNat n =>
    rw [show (Int.ofNat n) = (n : Int) from rfl, intL_nat]
    exact num_S n
  | negSucc n =>
    have h := num_S (n + 1)
    rw [show (Int.negSucc n) = -((n + 1 : Nat) : Int) from rfl, intL_neg]
    show Str.ofString ("-" ++ Nat.repr (n + 1)) = _
    rw [str_cons]
    have e : (Str.ofString (Nat.repr (n + 1))).cps.toList = numL (n + 1) := congrArg (fun x : Str => x.cps.toList) h
    rw [e]
theorem num_all (n : Nat) : ∀ c ∈ numL n, 48 ≤ c ∧ c ≤ 57 := numL_digits n
theorem ascii_num (n : Nat) : Txt.isascii (S (numL n)) = true := by
  show (numL n).toArray.all (· < 128) = true
  rw [← Array.all_toList]
  exact List.all_eq_true.mpr fun c hc => decide_eq_true (by have := num_all n c hc; omega)
theorem digit_num (n : Nat) : Txt.isdigit (S (numL n)) = true := by
  show (decide ((S (numL n)).length > 0) && (numL n).toArray.all Unicode.isDigit) = true
  rw [S_len, decide_eq_true (List.length_pos_iff.mpr (numL_ne n)), Bool.true_and, ← Array.all_toList]
  refine List.all_eq_true.mpr fun c hc => ?_
  have h := num_all n c hc
  have : ∀ c, c < 58 → 48 ≤ c → Unicode.isDigit c = true := by decide +kernel
  exact this c (by omega) h.1
theorem starts1 (c : Nat) (a : List Nat) (d : Nat) : Txt.startswith (S (d :: a)) (S [c]) = decide (d = c) := by
  unfold Txt.startswith
  rw [S_len, S_len, decide_eq_true (by simp), Bool.true_and]
  simp [subAt, S_len]
  exact Bool.eq_iff_iff.mpr (by simp)
theorem head_ge (n : Nat) (h : 0 < n) : ∃ d q, numL n = (49 + d) :: q := by
  induction n using Nat.strongRecOn with
  | ind n ih =>
    by_cases h10 : n < 10
    · exact ⟨n - 1, [], by rw [numL_lt h10]; exact congrArg (fun z => [z]) (by omega)⟩
    · obtain ⟨d, q, e⟩ := ih (n / 10) (by omega) (by omega)
      exact ⟨d, q ++ [48 + n % 10], by rw [numL_step (by omega), e]; rfl⟩
theorem head0 {n : Nat} {r : List Nat} {c : Nat} (h : numL n = c :: r) (h0 : c = 48) : n = 0 := by
  by_cases hn : 0 < n
  · obtain ⟨d, q, e⟩ := head_ge n hn
    rw [e] at h
    have := (List.cons.inj h).1
    omega
  · omega
/-- read back -/
theorem int_back {i : Int} (h : (intL i).length ≤ 4300) : intText? (S (intL i)) = some i := by
  by_cases hi : i < 0
  · have e : intL i = 45 :: numL i.natAbs := by
      unfold intL
      rw [if_pos hi]
    rw [e] at h ⊢
    have h2 := PySem.intText_neg (x := S (45 :: numL i.natAbs)) (cs := numL i.natAbs) rfl (numL_digits _) (numL_ne _) (by rw [S_len]; exact h)
    rw [h2]
    have h3 : NumText.digitsVal (numL i.natAbs) = i.natAbs := PySem.W.KIN.val_back i.natAbs
    rw [h3]
    exact congrArg some (by omega)
  · obtain ⟨n, rfl⟩ := Int.eq_ofNat_of_zero_le (show 0 ≤ i by omega)
    rw [intL_nat] at h ⊢
    rw [← num_S]
    exact int_num h
end Tx

/-! Own data: what a text of an angle says. -/
namespace Ra
open PySem PySem.Builtin PySem.Builtin.Str SX TL Dg Tx
/-- the sign of a text, and what stands behind it -/
def neg : List Nat → Bool
  | [] => false
  | c :: _ => decide (c = 45)
def body : List Nat → List Nat
  | [] => []
  | c :: r => if c = 45 then r else c :: r
theorem body_len (a : List Nat) : (body a).length ≤ a.length := by
  cases a with
  | nil => exact Nat.le_refl _
  | cons c r =>
    show (if c = 45 then r else c :: r).length ≤ _
    split
    · rw [List.length_cons]
      omega
    · exact Nat.le_refl _
def dig (c : Nat) : Bool := decide (48 ≤ c) && decide (c ≤ 57)
def hasD (a : List Nat) (m : Nat) : Bool := (decide (1 ≤ a.length) && decide (a.length ≤ m)) && a.all dig
/-- whole degrees: no needless zero -/
def whole (p : List Nat) : Bool := hasD p 4 && !(neg0 p && !decide (p = [48]))
where neg0 : List Nat → Bool
  | [] => false
  | c :: _ => decide (c = 48)
def val (p : List Nat) : Int := ((NumText.digitsVal p : Nat) : Int)
def fill (q : List Nat) : List Nat := q ++ List.replicate (7 - q.length) 48
/-- what the parts say -/
def says (p : List Nat) (o : Option (List Nat)) : Option Int :=
  if whole p = true then match o with
    | none => some (val p * 10000000)
    | some q => if hasD q 7 = true then some (val p * 10000000 + val (fill q)) else none
  else none
def parts (a : List Nat) : List Nat × Option (List Nat) := match par [46] [] a with
  | none => (a, none)
  | some (p, q) => (p, some q)
def sg (b : Bool) (v : Int) : Int := if b = true then -v else v
/-- what a text says -/
def rdA (a : List Nat) : Option Int := (says (parts (body a)).1 (parts (body a)).2).map (sg (neg a))
theorem first_dot (s : Nat) : ∀ a : List Nat, s ∉ a ∨ ∃ p q, a = p ++ ([s] ++ q) ∧ s ∉ p
  | [] => .inl (by simp)
  | c :: r => by
    by_cases h : c = s
    · exact .inr ⟨[], r, by rw [h]; rfl, by simp⟩
    · rcases first_dot s r with h2 | ⟨p, q, e, hp⟩
      · exact .inl fun hm => by
          rcases List.mem_cons.mp hm with z | z
          · exact h z.symm
          · exact h2 z
      · refine .inr ⟨c :: p, q, by rw [e]; rfl, fun hm => ?_⟩
        rcases List.mem_cons.mp hm with z | z
        · exact h z.symm
        · exact hp z
theorem parts_none {a : List Nat} (h : 46 ∉ a) : parts a = (a, none) := by
  unfold parts
  rw [par_head_none h]
theorem parts_some {p q : List Nat} (h : 46 ∉ p) : parts (p ++ ([46] ++ q)) = (p, some q) := by
  unfold parts
  rw [show p ++ ([46] ++ q) = p ++ ([46] ++ q) from rfl, SX.par_head q h]
theorem part_none {a : List Nat} (h : 46 ∉ a) : Txt.partition (S a) (S [46]) = (S a, S [], S []) := partition_none (by simp) (par_head_none h)
theorem part_some {p q : List Nat} (h : 46 ∉ p) : Txt.partition (S (p ++ ([46] ++ q))) (S [46]) = (S p, S [46], S q) := partition_some (by simp) (SX.par_head q h)
theorem dot_split {a : List Nat} (h : 46 ∉ a) : spl [46] 0 [] a = [a] := by
  have e := TL.spl_last1 (s := 46) (S := []) (p := a) (acc := []) h
  simpa using e
theorem dot_split2 {p q : List Nat} (h : 46 ∉ p) : spl [46] 0 [] (p ++ ([46] ++ q)) = p :: spl [46] 0 [] q := by
  have e := TL.spl_part1 (s := 46) (S := []) (p := p) (rest := q) (acc := []) h
  simpa using e
theorem spl_one (s : Nat) : ∀ (a acc : List Nat), ∃ x r, spl [s] 0 acc a = x :: r
  | [], acc => ⟨acc, [], spl_nil _ _ _⟩
  | c :: r, acc => by
    by_cases h : pre [s] (c :: r) = true
    · exact ⟨acc, _, spl_hit h⟩
    · have h' : pre [s] (c :: r) = false := by simpa using h
      rw [spl_miss h']
      exact spl_one s r _
theorem neg_is (a : List Nat) : Txt.startswith (S a) (S [45]) = neg a := by
  cases a with
  | nil => decide +kernel
  | cons c r => exact starts1 45 r c
theorem zero_is (a : List Nat) : Txt.startswith (S a) (S [48]) = whole.neg0 a := by
  cases a with
  | nil => decide +kernel
  | cons c r => exact starts1 48 r c
theorem isdigit_ascii : ∀ c, c < 128 → Unicode.isDigit c = dig c := by decide +kernel
theorem dig_both (c : Nat) : (decide (c < 128) && Unicode.isDigit c) = dig c := by
  by_cases hc : c < 128
  · rw [decide_eq_true hc, Bool.true_and, isdigit_ascii c hc]
  · rw [decide_eq_false hc, Bool.false_and]
    unfold dig
    rw [decide_eq_false (show ¬ c ≤ 57 by omega), Bool.and_false]
theorem all_both : ∀ a : List Nat, (a.all (fun c => decide (c < 128)) && a.all Unicode.isDigit) = a.all dig
  | [] => rfl
  | c :: r => by
    rw [List.all_cons, List.all_cons, List.all_cons, ← dig_both c, ← all_both r]
    cases decide (c < 128) <;> cases Unicode.isDigit c <;> simp
theorem digits_is (a : List Nat) (h : a ≠ []) : (Txt.isascii (S a) && Txt.isdigit (S a)) = a.all dig := by
  have e1 : Txt.isascii (S a) = a.all (fun c => decide (c < 128)) := by
    show a.toArray.all (· < 128) = _
    rw [← Array.all_toList]
  have e2 : Txt.isdigit (S a) = a.all Unicode.isDigit := by
    show (decide ((S a).length > 0) && a.toArray.all Unicode.isDigit) = _
    rw [S_len, decide_eq_true (List.length_pos_iff.mpr h), Bool.true_and, ← Array.all_toList]
  rw [e1, e2, all_both]
theorem int_dig {a : List Nat} (h : a.all dig = true) (hne : a ≠ []) (hl : a.length ≤ 4300) : intText? (S a) = some (val a) := int_S h hne hl
theorem fill_dig {q : List Nat} (h : q.all dig = true) : (fill q).all dig = true := by
  unfold fill
  rw [List.all_append, h, Bool.true_and]
  exact List.all_eq_true.mpr fun c hc => by
    rw [(List.mem_replicate.mp hc).2]
    rfl
theorem fill_ne {q : List Nat} (h : q.length ≤ 7) : fill q ≠ [] ∧ (fill q).length = 7 := by
  have e : (fill q).length = 7 := by
    unfold fill
    rw [List.length_append, List.length_replicate]
    omega
  exact ⟨fun z => by rw [z] at e; exact absurd e (by decide), e⟩
theorem hasD_of {a : List Nat} {m : Nat} (h : hasD a m = true) : a ≠ [] ∧ a.length ≤ m ∧ a.all dig = true := by
  unfold hasD at h
  rw [Bool.and_eq_true, Bool.and_eq_true] at h
  exact ⟨fun z => by rw [z] at h; exact absurd (of_decide_eq_true h.1.1) (by decide), of_decide_eq_true h.1.2, h.2⟩
theorem hasD_is {a : List Nat} {m : Nat} (h : a ≠ []) : ((decide ((1 : Int) ≤ (a.length : Int)) && decide ((a.length : Int) ≤ (m : Int))) && (Txt.isascii (S a) && Txt.isdigit (S a))) = hasD a m := by
  rw [digits_is a h]
  unfold hasD
  congr 1
  congr 1 <;> exact decide_eq_decide.mpr (by omega)
theorem ljust_is {q : List Nat} : PySem.Txt.ljustF (S q) 7 48 = S (fill q) := by
  refine TL.ext_tl ?_
  show (Txt.ljustF (S q) 7 48).cps.toList = _
  rw [PyProof.Rows.ljustF_list, S_len]
  rfl
theorem tw_len (p : Nat → Bool) (l : List Nat) : l.length - (l.takeWhile p).length = (l.dropWhile p).length := by
  have := congrArg List.length (List.takeWhile_append_dropWhile (p := p) (l := l))
  rw [List.length_append] at this
  omega
def strip0 (a : List Nat) : List Nat := (a.reverse.dropWhile (· == 48)).reverse
theorem strip_take (a : List Nat) : a.take (a.length - (a.reverse.takeWhile (· == 48)).length) = strip0 a := by
  have h := List.takeWhile_append_dropWhile (p := (· == 48)) (l := a.reverse)
  have h2 : a = (a.reverse.dropWhile (· == 48)).reverse ++ (a.reverse.takeWhile (· == 48)).reverse := by
    rw [← List.reverse_append, h, List.reverse_reverse]
  have h3 : a.length - (a.reverse.takeWhile (· == 48)).length = (a.reverse.dropWhile (· == 48)).reverse.length := by
    rw [← List.length_reverse (as := a), tw_len, List.length_reverse]
  rw [h3]
  unfold strip0
  conv => lhs; rw [h2]
  rw [show (List.dropWhile (fun x => x == 48) ((List.dropWhile (fun x => x == 48) a.reverse).reverse ++ (List.takeWhile (fun x => x == 48) a.reverse).reverse).reverse).reverse.length = (List.dropWhile (fun x => x == 48) a.reverse).reverse.length by rw [← h2]]
  exact List.take_left
theorem strip_is (a : List Nat) : PySem.Txt.rstripChars (S a) (S [48]) = S (strip0 a) := by
  show PySem.Txt.stripBy _ _ _ _ = _
  rw [PyProof.Rows.stripBy_eq]
  rw [PyProof.Rows.strSub_mk, ← strip_take]
  have hc : (S [48]).cps.contains = fun c => c == 48 := by
    funext c
    show ([48] : List Nat).toArray.contains c = (c == 48)
    rw [List.contains_toArray, List.contains_cons, List.contains_nil, Bool.or_false]
  refine TL.ext_tl ?_
  show (a.drop 0).take ((S a).length - ((a.drop 0).reverse.takeWhile (S [48]).cps.contains).length - 0) = _
  rw [hc, S_len, List.drop_zero, Nat.sub_zero]
theorem strip_sub (a : List Nat) : (strip0 a).length ≤ a.length ∧ ∀ c ∈ strip0 a, c ∈ a := by
  rw [← strip_take]
  exact ⟨by rw [List.length_take]; omega, fun c hc => List.mem_of_mem_take hc⟩
/-- the text of an angle -/
def tailL (r : Nat) : List Nat := if r = 0 then [] else [46] ++ strip0 (pad 7 r)
theorem tail_len (r : Nat) : (tailL r).length ≤ 8 := by
  unfold tailL
  split
  · simp
  · have := (strip_sub (pad 7 r)).1
    rw [pad_len] at this
    rw [List.length_append, List.length_singleton]
    omega
theorem pad_code : ∀ k n, ∀ c ∈ pad k n, 48 ≤ c ∧ c ≤ 57
  | 0, _, c, hc => absurd hc (by simp [pad])
  | k + 1, n, c, hc => by
    rcases List.mem_append.mp hc with h | h
    · exact pad_code k _ c h
    · rw [List.mem_singleton] at h
      omega
theorem tail_code (r : Nat) : ∀ c ∈ tailL r, c < 128 := by
  intro c hc
  unfold tailL at hc
  split at hc
  · exact absurd hc (by simp)
  · rcases List.mem_append.mp hc with h | h
    · rw [List.mem_singleton] at h
      omega
    · have := pad_code 7 r c ((strip_sub _).2 c h)
      omega
section
open PySem.Spec PyProof.Rows L2
theorem mt_ljustF {X : Cx} : MtR X "str.ljust" (fun x xs H Q => ∃ (a f : Str) (i : Int), x = .str a ∧ xs = [.int i, .str f] ∧ PadOk i = true ∧ f.length = 1 ∧ Q (.str (Txt.ljustF a i (f.cps.getD 0 0))) H) := by
  intro pins s σ H x xs v us Q I rx rs h
  obtain ⟨a, f, i, rfl, rfl, hp, hf, h⟩ := h
  obtain ⟨t, rfl⟩ := rx
  cases rs with
  | cons r1 rs =>
    cases rs with
    | cons r2 rs =>
      cases rs
      obtain ⟨u, rfl⟩ := r1
      obtain ⟨v, rfl⟩ := r2
      exact ljust_fill hp hf fun t' k => ⟨.str (Txt.ljustF a i (f.cps.getD 0 0)), H, I.tok k, ⟨t', rfl⟩, h⟩
end
end Ra

/-! Own data: texts of angles there and back. -/
namespace Rb
open PySem PySem.Builtin PySem.Builtin.Str SX TL Dg Tx Ra
/-- where the point stands -/
theorem at_drop {a : List Nat} {i : Nat} : StrLaws.At (S a) (S [46]) (S a).length i ↔ i + 1 ≤ a.length ∧ (a.drop i).take 1 = [46] := by
  unfold StrLaws.At
  rw [StrLaws.subAt_eq, S_len, S_len]
  show _ ∧ ((a.drop i).take 1 == [46]) = true ↔ _
  rw [beq_iff_eq]
  rfl
theorem idx_dot {p q : List Nat} (h : 46 ∉ p) : ∃ r, occurrences (S (p ++ ([46] ++ q))) (S [46]) 0 (S (p ++ ([46] ++ q))).length 1 = p.length :: r := by
  have hat : StrLaws.At (S (p ++ ([46] ++ q))) (S [46]) (S (p ++ ([46] ++ q))).length p.length := at_drop.mpr ⟨by simp, by rw [List.drop_left]; rfl⟩
  rcases StrLaws.occ_head (S (p ++ ([46] ++ q))) (S [46]) 1 (Nat.le_refl _) with ⟨_, hn⟩ | ⟨i, r, e, hi, hn⟩
  · exact absurd hat (hn _)
  · have h1 : ¬ p.length < i := fun z => hn _ z hat
    have h2 : ¬ i < p.length := fun z => by
      have h3 := (at_drop.mp hi).2
      rw [List.drop_append_of_le_length (Nat.le_of_lt z)] at h3
      have h4 : p.drop i = p[i] :: p.drop (i + 1) := List.drop_eq_getElem_cons z
      rw [h4] at h3
      have h5 : p[i] = 46 := (List.cons.inj h3).1
      exact h (h5 ▸ List.getElem_mem z)
    exact ⟨r, by rw [e, show i = p.length by omega]⟩
section
open PySem.Spec PyProof.Rows L2
theorem op_mul_sn {X : Cx} : OpR X (binaryOp .Mult) (fun x y H Q => ∃ (a : Str) (n : Int), x = .str a ∧ y = .int n ∧ MulOk a n ∧ Q (.str (Txt.mul a n)) H) := by
  intro pins s σ H x y v u Q I rx ry h
  obtain ⟨a, n, rfl, rfl, hok, q⟩ := h
  obtain ⟨t, rfl⟩ := rx
  obtain ⟨t2, rfl⟩ := ry
  exact SB.mul hok fun t' k => ⟨.str (Txt.mul a n), H, I.tok k, ⟨t', rfl⟩, q⟩
end
theorem zeros_ok {k : Nat} (h : k ≤ 7) : MulOk (S [48]) (k : Int) ∧ Txt.mul (S [48]) (k : Int) = S (List.replicate k 48) := by
  have hk : k = 0 ∨ k = 1 ∨ k = 2 ∨ k = 3 ∨ k = 4 ∨ k = 5 ∨ k = 6 ∨ k = 7 := by omega
  rcases hk with rfl | rfl | rfl | rfl | rfl | rfl | rfl | rfl <;> exact ⟨by unfold MulOk; decide +kernel, by rfl⟩
/-! ### values of digits -/
theorem val_pad : ∀ k n, NumText.digitsVal (pad k n) = n % 10 ^ k
  | 0, n => by
    show 0 = n % 1
    omega
  | k + 1, n => by
    show NumText.digitsVal (pad k (n / 10) ++ [48 + n % 10]) = _
    rw [NumText.digitsVal_snoc, val_pad k, Nat.pow_succ, show 48 + n % 10 - 48 = n % 10 by omega, Nat.mul_comm (10 ^ k) 10, Nat.mod_mul]
    omega
theorem strip_split (a : List Nat) : a = strip0 a ++ List.replicate (a.length - (strip0 a).length) 48 := by
  have h := List.takeWhile_append_dropWhile (p := (· == 48)) (l := a.reverse)
  have h2 : a = (a.reverse.dropWhile (· == 48)).reverse ++ (a.reverse.takeWhile (· == 48)).reverse := by
    rw [← List.reverse_append, h, List.reverse_reverse]
  have h3 : (a.reverse.takeWhile (· == 48)).reverse = List.replicate (a.reverse.takeWhile (· == 48)).length 48 := by
    rw [List.eq_replicate_iff]
    refine ⟨by rw [List.length_reverse], fun c hc => ?_⟩
    have key : ∀ (l : List Nat), ∀ c ∈ l.takeWhile (· == 48), c = 48 := by
      intro l
      induction l with
      | nil => intro c hc; exact absurd hc (by simp)
      | cons d r ih =>
        intro c hc
        rw [List.takeWhile_cons] at hc
        split at hc
        · rename_i hd
          rcases List.mem_cons.mp hc with z | z
          · rw [z]
            exact beq_iff_eq.mp hd
          · exact ih c z
        · exact absurd hc (by simp)
    exact key _ c (List.mem_reverse.mp hc)
  have h4 : (a.reverse.takeWhile (· == 48)).length = a.length - (strip0 a).length := by
    have := congrArg List.length h2
    rw [List.length_append, List.length_reverse (as := a.reverse.takeWhile _)] at this
    unfold strip0
    omega
  rw [← h4, ← h3]
  exact h2
theorem strip_end {a : List Nat} (h : strip0 a ≠ []) : ∃ b c, strip0 a = b ++ [c] ∧ c ≠ 48 := by
  unfold strip0 at *
  cases e : a.reverse.dropWhile (· == 48) with
  | nil =>
    rw [e] at h
    exact absurd rfl h
  | cons c r =>
    refine ⟨r.reverse, c, by rw [List.reverse_cons], fun z => ?_⟩
    have h1 := List.head?_dropWhile_not (· == 48) a.reverse
    rw [e] at h1
    simp [z] at h1
theorem strip_ne {r : Nat} (h0 : r ≠ 0) (h : r < 10 ^ 7) : strip0 (pad 7 r) ≠ [] := fun z => by
  have h1 := strip_split (pad 7 r)
  rw [z, pad_len] at h1
  have h2 := val_pad 7 r
  rw [h1, Nat.mod_eq_of_lt h] at h2
  exact h0 (h2.symm.trans (by decide +kernel))
theorem fill_strip {r i : Nat} (h : (strip0 (pad 7 r)).length + i ≤ 7) : Ra.fill (strip0 (pad 7 r) ++ List.replicate i 48) = pad 7 r := by
  unfold Ra.fill
  rw [List.append_assoc, List.replicate_append_replicate, List.length_append, List.length_replicate]
  have e := strip_split (pad 7 r)
  rw [pad_len] at e
  rw [show i + (7 - ((strip0 (pad 7 r)).length + i)) = 7 - (strip0 (pad 7 r)).length by omega]
  exact e.symm
theorem pad_dig (k n : Nat) : (pad k n).all dig = true := List.all_eq_true.mpr fun c hc => by
  have := pad_code k n c hc
  unfold dig
  rw [decide_eq_true this.1, decide_eq_true this.2]
  rfl
theorem num_dig (n : Nat) : (numL n).all dig = true := List.all_eq_true.mpr fun c hc => by
  have := num_all n c hc
  unfold dig
  rw [decide_eq_true this.1, decide_eq_true this.2]
  rfl
theorem whole_num {W : Nat} (h : W < 10000) : whole (numL W) = true := by
  unfold whole
  have hl := num_len 3 W (by omega)
  have hne := List.length_pos_iff.mpr (numL_ne W)
  have h1 : hasD (numL W) 4 = true := by
    unfold hasD
    rw [num_dig, decide_eq_true (show 1 ≤ (numL W).length from hne), decide_eq_true (show (numL W).length ≤ 4 from hl)]
    rfl
  rw [h1, Bool.true_and]
  cases e : numL W with
  | nil => exact absurd e (numL_ne W)
  | cons c r =>
    show (!(decide (c = 48) && !decide (c :: r = [48]))) = true
    by_cases hc : c = 48
    · have h0 := head0 e hc
      subst h0
      rw [numL_lt (by decide)] at e
      rw [← e, hc]
      rfl
    · rw [decide_eq_false hc]
      rfl
theorem num_free {s : Nat} (h : s < 48) (W : Nat) : s ∉ numL W := fun z => by
  have := num_all W s z
  omega
/-- what the parts of a text say -/
theorem says_none {W : Nat} (h : W < 10000) : says (parts (numL W)).1 (parts (numL W)).2 = some ((W : Int) * 10000000) := by
  rw [parts_none (num_free (by decide) W)]
  unfold says
  rw [if_pos (whole_num h)]
  exact congrArg some (by
    unfold val
    rw [numL_val])
theorem says_some {W : Nat} {q : List Nat} (h : W < 10000) (hq : hasD q 7 = true) : says (parts (numL W ++ ([46] ++ q))).1 (parts (numL W ++ ([46] ++ q))).2 = some ((W : Int) * 10000000 + val (Ra.fill q)) := by
  rw [parts_some (num_free (by decide) W)]
  unfold says
  rw [if_pos (whole_num h)]
  show (if hasD q 7 = true then _ else none) = _
  rw [if_pos hq]
  exact congrArg some (by
    unfold val
    rw [numL_val])
theorem num_neg (W : Nat) (t : List Nat) : neg (numL W ++ t) = false ∧ body (numL W ++ t) = numL W ++ t := by
  obtain ⟨c, r, e, h1, h2⟩ := num_head W
  rw [e]
  exact ⟨decide_eq_false (by omega), if_neg (by omega)⟩
theorem rd_sign {a : Int} {t : List Nat} {W : Nat} {v : Int} (h : says (parts (numL W ++ t)).1 (parts (numL W ++ t)).2 = some v) (hv : v = (a.natAbs : Int)) : rdA ((if a < 0 then [45] else []) ++ (numL W ++ t)) = some a := by
  unfold rdA
  by_cases ha : a < 0
  · rw [if_pos ha]
    show ((says (parts (numL W ++ t)).1 (parts (numL W ++ t)).2).map (sg true)) = some a
    rw [h]
    exact congrArg some (by
      show -v = a
      omega)
  · rw [if_neg ha, List.nil_append, (num_neg W t).1, (num_neg W t).2, h]
    exact congrArg some (by
      show v = a
      omega)
theorem hasD_q {q : List Nat} (h1 : 1 ≤ q.length) (h2 : q.length ≤ 7) (h3 : q.all dig = true) : hasD q 7 = true := by
  unfold hasD
  rw [h3, decide_eq_true h1, decide_eq_true h2]
  rfl
theorem rep_dig (i : Nat) : (List.replicate i 48).all dig = true := List.all_eq_true.mpr fun c hc => by
  rw [(List.mem_replicate.mp hc).2]
  rfl
theorem strip_dig (r : Nat) : (strip0 (pad 7 r)).all dig = true := List.all_eq_true.mpr fun c hc => List.all_eq_true.mp (pad_dig 7 r) c ((strip_sub _).2 c hc)
/-- with zeros behind its digits a text says the same -/
theorem rd_long {a : Int} {i : Nat} (ha : a.natAbs < 100000000000) (h1 : 1 ≤ (strip0 (pad 7 (a.natAbs % 10000000))).length + i) (h7 : (strip0 (pad 7 (a.natAbs % 10000000))).length + i ≤ 7) :
    rdA ((if a < 0 then [45] else []) ++ (numL (a.natAbs / 10000000) ++ ([46] ++ (strip0 (pad 7 (a.natAbs % 10000000)) ++ List.replicate i 48)))) = some a := by
  have hr : a.natAbs % 10000000 < 10000000 := Nat.mod_lt _ (by decide)
  refine rd_sign (says_some (by omega) (hasD_q (by rw [List.length_append, List.length_replicate]; exact h1) (by rw [List.length_append, List.length_replicate]; exact h7) (by rw [List.all_append, strip_dig, rep_dig]; rfl))) ?_
  rw [fill_strip h7]
  unfold val
  rw [val_pad, Nat.mod_eq_of_lt (show a.natAbs % 10000000 < 10 ^ 7 from hr)]
  omega
theorem rd_short {a : Int} (ha : a.natAbs < 100000000000) (h0 : a.natAbs % 10000000 = 0) : rdA ((if a < 0 then [45] else []) ++ (numL (a.natAbs / 10000000) ++ [])) = some a := by
  refine rd_sign (v := ((a.natAbs / 10000000 : Nat) : Int) * 10000000) ?_ (by omega)
  rw [List.append_nil]
  exact says_none (by omega)
theorem rd_text {a : Int} (ha : a.natAbs < 100000000000) : rdA ((if a < 0 then [45] else []) ++ (numL (a.natAbs / 10000000) ++ tailL (a.natAbs % 10000000))) = some a := by
  unfold tailL
  by_cases h0 : a.natAbs % 10000000 = 0
  · rw [if_pos h0]
    exact rd_short ha h0
  · rw [if_neg h0]
    have h1 := List.length_pos_iff.mpr (strip_ne h0 (show a.natAbs % 10000000 < 10 ^ 7 from Nat.mod_lt _ (by decide)))
    have h2 := (strip_sub (pad 7 (a.natAbs % 10000000))).1
    rw [pad_len] at h2
    have := rd_long (a := a) (i := 0) ha (by omega) (by omega)
    rw [List.replicate_zero, List.append_nil] at this
    exact this
end Rb

/-! Own data: areas of polygons by their corners, bits of tiles. -/
namespace Pg
abbrev Pt := Int × Int
def cr (p q : Pt) : Int := p.2 * q.1 - q.2 * p.1
theorem cr_anti (p q : Pt) : cr p q + cr q p = 0 := by
  unfold cr
  omega
def path : List Pt → Int
  | [] => 0
  | [_] => 0
  | a :: b :: r => cr a b + path (b :: r)
theorem path_join : ∀ (l : List Pt) (m : Pt) (r : List Pt), path (l ++ m :: r) = path (l ++ [m]) + path (m :: r)
  | [], m, r => by
    show path (m :: r) = path [m] + path (m :: r)
    show path (m :: r) = 0 + path (m :: r)
    omega
  | [a], m, r => by
    show cr a m + path (m :: r) = (cr a m + path [m]) + path (m :: r)
    show cr a m + path (m :: r) = (cr a m + 0) + path (m :: r)
    omega
  | a :: b :: l, m, r => by
    have := path_join (b :: l) m r
    show cr a b + path ((b :: l) ++ m :: r) = (cr a b + path ((b :: l) ++ [m])) + path (m :: r)
    omega
def area2 : List Pt → Int
  | [] => 0
  | a :: r => path (a :: r ++ [a])
theorem area_rot (l m : List Pt) : area2 (l ++ m) = area2 (m ++ l) := by
  cases l with
  | nil => rw [List.nil_append, List.append_nil]
  | cons a l =>
    cases m with
    | nil => rw [List.nil_append, List.append_nil]
    | cons b m =>
      have e1 : area2 ((a :: l) ++ b :: m) = path ((a :: l) ++ b :: (m ++ [a])) := by
        show path (((a :: l) ++ b :: m) ++ [a]) = _
        rw [List.append_assoc]
        rfl
      have e2 : area2 ((b :: m) ++ a :: l) = path ((b :: m) ++ a :: (l ++ [b])) := by
        show path (((b :: m) ++ a :: l) ++ [b]) = _
        rw [List.append_assoc]
        rfl
      rw [e1, e2, path_join, path_join (b :: m)]
      show path ((a :: l) ++ [b]) + path ((b :: m) ++ [a]) = path ((b :: m) ++ [a]) + path ((a :: l) ++ [b])
      omega
theorem area_two (A M Z : List Pt) (p q : Pt) : area2 (p :: M ++ [q]) + area2 (q :: (Z ++ A) ++ [p]) = area2 (A ++ (p :: M ++ q :: Z)) := by
  rw [area_rot A]
  have e1 : area2 (p :: M ++ [q]) = path (p :: M ++ [q]) + cr q p := by
    show path ((p :: M ++ [q]) ++ [p]) = _
    rw [List.append_assoc]
    show path (p :: M ++ q :: [p]) = _
    rw [path_join]
    show path (p :: M ++ [q]) + (cr q p + path [p]) = _
    show path (p :: M ++ [q]) + (cr q p + 0) = _
    omega
  have e2 : area2 (q :: (Z ++ A) ++ [p]) = path (q :: (Z ++ A) ++ [p]) + cr p q := by
    show path ((q :: (Z ++ A) ++ [p]) ++ [q]) = _
    rw [List.append_assoc]
    show path (q :: (Z ++ A) ++ p :: [q]) = _
    rw [path_join]
    show path (q :: (Z ++ A) ++ [p]) + (cr p q + path [q]) = _
    show path (q :: (Z ++ A) ++ [p]) + (cr p q + 0) = _
    omega
  have e3 : area2 ((p :: M ++ q :: Z) ++ A) = path (p :: M ++ [q]) + path (q :: (Z ++ A) ++ [p]) := by
    show path (((p :: M ++ q :: Z) ++ A) ++ [p]) = _
    rw [List.append_assoc, List.append_assoc]
    show path (p :: M ++ q :: (Z ++ (A ++ [p]))) = _
    rw [path_join, ← List.append_assoc]
    rfl
  rw [e1, e2, e3]
  have := cr_anti p q
  omega
/-- by the indexes of the two corners -/
theorem area_halves (c : List Pt) {i k : Nat} (h : i < k) (hk : k < c.length) : area2 ((c.drop i).take (k - i + 1)) + area2 (c.drop k ++ c.take (i + 1)) = area2 c := by
  have hi : i < c.length := by omega
  have hc : c = c.take i ++ (c[i] :: ((c.drop (i + 1)).take (k - i - 1)) ++ c[k] :: c.drop (k + 1)) := by
    have e1 : c.drop i = c[i] :: c.drop (i + 1) := List.drop_eq_getElem_cons hi
    have e2 : c.drop k = c[k] :: c.drop (k + 1) := List.drop_eq_getElem_cons hk
    have e3 : c.drop (i + 1) = (c.drop (i + 1)).take (k - i - 1) ++ c.drop k := by
      have := (List.take_append_drop (k - i - 1) (c.drop (i + 1))).symm
      rw [List.drop_drop, show i + 1 + (k - i - 1) = k by omega] at this
      exact this
    calc c = c.take i ++ c.drop i := (List.take_append_drop i c).symm
      _ = _ := by
        rw [e1]
        conv => lhs; rw [e3, e2]
        rfl
  have h1 : (c.drop i).take (k - i + 1) = c[i] :: ((c.drop (i + 1)).take (k - i - 1)) ++ [c[k]] := by
    rw [List.drop_eq_getElem_cons hi, List.take_succ_cons]
    have e : k - i = (k - i - 1) + 1 := by omega
    conv => lhs; rw [e]
    rw [List.take_add_one, List.getElem?_drop, show i + 1 + (k - i - 1) = k by omega, List.getElem?_eq_getElem hk]
    rfl
  have h2 : c.drop k ++ c.take (i + 1) = c[k] :: (c.drop (k + 1) ++ c.take i) ++ [c[i]] := by
    rw [List.drop_eq_getElem_cons hk, List.take_add_one, List.getElem?_eq_getElem hi]
    show c[k] :: c.drop (k + 1) ++ (c.take i ++ [c[i]]) = _
    rw [← List.append_assoc]
    rfl
  rw [h1, h2]
  conv => rhs; rw [hc]
  exact area_two _ _ _ _ _
def side (p q r : Pt) : Int := (q.2 - p.2) * (r.1 - p.1) - (q.1 - p.1) * (r.2 - p.2)
theorem side_cr (p q r : Pt) : side p q r = cr p q + cr q r + cr r p := by
  unfold side cr
  simp only [Int.sub_mul, Int.mul_sub]
  have a1 := Int.mul_comm q.1 r.2
  have a2 := Int.mul_comm q.1 p.2
  have a3 := Int.mul_comm p.1 r.2
  have a4 := Int.mul_comm p.1 p.2
  have a5 := Int.mul_comm r.1 p.2
  have a6 := Int.mul_comm r.1 q.2
  have a7 := Int.mul_comm p.1 q.2
  omega
def fan (a : Pt) : List Pt → Int
  | [] => 0
  | [_] => 0
  | b :: c :: r => side a b c + fan a (c :: r)
theorem fan_area (a : Pt) : ∀ (b : Pt) (r : List Pt), fan a (b :: r) = area2 (a :: b :: r)
  | b, [] => by
    have := cr_anti a b
    show 0 = cr a b + (cr b a + 0)
    omega
  | b, c :: r => by
    have e := fan_area a c r
    have e2 : area2 (a :: c :: r) = cr a c + path (c :: r ++ [a]) := rfl
    have e3 : area2 (a :: b :: c :: r) = cr a b + (cr b c + path (c :: r ++ [a])) := rfl
    have := cr_anti a c
    rw [e3]
    show side a b c + fan a (c :: r) = _
    rw [e, e2, side_cr]
    omega
/-! ### bits -/
def join (ds : List Nat) : Nat := ds.foldl (fun a d => 2 * a + d) 0
theorem join_from (a : Nat) : ∀ ds : List Nat, ds.foldl (fun a d => 2 * a + d) a = a * 2 ^ ds.length + join ds
  | [] => by simp [join]
  | d :: r => by
    show r.foldl _ (2 * a + d) = _
    rw [join_from (2 * a + d) r]
    have e : join (d :: r) = d * 2 ^ r.length + join r := by
      show r.foldl _ (2 * 0 + d) = _
      rw [Nat.mul_zero, Nat.zero_add]
      exact join_from d r
    rw [e, List.length_cons, Nat.pow_succ, Nat.add_mul, Nat.mul_comm 2 a, Nat.mul_assoc, Nat.mul_comm 2]
    omega
theorem join_snoc (ds : List Nat) (d : Nat) : join (ds ++ [d]) = 2 * join ds + d := by
  unfold join
  rw [List.foldl_append]
  rfl
theorem join_lt : ∀ {ds : List Nat}, (∀ d ∈ ds, d < 2) → join ds < 2 ^ ds.length := by
  intro ds
  induction ds with
  | nil => exact fun _ => by decide
  | cons d r ih =>
    intro h
    have e : join (d :: r) = d * 2 ^ r.length + join r := by
      show r.foldl _ (2 * 0 + d) = _
      rw [Nat.mul_zero, Nat.zero_add]
      exact join_from d r
    have h1 := ih fun x hx => h x (List.mem_cons_of_mem _ hx)
    have h2 := h d (List.mem_cons_self ..)
    rw [e, List.length_cons, Nat.pow_succ]
    have h3 : d = 0 ∨ d = 1 := by omega
    rcases h3 with rfl | rfl
    · omega
    · omega
/-- the z lowest bits, the highest first -/
def bits (x : Nat) : Nat → List Nat
  | 0 => []
  | z + 1 => bits (x / 2) z ++ [x % 2]
theorem bits_len : ∀ (z x : Nat), (bits x z).length = z
  | 0, x => rfl
  | z + 1, x => by
    show (bits (x / 2) z ++ [x % 2]).length = _
    rw [List.length_append, bits_len z]
    rfl
theorem bits_lt : ∀ (z x : Nat), ∀ d ∈ bits x z, d < 2
  | 0, x, d, h => absurd h (List.not_mem_nil)
  | z + 1, x, d, h => by
    rcases List.mem_append.mp h with h | h
    · exact bits_lt z _ d h
    · rw [List.mem_singleton] at h
      omega
theorem join_bits : ∀ (z x : Nat), x < 2 ^ z → join (bits x z) = x
  | 0, x, h => by
    have : x = 0 := by
      rw [Nat.pow_zero] at h
      omega
    rw [this]
    rfl
  | z + 1, x, h => by
    show join (bits (x / 2) z ++ [x % 2]) = x
    rw [Nat.pow_succ] at h
    rw [join_snoc, join_bits z (x / 2) (by omega)]
    omega
theorem bits_join : ∀ (z : Nat) (ds : List Nat), ds.length = z → (∀ d ∈ ds, d < 2) → bits (join ds) z = ds
  | 0, ds, h, _ => by
    rw [List.length_eq_zero_iff.mp h]
    rfl
  | z + 1, ds, h, hd => by
    have hne : ds ≠ [] := fun e => by rw [e] at h; cases h
    obtain ⟨l, d, rfl⟩ : ∃ l d, ds = l ++ [d] := ⟨ds.dropLast, ds.getLast hne, (List.dropLast_concat_getLast hne).symm⟩
    rw [List.length_append, List.length_singleton] at h
    have h1 := hd d (by simp)
    have h2 := bits_join z l (by omega) fun x hx => hd x (List.mem_append_left _ hx)
    rw [join_snoc]
    show bits ((2 * join l + d) / 2) z ++ [(2 * join l + d) % 2] = _
    rw [show (2 * join l + d) / 2 = join l by omega, show (2 * join l + d) % 2 = d by omega, h2]
theorem bits_at : ∀ (z x k : Nat), k < z → (bits x z)[k]? = some (x / 2 ^ (z - 1 - k) % 2)
  | 0, x, k, h => absurd h (Nat.not_lt_zero _)
  | z + 1, x, k, h => by
    show (bits (x / 2) z ++ [x % 2])[k]? = _
    by_cases e : k < z
    · rw [List.getElem?_append_left (by rw [bits_len]; exact e), bits_at z (x / 2) k e, Nat.div_div_eq_div_mul, ← Nat.pow_succ']
      rw [show (z - 1 - k).succ = z + 1 - 1 - k by omega]
    · have e2 : k = z := by omega
      subst e2
      rw [List.getElem?_append_right (by rw [bits_len]; exact Nat.le_refl _), bits_len, Nat.sub_self]
      rw [show k + 1 - 1 - k = 0 by omega, Nat.pow_zero, Nat.div_one]
      rfl
end Pg

/-! Own data layer: what slots hold as data, whatever the heap; expressions, statements and defs told by data alone. -/
namespace Ja
open PySem PySem.Spec PyProof.Rows L2 Evl Cm
mutual
/-- a value as data, its lists tracked -/
inductive Dt (K : PySem.W.Frag) (H : Hp) : V → PyData → Prop
  | non : Dt K H .non .none
  | bl (b : Bool) : Dt K H (.bl b) (.bool b)
  | int (i : Int) : Dt K H (.int i) (.int i)
  | str (x : Str) : Dt K H (.str x) (.str x)
  | lst {a : Addr} {xs : List V} {ds : List PyData} : H a = some (.lst xs) → DtAll K H xs ds → Dt K H (.ref a) (.list ds)
  | tup {a : Addr} {xs : List V} {ds : List PyData} : SqT K H a xs → DtAll K H xs ds → Dt K H (.ref a) (.tuple ds)
inductive DtAll (K : PySem.W.Frag) (H : Hp) : List V → List PyData → Prop
  | nil : DtAll K H [] []
  | cons {v : V} {vs : List V} {d : PyData} {ds : List PyData} : Dt K H v d → DtAll K H vs ds → DtAll K H (v :: vs) (d :: ds)
end
section
variable {K : PySem.W.Frag} {H H' : Hp}
mutual
theorem dt_mono (e : Ex H H') : ∀ (d : PyData) (v : V), Dt K H v d → Dt K H' v d
  | _, _, .non => .non
  | _, _, .bl b => .bl b
  | _, _, .int i => .int i
  | _, _, .str x => .str x
  | _, _, .lst h a => .lst (e _ _ h) (dts_mono e _ _ a)
  | _, _, .tup h a => .tup (ex_t e h) (dts_mono e _ _ a)
theorem dts_mono (e : Ex H H') : ∀ (ds : List PyData) (vs : List V), DtAll K H vs ds → DtAll K H' vs ds
  | _, _, .nil => .nil
  | _, _, .cons h t => .cons (dt_mono e _ _ h) (dts_mono e _ _ t)
end
mutual
theorem dt_dp : ∀ (d : PyData) (v : V), Dt K H v d → Dp K H v d
  | _, _, .non => .non
  | _, _, .bl b => .bl b
  | _, _, .int i => .int i
  | _, _, .str x => .str x
  | _, _, .lst h a => .lst (sq_of h) (dts_dp _ _ a)
  | _, _, .tup h a => .tup h (dts_dp _ _ a)
theorem dts_dp : ∀ (ds : List PyData) (vs : List V), DtAll K H vs ds → DpAll K H vs ds
  | _, _, .nil => .nil
  | _, _, .cons h t => .cons (dt_dp _ _ h) (dts_dp _ _ t)
end
theorem DtAll.len : ∀ {vs : List V} {ds : List PyData}, DtAll K H vs ds → vs.length = ds.length
  | _, _, .nil => rfl
  | _, _, .cons _ r => congrArg (· + 1) r.len
theorem DtAll.get : ∀ {vs : List V} {ds : List PyData}, DtAll K H vs ds → ∀ {i : Nat} {d : PyData}, ds[i]? = some d → ∃ v, vs[i]? = some v ∧ Dt K H v d
  | _, _, .cons h r, 0, d, e => by
    cases Option.some.inj e
    exact ⟨_, rfl, h⟩
  | _, _, .cons h r, i + 1, d, e => r.get (i := i) e
theorem DtAll.getV : ∀ {vs : List V} {ds : List PyData}, DtAll K H vs ds → ∀ {i : Nat} {v : V}, vs[i]? = some v → ∃ d, ds[i]? = some d ∧ Dt K H v d
  | _, _, .cons h r, 0, d, e => by
    cases Option.some.inj e
    exact ⟨_, rfl, h⟩
  | _, _, .cons h r, i + 1, d, e => r.getV (i := i) e
theorem DtAll.app : ∀ {vs ws : List V} {ds es : List PyData}, DtAll K H vs ds → DtAll K H ws es → DtAll K H (vs ++ ws) (ds ++ es)
  | _, _, _, _, .nil, h => h
  | _, _, _, _, .cons h r, h2 => .cons h (r.app h2)
theorem DtAll.one {v : V} {d : PyData} (h : Dt K H v d) : DtAll K H [v] [d] := .cons h .nil
theorem DtAll.take : ∀ {vs : List V} {ds : List PyData}, DtAll K H vs ds → ∀ n, DtAll K H (vs.take n) (ds.take n)
  | _, _, h, 0 => by
    rw [List.take_zero, List.take_zero]
    exact .nil
  | _, _, .nil, n + 1 => .nil
  | _, _, .cons h r, n + 1 => .cons h (r.take n)
theorem DtAll.drop : ∀ {vs : List V} {ds : List PyData}, DtAll K H vs ds → ∀ n, DtAll K H (vs.drop n) (ds.drop n)
  | _, _, h, 0 => h
  | _, _, .nil, n + 1 => .nil
  | _, _, .cons h r, n + 1 => r.drop n
theorem DtAll.of : ∀ {vs : List V} {ds : List PyData}, vs.length = ds.length → (∀ (i : Nat) v d, vs[i]? = some v → ds[i]? = some d → Dt K H v d) → DtAll K H vs ds
  | [], [], _, _ => .nil
  | [], _ :: _, h, _ => by simp at h
  | _ :: _, [], h, _ => by simp at h
  | v :: vs, d :: ds, h, g => .cons (g 0 v d rfl rfl) (DtAll.of (by simpa using h) fun i x y a b => g (i + 1) x y a b)
theorem DtAll.set : ∀ {vs : List V} {ds : List PyData}, DtAll K H vs ds → ∀ (i : Nat) {v : V} {d : PyData}, Dt K H v d → DtAll K H (vs.set i v) (ds.set i d)
  | _, _, .nil, _, _, _, _ => .nil
  | _, _, .cons h r, 0, _, _, g => .cons g r
  | _, _, .cons h r, i + 1, _, _, g => .cons h (r.set i g)
theorem DtAll.rev {vs : List V} {ds : List PyData} (h : DtAll K H vs ds) : DtAll K H vs.reverse ds.reverse := by
  have hl := h.len
  refine .of (by simpa using hl) fun i v d a b => ?_
  have hi : i < vs.length := by
    have := (List.getElem?_eq_some_iff.mp a).1
    simpa using this
  rw [List.getElem?_reverse hi] at a
  rw [List.getElem?_reverse (by omega)] at b
  obtain ⟨e, h1, h2⟩ := h.getV a
  rw [hl] at h1
  rw [h1] at b
  cases Option.some.inj b
  exact h2
theorem dt_ints : ∀ (ns : List Int), DtAll K H (ns.map V.int) (ns.map PyData.int)
  | [] => .nil
  | n :: r => .cons (.int n) (dt_ints r)
theorem dt_ints_inv : ∀ {vs : List V} (ns : List Int), DtAll K H vs (ns.map PyData.int) → vs = ns.map V.int
  | _, [], .nil => rfl
  | _, n :: r, .cons h t => by
    cases h
    rw [dt_ints_inv r t]
    rfl
theorem dt_strs_inv : ∀ {vs : List V} (ns : List Str), DtAll K H vs (ns.map PyData.str) → vs = ns.map V.str
  | _, [], .nil => rfl
  | _, n :: r, .cons h t => by
    cases h
    rw [dt_strs_inv r t]
    rfl
end
/-- what is true of a value, and stays so -/
structure MP where
  P : Hp → V → Prop
  mono : ∀ {B B' : Hp} {v : V}, Ex B B' → P B v → P B' v
inductive Sl where
  | no
  | raw (v : V)
  | dat (d : PyData)
  | own (ds : List PyData)
  | sem (m : MP)
abbrev nI (i : Int) : Sl := .dat (.int i)
abbrev nB (b : Bool) : Sl := .dat (.bool b)
abbrev nS (x : Str) : Sl := .dat (.str x)
/-- a list of ints that is only read -/
def scrP (K : PySem.W.Frag) (ns : List Int) : MP := ⟨fun B v => ∃ a, v = .ref a ∧ SqL K B a (ns.map V.int), fun e ⟨a, h1, h2⟩ => ⟨a, h1, ex_l e h2⟩⟩
/-- what a value is -/
def Is (K : PySem.W.Frag) (B : Hp) (v : V) : Sl → Prop
  | .raw w => v = w
  | .dat d => Dt K B v d
  | .sem m => m.P B v
  | _ => False
def Vl : Sl → Bool
  | .no => false
  | .own _ => false
  | _ => true
theorem Is.vl {K : PySem.W.Frag} {B : Hp} {v : V} : ∀ {s : Sl}, Is K B v s → Vl s = true
  | .raw _, _ => rfl
  | .dat _, _ => rfl
  | .sem _, _ => rfl
  | .no, h => h.elim
  | .own _, h => h.elim
inductive IsAll (K : PySem.W.Frag) (B : Hp) : List V → List Sl → Prop
  | nil : IsAll K B [] []
  | cons {v : V} {vs : List V} {s : Sl} {ss : List Sl} : Is K B v s → IsAll K B vs ss → IsAll K B (v :: vs) (s :: ss)
/-- from the base B and the heap H to B', H' -/
structure Stp (B H B' H' : Hp) : Prop where
  b : Ex B B'
  bh : Ex B' H'
  h : Ex H H'
  n : ∀ a, B' a ≠ none → B a ≠ none ∨ H a = none
theorem Is.mono {K : PySem.W.Frag} {B B' : Hp} {v : V} (e : Ex B B') : ∀ {s : Sl}, Is K B v s → Is K B' v s
  | .raw _, h => h
  | .dat d, h => dt_mono e d v h
  | .sem m, h => m.mono e h
  | .no, h => h
  | .own _, h => h
theorem IsAll.mono {K : PySem.W.Frag} {B B' : Hp} (e : Ex B B') : ∀ {vs : List V} {ss : List Sl}, IsAll K B vs ss → IsAll K B' vs ss
  | _, _, .nil => .nil
  | _, _, .cons h r => .cons (h.mono e) (r.mono e)
theorem IsAll.len {K : PySem.W.Frag} {B : Hp} : ∀ {vs : List V} {ss : List Sl}, IsAll K B vs ss → vs.length = ss.length
  | _, _, .nil => rfl
  | _, _, .cons _ r => congrArg (· + 1) r.len
theorem Stp.refl {B H : Hp} (e : Ex B H) : Stp B H B H := ⟨.refl _, e, .refl _, fun a h => .inl h⟩
theorem none_of {H H' : Hp} {a : Addr} (e : Ex H H') (h : H' a = none) : H a = none := fresh_back e h
theorem Stp.trans {B H B1 H1 B2 H2 : Hp} (x : Stp B H B1 H1) (y : Stp B1 H1 B2 H2) : Stp B H B2 H2 := ⟨x.b.trans y.b, y.bh, x.h.trans y.h, fun a h => by
  rcases y.n a h with h | h
  · exact x.n a h
  · exact .inr (none_of x.h h)⟩
/-- a new object -/
theorem Stp.new {B H : Hp} {p : Addr} {o : HO} (e : Ex B H) (hp : H p = none) : Stp B H (upd B p o) (upd H p o) := by
  have hb : B p = none := none_of e hp
  refine ⟨Ex.new hb, fun a u h => ?_, Ex.new hp, fun a h => ?_⟩
  · by_cases z : a = p
    · subst z
      rw [upd_same] at h ⊢
      exact h
    · rw [upd_ne z] at h ⊢
      exact e a u h
  · by_cases z : a = p
    · subst z
      exact .inr hp
    · rw [upd_ne z] at h
      exact .inl h
/-- slots, as data over the base B; lists of its own beside it -/
structure Sc (K : PySem.W.Frag) (B0 H0 B H : Hp) (σ : L2.St) (δ : List Sl) : Prop where
  st : Stp B0 H0 B H
  len : σ.length = δ.length
  val : ∀ (i : Nat) (s : Sl), δ[i]? = some s → Vl s = true → ∃ v, σ[i]? = some (some v) ∧ Is K B v s
  own : ∀ (i : Nat) (ds : List PyData), δ[i]? = some (Sl.own ds) → ∃ l vs, σ[i]? = some (some (V.ref l)) ∧ H l = some (.lst vs) ∧ B l = none ∧ H0 l = none ∧ DtAll K B vs ds
  dis : ∀ (i j : Nat) (ds es : List PyData) (l : Addr), δ[i]? = some (Sl.own ds) → δ[j]? = some (Sl.own es) → σ[i]? = some (some (V.ref l)) → σ[j]? = some (some (V.ref l)) → i = j
section
variable {K : PySem.W.Frag} {B0 H0 B H B' H' : Hp} {σ : L2.St} {δ : List Sl}
/-- on to a later base and heap: nothing of its own has changed -/
theorem Sc.go (h : Sc K B0 H0 B H σ δ) (s : Stp B H B' H') : Sc K B0 H0 B' H' σ δ := by
  refine ⟨h.st.trans s, h.len, fun i t hi ht => ?_, fun i ds hi => ?_, h.dis⟩
  · obtain ⟨v, h1, h2⟩ := h.val i t hi ht
    exact ⟨v, h1, h2.mono s.b⟩
  · obtain ⟨l, vs, h1, h2, h3, h4, h5⟩ := h.own i ds hi
    refine ⟨l, vs, h1, s.h l _ h2, ?_, h4, dts_mono s.b ds vs h5⟩
    cases e : B' l with
    | none => rfl
    | some o =>
      rcases s.n l (by rw [e]; exact fun z => by cases z) with z | z
      · exact absurd h3 z
      · rw [h2] at z
        cases z
theorem get_set_cases {α : Type} {l : List α} {i j : Nat} {x y : α} (h : (l.set i x)[j]? = some y) : (i = j ∧ x = y ∧ i < l.length) ∨ (i ≠ j ∧ l[j]? = some y) := by
  by_cases e : i = j
  · subst e
    rw [List.getElem?_set_self'] at h
    cases hl : l[i]? with
    | none =>
      rw [hl] at h
      cases h
    | some z =>
      rw [hl] at h
      exact .inl ⟨rfl, Option.some.inj h, (List.getElem?_eq_some_iff.mp hl).1⟩
  · rw [List.getElem?_set_ne e] at h
    exact .inr ⟨e, h⟩
theorem get_set_ne {α : Type} {l : List α} {i j : Nat} {x y : α} (e : i ≠ j) (h : l[j]? = some y) : (l.set i x)[j]? = some y := by
  rw [List.getElem?_set_ne e]
  exact h
theorem get_set_eq {α : Type} {l : List α} {i : Nat} {x : α} (h : i < l.length) : (l.set i x)[i]? = some x := by
  rw [List.getElem?_set_self h]
/-- a slot takes a value of which s is true, or nothing is said of it any more -/
theorem Sc.set' (h : Sc K B0 H0 B H σ δ) {o : Option V} {s : Sl} (i : Nat) (hv : (∃ v, o = some v ∧ Is K B v s) ∨ s = .no) : Sc K B0 H0 B H (σ.set i o) (δ.set i s) := by
  have hn : ∀ {j : Nat} {ds : List PyData}, (δ.set i s)[j]? = some (Sl.own ds) → i ≠ j ∧ δ[j]? = some (Sl.own ds) := fun {j ds} hj => by
    rcases get_set_cases hj with ⟨e1, e2, e3⟩ | ⟨e1, e2⟩
    · rcases hv with ⟨v, _, hv⟩ | hv
      · rw [e2] at hv
        exact hv.elim
      · rw [hv] at e2
        cases e2
    · exact ⟨e1, e2⟩
  refine ⟨h.st, by rw [List.length_set, List.length_set, h.len], fun j t hj ht => ?_, fun j ds hj => ?_, fun j k ds es l hj hk h1 h2 => ?_⟩
  · rcases get_set_cases hj with ⟨rfl, e2, e3⟩ | ⟨e1, e2⟩
    · subst e2
      rcases hv with ⟨v, rfl, hv⟩ | hv
      · exact ⟨v, get_set_eq (by rw [h.len]; exact e3), hv⟩
      · rw [hv] at ht
        cases ht
    · obtain ⟨w, h1, h2⟩ := h.val j t e2 ht
      exact ⟨w, get_set_ne e1 h1, h2⟩
  · obtain ⟨e1, e2⟩ := hn hj
    obtain ⟨l, vs, h1, h2⟩ := h.own j ds e2
    exact ⟨l, vs, get_set_ne e1 h1, h2⟩
  · obtain ⟨e1, e2⟩ := hn hj
    obtain ⟨e3, e4⟩ := hn hk
    rw [List.getElem?_set_ne e1] at h1
    rw [List.getElem?_set_ne e3] at h2
    exact h.dis j k ds es l e2 e4 h1 h2
theorem Sc.set (h : Sc K B0 H0 B H σ δ) {v : V} {s : Sl} (i : Nat) (hv : Is K B v s) : Sc K B0 H0 B H (σ.set i (some v)) (δ.set i s) := h.set' i (.inl ⟨v, rfl, hv⟩)
/-- .. with any value in it -/
theorem Sc.put (h : Sc K B0 H0 B H σ δ) (i : Nat) (o : Option V) : Sc K B0 H0 B H (σ.set i o) (δ.set i Sl.no) := h.set' i (.inr rfl)
/-- a new list of its own -/
theorem Sc.setO (h : Sc K B0 H0 B H σ δ) {l : Addr} {vs : List V} {ds : List PyData} (i : Nat) (h1 : H l = some (.lst vs)) (h2 : B l = none) (h3 : H0 l = none) (h4 : DtAll K B vs ds) (h5 : ∀ (j : Nat) (es : List PyData), i ≠ j → δ[j]? = some (Sl.own es) → σ[j]? ≠ some (some (V.ref l))) : Sc K B0 H0 B H (σ.set i (some (V.ref l))) (δ.set i (Sl.own ds)) := by
  refine ⟨h.st, by rw [List.length_set, List.length_set, h.len], fun j t hj ht => ?_, fun j es hj => ?_, fun j k es fs m hj hk g1 g2 => ?_⟩
  · rcases get_set_cases hj with ⟨_, e2, _⟩ | ⟨e1, e2⟩
    · subst e2
      cases ht
    · obtain ⟨w, g1, g2⟩ := h.val j t e2 ht
      exact ⟨w, get_set_ne e1 g1, g2⟩
  · rcases get_set_cases hj with ⟨rfl, e2, e3⟩ | ⟨e1, e2⟩
    · cases e2
      exact ⟨l, vs, get_set_eq (by rw [h.len]; exact e3), h1, h2, h3, h4⟩
    · obtain ⟨m, ws, g1, g2⟩ := h.own j es e2
      exact ⟨m, ws, get_set_ne e1 g1, g2⟩
  · rcases get_set_cases hj with ⟨rfl, e2, e3⟩ | ⟨e1, e2⟩
    · rcases get_set_cases hk with ⟨rfl, _, _⟩ | ⟨f1, f2⟩
      · rfl
      · rw [get_set_eq (by rw [h.len]; exact e3)] at g1
        rw [List.getElem?_set_ne f1] at g2
        cases Option.some.inj (Option.some.inj g1)
        exact absurd g2 (h5 k fs f1 f2)
    · rcases get_set_cases hk with ⟨rfl, _, f3⟩ | ⟨f1, f2⟩
      · rw [get_set_eq (by rw [h.len]; exact f3)] at g2
        rw [List.getElem?_set_ne e1] at g1
        cases Option.some.inj (Option.some.inj g2)
        exact absurd g1 (h5 j es e1 e2)
      · rw [List.getElem?_set_ne e1] at g1
        rw [List.getElem?_set_ne f1] at g2
        exact h.dis j k es fs m e2 f2 g1 g2
/-- a list of its own that was changed -/
theorem Sc.mut (h : Sc K B0 H0 B H σ δ) {i : Nat} {ds es : List PyData} {l : Addr} {ws : List V} (hi : δ[i]? = some (Sl.own ds)) (hl : σ[i]? = some (some (V.ref l))) (hw : DtAll K B ws es) : Sc K B0 H0 B (upd H l (.lst ws)) σ (δ.set i (Sl.own es)) := by
  obtain ⟨l', vs, g1, g2, g3, g4, g5⟩ := h.own i ds hi
  rw [hl] at g1
  cases Option.some.inj (Option.some.inj g1)
  have hlt : i < δ.length := (List.getElem?_eq_some_iff.mp hi).1
  refine ⟨⟨h.st.b, fun a o ha => ?_, Ex.mut h.st.h g4, h.st.n⟩, by rw [List.length_set, h.len], fun j t hj ht => ?_, fun j fs hj => ?_, fun j k fs hs m hj hk k1 k2 => ?_⟩
  · rw [upd_ne (fun z => by rw [z, g3] at ha; cases ha)]
    exact h.st.bh a o ha
  · rcases get_set_cases hj with ⟨_, e2, _⟩ | ⟨e1, e2⟩
    · subst e2
      cases ht
    · exact h.val j t e2 ht
  · rcases get_set_cases hj with ⟨rfl, e2, e3⟩ | ⟨e1, e2⟩
    · cases e2
      exact ⟨l, ws, hl, upd_same, g3, g4, hw⟩
    · obtain ⟨m, us, q1, q2, q3⟩ := h.own j fs e2
      refine ⟨m, us, q1, ?_, q3⟩
      rw [upd_ne (fun z => by
        subst z
        exact e1 (h.dis i j ds fs m hi e2 hl q1))]
      exact q2
  · have same : ∀ {j : Nat} {fs : List PyData}, (δ.set i (Sl.own es))[j]? = some (Sl.own fs) → ∃ gs, δ[j]? = some (Sl.own gs) := fun {j fs} hj => by
      rcases get_set_cases hj with ⟨rfl, _, _⟩ | ⟨e1, e2⟩
      · exact ⟨ds, hi⟩
      · exact ⟨fs, e2⟩
    obtain ⟨_, s1⟩ := same hj
    obtain ⟨_, s2⟩ := same hk
    exact h.dis j k _ _ m s1 s2 k1 k2
/-- a list of its own, from now on data -/
theorem Sc.freeze (h : Sc K B0 H0 B H σ δ) {i : Nat} {ds : List PyData} (hi : δ[i]? = some (Sl.own ds)) : ∃ B', Ex B B' ∧ Sc K B0 H0 B' H σ (δ.set i (Sl.dat (.list ds))) := by
  obtain ⟨l, vs, g1, g2, g3, g4, g5⟩ := h.own i ds hi
  have eb : Ex B (upd B l (.lst vs)) := Ex.new g3
  have bh : Ex (upd B l (.lst vs)) H := fun a o ha => by
    by_cases z : a = l
    · subst z
      rw [upd_same] at ha
      rw [g2]
      exact ha
    · rw [upd_ne z] at ha
      exact h.st.bh a o ha
  refine ⟨upd B l (.lst vs), eb, ⟨h.st.b.trans eb, bh, h.st.h, fun a ha => ?_⟩, by rw [List.length_set, h.len], fun j t hj ht => ?_, fun j es hj => ?_, fun j k fs hs m hj hk k1 k2 => ?_⟩
  · by_cases z : a = l
    · subst z
      exact .inr g4
    · rw [upd_ne z] at ha
      exact h.st.n a ha
  · rcases get_set_cases hj with ⟨rfl, e2, e3⟩ | ⟨e1, e2⟩
    · subst e2
      exact ⟨V.ref l, g1, .lst upd_same (dts_mono eb ds vs g5)⟩
    · obtain ⟨w, q1, q2⟩ := h.val j t e2 ht
      exact ⟨w, q1, q2.mono eb⟩
  · rcases get_set_cases hj with ⟨_, e2, _⟩ | ⟨e1, e2⟩
    · cases e2
    · obtain ⟨m, us, q1, q2, q3, q4, q5⟩ := h.own j es e2
      refine ⟨m, us, q1, q2, ?_, q4, dts_mono eb es us q5⟩
      rw [upd_ne (fun z => by
        subst z
        exact e1 (h.dis i j ds es m hi e2 g1 q1))]
      exact q3
  · rcases get_set_cases hj with ⟨_, e2, _⟩ | ⟨e1, e2⟩
    · cases e2
    · rcases get_set_cases hk with ⟨_, f2, _⟩ | ⟨f1, f2⟩
      · cases f2
      · exact h.dis j k fs hs m e2 f2 k1 k2
/-- at the entry of a def -/
theorem sc_start {vs : List V} {ss : List Sl} (n : Nat) (e : Ex B H) (h : IsAll K B vs ss) : Sc K B H B H (vs.map some ++ List.replicate n none) (ss ++ List.replicate n Sl.no) := by
  have hl := h.len
  have key : ∀ {vs : List V} {ss : List Sl}, IsAll K B vs ss → ∀ (i : Nat) (s : Sl), ss[i]? = some s → ∃ v, vs[i]? = some v ∧ Is K B v s := by
    intro vs ss h
    induction h with
    | nil => intro i s hi; simp at hi
    | cons h r ih =>
      intro i s hi
      cases i with
      | zero =>
        cases Option.some.inj hi
        exact ⟨_, rfl, h⟩
      | succ i => exact ih i s hi
  have g : ∀ (i : Nat) (s : Sl), (ss ++ List.replicate n Sl.no)[i]? = some s → s ≠ .no → ∃ v, (vs.map some ++ List.replicate n none)[i]? = some (some v) ∧ Is K B v s := fun i s hi hs => by
    by_cases z : i < ss.length
    · rw [List.getElem?_append_left z] at hi
      obtain ⟨v, h1, h2⟩ := key h i s hi
      exact ⟨v, by rw [List.getElem?_append_left (by rw [List.length_map]; omega), List.getElem?_map, h1]; rfl, h2⟩
    · rw [List.getElem?_append_right (by omega)] at hi
      have := (List.mem_replicate.mp (List.mem_of_getElem? hi)).2
      exact absurd this hs
  refine ⟨.refl e, by simp [hl], fun i t hi ht => g i t hi (by intro z; rw [z] at ht; cases ht), fun i ds hi => ?_, fun i j ds es l hi hj h1 h2 => ?_⟩
  · obtain ⟨w, h1, h2⟩ := g i _ hi (by intro z; cases z)
    exact h2.elim
  · obtain ⟨w, _, h3⟩ := g i _ hi (by intro z; cases z)
    exact h3.elim
end
end Ja

/-! Own data layer: expressions. -/
namespace Ja
open PySem PySem.Spec PyProof.Rows L2 Evl Cm
/-- an expression gives a value of which s is true -/
def EvS (K : PySem.W.Frag) (B0 H0 : Hp) (te : TE) (δ : List Sl) (s : Sl) : Prop := ∀ B H σ, Sc K B0 H0 B H σ δ → ∀ Q : VK, (∀ v B' H', Stp B H B' H' → Is K B' v s → Q v H') → te σ H Q
/-- a new list of these -/
def EvN (K : PySem.W.Frag) (B0 H0 : Hp) (te : TE) (δ : List Sl) (ds : List PyData) : Prop := ∀ B H σ, Sc K B0 H0 B H σ δ → ∀ Q : VK, (∀ l vs B' H', Stp B H B' H' → H l = none → B' l = none → H' l = some (.lst vs) → DtAll K B' vs ds → Q (.ref l) H') → te σ H Q
/-- some data of which P is true -/
def EvR (K : PySem.W.Frag) (B0 H0 : Hp) (te : TE) (δ : List Sl) (P : PyData → Prop) : Prop := ∀ B H σ, Sc K B0 H0 B H σ δ → ∀ Q : VK, (∀ v d B' H', P d → Stp B H B' H' → Dt K B' v d → Q v H') → te σ H Q
def EvB (K : PySem.W.Frag) (B0 H0 : Hp) (tt : TT) (δ : List Sl) (b : Bool) : Prop := ∀ B H σ, Sc K B0 H0 B H σ δ → ∀ Q : Bool → Hp → Prop, (∀ B' H', Stp B H B' H' → Q b H') → tt σ H Q
def EvA (K : PySem.W.Frag) (B0 H0 : Hp) (ta : TA) (δ : List Sl) (ss : List Sl) : Prop := ∀ B H σ, Sc K B0 H0 B H σ δ → ∀ Q : List V → Hp → Prop, (∀ vs B' H', Stp B H B' H' → IsAll K B' vs ss → Q vs H') → ta σ H Q
/-- all of them data -/
def EvD (K : PySem.W.Frag) (B0 H0 : Hp) (ta : TA) (δ : List Sl) (ds : List PyData) : Prop := ∀ B H σ, Sc K B0 H0 B H σ δ → ∀ Q : List V → Hp → Prop, (∀ vs B' H', Stp B H B' H' → DtAll K B' vs ds → Q vs H') → ta σ H Q
def EvO (K : PySem.W.Frag) (B0 H0 : Hp) (to : TO) (δ : List Sl) (o : Option Int) : Prop := ∀ B H σ, Sc K B0 H0 B H σ δ → ∀ Q : Option Int → Hp → Prop, (∀ B' H', Stp B H B' H' → Q o H') → to σ H Q
/-- values that are the same in every heap -/
inductive Sv : V → PyData → Prop
  | non : Sv .non .none
  | bl (b : Bool) : Sv (.bl b) (.bool b)
  | int (i : Int) : Sv (.int i) (.int i)
  | str (x : Str) : Sv (.str x) (.str x)
section
variable {K : PySem.W.Frag} {B0 H0 B H B' H' : Hp} {σ : L2.St} {δ : List Sl} {ta tb tc td te : TE} {tt tu : TT} {r r' : R2} {s s' : Sl} {d e : PyData} {ds es : List PyData} {i j k : Int} {b c : Bool} {x y z : V}
theorem Sv.eq {v : V} (h : Sv x d) (g : Dt K B v d) : v = x := by
  cases h <;> cases g <;> rfl
theorem Sv.dt (h : Sv x d) : Dt K B x d := by
  cases h
  · exact .non
  · exact .bl _
  · exact .int _
  · exact .str _
theorem bh (h : Sc K B0 H0 B H σ δ) : Ex B H := h.st.bh
theorem Stp.same (e : Ex B H) (h : Ex H H') : Stp B H B H' := ⟨.refl _, e.trans h, h, fun a q => .inl q⟩
/-! ### leaves -/
theorem d_var {n : Nat} (h : δ[n]? = some s) (hv : Vl s = true := by rfl) : EvS K B0 H0 (tVar n) δ s := fun B H σ S Q q => by
  obtain ⟨v, h1, h2⟩ := S.val n s h hv
  exact ⟨v, h1, q v B H (.refl S.st.bh) h2⟩
theorem d_ci : EvS K B0 H0 (tC (.int i)) δ (nI i) := fun B H σ S Q q => q _ B H (.refl S.st.bh) (Dt.int i)
theorem d_cb : EvS K B0 H0 (tC (.bl b)) δ (nB b) := fun B H σ S Q q => q _ B H (.refl S.st.bh) (Dt.bl b)
theorem d_cs {x : Str} : EvS K B0 H0 (tC (.str x)) δ (nS x) := fun B H σ S Q q => q _ B H (.refl S.st.bh) (Dt.str x)
theorem d_cn : EvS K B0 H0 (tC .non) δ (.dat .none) := fun B H σ S Q q => q _ B H (.refl S.st.bh) Dt.non
theorem d_cr {v : V} : EvS K B0 H0 (tC v) δ (.raw v) := fun B H σ S Q q => q _ B H (.refl S.st.bh) rfl
theorem d_is (h : EvS K B0 H0 te δ s) (e : s = s') : EvS K B0 H0 te δ s' := e ▸ h
theorem d_isI (h : EvS K B0 H0 te δ (nI i)) (e : i = j) : EvS K B0 H0 te δ (nI j) := e ▸ h
theorem d_isB (h : EvS K B0 H0 te δ (nB b)) (e : b = c) : EvS K B0 H0 te δ (nB c) := e ▸ h
theorem b_is (h : EvB K B0 H0 tt δ b) (e : b = c) : EvB K B0 H0 tt δ c := e ▸ h
theorem r_of (h : EvS K B0 H0 te δ (.dat d)) {P : PyData → Prop} (hp : P d) : EvR K B0 H0 te δ P := fun B H σ S Q q => h B H σ S Q fun v B' H' st iv => q v d B' H' hp st iv
theorem r_imp {P P' : PyData → Prop} (h : EvR K B0 H0 te δ P) (hp : ∀ d, P d → P' d) : EvR K B0 H0 te δ P' := fun B H σ S Q q => h B H σ S Q fun v d B' H' p st iv => q v d B' H' (hp d p) st iv
/-! ### operators on values that are the same in every heap -/
theorem d_op (ha : EvS K B0 H0 ta δ (.dat d)) (hb : EvS K B0 H0 tb δ (.dat e)) (sx : Sv x d) (sy : Sv y e) (hr : ∀ H, RV r x y H z) {f : PyData} (sz : Sv z f) : EvS K B0 H0 (tOp r ta tb) δ (.dat f) := fun B H σ S Q q =>
  ha B H σ S _ fun v B1 H1 s1 i1 => hb B1 H1 σ (S.go s1) _ fun w B2 H2 s2 i2 => by
    rw [sx.eq i1, sy.eq i2]
    exact hr H2 H2 (.refl _) Q fun H3 e3 => q z B2 H3 ((s1.trans s2).trans (.same s2.bh e3)) sz.dt
theorem d_ii (ha : EvS K B0 H0 ta δ (nI i)) (hb : EvS K B0 H0 tb δ (nI j)) (hr : ∀ H, RV r (.int i) (.int j) H (.int k)) : EvS K B0 H0 (tOp r ta tb) δ (nI k) := d_op ha hb (.int i) (.int j) hr (.int k)
theorem d_iib (ha : EvS K B0 H0 ta δ (nI i)) (hb : EvS K B0 H0 tb δ (nI j)) (hr : ∀ H, RV r (.int i) (.int j) H (.bl b)) : EvS K B0 H0 (tOp r ta tb) δ (nB b) := d_op ha hb (.int i) (.int j) hr (.bl b)
theorem d_bbb {b1 b2 : Bool} (ha : EvS K B0 H0 ta δ (nB b1)) (hb : EvS K B0 H0 tb δ (nB b2)) (hr : ∀ H, RV r (.bl b1) (.bl b2) H (.bl b)) : EvS K B0 H0 (tOp r ta tb) δ (nB b) := d_op ha hb (.bl b1) (.bl b2) hr (.bl b)
theorem d_ssb {x y : Str} (ha : EvS K B0 H0 ta δ (nS x)) (hb : EvS K B0 H0 tb δ (nS y)) (hr : ∀ H, RV r (.str x) (.str y) H (.bl b)) : EvS K B0 H0 (tOp r ta tb) δ (nB b) := d_op ha hb (.str x) (.str y) hr (.bl b)
theorem d_sss {x y z : Str} (ha : EvS K B0 H0 ta δ (nS x)) (hb : EvS K B0 H0 tb δ (nS y)) (hr : ∀ H, RV r (.str x) (.str y) H (.str z)) : EvS K B0 H0 (tOp r ta tb) δ (nS z) := d_op ha hb (.str x) (.str y) hr (.str z)
theorem d_sis {x z : Str} (ha : EvS K B0 H0 ta δ (nS x)) (hb : EvS K B0 H0 tb δ (nI j)) (hr : ∀ H, RV r (.str x) (.int j) H (.str z)) : EvS K B0 H0 (tOp r ta tb) δ (nS z) := d_op ha hb (.str x) (.int j) hr (.str z)
/-- a sum, a difference, a test of two ints: nothing is asked -/
theorem d_i0 {g : Int → Int → Int} (ha : EvS K B0 H0 ta δ (nI i)) (hb : EvS K B0 H0 tb δ (nI j)) : EvS K B0 H0 (tOp (rI0 fun i j => .int (g i j)) ta tb) δ (nI (g i j)) := d_ii ha hb fun _ => rv_I0
theorem d_b0 {g : Int → Int → Bool} (ha : EvS K B0 H0 ta δ (nI i)) (hb : EvS K B0 H0 tb δ (nI j)) : EvS K B0 H0 (tOp (rI0 fun i j => .bl (g i j)) ta tb) δ (nB (g i j)) := d_iib ha hb fun _ => rv_I0
theorem d_iC {C : Int → Int → Prop} {g : Int → Int → Int} (ha : EvS K B0 H0 ta δ (nI i)) (hb : EvS K B0 H0 tb δ (nI j)) (hc : C i j) : EvS K B0 H0 (tOp (rI C fun i j => .int (g i j)) ta tb) δ (nI (g i j)) := d_ii ha hb fun _ => rv_I hc
theorem d_eqI (ha : EvS K B0 H0 ta δ (nI i)) (hb : EvS K B0 H0 tb δ (nI j)) : EvS K B0 H0 (tOp rEq ta tb) δ (nB (decide (i = j))) := d_iib ha hb fun _ H e Q q => rv_eq rfl H e Q fun H1 e1 => by
  have h := q H1 e1
  rw [show decide (V.int i = V.int j) = decide (i = j) from decide_eq_decide.mpr ⟨fun z => by cases z; rfl, fun z => by rw [z]⟩]
  exact h
theorem d_neI (ha : EvS K B0 H0 ta δ (nI i)) (hb : EvS K B0 H0 tb δ (nI j)) : EvS K B0 H0 (tOp rNe ta tb) δ (nB (!decide (i = j))) := d_iib ha hb fun _ H e Q q => rv_ne rfl H e Q fun H1 e1 => by
  have h := q H1 e1
  rw [show decide (V.int i = V.int j) = decide (i = j) from decide_eq_decide.mpr ⟨fun z => by cases z; rfl, fun z => by rw [z]⟩]
  exact h
theorem d_eqB {b1 b2 : Bool} (ha : EvS K B0 H0 ta δ (nB b1)) (hb : EvS K B0 H0 tb δ (nB b2)) : EvS K B0 H0 (tOp rEq ta tb) δ (nB (decide (b1 = b2))) := d_bbb ha hb fun _ H e Q q => rv_eq rfl H e Q fun H1 e1 => by
  have h := q H1 e1
  rw [show decide (V.bl b1 = V.bl b2) = decide (b1 = b2) from decide_eq_decide.mpr ⟨fun z => by cases z; rfl, fun z => by rw [z]⟩]
  exact h
theorem d_neB {b1 b2 : Bool} (ha : EvS K B0 H0 ta δ (nB b1)) (hb : EvS K B0 H0 tb δ (nB b2)) : EvS K B0 H0 (tOp rNe ta tb) δ (nB (!decide (b1 = b2))) := d_bbb ha hb fun _ H e Q q => rv_ne rfl H e Q fun H1 e1 => by
  have h := q H1 e1
  rw [show decide (V.bl b1 = V.bl b2) = decide (b1 = b2) from decide_eq_decide.mpr ⟨fun z => by cases z; rfl, fun z => by rw [z]⟩]
  exact h
theorem d_eqS {x y : Str} (ha : EvS K B0 H0 ta δ (nS x)) (hb : EvS K B0 H0 tb δ (nS y)) : EvS K B0 H0 (tOp rEq ta tb) δ (nB (decide (x = y))) := d_ssb ha hb fun _ H e Q q => rv_eq rfl H e Q fun H1 e1 => by
  have h := q H1 e1
  rw [show decide (V.str x = V.str y) = decide (x = y) from decide_eq_decide.mpr ⟨fun z => by cases z; rfl, fun z => by rw [z]⟩]
  exact h
theorem d_neS {x y : Str} (ha : EvS K B0 H0 ta δ (nS x)) (hb : EvS K B0 H0 tb δ (nS y)) : EvS K B0 H0 (tOp rNe ta tb) δ (nB (!decide (x = y))) := d_ssb ha hb fun _ H e Q q => rv_ne rfl H e Q fun H1 e1 => by
  have h := q H1 e1
  rw [show decide (V.str x = V.str y) = decide (x = y) from decide_eq_decide.mpr ⟨fun z => by cases z; rfl, fun z => by rw [z]⟩]
  exact h
theorem d_neg (ha : EvS K B0 H0 ta δ (nI i)) : EvS K B0 H0 (tUn (rU fun i => .int (-i)) ta) δ (nI (-i)) := fun B H σ S Q q => ha B H σ S _ fun v B1 H1 s1 i1 => by
  cases i1
  exact ⟨i, rfl, q _ B1 H1 s1 (Dt.int _)⟩
/-! ### tests -/
theorem b_test (h : EvS K B0 H0 te δ (nB b)) : EvB K B0 H0 (tTest te) δ b := fun B H σ S Q q => h B H σ S _ fun v B1 H1 s1 i1 => by
  cases i1
  exact ⟨b, rfl, q B1 H1 s1⟩
theorem b_val (h : EvS K B0 H0 te δ (nB b)) : EvB K B0 H0 (tB te) δ b := fun B H σ S Q q => h B H σ S _ fun v B1 H1 s1 i1 => by
  cases i1
  exact ⟨b, rfl, q B1 H1 s1⟩
theorem b_and (h1 : EvB K B0 H0 tt δ b) (h2 : b = true → EvB K B0 H0 tu δ c) : EvB K B0 H0 (tAnd tt tu) δ (b && c) := fun B H σ S Q q => h1 B H σ S _ fun B1 H1 s1 => by
  cases b with
  | true => exact h2 rfl B1 H1 σ (S.go s1) Q fun B2 H2 s2 => q B2 H2 (s1.trans s2)
  | false => exact q B1 H1 s1
theorem b_or (h1 : EvB K B0 H0 tt δ b) (h2 : b = false → EvB K B0 H0 tu δ c) : EvB K B0 H0 (tOr tt tu) δ (b || c) := fun B H σ S Q q => h1 B H σ S _ fun B1 H1 s1 => by
  cases b with
  | false => exact h2 rfl B1 H1 σ (S.go s1) Q fun B2 H2 s2 => q B2 H2 (s1.trans s2)
  | true => exact q B1 H1 s1
theorem b_not (h : EvB K B0 H0 tt δ b) : EvB K B0 H0 (tNot tt) δ (!b) := fun B H σ S Q q => h B H σ S _ fun B1 H1 s1 => q B1 H1 s1
theorem b_yes : EvB K B0 H0 tYes δ true := fun B H σ S Q q => q B H (.refl S.st.bh)
theorem d_andV (h1 : EvS K B0 H0 ta δ (nB b)) (h2 : b = true → EvS K B0 H0 tb δ (nB c)) : EvS K B0 H0 (tAndV ta tb) δ (nB (b && c)) := fun B H σ S Q q => h1 B H σ S _ fun v B1 H1 s1 i1 => by
  cases i1
  refine ⟨b, rfl, ?_⟩
  cases b with
  | true => exact h2 rfl B1 H1 σ (S.go s1) Q fun v B2 H2 s2 i2 => q v B2 H2 (s1.trans s2) i2
  | false => exact q _ B1 H1 s1 (Dt.bl _)
theorem d_orV (h1 : EvS K B0 H0 ta δ (nB b)) (h2 : b = false → EvS K B0 H0 tb δ (nB c)) : EvS K B0 H0 (tOrV ta tb) δ (nB (b || c)) := fun B H σ S Q q => h1 B H σ S _ fun v B1 H1 s1 i1 => by
  cases i1
  refine ⟨b, rfl, ?_⟩
  cases b with
  | false => exact h2 rfl B1 H1 σ (S.go s1) Q fun v B2 H2 s2 i2 => q v B2 H2 (s1.trans s2) i2
  | true => exact q _ B1 H1 s1 (Dt.bl _)
theorem d_notV (h : EvS K B0 H0 ta δ (nB b)) : EvS K B0 H0 (tNotV ta) δ (nB (!b)) := fun B H σ S Q q => h B H σ S _ fun v B1 H1 s1 i1 => by
  cases i1
  exact ⟨b, rfl, q _ B1 H1 s1 (Dt.bl _)⟩
theorem d_if (h : EvB K B0 H0 tt δ b) (h1 : b = true → EvS K B0 H0 ta δ s) (h2 : b = false → EvS K B0 H0 tb δ s) : EvS K B0 H0 (tIf tt ta tb) δ s := fun B H σ S Q q => h B H σ S _ fun B1 H1 s1 => by
  cases b with
  | true => exact h1 rfl B1 H1 σ (S.go s1) Q fun v B2 H2 s2 i2 => q v B2 H2 (s1.trans s2) i2
  | false => exact h2 rfl B1 H1 σ (S.go s1) Q fun v B2 H2 s2 i2 => q v B2 H2 (s1.trans s2) i2
/-- a < b < c of ints -/
theorem d_chain (ha : EvS K B0 H0 ta δ (nI i)) (hb : EvS K B0 H0 tb δ (nI j)) (hc : EvS K B0 H0 tc δ (nI k)) (h1 : ∀ H, RV r (.int i) (.int j) H (.bl b)) (h2 : ∀ H, RV r' (.int j) (.int k) H (.bl c)) : EvS K B0 H0 (tChain r r' ta tb tc) δ (nB (b && c)) := fun B H σ S Q q => by
  refine ha B H σ S _ fun v B1 H1 s1 i1 => hb B1 H1 σ (S.go s1) _ fun w B2 H2 s2 i2 => ?_
  cases i1
  cases i2
  refine h1 H2 H2 (.refl _) _ fun H3 e3 => ⟨b, rfl, ?_⟩
  have s3 := (s1.trans s2).trans (.same s2.bh e3)
  cases b with
  | true =>
    refine hc B2 H3 σ (S.go s3) _ fun u B4 H4 s4 i4 => ?_
    cases i4
    exact h2 H4 H4 (.refl _) Q fun H5 e5 => q _ B4 H5 ((s3.trans s4).trans (.same s4.bh e5)) (Dt.bl _)
  | false => exact q _ B2 H3 s3 (Dt.bl _)
/-! ### arguments, displays -/
theorem a_nil : EvA K B0 H0 tNil δ [] := fun B H σ S Q q => q [] B H (.refl S.st.bh) .nil
theorem a_cons {tr : TA} {ss : List Sl} (h : EvS K B0 H0 ta δ s) (hr : EvA K B0 H0 tr δ ss) : EvA K B0 H0 (tCons ta tr) δ (s :: ss) := fun B H σ S Q q =>
  h B H σ S _ fun v B1 H1 s1 i1 => hr B1 H1 σ (S.go s1) _ fun vs B2 H2 s2 i2 => q _ B2 H2 (s1.trans s2) (.cons (i1.mono s2.b) i2)
theorem ds_nil : EvD K B0 H0 tNil δ [] := fun B H σ S Q q => q [] B H (.refl S.st.bh) .nil
theorem ds_cons {tr : TA} (h : EvS K B0 H0 ta δ (.dat d)) (hr : EvD K B0 H0 tr δ ds) : EvD K B0 H0 (tCons ta tr) δ (d :: ds) := fun B H σ S Q q =>
  h B H σ S _ fun v B1 H1 s1 i1 => hr B1 H1 σ (S.go s1) _ fun vs B2 H2 s2 i2 => q _ B2 H2 (s1.trans s2) (.cons (dt_mono s2.b _ _ i1) i2)
theorem d_tup {ta : TA} (h : EvD K B0 H0 ta δ ds) (hl : ds.length ≤ 100000 := by exact of_decide_eq_true rfl) : EvS K B0 H0 (tTup ta) δ (.dat (.tuple ds)) := fun B H σ S Q q =>
  h B H σ S _ fun vs B1 H1 s1 i1 => ⟨by rw [i1.len]; exact sz_of hl, fun p hp => q _ _ _ (s1.trans (.new (o := .tup vs) s1.bh hp)) (.tup (st_of upd_same) (dts_mono (Ex.new (none_of s1.bh hp)) _ _ i1))⟩
theorem n_lst {ta : TA} (h : EvD K B0 H0 ta δ ds) (hl : ds.length ≤ 100000 := by exact of_decide_eq_true rfl) : EvN K B0 H0 (tLst ta) δ ds := fun B H σ S Q q =>
  h B H σ S _ fun vs B1 H1 s1 i1 => ⟨by rw [i1.len]; exact sz_of hl, fun p hp => q p vs B1 _ (s1.trans (.same s1.bh (.new hp))) (none_of s1.h hp) (none_of s1.bh hp) upd_same i1⟩
/-- a new list, as data -/
theorem d_new (h : EvN K B0 H0 te δ ds) : EvS K B0 H0 te δ (.dat (.list ds)) := fun B H σ S Q q => h B H σ S Q fun l vs B1 H1 s1 f1 f2 f3 f4 => by
  have eb : Ex B1 (upd B1 l (.lst vs)) := Ex.new f2
  refine q _ (upd B1 l (.lst vs)) H1 ⟨s1.b.trans eb, fun a o ha => ?_, s1.h, fun a ha => ?_⟩ (.lst upd_same (dts_mono eb _ _ f4))
  · by_cases z : a = l
    · subst z
      rw [upd_same] at ha
      rw [f3]
      exact ha
    · rw [upd_ne z] at ha
      exact s1.bh a o ha
  · by_cases z : a = l
    · subst z
      exact .inr f1
    · rw [upd_ne z] at ha
      exact s1.n a ha
/-! ### data compared -/
theorem d_eqD (ha : EvS K B0 H0 ta δ (.dat d)) (hb : EvS K B0 H0 tb δ (.dat e)) (h1 : SeqAt.shaped d = true) (h2 : SeqAt.shaped e = true) : EvS K B0 H0 (tOp (rEqD K) ta tb) δ (nB (PyData.eqv d e)) := fun B H σ S Q q =>
  ha B H σ S _ fun v B1 H1 s1 i1 => hb B1 H1 σ (S.go s1) _ fun w B2 H2 s2 i2 => ⟨d, e, dp_mono s2.bh _ _ (dp_mono s2.b _ _ (dt_dp _ _ i1)), dp_mono s2.bh _ _ (dt_dp _ _ i2), h1, h2, q _ B2 H2 (s1.trans s2) (Dt.bl _)⟩
theorem d_neD (ha : EvS K B0 H0 ta δ (.dat d)) (hb : EvS K B0 H0 tb δ (.dat e)) (h1 : SeqAt.shaped d = true) (h2 : SeqAt.shaped e = true) : EvS K B0 H0 (tOp (rNeD K) ta tb) δ (nB (!PyData.eqv d e)) := fun B H σ S Q q =>
  ha B H σ S _ fun v B1 H1 s1 i1 => hb B1 H1 σ (S.go s1) _ fun w B2 H2 s2 i2 => ⟨d, e, dp_mono s2.bh _ _ (dp_mono s2.b _ _ (dt_dp _ _ i1)), dp_mono s2.bh _ _ (dt_dp _ _ i2), h1, h2, q _ B2 H2 (s1.trans s2) (Dt.bl _)⟩
theorem d_inD (ha : EvS K B0 H0 ta δ (.dat d)) (hb : EvS K B0 H0 tb δ (.dat (.list ds))) (h1 : SeqAt.shaped d = true) (h2 : SeqAt.shaped (.list ds) = true) : EvS K B0 H0 (tOp (rInD K) ta tb) δ (nB (ds.any fun z => PyData.eqv z d)) := fun B H σ S Q q =>
  ha B H σ S _ fun v B1 H1 s1 i1 => hb B1 H1 σ (S.go s1) _ fun w B2 H2 s2 i2 => ⟨d, ds, dp_mono s2.bh _ _ (dp_mono s2.b _ _ (dt_dp _ _ i1)), dp_mono s2.bh _ _ (dt_dp _ _ i2), h1, h2, q _ B2 H2 (s1.trans s2) (Dt.bl _)⟩
theorem d_niD (ha : EvS K B0 H0 ta δ (.dat d)) (hb : EvS K B0 H0 tb δ (.dat (.list ds))) (h1 : SeqAt.shaped d = true) (h2 : SeqAt.shaped (.list ds) = true) : EvS K B0 H0 (tOp (rNotInD K) ta tb) δ (nB (!ds.any fun z => PyData.eqv z d)) := fun B H σ S Q q =>
  ha B H σ S _ fun v B1 H1 s1 i1 => hb B1 H1 σ (S.go s1) _ fun w B2 H2 s2 i2 => ⟨d, ds, dp_mono s2.bh _ _ (dp_mono s2.b _ _ (dt_dp _ _ i1)), dp_mono s2.bh _ _ (dt_dp _ _ i2), h1, h2, q _ B2 H2 (s1.trans s2) (Dt.bl _)⟩
/-! ### items -/
theorem at_get {vs : List V} (h : DtAll K B vs ds) (e : atI ds i = some d) : ∃ v, atI vs i = some v ∧ Dt K B v d := by
  unfold atI at e ⊢
  rw [h.len]
  cases hx : ixN ds.length i with
  | none =>
    rw [hx] at e
    cases e
  | some n =>
    rw [hx] at e
    exact h.get e
theorem d_ixT (ha : EvS K B0 H0 ta δ (.dat (.tuple ds))) (hb : EvS K B0 H0 tb δ (nI i)) (h : atI ds i = some d) : EvS K B0 H0 (tOp (rIxT K) ta tb) δ (.dat d) := fun B H σ S Q q =>
  ha B H σ S _ fun v B1 H1 s1 i1 => hb B1 H1 σ (S.go s1) _ fun w B2 H2 s2 i2 => by
    cases i2
    cases i1 with
    | tup h1 h2 =>
      obtain ⟨x, hx, dx⟩ := at_get (dts_mono s2.b _ _ h2) h
      exact ⟨_, _, i, x, rfl, rfl, ex_t (s2.b.trans s2.bh) h1, hx, q x B2 H2 (s1.trans s2) dx⟩
theorem d_ixL (ha : EvS K B0 H0 ta δ (.dat (.list ds))) (hb : EvS K B0 H0 tb δ (nI i)) (h : atI ds i = some d) : EvS K B0 H0 (tOp (rIxL K) ta tb) δ (.dat d) := fun B H σ S Q q =>
  ha B H σ S _ fun v B1 H1 s1 i1 => hb B1 H1 σ (S.go s1) _ fun w B2 H2 s2 i2 => by
    cases i2
    cases i1 with
    | lst h1 h2 =>
      obtain ⟨x, hx, dx⟩ := at_get (dts_mono s2.b _ _ h2) h
      exact ⟨_, _, i, x, rfl, rfl, sq_of ((s2.b.trans s2.bh) _ _ h1), hx, q x B2 H2 (s1.trans s2) dx⟩
/-- of a list of its own -/
theorem d_ixO {n : Nat} (ho : δ[n]? = some (Sl.own ds)) (hb : EvS K B0 H0 tb δ (nI i)) (h : atI ds i = some d) : EvS K B0 H0 (tOp (rIxL K) (tVar n) tb) δ (.dat d) := fun B H σ S Q q => by
  obtain ⟨l, vs, h1, _⟩ := S.own n ds ho
  refine ⟨.ref l, h1, hb B H σ S _ fun w B2 H2 s2 i2 => ?_⟩
  cases i2
  obtain ⟨l', ws, g1, g2, g3, g4, g5⟩ := (S.go s2).own n ds ho
  rw [h1] at g1
  cases Option.some.inj (Option.some.inj g1)
  obtain ⟨x, hx, dx⟩ := at_get g5 h
  exact ⟨_, _, i, x, rfl, rfl, sq_of g2, hx, q x B2 H2 s2 dx⟩
/-- of the script -/
theorem d_ixS {ns : List Int} (ha : EvS K B0 H0 ta δ (.sem (scrP K ns))) (hb : EvS K B0 H0 tb δ (nI i)) (h : atI ns i = some j) : EvS K B0 H0 (tOp (rIxL K) ta tb) δ (nI j) := fun B H σ S Q q =>
  ha B H σ S _ fun v B1 H1 s1 i1 => hb B1 H1 σ (S.go s1) _ fun w B2 H2 s2 i2 => by
    cases i2
    obtain ⟨a, rfl, ha⟩ := i1
    have hx : atI (ns.map V.int) i = some (.int j) := by
      unfold atI at h ⊢
      rw [List.length_map]
      cases hx : ixN ns.length i with
      | none =>
        rw [hx] at h
        cases h
      | some n =>
        rw [hx] at h
        show (ns.map V.int)[n]? = _
        rw [List.getElem?_map, show ns[n]? = some j from h]
        rfl
    exact ⟨_, _, i, _, rfl, rfl, ex_l (s2.b.trans s2.bh) ha, hx, q _ B2 H2 (s1.trans s2) (Dt.int j)⟩
/-! ### len -/
theorem d_lenL {ta : TE} (h : EvS K B0 H0 ta δ (.dat (.list ds))) : EvS K B0 H0 (tCB (fun xs H Q => ∃ x n, xs = [x] ∧ LenV K x H n ∧ Q (.int n) H) (tCons ta tNil)) δ (nI ds.length) := fun B H σ S Q q =>
  h B H σ S _ fun v B1 H1 s1 i1 => by
    cases i1 with
    | lst h1 h2 => exact ⟨_, ds.length, rfl, .inl ⟨_, sq_of (s1.bh _ _ h1), h2.len.symm⟩, q _ B1 H1 s1 (Dt.int _)⟩
theorem d_lenT {ta : TE} (h : EvS K B0 H0 ta δ (.dat (.tuple ds))) : EvS K B0 H0 (tCB (fun xs H Q => ∃ x n, xs = [x] ∧ LenV K x H n ∧ Q (.int n) H) (tCons ta tNil)) δ (nI ds.length) := fun B H σ S Q q =>
  h B H σ S _ fun v B1 H1 s1 i1 => by
    cases i1 with
    | tup h1 h2 => exact ⟨_, ds.length, rfl, .inr ⟨_, ex_t s1.bh h1, h2.len.symm⟩, q _ B1 H1 s1 (Dt.int _)⟩
theorem d_lenS {ta : TE} {x : Str} (h : EvS K B0 H0 ta δ (nS x)) (hl : x.length ≤ 100000) : EvS K B0 H0 (tCB (fun xs H Q => ∃ x n, xs = [x] ∧ LenV K x H n ∧ Q (.int n) H) (tCons ta tNil)) δ (nI x.length) := fun B H σ S Q q =>
  h B H σ S _ fun v B1 H1 s1 i1 => by
    cases i1
    exact ⟨_, x.length, rfl, ⟨sz_of hl, rfl⟩, q _ B1 H1 s1 (Dt.int _)⟩
theorem d_lenO {n : Nat} (ho : δ[n]? = some (Sl.own ds)) : EvS K B0 H0 (tCB (fun xs H Q => ∃ x n, xs = [x] ∧ LenV K x H n ∧ Q (.int n) H) (tCons (tVar n) tNil)) δ (nI ds.length) := fun B H σ S Q q => by
  obtain ⟨l, vs, h1, h2, h3, h4, h5⟩ := S.own n ds ho
  exact ⟨.ref l, h1, _, ds.length, rfl, .inl ⟨_, sq_of h2, h5.len.symm⟩, q _ B H (.refl S.st.bh) (Dt.int _)⟩
theorem d_lenSc {ns : List Int} (h : EvS K B0 H0 ta δ (.sem (scrP K ns))) : EvS K B0 H0 (tCB (fun xs H Q => ∃ x n, xs = [x] ∧ LenV K x H n ∧ Q (.int n) H) (tCons ta tNil)) δ (nI ns.length) := fun B H σ S Q q =>
  h B H σ S _ fun v B1 H1 s1 ⟨a, e, h1⟩ => by
    subst e
    exact ⟨_, ns.length, rfl, .inl ⟨_, ex_l s1.bh h1, by rw [List.length_map]⟩, q _ B1 H1 s1 (Dt.int _)⟩
/-! ### built-ins on values that are the same in every heap -/
theorem d_cb1 {rr : List V → Hp → VK → Prop} (h : EvS K B0 H0 ta δ (.dat d)) (sx : Sv x d) (hr : ∀ H, RC rr [x] H z) {f : PyData} (sz : Sv z f) : EvS K B0 H0 (tCB rr (tCons ta tNil)) δ (.dat f) := fun B H σ S Q q =>
  h B H σ S _ fun v B1 H1 s1 i1 => by
    rw [sx.eq i1]
    exact hr H1 H1 (.refl _) Q fun H2 e2 => q z B1 H2 (s1.trans (.same s1.bh e2)) sz.dt
theorem d_cb2 {rr : List V → Hp → VK → Prop} (h : EvS K B0 H0 ta δ (.dat d)) (h2 : EvS K B0 H0 tb δ (.dat e)) (sx : Sv x d) (sy : Sv y e) (hr : ∀ H, RC rr [x, y] H z) {f : PyData} (sz : Sv z f) : EvS K B0 H0 (tCB rr (tCons ta (tCons tb tNil))) δ (.dat f) := fun B H σ S Q q =>
  h B H σ S _ fun v B1 H1 s1 i1 => h2 B1 H1 σ (S.go s1) _ fun w B2 H2 s2 i2 => by
    rw [sx.eq i1, sy.eq i2]
    exact hr H2 H2 (.refl _) Q fun H3 e3 => q z B2 H3 ((s1.trans s2).trans (.same s2.bh e3)) sz.dt
theorem d_abs (h : EvS K B0 H0 ta δ (nI i)) : EvS K B0 H0 (tCB (fun xs H Q => ∃ i, xs = [.int i] ∧ Q (.int (if i < 0 then -i else i)) H) (tCons ta tNil)) δ (nI i.natAbs) := d_cb1 h (.int i) (fun _ => rc_abs) (.int _)
theorem d_int (h : EvS K B0 H0 ta δ (nI i)) : EvS K B0 H0 (tCB (fun xs H Q => (∃ i, xs = [.int i] ∧ Q (.int i) H) ∨ ∃ k, xs = [.bl k] ∧ Q (.int (if k then 1 else 0)) H) (tCons ta tNil)) δ (nI i) := d_cb1 h (.int i) (fun _ => rc_intI) (.int _)
theorem d_min (h : EvS K B0 H0 ta δ (nI i)) (h2 : EvS K B0 H0 tb δ (nI j)) : EvS K B0 H0 (tCB (fun xs H Q => ∃ i j, xs = [.int i, .int j] ∧ Q (.int (if j < i then j else i)) H) (tCons ta (tCons tb tNil))) δ (nI (min i j)) := d_cb2 h h2 (.int i) (.int j) (fun _ => rc_min2) (.int _)
theorem d_max (h : EvS K B0 H0 ta δ (nI i)) (h2 : EvS K B0 H0 tb δ (nI j)) : EvS K B0 H0 (tCB (fun xs H Q => ∃ i j, xs = [.int i, .int j] ∧ Q (.int (if j > i then j else i)) H) (tCons ta (tCons tb tNil))) δ (nI (max i j)) := d_cb2 h h2 (.int i) (.int j) (fun _ => rc_max2) (.int _)
/-! ### slices, sums of lists -/
def cutD (xs : List PyData) (lo hi : Option Int) : List PyData := (xs.drop (HT.sIx xs.length 0 lo)).take (HT.sIx xs.length xs.length hi - HT.sIx xs.length 0 lo)
theorem cut_dt {vs : List V} (h : DtAll K B vs ds) (lo hi : Option Int) : DtAll K B (cutV vs lo hi) (cutD ds lo hi) := by
  unfold cutV cutD
  rw [h.len]
  exact (h.drop _).take _
theorem o_none : EvO K B0 H0 tNoPart δ none := fun B H σ S Q q => q B H (.refl S.st.bh)
theorem o_some (h : EvS K B0 H0 te δ (nI i)) : EvO K B0 H0 (tPart te) δ (some i) := fun B H σ S Q q => h B H σ S _ fun v B1 H1 s1 i1 => by
  cases i1
  exact ⟨i, rfl, q B1 H1 s1⟩
theorem n_sl {tl th : TO} {lo hi : Option Int} (h : EvS K B0 H0 te δ (.dat (.list ds))) (h1 : EvO K B0 H0 tl δ lo) (h2 : EvO K B0 H0 th δ hi) : EvN K B0 H0 (tSl (rSlL K) te tl th) δ (cutD ds lo hi) := fun B H σ S Q q =>
  h B H σ S _ fun v B1 H1 s1 i1 => h1 B1 H1 σ (S.go s1) _ fun B2 H2 s2 => h2 B2 H2 σ (S.go (s1.trans s2)) _ fun B3 H3 s3 => by
    have s := (s1.trans s2).trans s3
    cases i1 with
    | lst g1 g2 =>
      refine ⟨_, _, rfl, sq_of (s3.bh _ _ (s3.b _ _ (s2.b _ _ g1))), fun p hp => ?_⟩
      exact q p _ B3 _ (s.trans (.same s.bh (.new hp))) (none_of s.h hp) (none_of s.bh hp) upd_same (cut_dt (dts_mono (s2.b.trans s3.b) _ _ g2) lo hi)
theorem n_cat (ha : EvS K B0 H0 ta δ (.dat (.list ds))) (hb : EvS K B0 H0 tb δ (.dat (.list es))) (hz : ds.length + es.length ≤ 100000) : EvN K B0 H0 (tOp rCat ta tb) δ (ds ++ es) := fun B H σ S Q q =>
  ha B H σ S _ fun v B1 H1 s1 i1 => hb B1 H1 σ (S.go s1) _ fun w B2 H2 s2 i2 => by
    have s := s1.trans s2
    cases i1 with
    | lst g1 g2 =>
      cases i2 with
      | lst k1 k2 =>
        refine ⟨_, _, _, _, rfl, rfl, s2.bh _ _ (s2.b _ _ g1), s2.bh _ _ k1, by rw [g2.len, k2.len]; exact sz_of hz, fun p hp => ?_⟩
        exact q p _ B2 _ (s.trans (.same s.bh (.new hp))) (none_of s.h hp) (none_of s.bh hp) upd_same ((dts_mono s2.b _ _ g2).app k2)
theorem n_list {ta : TE} (h : EvS K B0 H0 ta δ (.dat (.list ds))) : EvN K B0 H0 (tCB (rListS K) (tCons ta tNil)) δ ds := fun B H σ S Q q =>
  h B H σ S _ fun v B1 H1 s1 i1 => by
    cases i1 with
    | lst g1 g2 => exact ⟨_, _, rfl, .inl (sq_of (s1.bh _ _ g1)), fun p hp => q p _ B1 _ (s1.trans (.same s1.bh (.new hp))) (none_of s1.h hp) (none_of s1.bh hp) upd_same g2⟩
theorem d_sum {ta : TE} {ns : List Int} (h : EvS K B0 H0 ta δ (.dat (.list (ns.map PyData.int)))) : EvS K B0 H0 (tCB (rSum K) (tCons ta tNil)) δ (nI ns.sum) := fun B H σ S Q q =>
  h B H σ S _ fun v B1 H1 s1 i1 => by
    cases i1 with
    | lst g1 g2 => exact ⟨_, ns, rfl, sq_of (by rw [← dt_ints_inv ns g2]; exact s1.bh _ _ g1), q _ B1 H1 s1 (Dt.int _)⟩
/-! ### calls of defs -/
/-- a def by data: for an argument a, told by the slots enc a, it gives some data of which post is true -/
def SpA (K : PySem.W.Frag) {A : Type} (enc : A → List Sl) (pre : A → Prop) (post : A → PyData → Prop) : Sp := fun vs H Q _ => ∃ B a, Ex B H ∧ IsAll K B vs (enc a) ∧ pre a ∧ ∀ v d B' H', post a d → Stp B H B' H' → Dt K B' v d → Q v H'
/-- .. or raises the class that bad tells -/
def SpX (K : PySem.W.Frag) {A : Type} (enc : A → List Sl) (pre : A → Prop) (bad : A → Option Addr) (post : A → PyData → Prop) : Sp := fun vs H Q E => ∃ B a, Ex B H ∧ IsAll K B vs (enc a) ∧ pre a ∧ (∀ C, bad a = some C → ∀ H', Ex H H' → E (.ref C) none H') ∧ (bad a = none → ∀ v d B' H', post a d → Stp B H B' H' → Dt K B' v d → Q v H')
theorem r_call {A : Type} {enc : A → List Sl} {pre : A → Prop} {post : A → PyData → Prop} {E : XK} {tr : TA} (a : A) (h : EvA K B0 H0 tr δ (enc a)) (hp : pre a) : EvR K B0 H0 (tCall (SpA K enc pre post) [] E tr) δ (post a) := fun B H σ S Q q =>
  h B H σ S _ fun vs B1 H1 s1 i1 => ⟨B1, a, s1.bh, by rw [List.append_nil]; exact i1, hp, fun v d B2 H2 p st dv => q v d B2 H2 p (s1.trans st) dv⟩
theorem d_call {A : Type} {enc : A → List Sl} {pre : A → Prop} {post : A → PyData → Prop} {E : XK} {tr : TA} (a : A) (h : EvA K B0 H0 tr δ (enc a)) (hp : pre a) (hf : ∀ e, post a e → e = d) : EvS K B0 H0 (tCall (SpA K enc pre post) [] E tr) δ (.dat d) := fun B H σ S Q q =>
  r_call a h hp B H σ S Q fun v e B' H' p st iv => by
    cases hf e p
    exact q v B' H' st iv
/-- the usual form: a function of data -/
abbrev SpF (K : PySem.W.Frag) {A : Type} (enc : A → List Sl) (pre : A → Prop) (f : A → PyData) : Sp := SpA K enc pre fun a d => d = f a
theorem d_callF {A : Type} {enc : A → List Sl} {pre : A → Prop} {f : A → PyData} {E : XK} {tr : TA} (a : A) (h : EvA K B0 H0 tr δ (enc a)) (hp : pre a) : EvS K B0 H0 (tCall (SpF K enc pre f) [] E tr) δ (.dat (f a)) := d_call a h hp fun _ h => h
/-- where nothing is raised -/
theorem r_callX {A : Type} {enc : A → List Sl} {pre : A → Prop} {bad : A → Option Addr} {post : A → PyData → Prop} {E : XK} {tr : TA} (a : A) (h : EvA K B0 H0 tr δ (enc a)) (hp : pre a) (hb : bad a = none) : EvR K B0 H0 (tCall (SpX K enc pre bad post) [] E tr) δ (post a) := fun B H σ S Q q =>
  h B H σ S _ fun vs B1 H1 s1 i1 => ⟨B1, a, s1.bh, by rw [List.append_nil]; exact i1, hp, (fun C e => by rw [hb] at e; cases e), fun _ v d B2 H2 p st dv => q v d B2 H2 p (s1.trans st) dv⟩
theorem d_callX {A : Type} {enc : A → List Sl} {pre : A → Prop} {bad : A → Option Addr} {post : A → PyData → Prop} {E : XK} {tr : TA} (a : A) (h : EvA K B0 H0 tr δ (enc a)) (hp : pre a) (hb : bad a = none) (hf : ∀ e, post a e → e = d) : EvS K B0 H0 (tCall (SpX K enc pre bad post) [] E tr) δ (.dat d) := fun B H σ S Q q =>
  r_callX a h hp hb B H σ S Q fun v e B' H' p st iv => by
    cases hf e p
    exact q v B' H' st iv
end
end Ja

/-! Own data layer: targets, what is walked, comprehensions, statements, defs. -/
namespace Ja
open PySem PySem.Spec PyProof.Rows L2 Evl Cm
def wipeD (δ : List Sl) : List Nat → List Sl
  | [] => δ
  | v :: vs => (wipeD δ vs).set v Sl.no
/-- a target takes data; ix: the slots that it stores to -/
def TGd (K : PySem.W.Frag) (B0 H0 : Hp) (g : TG) (ix : List Nat) (δ : List Sl) (d : PyData) (δ' : List Sl) : Prop := ∀ B H σ v, Sc K B0 H0 B H σ δ → Dt K B v d → ∀ Q : L2.St → Hp → Prop, (∀ σ', Sc K B0 H0 B H σ' δ' → (∀ vs : List Nat, (∀ i ∈ ix, i ∈ vs) → wipe σ' vs = wipe σ vs) → Q σ' H) → g v σ H Q
def TGs (K : PySem.W.Frag) (B0 H0 : Hp) (g : L2.TGs) (ix : List Nat) (δ : List Sl) (ds : List PyData) (δ' : List Sl) : Prop := ∀ B H σ vs, Sc K B0 H0 B H σ δ → DtAll K B vs ds → ∀ Q : L2.St → Hp → Prop, (∀ σ', Sc K B0 H0 B H σ' δ' → (∀ vs : List Nat, (∀ i ∈ ix, i ∈ vs) → wipe σ' vs = wipe σ vs) → Q σ' H) → g vs σ H Q
theorem wipe_set {σ : L2.St} {i : Nat} {o : Option V} : ∀ {vs : List Nat}, i ∈ vs → wipe (σ.set i o) vs = wipe σ vs
  | v :: vs, h => by
    show (wipe (σ.set i o) vs).set v none = (wipe σ vs).set v none
    by_cases e : i ∈ vs
    · rw [wipe_set e]
    · have e1 : v = i := by
        rcases List.mem_cons.mp h with h | h
        · exact h.symm
        · exact absurd h e
      subst e1
      have key : ∀ {vs : List Nat}, v ∉ vs → wipe (σ.set v o) vs = (wipe σ vs).set v o := by
        intro vs
        induction vs with
        | nil => intro _; rfl
        | cons w ws ih =>
          intro hn
          show (wipe (σ.set v o) ws).set w none = ((wipe σ ws).set w none).set v o
          rw [ih fun z => hn (List.mem_cons_of_mem _ z)]
          exact List.set_comm _ _ fun z => hn (by rw [z]; exact List.mem_cons_self ..)
      rw [key e, List.set_set]
theorem wipe_id {σ : L2.St} : ∀ {vs ws : List Nat}, (∀ i ∈ vs, i ∈ ws) → wipe (wipe σ vs) ws = wipe σ ws
  | [], ws, _ => rfl
  | v :: vs, ws, h => by
    show wipe ((wipe σ vs).set v none) ws = _
    rw [wipe_set (h v (List.mem_cons_self ..)), wipe_id fun i hi => h i (List.mem_cons_of_mem _ hi)]
section
variable {K : PySem.W.Frag} {B0 H0 B H B' H' : Hp} {σ : L2.St} {δ δ1 δ2 : List Sl} {ta tb tc td te : TE} {tt : TT} {s s' : Sl} {d e : PyData} {ds es : List PyData} {i j k : Int} {b c : Bool} {x y z : V}
theorem Sc.wipe (h : Sc K B0 H0 B H σ δ) : ∀ vs : List Nat, Sc K B0 H0 B H (wipe σ vs) (wipeD δ vs)
  | [] => h
  | v :: vs => (Sc.wipe h vs).put v none
theorem g_name {n : Nat} : TGd K B0 H0 (gName n) [n] δ d (δ.set n (.dat d)) := fun B H σ v S iv Q q => q _ (S.set (s := .dat d) n iv) fun vs hv => wipe_set (hv n (List.mem_singleton.mpr rfl))
theorem g_nil : TGs K B0 H0 gNil [] δ [] δ := fun B H σ vs S iv Q q => by
  cases iv
  exact ⟨rfl, q σ S fun _ _ => rfl⟩
theorem g_cons {g : TG} {u : L2.TGs} {ix iy : List Nat} (h : TGd K B0 H0 g ix δ d δ1) (hr : TGs K B0 H0 u iy δ1 ds δ2) : TGs K B0 H0 (gCons g u) (ix ++ iy) δ (d :: ds) δ2 := fun B H σ vs S iv Q q => by
  cases iv with
  | cons h1 h2 => exact ⟨_, _, rfl, h B H σ _ S h1 _ fun σ1 S1 w1 => hr B H σ1 _ S1 h2 Q fun σ2 S2 w2 => q σ2 S2 fun ws hw => by
      rw [w2 ws fun i hi => hw i (List.mem_append.mpr (.inr hi)), w1 ws fun i hi => hw i (List.mem_append.mpr (.inl hi))]⟩
theorem g_tup {n : Nat} {u : L2.TGs} {ix : List Nat} (h : TGs K B0 H0 u ix δ ds δ1) (hn : ds.length = n := by rfl) : TGd K B0 H0 (gTup K n u) ix δ (.tuple ds) δ1 := fun B H σ v S iv Q q => by
  cases iv with
  | tup h1 h2 => exact ⟨_, _, rfl, ex_t S.st.bh h1, by rw [h2.len, hn], h B H σ _ S h2 Q q⟩
/-! ### what is walked -/
def EvW (K : PySem.W.Frag) (B0 H0 : Hp) (wi : TI) (δ : List Sl) (ds : List PyData) : Prop := ∀ B H σ, Sc K B0 H0 B H σ δ → ∀ R : It → Hp → Prop,
  (∀ J G Y B1 H1, Stp B H B1 H1 → Walk J ds.length G Y → (∀ B2 H2, Ex B1 B2 → Ex B2 H2 → G H2) → (∀ (i : Nat) H2 x H3 B2 (d : PyData), ds[i]? = some d → Ex B1 B2 → Ex B2 H2 → Y i H2 x H3 → ∃ B3, Stp B2 H2 B3 H3 ∧ Dt K B3 x d) → R J H1) → wi σ H R
theorem w_list {tl : TE} (h : EvS K B0 H0 tl δ (.dat (.list ds))) : EvW K B0 H0 (iList K tl) δ ds := fun B H σ S R q => h B H σ S _ fun v B1 H1 s1 i1 => by
  cases i1 with
  | @lst a xs _ h1 h2 =>
    refine ⟨a, rfl, ⟨xs, sq_of (s1.bh _ _ h1)⟩, q _ (fun H => SqL K H a xs) (YAt xs) B1 H1 s1 (by rw [← h2.len]; exact walk_list) (fun B2 H2 e1 e2 => sq_of (e2 _ _ (e1 _ _ h1))) fun i H2 x H3 B2 d hd e1 e2 y => ?_⟩
    obtain ⟨rfl, hx⟩ := y
    obtain ⟨v, hv, dv⟩ := h2.get hd
    rw [hx] at hv
    cases Option.some.inj hv
    exact ⟨B2, .refl e2, dt_mono e1 _ _ dv⟩
theorem w_tup {tl : TE} (h : EvS K B0 H0 tl δ (.dat (.tuple ds))) : EvW K B0 H0 (iTup K tl) δ ds := fun B H σ S R q => h B H σ S _ fun v B1 H1 s1 i1 => by
  cases i1 with
  | @tup a xs _ h1 h2 =>
    refine ⟨a, rfl, ⟨xs, ex_t s1.bh h1⟩, q _ (fun H => SqT K H a xs) (YAt xs) B1 H1 s1 (by rw [← h2.len]; exact walk_tup) (fun B2 H2 e1 e2 => ex_t (e1.trans e2) h1) fun i H2 x H3 B2 d hd e1 e2 y => ?_⟩
    obtain ⟨rfl, hx⟩ := y
    obtain ⟨v, hv, dv⟩ := h2.get hd
    rw [hx] at hv
    cases Option.some.inj hv
    exact ⟨B2, .refl e2, dt_mono e1 _ _ dv⟩
/-- lo, lo + 1, .. -/
def upto (lo : Int) (n : Nat) : List PyData := (List.range n).map fun i : Nat => PyData.int (lo + (i : Int))
theorem upto_len (lo : Int) (n : Nat) : (upto lo n).length = n := by
  unfold upto
  rw [List.length_map, List.length_range]
theorem upto_get {lo : Int} {n i : Nat} {d : PyData} (h : (upto lo n)[i]? = some d) : i < n ∧ d = .int (lo + (i : Int)) := by
  have hi : i < n := by
    have := (List.getElem?_eq_some_iff.mp h).1
    rwa [upto_len] at this
  unfold upto at h
  rw [List.getElem?_map, List.getElem?_range hi] at h
  exact ⟨hi, (Option.some.inj h).symm⟩
theorem w_rng1 {ta : TA} {n : Int} (h : EvD K B0 H0 ta δ [.int n]) (h1 : n ≤ 100000) (h2 : -100000 ≤ n) : EvW K B0 H0 (iRng1 ta) δ (upto 0 n.toNat) := fun B H σ S R q => h B H σ S _ fun vs B1 H1 s1 i1 => by
  cases i1 with
  | cons g1 g2 =>
    cases g1
    cases g2
    refine ⟨n, rfl, by omega, by omega, q _ _ _ B1 H1 s1 (by rw [upto_len]; exact walk_range) (fun _ _ _ _ => trivial) fun i H2 x H3 B2 d hd e1 e2 y => ?_⟩
    obtain ⟨rfl, rfl⟩ := y
    obtain ⟨_, rfl⟩ := upto_get hd
    exact ⟨B2, .refl e2, .int _⟩
theorem w_rng2 {ta : TA} {lo n : Int} (h : EvD K B0 H0 ta δ [.int lo, .int n]) (h1 : n ≤ 10000000000 ∧ -10000000000 ≤ n ∧ lo ≤ 10000000000 ∧ -10000000000 ≤ lo) : EvW K B0 H0 (iRng2 ta) δ (upto lo (n - lo).toNat) := fun B H σ S R q => h B H σ S _ fun vs B1 H1 s1 i1 => by
  cases i1 with
  | cons g1 g2 =>
    cases g1
    cases g2 with
    | cons g3 g4 =>
      cases g3
      cases g4
      refine ⟨lo, n, rfl, by omega, q _ _ _ B1 H1 s1 (by rw [upto_len]; exact walk_range) (fun _ _ _ _ => trivial) fun i H2 x H3 B2 d hd e1 e2 y => ?_⟩
      obtain ⟨rfl, rfl⟩ := y
      obtain ⟨_, rfl⟩ := upto_get hd
      exact ⟨B2, .refl e2, .int _⟩
/-- 0, 1, .. -/
def nats (n : Nat) : List PyData := (List.range n).map fun i : Nat => PyData.int (i : Int)
theorem upto_nats (n : Nat) : upto 0 n = nats n := by
  unfold upto nats
  exact List.map_congr_left fun i _ => by rw [Int.zero_add]
theorem nats_len (n : Nat) : (nats n).length = n := by
  unfold nats
  rw [List.length_map, List.length_range]
theorem nats_get {n i : Nat} {d : PyData} (h : (nats n)[i]? = some d) : i < n ∧ d = .int (i : Int) := by
  rw [← upto_nats] at h
  have := upto_get h
  rwa [Int.zero_add] at this
theorem w_nat {ta : TA} {n : Nat} (h : EvD K B0 H0 ta δ [.int (n : Int)]) (h1 : n ≤ 100000) : EvW K B0 H0 (iRng1 ta) δ (nats n) := by
  have := w_rng1 h (by omega) (by omega)
  rwa [upto_nats, Int.toNat_natCast] at this
/-- a text, sign by sign -/
def signs (x : Str) : List PyData := x.cps.toList.map fun c => PyData.str ⟨#[c]⟩
theorem w_str {x : Str} (h : EvS K B0 H0 te δ (nS x)) : EvW K B0 H0 (iStr te) δ (signs x) := fun B H σ S R q => h B H σ S _ fun v B1 H1 s1 i1 => by
  cases i1
  refine ⟨x, rfl, q _ _ _ B1 H1 s1 (by unfold signs; rw [List.length_map, Array.length_toList]; exact walk_str) (fun _ _ _ _ => trivial) fun i H2 v H3 B2 d hd e1 e2 y => ?_⟩
  obtain ⟨rfl, c, hc, rfl⟩ := y
  have e : d = .str ⟨#[c]⟩ := by
    unfold signs at hd
    rw [List.getElem?_map, Array.getElem?_toList, hc] at hd
    exact (Option.some.inj hd).symm
  rw [e]
  exact ⟨B2, .refl e2, .str _⟩
/-- pairs of an index and an item -/
def enumD (ds : List PyData) : List PyData := ds.zipIdx.map fun p => .tuple [.int (p.2 : Int), p.1]
theorem w_enum {ta : TA} (h : EvD K B0 H0 ta δ [.list ds]) : EvW K B0 H0 (iEnum K ta) δ (enumD ds) := fun B H σ S R q => h B H σ S _ fun vs B1 H1 s1 i1 => by
  cases i1 with
  | cons g1 g2 =>
    cases g2
    cases g1 with
    | @lst a xs _ h1 h2 =>
      refine ⟨a, xs, rfl, sq_of (s1.bh _ _ h1), q _ _ _ B1 H1 s1 (by unfold enumD; rw [List.length_map, List.length_zipIdx, ← h2.len]; exact walk_enum) (fun B2 H2 e1 e2 => sq_of (e2 _ _ (e1 _ _ h1))) fun i H2 v H3 B2 d hd e1 e2 y => ?_⟩
      obtain ⟨T, u, w, rfl, hT, rfl, hu, hw⟩ := y
      cases Option.some.inj hu
      obtain ⟨f, hf, df⟩ := h2.getV hw
      have e : d = .tuple [.int (i : Int), f] := by
        unfold enumD at hd
        rw [List.getElem?_map, List.getElem?_zipIdx, hf] at hd
        have := Option.some.inj hd
        simpa using this.symm
      rw [e]
      exact ⟨_, .new e2 hT, .tup (st_of upd_same) (.cons (.int _) (.cons (dt_mono (e1.trans (Ex.new (none_of e2 hT))) _ _ df) .nil))⟩
def zipD (ds es : List PyData) : List PyData := (ds.zip es).map fun p => .tuple [p.1, p.2]
theorem w_zip {ta : TA} (h : EvD K B0 H0 ta δ [.list ds, .list es]) : EvW K B0 H0 (RZ.iZipA K ta) δ (zipD ds es) := fun B H σ S R q => h B H σ S _ fun vs B1 H1 s1 i1 => by
  cases i1 with
  | cons g1 g2 =>
    cases g2 with
    | cons g3 g4 =>
      cases g4
      cases g1 with
      | @lst a xs _ h1 h2 =>
        cases g3 with
        | @lst b ys _ k1 k2 =>
          refine ⟨a, b, xs, ys, rfl, .inl ⟨sq_of (s1.bh _ _ h1), sq_of (s1.bh _ _ k1), q _ _ _ B1 H1 s1 (walk_zip (by unfold zipD; rw [List.length_map, List.length_zip, ← h2.len, ← k2.len])) (fun B2 H2 e1 e2 => ⟨sq_of (e2 _ _ (e1 _ _ h1)), sq_of (e2 _ _ (e1 _ _ k1))⟩) fun i H2 v H3 B2 d hd e1 e2 y => ?_⟩⟩
          obtain ⟨T, u, w, rfl, hT, rfl, hu, hw⟩ := y
          obtain ⟨f, hf, df⟩ := h2.getV hu
          obtain ⟨g, hg, dg⟩ := k2.getV hw
          have e : d = .tuple [f, g] := by
            unfold zipD at hd
            rw [List.getElem?_map, show (ds.zip es)[i]? = some (f, g) from List.getElem?_zip_eq_some.mpr ⟨hf, hg⟩] at hd
            exact (Option.some.inj hd).symm
          rw [e]
          have eT : Ex B1 (upd B2 T (.tup [u, w])) := e1.trans (Ex.new (none_of e2 hT))
          exact ⟨_, .new e2 hT, .tup (st_of upd_same) (.cons (dt_mono eT _ _ df) (.cons (dt_mono eT _ _ dg) .nil))⟩
/-- reversed(range(n)) -/
theorem w_rev1 {n : Int} (h : EvS K B0 H0 ta δ (nI n)) (h1 : n ≤ 100000 ∧ -100000 ≤ n) : EvW K B0 H0 (iRevR (tRg1 ta)) δ (upto 0 n.toNat).reverse := fun B H σ S R q => h B H σ S _ fun v B1 H1 s1 i1 => by
  cases i1
  refine ⟨n, rfl, by omega, by omega, by omega, by omega, q _ _ _ B1 H1 s1 (by rw [List.length_reverse, upto_len, Int.sub_zero]; exact walk_rangeC) (fun _ _ _ _ => trivial) fun i H2 x H3 B2 d hd e1 e2 y => ?_⟩
  obtain ⟨rfl, rfl⟩ := y
  have hi : i < n.toNat := by
    have := (List.getElem?_eq_some_iff.mp hd).1
    rwa [List.length_reverse, upto_len] at this
  rw [List.getElem?_reverse (by rw [upto_len]; exact hi), upto_len] at hd
  obtain ⟨_, rfl⟩ := upto_get hd
  show ∃ B3, Stp B2 _ B3 _ ∧ Dt K B3 (V.int (0 + (n.toNat : Int) - 1 + (i : Int) * -1)) _
  rw [show (0 : Int) + (n.toNat : Int) - 1 + (i : Int) * -1 = 0 + ((n.toNat - 1 - i : Nat) : Int) by omega]
  exact ⟨B2, .refl e2, .int _⟩
theorem w_revN {n : Nat} (h : EvS K B0 H0 ta δ (nI (n : Int))) (h1 : n ≤ 100000) : EvW K B0 H0 (iRevR (tRg1 ta)) δ ((List.range n).reverse.map fun i : Nat => PyData.int (i : Int)) := by
  have := w_rev1 h ⟨by omega, by omega⟩
  rw [upto_nats, Int.toNat_natCast] at this
  rwa [List.map_reverse]
/-! ### comprehensions -/
theorem n_lc {A : Type} {wi : TI} {g : TG} {vs ix : List Nat} (xs : List A) (enc : A → PyData) (δt : A → List Sl) (f : A → Bool) (v : A → PyData) (hw : EvW K B0 H0 wi δ (xs.map enc)) (hix : ∀ i ∈ ix, i ∈ vs) (hz : xs.length ≤ 40000)
    (hg : ∀ x ∈ xs, TGd K B0 H0 g ix (wipeD δ vs) (enc x) (δt x)) (ht : ∀ x ∈ xs, EvB K B0 H0 tt (δt x) (f x)) (he : ∀ x ∈ xs, f x = true → EvS K B0 H0 te (δt x) (.dat (v x))) : EvN K B0 H0 (tLc wi g tt te vs) δ ((xs.filter f).map v) := fun B H σ S Q q => by
  refine hw B H σ S _ fun J G Y B1 H1 s1 W hG hY => ?_
  intro D hD
  have hBD : B1 D = none := none_of s1.bh hD
  refine lc_it W (fun i H' => ∃ B' ws, Ex B1 B' ∧ Ex B' H' ∧ Ex H1 H' ∧ (∀ a, B' a ≠ none → B1 a ≠ none ∨ H1 a = none) ∧ B' D = none ∧ H' D = some (.lst ws) ∧ DtAll K B' ws (((xs.take i).filter f).map v)) ?_ (fun i H' hi ⟨B', ws, e1, e2, e3, hn, e4, e5, e6⟩ => hG B' H' e1 e2) ?_ fun H' ⟨B', ws, e1, e2, e3, hn, e4, e5, e6⟩ => ?_
  · exact ⟨B1, [], .refl _, Ex.mut s1.bh hBD, Ex.new hD, fun a h => .inl h, hBD, upd_same, by rw [List.take_zero]; exact .nil⟩
  · intro i x H2 H3 hi ⟨B2, ws, e1, e2, e3, hn, e4, e5, e6⟩ y
    rw [List.length_map] at hi
    have hx : (xs.map enc)[i]? = some (enc xs[i]) := by rw [List.getElem?_map, List.getElem?_eq_getElem hi]; rfl
    obtain ⟨B3, s3, dx⟩ := hY i H2 x H3 B2 _ hx e1 e2 y
    have hmem : xs[i] ∈ xs := List.getElem_mem hi
    have hDn : H2 D ≠ none := by rw [e5]; exact fun z => by cases z
    have b3 : B3 D = none := by
      cases e : B3 D with
      | none => rfl
      | some o =>
        rcases s3.n D (by rw [e]; exact fun z => by cases z) with z | z
        · exact absurd e4 z
        · exact absurd z hDn
    have st12 : Stp B1 H1 B2 H2 := ⟨e1, e2, e3, hn⟩
    have S3 : Sc K B0 H0 B3 H3 σ δ := (S.go s1).go (st12.trans s3)
    have tk : ∀ {n : Nat}, xs.take (n + 1) = xs.take n ++ (xs[n]?).toList := fun {n} => List.take_succ
    refine hg _ hmem B3 H3 (wipe σ vs) x (S3.wipe vs) dx _ fun σ2 S2 w2 => ⟨?_, ?_⟩
    · rw [w2 vs hix]
      exact wipe_id fun _ h => h
    · refine ht _ hmem B3 H3 σ2 S2 _ fun B4 H4 s4 => ?_
      have b4 : ∀ {B5 H5 : Hp}, Stp B3 H3 B5 H5 → B5 D = none := fun {B5 H5} s5 => by
        cases e : B5 D with
        | none => rfl
        | some o =>
          rcases s5.n D (by rw [e]; exact fun z => by cases z) with z | z
          · exact absurd b3 z
          · rw [s3.h _ _ e5] at z
            cases z
      cases hf : f xs[i] with
      | true =>
        rw [if_pos rfl]
        refine he _ hmem hf B4 H4 σ2 (S2.go s4) _ fun u B5 H5 s5 i5 => ?_
        have s35 := s4.trans s5
        have sAll := (st12.trans s3).trans s35
        have h5 : H5 D = some (.lst ws) := s35.h _ _ (s3.h _ _ e5)
        refine ⟨ws, h5, ?_, B5, ws ++ [u], sAll.b, ?_, Ex.mut sAll.h hD, sAll.n, b4 s35, upd_same, ?_⟩
        · rw [e6.len, List.length_map]
          have h1 := List.length_filter_le f (xs.take i)
          rw [List.length_take] at h1
          exact sz_lt (by omega)
        · exact Ex.mut sAll.bh (b4 s35)
        · rw [tk, List.getElem?_eq_getElem hi, List.filter_append, List.map_append]
          refine (dts_mono (s3.b.trans s35.b) _ _ e6).app ?_
          show DtAll K B5 [u] (([xs[i]].filter f).map v)
          rw [List.filter_cons, hf, if_pos rfl]
          exact .cons i5 .nil
      | false =>
        rw [if_neg (by decide)]
        have sAll := (st12.trans s3).trans s4
        refine ⟨B4, ws, sAll.b, sAll.bh, sAll.h, sAll.n, b4 s4, s4.h _ _ (s3.h _ _ e5), ?_⟩
        rw [tk, List.getElem?_eq_getElem hi, List.filter_append]
        have : [xs[i]].filter f = [] := by rw [List.filter_cons, hf]; rfl
        show DtAll K B4 ws ((List.filter f (List.take i xs) ++ [xs[i]].filter f).map v)
        rw [this, List.append_nil]
        exact dts_mono (s3.b.trans s4.b) _ _ e6
  · have sAll := s1.trans (⟨e1, e2, e3, hn⟩ : Stp B1 H1 B' H')
    refine q D ws B' H' sAll (none_of s1.h hD) e4 e5 ?_
    rw [List.length_map, List.take_length] at e6
    exact e6
/-- every item, without a test -/
theorem n_lc1 {A : Type} {wi : TI} {g : TG} {vs ix : List Nat} (xs : List A) (enc : A → PyData) (δt : A → List Sl) (v : A → PyData) (hw : EvW K B0 H0 wi δ (xs.map enc)) (hix : ∀ i ∈ ix, i ∈ vs) (hz : xs.length ≤ 40000)
    (hg : ∀ x ∈ xs, TGd K B0 H0 g ix (wipeD δ vs) (enc x) (δt x)) (he : ∀ x ∈ xs, EvS K B0 H0 te (δt x) (.dat (v x))) : EvN K B0 H0 (tLc wi g tYes te vs) δ (xs.map v) := by
  have h := n_lc (tt := tYes) xs enc δt (fun _ => true) v hw hix hz hg (fun x _ => b_yes) (fun x hx _ => he x hx)
  have e : xs.filter (fun _ => true) = xs := by simp
  rw [e] at h
  exact h
end
/-! ### statements -/
structure DE where
  nx : List Sl → Prop
  rt : PyData → Prop
  bk : List Sl → Prop := fun _ => False
  ct : List Sl → Prop := fun _ => False
  ex : Addr → List Sl → Prop := fun _ _ => False
  ro : List PyData → Prop := fun _ => False
structure Lift (K : PySem.W.Frag) (B0 H0 B : Hp) (W : WX) (E : DE) (D : Ends) : Prop where
  nx : ∀ B' H' σ' δ', Ex B B' → Sc K B0 H0 B' H' σ' δ' → E.nx δ' → D.nx σ' H'
  rt : ∀ v d B' H', Ex B B' → Stp B0 H0 B' H' → Dt K B' v d → E.rt d → D.rt v H'
  bk : ∀ B' H' σ' δ', Ex B B' → Sc K B0 H0 B' H' σ' δ' → E.bk δ' → D.bk σ' H'
  ct : ∀ B' H' σ' δ', Ex B B' → Sc K B0 H0 B' H' σ' δ' → E.ct δ' → D.ct σ' H'
  ex : ∀ C B' H' σ' δ', Ex B B' → Sc K B0 H0 B' H' σ' δ' → E.ex C δ' → W (.ref C) none σ' H'
  ro : ∀ l vs ds B' H', Ex B B' → Stp B0 H0 B' H' → H0 l = none → B' l = none → H' l = some (.lst vs) → DtAll K B' vs ds → E.ro ds → D.rt (.ref l) H'
theorem Lift.mono {K : PySem.W.Frag} {B0 H0 B B' : Hp} {W : WX} {E : DE} {D : Ends} (e : Ex B B') (h : Lift K B0 H0 B W E D) : Lift K B0 H0 B' W E D :=
  ⟨fun B2 H2 σ δ e2 => h.nx B2 H2 σ δ (e.trans e2), fun v d B2 H2 e2 => h.rt v d B2 H2 (e.trans e2), fun B2 H2 σ δ e2 => h.bk B2 H2 σ δ (e.trans e2), fun B2 H2 σ δ e2 => h.ct B2 H2 σ δ (e.trans e2), fun C B2 H2 σ δ e2 => h.ex C B2 H2 σ δ (e.trans e2), fun l vs ds B2 H2 e2 => h.ro l vs ds B2 H2 (e.trans e2)⟩
def SD (K : PySem.W.Frag) (B0 H0 : Hp) (W : WX) (ts : TS) (δ : List Sl) (E : DE) : Prop := ∀ D B H σ, Sc K B0 H0 B H σ δ → Lift K B0 H0 B W E D → ts D σ H
/-- an expression that gives data of which P is true, or raises one of ex -/
def EvX (K : PySem.W.Frag) (B0 H0 : Hp) (W : WX) (te : TE) (δ : List Sl) (P : PyData → Prop) (ex : Addr → Prop) : Prop := ∀ B H σ, Sc K B0 H0 B H σ δ → (∀ C B' H', Stp B H B' H' → ex C → W (.ref C) none σ H') → ∀ Q : VK, (∀ v d B' H', P d → Stp B H B' H' → Dt K B' v d → Q v H') → te σ H Q
section
variable {K : PySem.W.Frag} {B0 H0 B H B' H' : Hp} {W : WX} {σ : L2.St} {δ δ1 δ2 : List Sl} {ta tb tc td te : TE} {tt : TT} {t u : TS} {E : DE} {s s' : Sl} {d e : PyData} {ds es : List PyData} {i j k : Int} {b c : Bool}
theorem sd_next (h : E.nx δ) : SD K B0 H0 W tNext δ E := fun D B H σ S L => L.nx B H σ δ (.refl _) S h
theorem sd_break (h : E.bk δ) : SD K B0 H0 W tBreak δ E := fun D B H σ S L => L.bk B H σ δ (.refl _) S h
theorem sd_cont (h : E.ct δ) : SD K B0 H0 W tCont δ E := fun D B H σ S L => L.ct B H σ δ (.refl _) S h
theorem sd_seq (h : SD K B0 H0 W t δ { E with nx := fun δ' => SD K B0 H0 W u δ' E }) : SD K B0 H0 W (tSeq t u) δ E := fun D B H σ S L =>
  h { D with nx := u D } B H σ S ⟨fun B' H' σ' δ' e S' h' => h' D B' H' σ' S' (L.mono e), L.rt, L.bk, L.ct, L.ex, L.ro⟩
theorem sd_cut {M : List Sl → Prop} (h : SD K B0 H0 W t δ { E with nx := M }) (k : ∀ δ', M δ' → SD K B0 H0 W u δ' E) : SD K B0 H0 W (tCut t u) δ E := fun D B H σ S L =>
  ⟨fun σ' H' => ∃ B' δ', Ex B B' ∧ Sc K B0 H0 B' H' σ' δ' ∧ M δ', h _ B H σ S ⟨fun B' H' σ' δ' e S' m => ⟨B', δ', e, S', m⟩, L.rt, L.bk, L.ct, L.ex, L.ro⟩, fun σ' H' ⟨B', δ', e, S', m⟩ => k δ' m D B' H' σ' S' (L.mono e)⟩
theorem sd_asg {n : Nat} (h : EvS K B0 H0 te δ s) (k : E.nx (δ.set n s)) : SD K B0 H0 W (tAsg te (gName n)) δ E := fun D B H σ S L => h B H σ S _ fun v B1 H1 s1 i1 => L.nx B1 H1 _ _ s1.b ((S.go s1).set n i1) k
theorem sd_asgR {n : Nat} {P : PyData → Prop} (h : EvR K B0 H0 te δ P) (k : ∀ d, P d → E.nx (δ.set n (.dat d))) : SD K B0 H0 W (tAsg te (gName n)) δ E := fun D B H σ S L => h B H σ S _ fun v d B1 H1 p s1 i1 => L.nx B1 H1 _ _ s1.b ((S.go s1).set (s := .dat d) n i1) (k d p)
theorem sd_asgO {n : Nat} (h : EvN K B0 H0 te δ ds) (k : E.nx (δ.set n (.own ds))) : SD K B0 H0 W (tAsg te (gName n)) δ E := fun D B H σ S L => h B H σ S _ fun l vs B1 H1 s1 f1 f2 f3 f4 => by
  refine L.nx B1 H1 _ _ s1.b ((S.go s1).setO n f3 f2 (none_of S.st.h f1) f4 fun j es _ hj hl => ?_) k
  obtain ⟨m, ws, g1, g2, _⟩ := S.own j es hj
  rw [hl] at g1
  cases Option.some.inj (Option.some.inj g1)
  rw [f1] at g2
  cases g2
theorem sd_unp {g : TG} {ix : List Nat} (h : EvS K B0 H0 te δ (.dat d)) (hg : TGd K B0 H0 g ix δ d δ1) (k : E.nx δ1) : SD K B0 H0 W (tAsg te g) δ E := fun D B H σ S L => h B H σ S _ fun v B1 H1 s1 i1 => hg B1 H1 σ v (S.go s1) i1 _ fun σ' S' _ => L.nx B1 H1 σ' _ s1.b S' k
theorem sd_ret (h : EvS K B0 H0 te δ (.dat d)) (k : E.rt d) : SD K B0 H0 W (tRet te) δ E := fun D B H σ S L => h B H σ S _ fun v B1 H1 s1 i1 => L.rt v d B1 H1 s1.b (S.st.trans s1) i1 k
theorem sd_retR {P : PyData → Prop} (h : EvR K B0 H0 te δ P) (k : ∀ d, P d → E.rt d) : SD K B0 H0 W (tRet te) δ E := fun D B H σ S L => h B H σ S _ fun v d B1 H1 p s1 i1 => L.rt v d B1 H1 s1.b (S.st.trans s1) i1 (k d p)
theorem sd_retN (k : E.rt .none) : SD K B0 H0 W tRetN δ E := fun D B H σ S L => L.rt .non .none B H (.refl _) S.st .non k
/-- a list of its own is given back -/
theorem sd_retO {n : Nat} (hn : δ[n]? = some (Sl.own ds)) (k : E.ro ds) : SD K B0 H0 W (tRet (tVar n)) δ E := fun D B H σ S L => by
  obtain ⟨l, vs, h1, h2, h3, h4, h5⟩ := S.own n ds hn
  exact ⟨.ref l, h1, L.ro l vs ds B H (.refl _) S.st h4 h3 h2 h5 k⟩
theorem sd_retE (h : EvN K B0 H0 te δ ds) (k : E.ro ds) : SD K B0 H0 W (tRet te) δ E := fun D B H σ S L => h B H σ S _ fun l vs B1 H1 s1 f1 f2 f3 f4 => L.ro l vs ds B1 H1 s1.b (S.st.trans s1) (none_of S.st.h f1) f2 f3 f4 k
/-- a new list of which P is true -/
def EvNR (K : PySem.W.Frag) (B0 H0 : Hp) (te : TE) (δ : List Sl) (P : List PyData → Prop) : Prop := ∀ B H σ, Sc K B0 H0 B H σ δ → ∀ Q : VK, (∀ l vs ds B' H', P ds → Stp B H B' H' → H l = none → B' l = none → H' l = some (.lst vs) → DtAll K B' vs ds → Q (.ref l) H') → te σ H Q
theorem n_of (h : EvNR K B0 H0 te δ fun es => es = ds) : EvN K B0 H0 te δ ds := fun B H σ S Q q => h B H σ S Q fun l vs es B' H' p => by
  subst p
  exact q l vs B' H'
theorem nr_of {P : List PyData → Prop} (h : EvN K B0 H0 te δ ds) (p : P ds) : EvNR K B0 H0 te δ P := fun B H σ S Q q => h B H σ S Q fun l vs B' H' => q l vs ds B' H' p
theorem sd_asgN {n : Nat} {P : List PyData → Prop} (h : EvNR K B0 H0 te δ P) (k : ∀ ds, P ds → E.nx (δ.set n (.own ds))) : SD K B0 H0 W (tAsg te (gName n)) δ E := fun D B H σ S L => h B H σ S _ fun l vs ds B1 H1 p s1 f1 f2 f3 f4 => by
  refine L.nx B1 H1 _ _ s1.b ((S.go s1).setO n f3 f2 (none_of S.st.h f1) f4 fun j es _ hj hl => ?_) (k ds p)
  obtain ⟨m, ws, g1, g2, _⟩ := S.own j es hj
  rw [hl] at g1
  cases Option.some.inj (Option.some.inj g1)
  rw [f1] at g2
  cases g2
theorem q_asgN {n : Nat} {P : List PyData → Prop} (h : EvNR K B0 H0 te δ P) (k : ∀ ds, P ds → SD K B0 H0 W u (δ.set n (.own ds)) E) : SD K B0 H0 W (tSeq (tAsg te (gName n)) u) δ E := sd_seq (sd_asgN h k)
theorem sd_drop (h : EvS K B0 H0 te δ s) (k : E.nx δ) : SD K B0 H0 W (tDrop te) δ E := fun D B H σ S L => h B H σ S _ fun v B1 H1 s1 i1 => L.nx B1 H1 σ δ s1.b (S.go s1) k
theorem sd_if (h : EvB K B0 H0 tt δ b) (h1 : b = true → SD K B0 H0 W t δ E) (h2 : b = false → SD K B0 H0 W u δ E) : SD K B0 H0 W (tIfS tt t u) δ E := fun D B H σ S L => h B H σ S _ fun B1 H1 s1 => by
  cases b with
  | true => exact h1 rfl D B1 H1 σ (S.go s1) (L.mono s1.b)
  | false => exact h2 rfl D B1 H1 σ (S.go s1) (L.mono s1.b)
theorem sd_freeze {n : Nat} (hn : δ[n]? = some (Sl.own ds)) (h : SD K B0 H0 W t (δ.set n (.dat (.list ds))) E) : SD K B0 H0 W t δ E := fun D B H σ S L => by
  obtain ⟨B', e, S'⟩ := S.freeze hn
  exact h D B' H σ S' (L.mono e)
theorem sd_env (e : δ = δ1) (h : SD K B0 H0 W t δ1 E) : SD K B0 H0 W t δ E := e ▸ h
theorem sd_forget (n : Nat) (h : SD K B0 H0 W t (δ.set n Sl.no) E) : SD K B0 H0 W t δ E := fun D B H σ S L => h D B H σ (by
  by_cases hn : n < σ.length
  · have := S.put n (σ[n])
    rw [List.set_getElem_self hn] at this
    exact this
  · have e : δ.set n Sl.no = δ := List.set_eq_of_length_le (by rw [← S.len]; omega)
    rw [e]
    exact S) L
/-- xs.append(e), xs of its own -/
theorem sd_app {n : Nat} (hn : δ[n]? = some (Sl.own ds)) (h : EvS K B0 H0 te δ (.dat d)) (hz : ds.length < 100000) (k : E.nx (δ.set n (.own (ds ++ [d])))) : SD K B0 H0 W (tDrop (tBM K "list" rAppend (tVar n) (tCons te tNil))) δ E := fun D B H σ S L => by
  obtain ⟨l, vs, h1, h2, h3, h4, h5⟩ := S.own n ds hn
  refine ⟨.ref l, h1, .inl ⟨rfl, _, sq_of h2⟩, h B H σ S _ fun v B1 H1 s1 i1 => ?_⟩
  obtain ⟨l', ws, g1, g2, g3, g4, g5⟩ := (S.go s1).own n ds hn
  rw [h1] at g1
  cases Option.some.inj (Option.some.inj g1)
  exact ⟨l, ws, v, rfl, rfl, g2, by rw [g5.len]; exact sz_lt hz, L.nx B1 _ σ _ s1.b ((S.go s1).mut hn h1 (g5.app (.cons i1 .nil))) k⟩
/-- xs[j] = e, xs of its own -/
theorem sd_put {n j : Nat} (hn : δ[n]? = some (Sl.own ds)) (h : EvS K B0 H0 te δ (.dat d)) (hj : EvS K B0 H0 tb δ (nI (j : Int))) (hl : j < ds.length) (k : E.nx (δ.set n (.own (ds.set j d)))) : SD K B0 H0 W (tAsg te (gSub (tVar n) tb rSetL)) δ E := fun D B H σ S L =>
  h B H σ S _ fun v B1 H1 s1 i1 => by
    have S1 := S.go s1
    obtain ⟨l, vs, h1, h2, h3, h4, h5⟩ := S1.own n ds hn
    refine ⟨.ref l, h1, hj B1 H1 σ S1 _ fun w B2 H2 s2 i2 => ?_⟩
    cases i2
    obtain ⟨l', ws, g1, g2, g3, g4, g5⟩ := (S1.go s2).own n ds hn
    rw [h1] at g1
    cases Option.some.inj (Option.some.inj g1)
    exact ⟨l, ws, (j : Int), j, rfl, rfl, g2, ixN_nat (by rw [g5.len]; exact hl), L.nx B2 _ σ _ (s1.b.trans s2.b) ((S1.go s2).mut hn h1 (g5.set j (dt_mono s2.b _ _ i1))) k⟩
/-! loops -/
theorem sd_for {wi : TI} {g : TG} {tb : TS} (hw : EvW K B0 H0 wi δ ds) (P : Nat → List Sl → Prop) (h0 : P 0 δ)
    (hs : ∀ (i : Nat) (d : PyData) (δ' : List Sl), ds[i]? = some d → P i δ' → ∃ ix δ2, TGd K B0 H0 g ix δ' d δ2 ∧ SD K B0 H0 W tb δ2 { E with nx := P (i + 1), ct := P (i + 1), bk := E.nx }) (hd : ∀ δ', P ds.length δ' → E.nx δ') : SD K B0 H0 W (tFor wi g tb) δ E := fun D B H σ S L =>
  hw B H σ S _ fun J G Y B1 H1 s1 Wk hG hY => for_it Wk (fun i σ' H' => ∃ B' δ', Ex B1 B' ∧ Sc K B0 H0 B' H' σ' δ' ∧ P i δ') ⟨B1, δ, .refl _, S.go s1, h0⟩ (fun i σ' H' hi ⟨B', δ', e, S', _⟩ => hG B' H' e S'.st.bh) (fun i x σ' H2 H3 hi ⟨B', δ', e, S', p⟩ y => by
    obtain ⟨B3, s3, dx⟩ := hY i H2 x H3 B' _ (List.getElem?_eq_getElem hi) e S'.st.bh y
    obtain ⟨ix, δ2, hg, hb⟩ := hs i _ δ' (List.getElem?_eq_getElem hi) p
    refine hg B3 H3 σ' x (S'.go s3) dx _ fun σ2 S2 _ => ?_
    have L3 := L.mono ((s1.b.trans e).trans s3.b)
    exact hb _ B3 H3 σ2 S2 ⟨fun B4 H4 σ4 δ4 e4 S4 p4 => ⟨B4, δ4, (e.trans s3.b).trans e4, S4, p4⟩, L3.rt, L3.nx, fun B4 H4 σ4 δ4 e4 S4 p4 => ⟨B4, δ4, (e.trans s3.b).trans e4, S4, p4⟩, L3.ex, L3.ro⟩) fun σ' H' ⟨B', δ', e, S', p⟩ => L.nx B' H' σ' δ' (s1.b.trans e) S' (hd δ' p)
theorem sd_while {tb : TS} (P : Nat → List Sl → Prop) (m0 : Nat) (h0 : P m0 δ)
    (hs : ∀ (m : Nat) (δ' : List Sl), P m δ' → ∃ b, EvB K B0 H0 tt δ' b ∧ (b = true → SD K B0 H0 W tb δ' { E with nx := fun δ2 => ∃ m', m' < m ∧ P m' δ2, ct := fun δ2 => ∃ m', m' < m ∧ P m' δ2, bk := E.nx }) ∧ (b = false → E.nx δ')) : SD K B0 H0 W (tWhile tt tb) δ E := fun D B H σ S L =>
  ⟨fun m σ' H' => ∃ B' δ', Ex B B' ∧ Sc K B0 H0 B' H' σ' δ' ∧ P m δ', ⟨m0, B, δ, .refl _, S, h0⟩, fun m σ' H' ⟨B', δ', e, S', p⟩ => by
    obtain ⟨b, hb, h1, h2⟩ := hs m δ' p
    refine hb B' H' σ' S' _ fun B2 H2 s2 => ?_
    have L2 := L.mono (e.trans s2.b)
    cases b with
    | true =>
      rw [if_pos rfl]
      refine ⟨fun σ3 H3 => ∃ m', m' < m ∧ ∃ B3 δ3, Ex B B3 ∧ Sc K B0 H0 B3 H3 σ3 δ3 ∧ P m' δ3, fun σ3 H3 ⟨m', hm, q⟩ => ⟨m', hm, q⟩, h1 rfl _ B2 H2 σ' (S'.go s2) ⟨fun B4 H4 σ4 δ4 e4 S4 ⟨m', hm, p4⟩ => ⟨m', hm, B4, δ4, (e.trans s2.b).trans e4, S4, p4⟩, L2.rt, L2.nx, fun B4 H4 σ4 δ4 e4 S4 ⟨m', hm, p4⟩ => ⟨m', hm, B4, δ4, (e.trans s2.b).trans e4, S4, p4⟩, L2.ex, L2.ro⟩⟩
    | false =>
      rw [if_neg (by decide)]
      exact L2.nx B2 H2 σ' δ' (.refl _) (S'.go s2) (h2 rfl)⟩
/-! raising -/
theorem sd_raise {C : Addr} (h : E.ex C δ) : SD K B0 H0 W (fun _ σ H => W (.ref C) none σ H) δ E := fun D B H σ S L => L.ex C B H σ δ (.refl _) S h
theorem x_of {P : PyData → Prop} {ex : Addr → Prop} (h : EvR K B0 H0 te δ P) : EvX K B0 H0 W te δ P ex := fun B H σ S _ Q q => h B H σ S Q q
theorem x_call {A : Type} {enc : A → List Sl} {pre : A → Prop} {bad : A → Option Addr} {post : A → PyData → Prop} {R : XK} {tr : TA} (a : A) (h : EvA K B0 H0 tr δ (enc a)) (hp : pre a) : EvX K B0 H0 (fun cls d _ H => R cls d H) (tCall (SpX K enc pre bad post) [] R tr) δ (fun d => bad a = none ∧ post a d) (fun C => bad a = some C) := fun B H σ S hx Q q =>
  h B H σ S _ fun vs B1 H1 s1 i1 => ⟨B1, a, s1.bh, by rw [List.append_nil]; exact i1, hp, fun C hC H' e => hx C B1 H' (s1.trans (.same s1.bh e)) hC, fun hb v d B2 H2 p st dv => q v d B2 H2 ⟨hb, p⟩ (s1.trans st) dv⟩
theorem x_callS {A : Type} {enc : A → List Sl} {pre : A → Prop} {bad : A → Option Addr} {post : A → PyData → Prop} {tr : TA} (a : A) (h : EvA K B0 H0 tr δ (enc a)) (hp : pre a) : EvX K B0 H0 W (tCallS (SpX K enc pre bad post) (WE W) tr) δ (fun d => bad a = none ∧ post a d) (fun C => bad a = some C) := fun B H σ S hx Q q =>
  h B H σ S _ fun vs B1 H1 s1 i1 => ⟨B1, a, s1.bh, i1, hp, fun C hC H' e => hx C B1 H' (s1.trans (.same s1.bh e)) hC, fun hb v d B2 H2 p st dv => q v d B2 H2 ⟨hb, p⟩ (s1.trans st) dv⟩
theorem sd_asgX {n : Nat} {P : PyData → Prop} {ex : Addr → Prop} (h : EvX K B0 H0 W te δ P ex) (hx : ∀ C, ex C → E.ex C δ) (k : ∀ d, P d → E.nx (δ.set n (.dat d))) : SD K B0 H0 W (tAsg te (gName n)) δ E := fun D B H σ S L =>
  h B H σ S (fun C B' H' st hC => L.ex C B' H' σ δ st.b (S.go st) (hx C hC)) _ fun v d B1 H1 p s1 i1 => L.nx B1 H1 _ _ s1.b ((S.go s1).set (s := .dat d) n i1) (k d p)
theorem sd_retX {P : PyData → Prop} {ex : Addr → Prop} (h : EvX K B0 H0 W te δ P ex) (hx : ∀ C, ex C → E.ex C δ) (k : ∀ d, P d → E.rt d) : SD K B0 H0 W (tRet te) δ E := fun D B H σ S L =>
  h B H σ S (fun C B' H' st hC => L.ex C B' H' σ δ st.b (S.go st) (hx C hC)) _ fun v d B1 H1 p s1 i1 => L.rt v d B1 H1 s1.b (S.st.trans s1) i1 (k d p)
/-- try: .. except X as e: a suite -/
def tTry (K : PySem.W.Frag) (c : Value) (n : Nat) (tb : WX → TS) (ts : Addr → Value → Option Addr → TS) (W : WX) : TS := fun D σ H => tb (wAs K c n ts W D) D σ H
theorem ps_tryD {X : Cx} {x nm : Str} {c : Value} {i : Nat} {body suite : List Stmt} {b₀ : Stmt} {np pos pos' : Pos} {tb : WX → TS} {ts : Addr → Value → Option Addr → TS} {Wout : WX} (hs : X.stack = X.env :: X.outer) (hf : X.env.frame = some X.env.locals) (hN : X.N.Nodup) (hi : X.N[i]? = some nm) (hln : X.env.kindOf nm = some .local) (hc : Names X x c) (tk : Takes X Wout)
    (hb : ∀ (W : WX) (pn : List (Addr × Obj)) (xe : Value → Shared → Prop), Takes (X.tr pn xe) W → PassesOwn (model X.prog X.w) X.A X.env xe → PSs (X.tr pn xe) body (tb W))
    (hsu : ∀ (a : Addr) (oe : Obj) (cls : Value) (d : Option Addr) (pn : List (Addr × Obj)), Zc cls d oe → (∃ vs, oe.data = .fields vs) → PSs (X.suite a ((a, oe) :: pn)) (b₀ :: suite) (ts a cls d)) :
    PS X (.Try body [.ExceptHandler (some (.Name x np)) (some nm) (b₀ :: suite) pos'] [] [] pos) (tTry X.K c i tb ts Wout) := ps_try_as hs hf hN hi hln hc tk hb hsu
theorem sd_try {n : Nat} {c : Value} {tb : WX → TS} {ts : Addr → Value → Option Addr → TS} (xs : Addr → List Sl → Prop) (h : ∀ W', SD K B0 H0 W' (tb W') δ { E with ex := xs })
    (hx : ∀ C δ', xs C δ' → PySem.W.exmOne K (.ref C) c = some true ∧ ∀ a, SD K B0 H0 W (ts a (.ref C) none) (δ'.set n (.raw (.ref a))) { E with nx := fun δ2 => E.nx (δ2.set n Sl.no), bk := fun δ2 => E.bk (δ2.set n Sl.no), ct := fun δ2 => E.ct (δ2.set n Sl.no) }) :
    SD K B0 H0 W (tTry K c n tb ts W) δ E := fun D B H σ S L =>
  h _ D B H σ S ⟨L.nx, L.rt, L.bk, L.ct, fun C B' H' σ' δ' e S' hC => by
    obtain ⟨h1, h2⟩ := hx C δ' hC
    refine ⟨true, h1, fun _ a ha => ?_, fun z => by cases z⟩
    have L' := L.mono e
    exact h2 a _ B' H' _ (S'.set (s := .raw (.ref a)) n rfl) ⟨fun B2 H2 σ2 δ2 e2 S2 p => L'.nx B2 H2 _ _ e2 (S2.put n none) p, L'.rt, fun B2 H2 σ2 δ2 e2 S2 p => L'.bk B2 H2 _ _ e2 (S2.put n none) p, fun B2 H2 σ2 δ2 e2 S2 p => L'.ct B2 H2 _ _ e2 (S2.put n none) p, L'.ex, L'.ro⟩, L.ro⟩
/-! ### a statement, then the rest -/
theorem q_asg {n : Nat} (δ1 : List Sl) (h : EvS K B0 H0 te δ s) (k : SD K B0 H0 W u δ1 E) (he : δ.set n s = δ1 := by rfl) : SD K B0 H0 W (tSeq (tAsg te (gName n)) u) δ E := sd_seq (sd_asg h (by subst he; exact k))
theorem q_asgO {n : Nat} (δ1 : List Sl) (h : EvN K B0 H0 te δ ds) (k : SD K B0 H0 W u δ1 E) (he : δ.set n (.own ds) = δ1 := by rfl) : SD K B0 H0 W (tSeq (tAsg te (gName n)) u) δ E := sd_seq (sd_asgO h (by subst he; exact k))
theorem q_asgR {n : Nat} {P : PyData → Prop} (h : EvR K B0 H0 te δ P) (k : ∀ d, P d → SD K B0 H0 W u (δ.set n (.dat d)) E) : SD K B0 H0 W (tSeq (tAsg te (gName n)) u) δ E := sd_seq (sd_asgR h k)
theorem q_asgX {n : Nat} {P : PyData → Prop} {ex : Addr → Prop} (h : EvX K B0 H0 W te δ P ex) (hx : ∀ C, ex C → E.ex C δ) (k : ∀ d, P d → SD K B0 H0 W u (δ.set n (.dat d)) E) : SD K B0 H0 W (tSeq (tAsg te (gName n)) u) δ E := sd_seq (sd_asgX h hx k)
theorem q_unp {g : TG} {ix : List Nat} (δ1 : List Sl) (h : EvS K B0 H0 te δ (.dat d)) (hg : TGd K B0 H0 g ix δ d δ1) (k : SD K B0 H0 W u δ1 E) : SD K B0 H0 W (tSeq (tAsg te g) u) δ E := sd_seq (sd_unp h hg k)
/-- an if that leaves, or goes on -/
theorem q_when (h : EvB K B0 H0 tt δ b) (h1 : b = true → SD K B0 H0 W t δ { E with nx := fun δ' => SD K B0 H0 W u δ' E }) (h2 : b = false → SD K B0 H0 W u δ E) : SD K B0 H0 W (tSeq (tIfS tt t tNext) u) δ E := sd_seq (sd_if h h1 fun hb => sd_next (h2 hb))
theorem q_if {t' : TS} (h : EvB K B0 H0 tt δ b) (h1 : b = true → SD K B0 H0 W t δ { E with nx := fun δ' => SD K B0 H0 W u δ' E }) (h2 : b = false → SD K B0 H0 W t' δ { E with nx := fun δ' => SD K B0 H0 W u δ' E }) : SD K B0 H0 W (tSeq (tIfS tt t t') u) δ E := sd_seq (sd_if h h1 h2)
theorem sd_when (h : EvB K B0 H0 tt δ b) (h1 : b = true → SD K B0 H0 W t δ E) (h2 : b = false → E.nx δ) : SD K B0 H0 W (tIfS tt t tNext) δ E := sd_if h h1 fun hb => sd_next (h2 hb)
theorem q_drop (h : EvS K B0 H0 te δ s) (k : SD K B0 H0 W u δ E) : SD K B0 H0 W (tSeq (tDrop te) u) δ E := sd_seq (sd_drop h k)
theorem q_app {n : Nat} (δ1 : List Sl) (hn : δ[n]? = some (Sl.own ds)) (h : EvS K B0 H0 te δ (.dat d)) (hz : ds.length < 100000) (k : SD K B0 H0 W u δ1 E) (he : δ.set n (.own (ds ++ [d])) = δ1 := by rfl) : SD K B0 H0 W (tSeq (tDrop (tBM K "list" rAppend (tVar n) (tCons te tNil))) u) δ E := sd_seq (sd_app hn h hz (by subst he; exact k))
theorem q_put {n j : Nat} (δ1 : List Sl) (hn : δ[n]? = some (Sl.own ds)) (h : EvS K B0 H0 te δ (.dat d)) (hj : EvS K B0 H0 tb δ (nI (j : Int))) (hl : j < ds.length) (k : SD K B0 H0 W u δ1 E) (he : δ.set n (.own (ds.set j d)) = δ1 := by rfl) : SD K B0 H0 W (tSeq (tAsg te (gSub (tVar n) tb rSetL)) u) δ E := sd_seq (sd_put hn h hj hl (by subst he; exact k))
theorem q_for {wi : TI} {g : TG} {tb : TS} (hw : EvW K B0 H0 wi δ ds) (P : Nat → List Sl → Prop) (h0 : P 0 δ)
    (hs : ∀ (i : Nat) (d : PyData) (δ' : List Sl), ds[i]? = some d → P i δ' → ∃ ix δ2, TGd K B0 H0 g ix δ' d δ2 ∧ SD K B0 H0 W tb δ2 { E with nx := P (i + 1), ct := P (i + 1), bk := fun δ' => SD K B0 H0 W u δ' E }) (hd : ∀ δ', P ds.length δ' → SD K B0 H0 W u δ' E) : SD K B0 H0 W (tSeq (tFor wi g tb) u) δ E := sd_seq (sd_for hw P h0 hs hd)
theorem q_while {tb : TS} (P : Nat → List Sl → Prop) (m0 : Nat) (h0 : P m0 δ)
    (hs : ∀ (m : Nat) (δ' : List Sl), P m δ' → ∃ b, EvB K B0 H0 tt δ' b ∧ (b = true → SD K B0 H0 W tb δ' { E with nx := fun δ2 => ∃ m', m' < m ∧ P m' δ2, ct := fun δ2 => ∃ m', m' < m ∧ P m' δ2, bk := fun δ' => SD K B0 H0 W u δ' E }) ∧ (b = false → SD K B0 H0 W u δ' E)) : SD K B0 H0 W (tSeq (tWhile tt tb) u) δ E := sd_seq (sd_while P m0 h0 hs)
/-! ### a def's body -/
/-- from the promise to the body by data -/
theorem run_body {A : Type} {enc : A → List Sl} {pre : A → Prop} {post : A → PyData → Prop} {N : List Str} {vs : List V} {Q : VK} {R : XK} {ts : TS} (h : SpA K enc pre post vs H Q R)
    (hb : ∀ a B, pre a → SD K B H (fun _ _ _ _ => False) ts (enc a ++ List.replicate (N.length - (enc a).length) Sl.no) { nx := fun _ => post a .none, rt := post a }) : ts { nx := fun _ H' => Q .non H', rt := Q } (L2.start N vs) H := by
  obtain ⟨B, a, e, iv, hp, q⟩ := h
  have S := sc_start (N.length - vs.length) e iv
  have hl := iv.len
  have hb' := hb a B hp
  rw [← hl] at hb'
  exact hb' _ B H _ S ⟨fun B' H' σ' δ' _ S' hp => q .non .none B' H' hp S'.st .non, fun v d B' H' _ st dv hp => q v d B' H' hp st dv, fun _ _ _ _ _ _ z => z.elim, fun _ _ _ _ _ _ z => z.elim, fun _ _ _ _ _ _ _ z => z.elim, fun _ _ _ _ _ _ _ _ _ _ _ z => z.elim⟩
/-- a def that gives a new list -/
def SpN (K : PySem.W.Frag) {A : Type} (enc : A → List Sl) (pre : A → Prop) (post : A → List PyData → Prop) : Sp := fun vs H Q _ => ∃ B a, Ex B H ∧ IsAll K B vs (enc a) ∧ pre a ∧ ∀ l ws ds B' H', post a ds → Stp B H B' H' → H l = none → B' l = none → H' l = some (.lst ws) → DtAll K B' ws ds → Q (.ref l) H'
theorem nr_call {A : Type} {enc : A → List Sl} {pre : A → Prop} {post : A → List PyData → Prop} {R : XK} {tr : TA} (a : A) (h : EvA K B0 H0 tr δ (enc a)) (hp : pre a) : EvNR K B0 H0 (tCall (SpN K enc pre post) [] R tr) δ (post a) := fun B H σ S Q q =>
  h B H σ S _ fun vs B1 H1 s1 i1 => ⟨B1, a, s1.bh, by rw [List.append_nil]; exact i1, hp, fun l ws ds B2 H2 p st f1 f2 f3 f4 => q l ws ds B2 H2 p (s1.trans st) (none_of s1.h f1) f2 f3 f4⟩
theorem n_call {A : Type} {enc : A → List Sl} {pre : A → Prop} {f : A → List PyData} {R : XK} {tr : TA} (a : A) (h : EvA K B0 H0 tr δ (enc a)) (hp : pre a) : EvN K B0 H0 (tCall (SpN K enc pre fun a ds => ds = f a) [] R tr) δ (f a) := n_of (nr_call a h hp)
theorem run_bodyN {A : Type} {enc : A → List Sl} {pre : A → Prop} {post : A → List PyData → Prop} {N : List Str} {vs : List V} {Q : VK} {R : XK} {ts : TS} (h : SpN K enc pre post vs H Q R)
    (hb : ∀ a B, pre a → SD K B H (fun _ _ _ _ => False) ts (enc a ++ List.replicate (N.length - (enc a).length) Sl.no) { nx := fun _ => False, rt := fun _ => False, ro := post a }) : ts { nx := fun _ H' => Q .non H', rt := Q } (L2.start N vs) H := by
  obtain ⟨B, a, e, iv, hp, q⟩ := h
  have S := sc_start (N.length - vs.length) e iv
  have hl := iv.len
  have hb' := hb a B hp
  rw [← hl] at hb'
  exact hb' _ B H _ S ⟨fun B' H' σ' δ' _ S' hp => hp.elim, fun v d B' H' _ st dv hp => hp.elim, fun _ _ _ _ _ _ z => z.elim, fun _ _ _ _ _ _ z => z.elim, fun _ _ _ _ _ _ _ z => z.elim, fun l vs ds B' H' _ st f1 f2 f3 f4 p => q l vs ds B' H' p st f1 f2 f3 f4⟩
/-- .. of a def that may raise -/
theorem run_bodyX {A : Type} {enc : A → List Sl} {pre : A → Prop} {bad : A → Option Addr} {post : A → PyData → Prop} {N : List Str} {vs : List V} {Q : VK} {R : XK} {ts : TS} (h : SpX K enc pre bad post vs H Q R)
    (hb : ∀ a B, pre a → SD K B H (fun cls d _ H => R cls d H) ts (enc a ++ List.replicate (N.length - (enc a).length) Sl.no) { nx := fun _ => bad a = none ∧ post a .none, rt := fun d => bad a = none ∧ post a d, ex := fun C _ => bad a = some C }) : ts { nx := fun _ H' => Q .non H', rt := Q } (L2.start N vs) H := by
  obtain ⟨B, a, e, iv, hp, qx, q⟩ := h
  have S := sc_start (N.length - vs.length) e iv
  have hl := iv.len
  have hb' := hb a B hp
  rw [← hl] at hb'
  exact hb' _ B H _ S ⟨fun B' H' σ' δ' _ S' hp => q hp.1 .non .none B' H' hp.2 S'.st .non, fun v d B' H' _ st dv hp => q hp.1 v d B' H' hp.2 st dv, fun _ _ _ _ _ _ z => z.elim, fun _ _ _ _ _ _ z => z.elim, fun C B' H' σ' δ' _ S' hC => qx C hC H' S'.st.h, fun _ _ _ _ _ _ _ _ _ _ _ z => z.elim⟩
/-- the law's body: the script at an address -/
theorem run_law {N : List Str} {ns : List Int} {sa : Addr} {Q : VK} {ts : TS} (hS : SqL K H sa (ns.map V.int)) (q : ∀ H', Q (.bl true) H') (hn : N.length = n + 1)
    (hb : ∀ B, SD K B H (fun _ _ _ _ => False) ts (.sem (scrP K ns) :: List.replicate n Sl.no) { nx := fun _ => False, rt := fun d => d = .bool true }) : ts { nx := fun _ H' => Q .non H', rt := Q } (L2.start N [.ref sa]) H := by
  have iv : IsAll K H [V.ref sa] [Sl.sem (scrP K ns)] := .cons ⟨sa, rfl, hS⟩ .nil
  have S := sc_start n (.refl H) iv
  have e : L2.start N [.ref sa] = [V.ref sa].map some ++ List.replicate n none := by
    unfold L2.start
    rw [hn]
    rfl
  rw [e]
  exact hb H _ H H _ S ⟨fun B' H' σ' δ' _ S' hp => hp.elim, fun v d B' H' _ st dv hp => by
    subst hp
    cases dv
    exact q H', fun _ _ _ _ _ _ z => z.elim, fun _ _ _ _ _ _ z => z.elim, fun _ _ _ _ _ _ _ z => z.elim, fun _ _ _ _ _ _ _ _ _ _ _ z => z.elim⟩
end
end Ja

/-! Own data layer: texts, bits, comparisons of ints' tuples. -/
namespace Ja
open PySem PySem.Spec PyProof.Rows L2 Evl Cm Dg Tx
open SX (S S_cat S_len num_S)
open TL (numL numL_lt)
def Sm (n : Nat) : Prop := n < 10 ^ 300
theorem sm_le {n m : Nat} (h : Sm n) (hm : m ≤ n) : Sm m := Nat.lt_of_le_of_lt hm h
theorem sm_of {n k : Nat} (h : n ≤ k) (hk : k < 10 ^ 300) : Sm n := Nat.lt_of_le_of_lt h hk
theorem lg {n k : Nat} (h : n < 2 ^ k) (hk : 0 < k) : n.log2 < k := by
  by_cases h0 : n = 0
  · subst h0
    exact hk
  · exact (Nat.log2_lt h0).mpr h
theorem sm_lg {n : Nat} (h : Sm n) : n.log2 < 1920 := lg (Nat.lt_of_lt_of_le h (by decide +kernel)) (by decide)
theorem sm_len {n : Nat} (h : Sm n) : (numL n).length ≤ 300 := num_len 299 n h
section
variable {K : PySem.W.Frag} {B0 H0 : Hp} {σ : L2.St} {δ : List Sl} {ta tb te to : TE} {a b : List Nat} {i j : Int} {H : Hp}
/-! ### bits -/
theorem rv_and1 : RV (fun x y H Q => ∃ (i : Int) (k : Nat), x = .int i ∧ y = .int (2 ^ k - 1) ∧ Q (.int (i % 2 ^ k)) H) (.int i) (.int 1) H (.int (i % 2)) := fun H1 _ _ q => ⟨i, 1, rfl, rfl, q H1 (Ex.refl H1)⟩
theorem d_and1 (ha : EvS K B0 H0 ta δ (nI i)) (hb : EvS K B0 H0 tb δ (nI 1)) : EvS K B0 H0 (tOp (fun x y H Q => ∃ (i : Int) (k : Nat), x = .int i ∧ y = .int (2 ^ k - 1) ∧ Q (.int (i % 2 ^ k)) H) ta tb) δ (nI (i % 2)) := d_ii ha hb fun _ => rv_and1
theorem d_shr {k : Nat} (ha : EvS K B0 H0 ta δ (nI i)) (hb : EvS K B0 H0 tb δ (nI (k : Int))) : EvS K B0 H0 (tOp (fun x y H Q => ∃ (i : Int) (k : Nat), x = .int i ∧ y = .int (k : Int) ∧ Q (.int (i / 2 ^ k)) H) ta tb) δ (nI (i / 2 ^ k)) := d_ii ha hb fun _ => rv_shr
theorem d_shl {k : Nat} (ha : EvS K B0 H0 ta δ (nI i)) (hb : EvS K B0 H0 tb δ (nI (k : Int))) (h : CShl i (k : Int)) : EvS K B0 H0 (tOp (fun x y H Q => ∃ (i : Int) (k : Nat), x = .int i ∧ y = .int (k : Int) ∧ CShl i (k : Int) ∧ Q (.int (i * 2 ^ k)) H) ta tb) δ (nI (i * 2 ^ k)) := d_ii ha hb fun _ => rv_shl h
theorem d_one {k : Nat} (ha : EvS K B0 H0 ta δ (nI 1)) (hb : EvS K B0 H0 tb δ (nI (k : Int))) (h : k ≤ 100000) : EvS K B0 H0 (tOp (fun x y H Q => ∃ k : Nat, x = .int 1 ∧ y = .int (k : Int) ∧ k ≤ 134217727 ∧ Q (.int (2 ^ k)) H) ta tb) δ (nI (2 ^ k)) := d_ii ha hb fun _ H1 _ Q q => ⟨k, rfl, rfl, by omega, q H1 (Ex.refl H1)⟩
theorem d_fdivA (ha : EvS K B0 H0 ta δ (nI i)) (hb : EvS K B0 H0 tb δ (nI j)) (h : 0 < j) (h2 : j.natAbs.log2 < 9000) : EvS K B0 H0 (tOp (rI Mi.CDivA fun i j => .int (i.fdiv j)) ta tb) δ (nI (i / j)) := d_isI (d_iC ha hb ⟨by omega, h2⟩) (Int.fdiv_eq_ediv_of_nonneg i (Int.le_of_lt h))
/-! ### texts -/
theorem d_cat (ha : EvS K B0 H0 ta δ (nS (S a))) (hb : EvS K B0 H0 tb δ (nS (S b))) (h : a.length + b.length ≤ 100000) : EvS K B0 H0 (tOp (fun x y H Q => ∃ i j, x = .str i ∧ y = .str j ∧ i.length + j.length ≤ sizeLine ∧ Q (.str (i ++ j)) H) ta tb) δ (nS (S (a ++ b))) := d_sss ha hb fun _ H1 _ Q q => ⟨S a, S b, rfl, rfl, by
  rw [S_len, S_len]
  exact sz_of h, by
  rw [S_cat]
  exact q H1 (Ex.refl H1)⟩
theorem d_strN {n : Nat} (h : EvS K B0 H0 te δ (nI (n : Int))) (hs : Sm n) : EvS K B0 H0 (tCB (fun xs H Q => ∃ i, xs = [.int i] ∧ i.natAbs.log2 < 1920 ∧ Q (.str (toString i)) H) (tCons te tNil)) δ (nS (S (numL n))) := d_cb1 h (.int _) (fun _ H1 _ Q q => ⟨(n : Int), rfl, sm_lg hs, by
  have e := num_S n
  show Q (.str (Str.ofString (toString (n : Int)))) H1
  rw [e]
  exact q H1 (Ex.refl H1)⟩) (.str _)
theorem d_join {ys : List (List Nat)} (ho : EvS K B0 H0 to δ (nS (S a))) (h : EvS K B0 H0 te δ (.dat (.list (ys.map fun y => PyData.str (S y))))) (hz : (ys.map (·.length)).sum + ys.length * a.length ≤ 100000) : EvS K B0 H0 (tM1 (fun x xs H Q => ∃ a p, ∃ ys : List Str, x = .str a ∧ xs = [.ref p] ∧ (SqL K H p (ys.map V.str) ∨ SqT K H p (ys.map V.str)) ∧
    (ys.map (·.length)).sum + ys.length * a.length ≤ 16777216 ∧ Q (.str (Txt.join a ys)) H) to te) δ (nS (S (TL.joinL a ys))) := fun B H σ Z Q q => ho B H σ Z _ fun v B1 H1 s1 i1 => by
  cases i1
  refine ⟨⟨_, rfl⟩, h B1 H1 σ (Z.go s1) _ fun w B2 H2 s2 i2 => ?_⟩
  cases i2 with
  | lst g1 g2 =>
    have e : ys.map (fun y => PyData.str (S y)) = (ys.map S).map PyData.str := by rw [List.map_map]; rfl
    rw [e] at g2
    rw [dt_strs_inv _ g2] at g1
    refine ⟨S a, _, ys.map S, rfl, rfl, .inl (sq_of (s2.bh _ _ g1)), ?_, ?_⟩
    · rw [SX.lens, List.length_map, S_len]
      omega
    · rw [SX.join_S]
      exact q _ B2 H2 (s1.trans s2) (Dt.str _)
theorem d_ixStr {c : Nat} (ha : EvS K B0 H0 ta δ (nS (S a))) (hb : EvS K B0 H0 tb δ (nI i)) (hz : a.length ≤ 100000) (h : atI a i = some c) : EvS K B0 H0 (tOp rIxS ta tb) δ (nS (S [c])) := d_sis ha hb fun _ H1 _ Q q => ⟨S a, i, c, rfl, rfl, by rw [S_len]; exact sz_of hz, by simpa using h, q H1 (Ex.refl H1)⟩
theorem signs_S (a : List Nat) : signs (S a) = a.map fun c => PyData.str (S [c]) := by
  unfold signs
  simp
theorem d_notInS {c : Nat} (ha : EvS K B0 H0 ta δ (nS (S [c]))) (hb : EvS K B0 H0 tb δ (nS (S a))) : EvS K B0 H0 (tOp (fun x y H Q => ∃ (c : Nat) (z : Str), x = .str ⟨#[c]⟩ ∧ y = .str z ∧ Q (.bl (!decide (c ∈ z.cps.toList))) H) ta tb) δ (nB (!decide (c ∈ a))) := d_ssb ha hb fun _ H1 _ Q q => ⟨c, S a, rfl, rfl, by simpa using q H1 (Ex.refl H1)⟩
theorem d_intS {n : Int} (h : EvS K B0 H0 te δ (nS (S a))) (hn : PySem.intText? (S a) = some n) (hz : a.length ≤ 640) : EvS K B0 H0 (tCB (fun xs H Q => ∃ a n, xs = [.str a] ∧ PySem.intText? a = some n ∧ a.length ≤ 640 ∧ Q (.int n) H) (tCons te tNil)) δ (nI n) := d_cb1 h (.str _) (fun _ H1 _ Q q => ⟨S a, n, rfl, hn, by rw [S_len]; exact hz, q H1 (Ex.refl H1)⟩) (.int _)
theorem d_lenSS {ta : TE} (h : EvS K B0 H0 ta δ (nS (S a))) (hl : a.length ≤ 100000) : EvS K B0 H0 (tCB (fun xs H Q => ∃ x n, xs = [x] ∧ LenV K x H n ∧ Q (.int n) H) (tCons ta tNil)) δ (nI a.length) := by
  have := d_lenS (K := K) (B0 := B0) (H0 := H0) h (by rw [S_len]; exact hl)
  rwa [S_len] at this
theorem d_eqSS (ha : EvS K B0 H0 ta δ (nS (S a))) (hb : EvS K B0 H0 tb δ (nS (S b))) : EvS K B0 H0 (tOp rEq ta tb) δ (nB (decide (a = b))) := d_isB (d_eqS ha hb) (decide_eq_decide.mpr ⟨SX.S_inj, fun z => by rw [z]⟩)
theorem d_neSS (ha : EvS K B0 H0 ta δ (nS (S a))) (hb : EvS K B0 H0 tb δ (nS (S b))) : EvS K B0 H0 (tOp rNe ta tb) δ (nB (!decide (a = b))) := d_isB (d_neS ha hb) (congrArg _ (decide_eq_decide.mpr ⟨SX.S_inj, fun z => by rw [z]⟩))
end
/-! ### data without dicts, not deep: shaped -/
theorem lay_ints : ∀ (is : List Int), PyData.canLayAll0 (is.map PyData.int) = true
  | [] => rfl
  | i :: r => by
    show (PyData.canLay0 (.int i) && PyData.canLayAll0 (r.map PyData.int)) = true
    rw [lay_ints r]
    rfl
theorem dep_ints : ∀ (is : List Int), PyData.depthAll (is.map PyData.int) = 0
  | [] => rfl
  | i :: r => by
    show max 0 (PyData.depthAll (r.map PyData.int)) = 0
    rw [dep_ints r]
    rfl
/-- laid, and at most n deep -/
def Shp (n : Nat) (d : PyData) : Prop := PyData.canLay0 d = true ∧ PyData.depth d ≤ n
def ShpAll (n : Nat) (ds : List PyData) : Prop := PyData.canLayAll0 ds = true ∧ PyData.depthAll ds ≤ n
theorem Shp.ok {n : Nat} {d : PyData} (h : Shp n d) (hn : n ≤ 64 := by decide) : SeqAt.shaped d = true := by
  unfold SeqAt.shaped
  rw [h.1, Bool.true_and]
  exact decide_eq_true (Nat.le_trans h.2 hn)
theorem shp_int {n : Nat} (i : Int) : Shp n (.int i) := ⟨rfl, Nat.zero_le _⟩
theorem shp_str {n : Nat} (i : Str) (h : PyData.canLay0 (.str i) = true := by decide) : Shp n (.str i) := ⟨h, Nat.zero_le _⟩
theorem shp_bool {n : Nat} (b : Bool) : Shp n (.bool b) := ⟨rfl, Nat.zero_le _⟩
theorem shp_none {n : Nat} : Shp n .none := ⟨rfl, Nat.zero_le _⟩
theorem shp_nil {n : Nat} : ShpAll n [] := ⟨rfl, Nat.zero_le _⟩
theorem shp_cons {n : Nat} {d : PyData} {ds : List PyData} (h : Shp n d) (g : ShpAll n ds) : ShpAll n (d :: ds) := ⟨by
  show (PyData.canLay0 d && PyData.canLayAll0 ds) = true
  rw [h.1, g.1]
  rfl, by
  show max (PyData.depth d) (PyData.depthAll ds) ≤ n
  have := h.2
  have := g.2
  omega⟩
theorem shp_tup {n : Nat} {ds : List PyData} (h : ShpAll n ds) : Shp (n + 1) (.tuple ds) := ⟨h.1, Nat.succ_le_succ h.2⟩
theorem shp_lst {n : Nat} {ds : List PyData} (h : ShpAll n ds) : Shp (n + 1) (.list ds) := ⟨h.1, Nat.succ_le_succ h.2⟩
theorem shp_map {A : Type} {n : Nat} {f : A → PyData} (h : ∀ x, Shp n (f x)) : ∀ xs : List A, ShpAll n (xs.map f)
  | [] => shp_nil
  | x :: r => shp_cons (h x) (shp_map h r)
theorem eqv_self {d : PyData} (h : SeqAt.shaped d = true) : PyData.eqv d d = true := eqvS h
/-- a function to data by which equal data come from equal things -/
structure Enc {A : Type} [DecidableEq A] (f : A → PyData) : Prop where
  eq : ∀ x y, PyData.eqv (f x) (f y) = decide (x = y)
  sh : ∃ n, n ≤ 30 ∧ ∀ x, Shp n (f x)
theorem eqv_map {A : Type} [DecidableEq A] {f : A → PyData} (h : ∀ x y, PyData.eqv (f x) (f y) = decide (x = y)) : ∀ l m : List A, PyData.eqvAll (l.map f) (m.map f) = decide (l = m)
  | [], [] => rfl
  | [], _ :: _ => rfl
  | _ :: _, [] => rfl
  | a :: l, b :: m => by
    have e : PyData.eqvAll ((a :: l).map f) ((b :: m).map f) = (PyData.eqv (f a) (f b) && PyData.eqvAll (l.map f) (m.map f)) := by simp only [List.map_cons, PyData.eqvAll]
    rw [e, h, eqv_map h l m]
    by_cases h1 : a = b
    · by_cases h2 : l = m
      · simp [h1, h2]
      · simp [h1, h2]
    · simp [h1]
theorem any_map {A : Type} [DecidableEq A] {f : A → PyData} (h : ∀ x y, PyData.eqv (f x) (f y) = decide (x = y)) (x : A) : ∀ l : List A, ((l.map f).any fun z => PyData.eqv z (f x)) = decide (x ∈ l)
  | [] => rfl
  | a :: l => by
    rw [List.map_cons, List.any_cons, any_map h x l, h]
    by_cases h1 : a = x
    · simp [h1]
    · have h2 : ¬ x = a := fun z => h1 z.symm
      simp [h1, h2]
section
variable {K : PySem.W.Frag} {B0 H0 : Hp} {δ : List Sl} {ta tb : TE} {A : Type} [DecidableEq A] {f : A → PyData} {x y : A} {l m : List A}
theorem Enc.shx (h : Enc f) (x : A) : SeqAt.shaped (f x) = true := by
  obtain ⟨n, h1, h2⟩ := h.sh
  exact (h2 x).ok (by omega)
theorem Enc.shl (h : Enc f) (l : List A) : SeqAt.shaped (.list (l.map f)) = true := by
  obtain ⟨n, h1, h2⟩ := h.sh
  exact (shp_lst (shp_map h2 l)).ok (by omega)
theorem d_eqE (h : Enc f) (ha : EvS K B0 H0 ta δ (.dat (f x))) (hb : EvS K B0 H0 tb δ (.dat (f y))) : EvS K B0 H0 (tOp (rEqD K) ta tb) δ (nB (decide (x = y))) := d_isB (d_eqD ha hb (h.shx x) (h.shx y)) (h.eq x y)
theorem d_neE (h : Enc f) (ha : EvS K B0 H0 ta δ (.dat (f x))) (hb : EvS K B0 H0 tb δ (.dat (f y))) : EvS K B0 H0 (tOp (rNeD K) ta tb) δ (nB (!decide (x = y))) := d_isB (d_neD ha hb (h.shx x) (h.shx y)) (by rw [h.eq x y])
theorem d_eqEL (h : Enc f) (ha : EvS K B0 H0 ta δ (.dat (.list (l.map f)))) (hb : EvS K B0 H0 tb δ (.dat (.list (m.map f)))) : EvS K B0 H0 (tOp (rEqD K) ta tb) δ (nB (decide (l = m))) := d_isB (d_eqD ha hb (h.shl l) (h.shl m)) (by
  have e : PyData.eqv (.list (l.map f)) (.list (m.map f)) = PyData.eqvAll (l.map f) (m.map f) := by simp only [PyData.eqv]
  rw [e, eqv_map h.eq])
theorem d_neEL (h : Enc f) (ha : EvS K B0 H0 ta δ (.dat (.list (l.map f)))) (hb : EvS K B0 H0 tb δ (.dat (.list (m.map f)))) : EvS K B0 H0 (tOp (rNeD K) ta tb) δ (nB (!decide (l = m))) := d_isB (d_neD ha hb (h.shl l) (h.shl m)) (by
  have e : PyData.eqv (.list (l.map f)) (.list (m.map f)) = PyData.eqvAll (l.map f) (m.map f) := by simp only [PyData.eqv]
  rw [e, eqv_map h.eq])
theorem d_inE (h : Enc f) (ha : EvS K B0 H0 ta δ (.dat (f x))) (hb : EvS K B0 H0 tb δ (.dat (.list (l.map f)))) : EvS K B0 H0 (tOp (rInD K) ta tb) δ (nB (decide (x ∈ l))) := d_isB (d_inD ha hb (h.shx x) (h.shl l)) (any_map h.eq x l)
theorem d_niE (h : Enc f) (ha : EvS K B0 H0 ta δ (.dat (f x))) (hb : EvS K B0 H0 tb δ (.dat (.list (l.map f)))) : EvS K B0 H0 (tOp (rNotInD K) ta tb) δ (nB (!decide (x ∈ l))) := d_isB (d_niD ha hb (h.shx x) (h.shl l)) (by rw [any_map h.eq x l])
/-- the same data on both sides -/
theorem d_neSame {d : PyData} (ha : EvS K B0 H0 ta δ (.dat d)) (hb : EvS K B0 H0 tb δ (.dat d)) (h : SeqAt.shaped d = true) : EvS K B0 H0 (tOp (rNeD K) ta tb) δ (nB false) := d_isB (d_neD ha hb h h) (by rw [eqv_self h]; rfl)
theorem d_eqSame {d : PyData} (ha : EvS K B0 H0 ta δ (.dat d)) (hb : EvS K B0 H0 tb δ (.dat d)) (h : SeqAt.shaped d = true) : EvS K B0 H0 (tOp (rEqD K) ta tb) δ (nB true) := d_isB (d_eqD ha hb h h) (eqv_self h)
end
theorem enc_ints : Enc (fun l : List Int => PyData.tuple (l.map PyData.int)) := by
  refine ⟨fun x y => ?_, ⟨1, by decide, fun x => ⟨lay_ints x, by
    show PyData.depthAll (x.map PyData.int) + 1 ≤ 1
    rw [dep_ints]
    omega⟩⟩⟩
  have e : PyData.eqv (.tuple (x.map PyData.int)) (.tuple (y.map PyData.int)) = PyData.eqvAll (x.map PyData.int) (y.map PyData.int) := by simp only [PyData.eqv]
  rw [e, eqv_map fun a b => ?_]
  show (a == b) = _
  rfl
end Ja

/-! Own data layer: comprehensions of two clauses. -/
namespace Ja
open PySem PySem.Spec PyProof.Rows L2 Evl Cm
def noOwn : List Sl → Bool
  | [] => true
  | .own _ :: _ => false
  | _ :: r => noOwn r
theorem noOwn_at : ∀ {δ : List Sl}, noOwn δ = true → ∀ {n : Nat} {ds : List PyData}, δ[n]? ≠ some (Sl.own ds)
  | [], _, n, ds, e => by simp at e
  | .no :: r, h, 0, ds, e => by cases e
  | .raw _ :: r, h, 0, ds, e => by cases e
  | .dat _ :: r, h, 0, ds, e => by cases e
  | .sem _ :: r, h, 0, ds, e => by cases e
  | .own _ :: r, h, _, ds, e => by cases h
  | .no :: r, h, n + 1, ds, e => noOwn_at (δ := r) h (n := n) e
  | .raw _ :: r, h, n + 1, ds, e => noOwn_at (δ := r) h (n := n) e
  | .dat _ :: r, h, n + 1, ds, e => noOwn_at (δ := r) h (n := n) e
  | .sem _ :: r, h, n + 1, ds, e => noOwn_at (δ := r) h (n := n) e
/-- a list at D that grows, over the base B1 and the heap H1 -/
def Grow (K : PySem.W.Frag) (B1 H1 : Hp) (D : Addr) (H : Hp) (ds : List PyData) : Prop := ∃ B' ws, Ex B1 B' ∧ Ex B' H ∧ Ex H1 H ∧ (∀ a, B' a ≠ none → B1 a ≠ none ∨ H1 a = none) ∧ B' D = none ∧ H D = some (.lst ws) ∧ DtAll K B' ws ds
section
variable {K : PySem.W.Frag} {B0 H0 B H B' H' B1 H1 : Hp} {σ : L2.St} {δ δ1 δ2 : List Sl} {ta tb tc td te : TE} {tt : TT} {d e : PyData} {ds es : List PyData} {D : Addr}
theorem Grow.start (hb : Ex B1 H1) (hD : H1 D = none) : Grow K B1 H1 D (upd H1 D (.lst [])) [] :=
  ⟨B1, [], .refl _, Ex.mut hb (none_of hb hD), Ex.new hD, fun a h => .inl h, none_of hb hD, upd_same, .nil⟩
theorem n_lc2 {A A1 : Type} {wi wi1 : TI} {g g1 : TG} {vs vs1 ix ix1 : List Nat} (xs : List A) (enc : A → PyData) (δt : A → List Sl) (ys : A → List A1) (enc1 : A → A1 → PyData) (δu : A → A1 → List Sl) (v : A → A1 → PyData) (hw : EvW K B0 H0 wi δ (xs.map enc)) (hix : ∀ i ∈ ix, i ∈ vs) (hix1 : ∀ i ∈ ix1, i ∈ vs1) (hz : (xs.flatMap fun x => (ys x).map (v x)).length ≤ 40000) (hno : ∀ x ∈ xs, noOwn (δt x) = true)
    (hg : ∀ x ∈ xs, TGd K B0 H0 g ix (wipeD δ vs) (enc x) (δt x)) (hw1 : ∀ x ∈ xs, EvW K B0 H0 wi1 (δt x) ((ys x).map (enc1 x))) (hg1 : ∀ x ∈ xs, ∀ y ∈ ys x, TGd K B0 H0 g1 ix1 (wipeD (δt x) vs1) (enc1 x y) (δu x y)) (he : ∀ x ∈ xs, ∀ y ∈ ys x, EvS K B0 H0 te (δu x y) (.dat (v x y))) :
    EvN K B0 H0 (tLc2 wi g tYes wi1 g1 tYes te vs vs1) δ (xs.flatMap fun x => (ys x).map (v x)) := fun B H σ S Q q => by
  refine hw B H σ S _ fun J G Y B1 H1 s1 W hG hY => ?_
  intro D hD
  have hBD : B1 D = none := none_of s1.bh hD
  have S1 : Sc K B0 H0 B1 H1 σ δ := S.go s1
  let P : Nat → Hp → Prop := fun i H' => Grow K B1 H1 D H' ((xs.take i).flatMap fun x => (ys x).map (v x))
  have hlen : (xs.map enc).length = xs.length := List.length_map ..
  have p0 : P 0 (upd H1 D (.lst [])) := by
    show Grow K B1 H1 D (upd H1 D (.lst [])) ((xs.take 0).flatMap fun x => (ys x).map (v x))
    rw [List.take_zero]
    exact Grow.start s1.bh hD
  refine ⟨fun i m H' => m = xs.length - i ∧ i ≤ xs.length ∧ P i H', ⟨xs.length, by simp, Nat.zero_le _, p0⟩, ?_⟩
  rintro i m H2 ⟨rfl, hi, B2, ws, e1, e2, e3, hn, e4, e5, e6⟩
  have gH := hG B2 H2 e1 e2
  by_cases hlt : i < xs.length
  · refine .inr ⟨W.goes i H2 (by rw [hlen]; exact hlt) gH, P (i + 1), fun H' p' => ⟨xs.length - (i + 1), by omega, rfl, hlt, p'⟩, fun x H3 yl => ?_⟩
    have y := W.yields i H2 x H3 (by rw [hlen]; exact hlt) gH yl
    have hx : (xs.map enc)[i]? = some (enc xs[i]) := by rw [List.getElem?_map, List.getElem?_eq_getElem hlt]; rfl
    obtain ⟨B3, s3, dx⟩ := hY i H2 x H3 B2 _ hx e1 e2 y
    have hmem : xs[i] ∈ xs := List.getElem_mem hlt
    have hDn : H2 D ≠ none := by rw [e5]; exact fun z => by cases z
    have keepD : ∀ {B5 H5 : Hp}, Stp B2 H2 B5 H5 → B5 D = none := fun {B5 H5} s5 => by
      cases e : B5 D with
      | none => rfl
      | some o =>
        rcases s5.n D (by rw [e]; exact fun z => by cases z) with z | z
        · exact absurd e4 z
        · exact absurd z hDn
    have st12 : Stp B1 H1 B2 H2 := ⟨e1, e2, e3, hn⟩
    have S3 : Sc K B0 H0 B3 H3 σ δ := (S1.go st12).go s3
    refine hg _ hmem B3 H3 (wipe σ vs) x (S3.wipe vs) dx _ fun σ2 S2 w2 => ⟨?_, ?_⟩
    · rw [w2 vs hix]
      exact wipe_id fun _ h => h
    · simp only [tYes, if_true]
      refine hw1 _ hmem B3 H3 σ2 S2 _ fun J1 G1 Y1 B4 H4 s4 W1 hG1 hY1 => ?_
      have s24 := s3.trans s4
      have hlen1 : ((ys xs[i]).map (enc1 xs[i])).length = (ys xs[i]).length := List.length_map ..
      let pre := (xs.take i).flatMap fun x => (ys x).map (v x)
      -- the inner loop: over the base B4 all the while
      let P1 : Nat → Hp → Prop := fun j H' => ∃ B' ws, Ex B4 B' ∧ Ex B' H' ∧ Ex H1 H' ∧ (∀ a, B' a ≠ none → B1 a ≠ none ∨ H1 a = none) ∧ B' D = none ∧ H' D = some (.lst ws) ∧ DtAll K B' ws (pre ++ ((ys xs[i]).take j).map (v xs[i]))
      have tk : xs.take (i + 1) = xs.take i ++ [xs[i]] := by rw [List.take_succ, List.getElem?_eq_getElem hlt]; rfl
      refine ⟨fun j k H' => k = (ys xs[i]).length - j ∧ j ≤ (ys xs[i]).length ∧ P1 j H', ⟨_, rfl, Nat.zero_le _, ?_⟩, ?_⟩
      · refine ⟨B4, ws, .refl _, s24.bh, e3.trans s24.h, (st12.trans s24).n, keepD s24, s24.h _ _ e5, ?_⟩
        rw [List.take_zero, List.map_nil, List.append_nil]
        exact dts_mono s24.b _ _ e6
      · rintro j k H5 ⟨rfl, hj, B5, us, f1, f2, f3, fn, f4, f5, f6⟩
        have gH1 := hG1 B5 H5 f1 f2
        by_cases hjl : j < (ys xs[i]).length
        · refine .inr ⟨W1.goes j H5 (by rw [hlen1]; exact hjl) gH1, P1 (j + 1), fun H' p' => ⟨(ys xs[i]).length - (j + 1), by omega, rfl, hjl, p'⟩, fun z H6 zl => ?_⟩
          have yz := W1.yields j H5 z H6 (by rw [hlen1]; exact hjl) gH1 zl
          have hz1 : ((ys xs[i]).map (enc1 xs[i]))[j]? = some (enc1 xs[i] (ys xs[i])[j]) := by rw [List.getElem?_map, List.getElem?_eq_getElem hjl]; rfl
          obtain ⟨B6, s6, dz⟩ := hY1 j H5 z H6 B5 _ hz1 f1 f2 yz
          have hm1 : (ys xs[i])[j] ∈ ys xs[i] := List.getElem_mem hjl
          have hDn5 : H5 D ≠ none := by rw [f5]; exact fun z => by cases z
          have keep5 : ∀ {B7 H7 : Hp}, Stp B5 H5 B7 H7 → B7 D = none := fun {B7 H7} s7 => by
            cases e : B7 D with
            | none => rfl
            | some o =>
              rcases s7.n D (by rw [e]; exact fun z => by cases z) with z | z
              · exact absurd f4 z
              · exact absurd z hDn5
          have st15 : Stp B1 H1 B5 H5 := ⟨(st12.trans s24).b.trans f1, f2, f3, fn⟩
          -- the slots within: σ2 over δt
          have S5 : Sc K B0 H0 B5 H5 σ2 (δt xs[i]) := by
            have S4 := S2.go s4
            refine ⟨S1.st.trans st15, S4.len, fun n t ht hv => ?_, fun n ds hd => ?_, S4.dis⟩
            · obtain ⟨w, q1, q2⟩ := S4.val n t ht hv
              exact ⟨w, q1, q2.mono f1⟩
            · exact absurd hd (noOwn_at (hno _ hmem))
          have S6 := S5.go s6
          refine hg1 _ hmem _ hm1 B6 H6 (wipe σ2 vs1) z (S6.wipe vs1) dz _ fun σ3 T3 w3 => ⟨?_, ?_⟩
          · rw [w3 vs1 hix1]
            exact wipe_id fun _ h => h
          · refine he _ hmem _ hm1 B6 H6 σ3 T3 _ fun u B7 H7 s7 i7 => ?_
            have s57 := s6.trans s7
            have sAll := st15.trans s57
            refine ⟨us, s57.h _ _ f5, ?_, B7, us ++ [u], f1.trans s57.b, Ex.mut s57.bh (keep5 s57), Ex.mut sAll.h hD, sAll.n, keep5 s57, upd_same, ?_⟩
            · rw [f6.len]
              have h1 : (pre ++ ((ys xs[i]).take j).map (v xs[i])).length ≤ (xs.flatMap fun x => (ys x).map (v x)).length := by
                have e : xs = xs.take i ++ xs[i] :: xs.drop (i + 1) := by rw [← List.drop_eq_getElem_cons hlt, List.take_append_drop]
                have hp : pre.length = ((xs.take i).flatMap fun x => (ys x).map (v x)).length := rfl
                conv => rhs; rw [e]
                rw [List.flatMap_append, List.flatMap_cons, List.length_append, List.length_append, List.length_append, List.length_map, List.length_map, List.length_take]
                omega
              exact sz_lt (by omega)
            · have tk1 : (ys xs[i]).take (j + 1) = (ys xs[i]).take j ++ [(ys xs[i])[j]] := by rw [List.take_succ, List.getElem?_eq_getElem hjl]; rfl
              rw [tk1, List.map_append, ← List.append_assoc]
              exact (dts_mono s57.b _ _ f6).app (.cons i7 .nil)
        · have e : j = (ys xs[i]).length := by omega
          subst e
          refine .inl ⟨by have := W1.stops H5 gH1; rwa [hlen1] at this, ?_⟩
          refine ⟨B5, us, (st12.trans s24).b.trans f1, f2, f3, fn, f4, f5, ?_⟩
          rw [List.take_length] at f6
          rw [tk, List.flatMap_append]
          show DtAll K B5 us (pre ++ ((ys xs[i]).map (v xs[i]) ++ []))
          rw [List.append_nil]
          exact f6
  · have e : i = xs.length := by omega
    subst e
    refine .inl ⟨by have := W.stops H2 gH; rwa [hlen] at this, ?_⟩
    rw [List.take_length] at e6
    exact q D ws B2 H2 (s1.trans ⟨e1, e2, e3, hn⟩) (none_of s1.h hD) e4 e5 e6
end
end Ja

/-! Own data layer: list(zip(xs, ys)) of two lists. -/
namespace Ja
open PySem PySem.Spec PyProof.Rows L2 Evl Cm
theorem zl_nolen : typeLookup (.type "zip") "__len__" = pure none := by rw [typeLookup_type, builtinLookup_eq_fast]; kernel_rfl
theorem zl_nohint : typeLookup (.type "zip") "__length_hint__" = pure none := by rw [typeLookup_type, builtinLookup_eq_fast]; kernel_rfl
/-- the zip at its turn i, whether its tuple was given out or not -/
def ZSt (z TI TO i1 i2 l1 l2 : Addr) (us ws : Array Value) (S : Addr) (i : Nat) (h : Heap) : Prop :=
  IsPair h TI (.ref i1) (.ref i2) ∧ h.IsListIter i1 l1 i ∧ h.IsListIter i2 l2 i ∧ h.IsList l1 us ∧ h.IsList l2 ws ∧
    ((IsZip h z TI TO .none ∧ ∃ a b, IsPair h TO a b) ∨ ∃ T f oT, IsZipHeld h z TI TO T f ∧ h.get? T = some oT ∧ T ≠ z ∧ T ≠ i1 ∧ T ≠ i2 ∧ T ≠ S)
section
variable {z TI TO i1 i2 l1 l2 S : Addr} {us ws : Array Value} {i : Nat} {h h' : Heap}
theorem ZSt.at (st : ZSt z TI TO i1 i2 l1 l2 us ws S i h) (hS : S ∉ [z, TI, TO, i1, i2, l1, l2]) (k : ∀ b o, b ≠ S → h.get? b = some o → h'.get? b = some o) : ZSt z TI TO i1 i2 l1 l2 us ws S i h' := by
  simp only [List.mem_cons, List.not_mem_nil, or_false, not_or] at hS
  obtain ⟨dz, dTI, dTO, di1, di2, dl1, dl2⟩ := hS
  obtain ⟨hTI, h1, h2, hl1, hl2, hz⟩ := st
  refine ⟨k _ _ (Ne.symm dTI) hTI, h1.at fun o e => k _ o (Ne.symm di1) e, h2.at fun o e => k _ o (Ne.symm di2) e, hl1.at fun o e => k _ o (Ne.symm dl1) e, hl2.at fun o e => k _ o (Ne.symm dl2) e, ?_⟩
  rcases hz with ⟨hz, a, b, hTO⟩ | ⟨T, f, oT, hz, hT, r1, r2, r3, r4⟩
  · exact .inl ⟨k _ _ (Ne.symm dz) hz, a, b, k _ _ (Ne.symm dTO) hTO⟩
  · exact .inr ⟨T, f, oT, k _ _ (Ne.symm dz) hz, k _ _ r4 hT, r1, r2, r3, r4⟩
theorem ZSt.ty {s : Shared} (st : ZSt z TI TO i1 i2 l1 l2 us ws S i s.heap) : s.TypeIs (.ref z) "zip" := by
  obtain ⟨_, _, _, _, _, hz⟩ := st
  rcases hz with ⟨hz, _⟩ | ⟨T, f, oT, hz, _⟩
  · exact ⟨_, hz, rfl⟩
  · exact ⟨_, hz, rfl⟩
theorem ZSt.self {prog : Program} {w : World} {A : Around} {s : Shared} {Q : Value → Shared → Prop} {E : Value → Shared → Prop} (st : ZSt z TI TO i1 i2 l1 l2 us ws S i s.heap) (h : Q (.ref z) s) : wpAny (model prog w) A (pyIter (.ref z)) Q E s := by
  have hT := st.ty
  obtain ⟨_, _, _, _, _, hz⟩ := st
  refine wpAny_pyIter_slot hT F.slot_zip_iter (wpAny_call_entry F.slot_zip_iter hT F.entry_zip_iter ?_ (F.args_zip_iter_1 _))
  show wpAny _ _ (ret (.ref z)) _ _ s
  exact wpAny_pure ⟨_, rfl, "zip", _, hT, F.slot_zip_next.lookup, h⟩
/-- the next pair -/
theorem ZSt.item {prog : Program} {w : World} {A : Around} {s : Shared} {x y : Value} {Q : Option Value → Shared → Prop} {E : Value → Shared → Prop} (D : ZipApart z TI TO i1 i2 l1 l2) (st : ZSt z TI TO i1 i2 l1 l2 us ws S i s.heap) (hS : S < s.heap.objs.size) (hx : us[i]? = some x) (hy : ws[i]? = some y)
    (q : ∀ h', ZSt z TI TO i1 i2 l1 l2 us ws S (i + 1) h' → IsPair h' s.heap.objs.size x y → h'.objs.size = s.heap.objs.size + 1 → (∀ b o, b ∉ [z, TI, TO, i1, i2] → s.heap.get? b = some o → h'.get? b = some o) → Q (some (.ref s.heap.objs.size)) { s with heap := h' }) :
    wpAny (model prog w) A (pyNext (.ref z)) Q E s := by
  obtain ⟨hTI, h1, h2, hl1, hl2, hz⟩ := st
  have lt : ∀ {c o}, s.heap.get? c = some o → s.heap.objs.size ≠ c := fun e => Nat.ne_of_gt (Heap.lt_size e)
  have n1 : s.heap.objs.size ≠ i1 := let ⟨_, e, _⟩ := h1; lt e
  have n2 : s.heap.objs.size ≠ i2 := let ⟨_, e, _⟩ := h2; lt e
  rcases hz with ⟨hz, a, b, hTO⟩ | ⟨T, f, oT, hz, hT, r1, r2, r3, r4⟩
  · refine wpAny_pyNext_zip_item D hz hTI hTO h1 h2 hl1 hl2 hx hy fun h' a1 a2 a3 a4 a5 a6 hk => ?_
    exact q h' ⟨hk _ _ D.TIz D.TITO D.TIi1 D.TIi2 hTI, a3, a4, hl1.at fun o e => hk _ o D.l1z D.l1TO D.l1i1 D.l1i2 e, hl2.at fun o e => hk _ o D.l2z D.l2TO D.l2i1 D.l2i2 e,
      .inr ⟨s.heap.objs.size, false, _, a1, a5, lt hz, n1, n2, Nat.ne_of_gt hS⟩⟩ a5 a6 fun c o hc e => hk c o (fun x => hc (by simp [x])) (fun x => hc (by simp [x])) (fun x => hc (by simp [x])) (fun x => hc (by simp [x])) e
  · refine wpAny_pyNext_zip_item_held D hz hT hTI h1 h2 hl1 hl2 hx hy fun h' a1 a3 a4 a5 a6 hk => ?_
    exact q h' ⟨hk _ _ D.TIz D.TIi1 D.TIi2 hTI, a3, a4, hl1.at fun o e => hk _ o D.l1z D.l1i1 D.l1i2 e, hl2.at fun o e => hk _ o D.l2z D.l2i1 D.l2i2 e,
      .inr ⟨T, true, oT, a1, hk _ _ r1 r2 r3 hT, r1, r2, r3, r4⟩⟩ a5 a6 fun c o hc e => hk c o (fun x => hc (by simp [x])) (fun x => hc (by simp [x])) (fun x => hc (by simp [x])) e
theorem ZSt.done {prog : Program} {w : World} {A : Around} {s : Shared} {Q : Option Value → Shared → Prop} {E : Value → Shared → Prop} (hh : A.handled = none) (D : ZipApart z TI TO i1 i2 l1 l2) (st : ZSt z TI TO i1 i2 l1 l2 us ws S i s.heap) (hend : us[i]? = none ∨ ws[i]? = none)
    (q : ∀ h', (∀ b o, b ∉ [z, TI, TO, i1, i2] → s.heap.get? b = some o → h'.get? b = some o) → Q none { s with heap := h' }) : wpAny (model prog w) A (pyNext (.ref z)) Q E s := by
  obtain ⟨hTI, h1, h2, hl1, hl2, hz⟩ := st
  rcases hz with ⟨hz, a, b, hTO⟩ | ⟨T, f, oT, hz, hT, r1, r2, r3, r4⟩
  · exact wpAny_pyNext_zip_end hh D hz hTI hTO h1 h2 hl1 hl2 hend fun h' hk => q h' fun c o hc e => hk c o (fun x => hc (by simp [x])) (fun x => hc (by simp [x])) (fun x => hc (by simp [x])) (fun x => hc (by simp [x])) e
  · exact wpAny_pyNext_zip_end_held hh D hz hT hTI h1 h2 hl1 hl2 hend fun h' hk => q h' fun c o hc e => hk c o (fun x => hc (by simp [x])) (fun x => hc (by simp [x])) (fun x => hc (by simp [x])) e
end
/-- vs: references to new pairs of xs and ys -/
def Prs (H1 H : Hp) (xs ys vs : List V) : Prop := ∀ j, j < vs.length → ∃ T x y, vs[j]? = some (.ref T) ∧ xs[j]? = some x ∧ ys[j]? = some y ∧ H T = some (.tup [x, y]) ∧ H1 T = none
section
variable {X : Cx} {pins : List (Addr × Obj)} {σ : L2.St} {z TI TO i1 i2 l1 l2 S : Addr} {xs ys : List V} {us ws : List Value} {H1 : Hp}
theorem loop_zip {A : Around} {R : Result → Shared → Prop} (hh : A.in1.handled = none) (D : ZipApart z TI TO i1 i2 l1 l2) (hS : S ∉ [z, TI, TO, i1, i2, l1, l2]) (rv : Vals xs us) (rv2 : Vals ys ws) (hl : xs.length = ys.length) (hz : xs.length ≤ 40000) (res : Value) (hS1 : H1 S = none)
    (hR : ∀ s' H' vs', Inv X pins σ H' s' → Ex H1 H' → H' S = some (.lst vs') → vs'.length = xs.length → Prs H1 H' xs ys vs' → R (.ok (.ret res)) s') :
    ∀ (k i : Nat) (s : Shared) (H : Hp) (vs : List V), xs.length - i = k → i ≤ xs.length → ZSt z TI TO i1 i2 l1 l2 us.toArray ws.toArray S i s.heap → Inv X pins σ H s → (∀ b ∈ [z, TI, TO, i1, i2], FpOk X pins H b) → (∀ b ∈ [z, TI, TO, i1, i2], b < s.heap.objs.size) → Ex H1 H → H S = some (.lst vs) → vs.length = i → Prs H1 H xs ys vs →
      codeAny (model X.prog X.w) A (.builtin "list.extend.loop" ⟨[.ref S, .ref z, res], []⟩) R s := by
  intro k
  induction k with
  | zero =>
    intro i s H vs hk hi st I hf hb0 e1 e2 e3 e4
    refine codeAny_builtin F.entry_extend_loop ?_
    rw [Around.under_plainId F.plain_extend_loop _]
    show wpAny _ A.in1 (pyNext (.ref z) >>= _) _ _ s
    have hend : us.toArray[i]? = none ∨ ws.toArray[i]? = none := .inl (by
      have := rv.length
      simp
      omega)
    refine wpAny_bind (st.done hh D hend fun h' hkp => wpAny_pure ?_)
    exact hR _ H vs (I.turnedL (t' := s.toks) hkp hf) e1 e2 (by omega) e4
  | succ k ih =>
    intro i s H vs hk hi st I hf hb0 e1 e2 e3 e4
    have hlt : i < xs.length := by omega
    have hlt2 : i < ys.length := by omega
    obtain ⟨u, hu, ru⟩ := rv.get (List.getElem?_eq_getElem hlt)
    obtain ⟨u2, hu2, ru2⟩ := rv2.get (List.getElem?_eq_getElem hlt2)
    refine codeAny_builtin F.entry_extend_loop ?_
    rw [Around.under_plainId F.plain_extend_loop _]
    show wpAny _ A.in1 (pyNext (.ref z) >>= _) _ _ s
    obtain ⟨hz1, its, n, r, hlen, hSo⟩ := I.lstM e2
    refine wpAny_bind (st.item D (Heap.lt_size hSo) (x := u) (y := u2) (by simpa using hu) (by simpa using hu2) fun h' st' hT hsz hkp => ?_)
    have new : ObjOk X.prog X.w (upd H s.heap.objs.size (.tup [xs[i], ys[i]])) h' s.heap.objs.size (.tup [xs[i], ys[i]]) :=
      ⟨by show 2 ≤ sizeLine; decide, [u, u2], .cons ru (.cons ru2 .nil), ⟨_, hT, rfl, _, rfl⟩⟩
    have hfr : H s.heap.objs.size = none := I.hok.fresh (Nat.le_refl _)
    have I1 : Inv X pins σ (upd H s.heap.objs.size (.tup [xs[i], ys[i]])) { s with heap := h' } := I.turnedNew (t' := s.toks) hkp hf (Nat.le_refl _) new
    have hST : S ≠ s.heap.objs.size := Nat.ne_of_lt (Heap.lt_size hSo)
    have e2' : upd H s.heap.objs.size (.tup [xs[i], ys[i]]) S = some (.lst vs) := by rw [upd_ne hST]; exact e2
    obtain ⟨_, its', n', r', hlen', hSo'⟩ := I1.lstM e2'
    show wpAny _ A.in1 (updateSeq S (·.push (.ref s.heap.objs.size)) >>= _) _ _ _
    refine wpAny_bind ?_
    refine wpAny_updateSeq (s := { s with heap := h' }) hSo' rfl (wpAny_pure ⟨plainId_quiet F.plain_extend_loop _, ?_⟩) (by
      rw [List.size_toArray]
      exact sz_of (by omega)) (by
      show (its'.toArray.push (.ref s.heap.objs.size)).size ≤ sizeLine + 1
      rw [Array.size_push, List.size_toArray]
      have : its'.length ≤ sizeLine := sz_of (by omega)
      omega)
    have I2 := I1.lset (its' := its' ++ [.ref s.heap.objs.size]) (f := (·.push (.ref s.heap.objs.size))) (ys := vs ++ [V.ref s.heap.objs.size]) (t' := s.toks) e2' hSo' (by simp) (r'.append (.cons (show L2.RelV (V.ref s.heap.objs.size) (.ref s.heap.objs.size) from rfl) .nil)) (by
      rw [List.length_append, List.length_singleton]
      exact sz_of (by omega))
    have ex1 : Ex H (upd H s.heap.objs.size (.tup [xs[i], ys[i]])) := Ex.new hfr
    have h1T : H1 s.heap.objs.size = none := none_of e1 hfr
    refine ih (i + 1) _ _ (vs ++ [V.ref s.heap.objs.size]) (by omega) hlt ?_ I2 (fun b hb => ?_) (fun b hb => ?_) (Ex.mut (e1.trans ex1) hS1) upd_same (by rw [List.length_append, e3]; rfl) fun j hj => ?_
    · exact st'.at hS fun b o hb e => (Heap.get?_update_other _ _ (Ne.symm hb)).trans e
    · obtain ⟨g0, g⟩ := hf b hb
      refine ⟨?_, g⟩
      have b1 : b ≠ S := fun q => hS (by
        rw [← q]
        simp only [List.mem_cons, List.not_mem_nil, or_false] at hb ⊢
        rcases hb with hb | hb | hb | hb | hb <;> simp [hb])
      have b2 : b ≠ s.heap.objs.size := Nat.ne_of_lt (hb0 b hb)
      rw [upd_ne b1, upd_ne b2]
      exact g0
    · have h1 := hb0 b hb
      show b < (h'.update S _).objs.size
      rw [Heap.size_update, hsz]
      exact Nat.lt_succ_of_lt h1
    · rw [List.length_append, e3] at hj
      by_cases hj2 : j < vs.length
      · obtain ⟨T, x, y, f1, f2, f3, f4, f5⟩ := e4 j hj2
        refine ⟨T, x, y, by rw [List.getElem?_append_left hj2]; exact f1, f2, f3, ?_, f5⟩
        have hTS : T ≠ S := fun q => by
          rw [q, e2] at f4
          cases f4
        rw [upd_ne hTS]
        exact ex1 _ _ f4
      · have ej : j = i := by
          simp at hj
          omega
        subst ej
        refine ⟨s.heap.objs.size, xs[j], ys[j], by rw [List.getElem?_append_right (by omega), e3]; simp, List.getElem?_eq_getElem hlt, List.getElem?_eq_getElem hlt2, ?_, h1T⟩
        rw [upd_ne (Ne.symm hST)]
        exact upd_same

/-- list(z), z a new zip -/
theorem call_list_zip {s : Shared} {Q : Value → Shared → Prop} {E : Value → Shared → Prop} (hh : X.A.in1.in1.handled = none) (D : ZipApart z TI TO i1 i2 l1 l2) (rv : Vals xs us) (rv2 : Vals ys ws) (hl : xs.length = ys.length) (hz : xs.length ≤ 40000) (I : Inv X pins σ H1 s) (hf : ∀ b ∈ [z, TI, TO, i1, i2], FpOk X pins H1 b) (hb0 : ∀ b ∈ [z, TI, TO, i1, i2, l1, l2], b < s.heap.objs.size)
    (st : ∀ S, S ∉ [z, TI, TO, i1, i2, l1, l2] → ZSt z TI TO i1 i2 l1 l2 us.toArray ws.toArray S 0 s.heap)
    (hQ : ∀ s' H' vs', Inv X pins σ H' s' → Ex H1 H' → H1 s.heap.objs.size = none → H' s.heap.objs.size = some (.lst vs') → vs'.length = xs.length → Prs H1 H' xs ys vs' → Q (.ref s.heap.objs.size) s') :
    wpAny (model X.prog X.w) X.A (call (.type "list") [.ref z]) Q E s := by
  have hfr : H1 s.heap.objs.size = none := I.hok.fresh (Nat.le_refl _)
  have hS : s.heap.objs.size ∉ [z, TI, TO, i1, i2, l1, l2] := fun hm => Nat.lt_irrefl _ (hb0 _ hm)
  have hSz : s.heap.objs.size ≠ z := fun e => hS (by rw [e]; simp)
  refine callType_codes (Q₁ := fun obj s₁ => obj = .ref s.heap.objs.size ∧ s₁ = { s with heap := s.heap.push { cls := .type "list", data := .seq #[] } }) F.called_list (F.typeCall_list_1 _) F.entry_list_init
    (code_list_new _ ⟨rfl, rfl⟩) fun obj s₁ h₁ => ?_
  obtain ⟨rfl, rfl⟩ := h₁
  have I1 : Inv X pins σ (upd H1 s.heap.objs.size (.lst [])) { s with heap := s.heap.push { cls := .type "list", data := .seq #[] } } := I.lnew (its := []) (t' := s.toks) .nil (Nat.zero_le _)
  have hS1 : (s.heap.push { cls := .type "list", data := .seq #[] }).get? s.heap.objs.size = some { cls := .type "list", data := .seq #[] } := Heap.get?_push_size _ rfl
  refine ⟨⟨_, hS1, rfl⟩, F.args_list_init_2 _ _, ?_⟩
  show wpAny _ X.A.in1.in1 (do let old ← Builtin.List.listItems (.ref s.heap.objs.size); Builtin.List.listUpdate (.ref s.heap.objs.size) (fun _ => #[]); letGo old.toList.reverse; Builtin.List.listExtendWith (.ref s.heap.objs.size) (.ref z) .none) _ _ _
  refine wpAny_bind ?_
  unfold Builtin.List.listItems
  refine wpAny_bind (wpAny_seqItems hS1 rfl (wpAny_pure ?_))
  show wpAny _ X.A.in1.in1 (updateSeq s.heap.objs.size (fun _ => #[]) >>= fun _ => letGo (#[] : Array Value).toList.reverse >>= fun _ => Builtin.List.listExtendWith (.ref s.heap.objs.size) (.ref z) .none) _ _ _
  refine wpAny_bind (wpAny_updateSeq (s := { s with heap := s.heap.push { cls := .type "list", data := .seq #[] } }) hS1 rfl ?_)
  have I2 := I1.lset (its := []) (its' := []) (f := fun _ => #[]) (ys := []) (t' := s.toks) upd_same hS1 rfl .nil (Nat.zero_le _)
  refine wpAny_bind (wpAny_letGo ?_)
  have hS2 := Heap.get?_update_self (Obj.mapSeq (fun _ => (#[] : Array Value))) hS1 rfl
  have k1 : ∀ b o, b ≠ s.heap.objs.size → s.heap.get? b = some o → ((s.heap.push { cls := .type "list", data := .seq #[] }).update s.heap.objs.size (Obj.mapSeq (fun _ => (#[] : Array Value)))).get? b = some o := fun b o hb e => (Heap.get?_update_other _ _ (Ne.symm hb)).trans (Heap.get?_push_of_some _ e)
  have st2 := (st _ hS).at hS k1
  unfold Builtin.List.listExtendWith
  refine wpAny_bind (wpAny_typeOf (T := "zip") (ZSt.ty (s := { s with heap := (s.heap.push { cls := .type "list", data := .seq #[] }).update s.heap.objs.size (Obj.mapSeq (fun _ => (#[] : Array Value))) }) st2) ?_)
  have h1 : Builtin.List.listSameRef (.ref s.heap.objs.size) (.ref z) = false := by simp [Builtin.List.listSameRef, hSz]
  have h2 : (Value.type "zip" == Value.type "list") = false := by decide
  have h3 : (Value.type "zip" == Value.type "tuple") = false := by decide
  simp only [h1, h2, h3, Bool.or_false, Bool.false_eq_true, if_false]
  refine wpAny_bind (ZSt.self (s := { s with heap := (s.heap.push { cls := .type "list", data := .seq #[] }).update s.heap.objs.size (Obj.mapSeq (fun _ => (#[] : Array Value))) }) st2 ?_)
  refine wpAny_bind (wpAny_holding ?_)
  unfold Builtin.List.listLengthHint
  refine wpAny_bind (wpAny_specialOf (ZSt.ty (s := { s with heap := (s.heap.push { cls := .type "list", data := .seq #[] }).update s.heap.objs.size (Obj.mapSeq (fun _ => (#[] : Array Value))) }) st2) zl_nolen ?_)
  show wpAny _ X.A.in1.in1 (specialOf (Value.ref z) (Str.ofString "__length_hint__") >>= _) _ _ _
  refine wpAny_bind (wpAny_specialOf (ZSt.ty (s := { s with heap := (s.heap.push { cls := .type "list", data := .seq #[] }).update s.heap.objs.size (Obj.mapSeq (fun _ => (#[] : Array Value))) }) st2) zl_nohint ?_)
  refine wpAny_pure ?_
  show wpAny _ X.A.in1.in1 (rule "list.extend.makes-room" >>= fun _ => Builtin.List.listTouch (.ref s.heap.objs.size) >>= fun _ =>
    again (.builtin "list.extend.loop" ⟨[.ref s.heap.objs.size, .ref z, .none], []⟩)) _ _ _
  refine wpAny_bind (wpAny_rule ?_)
  refine wpAny_bind ?_
  show wpAny _ X.A.in1.in1 (updateSeq s.heap.objs.size (·.push .none) >>= fun _ => updateSeq s.heap.objs.size (·.pop)) _ _ _
  refine wpAny_bind (wpAny_updateSeq (s := { s with heap := (s.heap.push { cls := .type "list", data := .seq #[] }).update s.heap.objs.size (Obj.mapSeq (fun _ => (#[] : Array Value))) }) hS2 rfl ?_)
  have I3 := I2.lset (its := []) (its' := [.none]) (f := (·.push Value.none)) (ys := [V.non]) (t' := s.toks) upd_same hS2 rfl (.cons rfl .nil) (by show 1 ≤ sizeLine; decide)
  have hS3 := Heap.get?_update_self (Obj.mapSeq (·.push Value.none)) hS2 rfl
  refine wpAny_updateSeq (s := { s with heap := ((s.heap.push { cls := .type "list", data := .seq #[] }).update s.heap.objs.size (Obj.mapSeq (fun _ => (#[] : Array Value)))).update s.heap.objs.size (Obj.mapSeq (·.push Value.none)) }) hS3 rfl ?_
  have I4 := I3.lset (its := [.none]) (its' := []) (f := (·.pop)) (ys := []) (t' := s.toks) upd_same hS3 rfl .nil (Nat.zero_le _)
  have st4 := (st2.at hS fun b o hb e => (Heap.get?_update_other _ (Obj.mapSeq (·.push Value.none)) (Ne.symm hb)).trans e).at hS fun b o hb e => (Heap.get?_update_other _ (Obj.mapSeq (·.pop)) (Ne.symm hb)).trans e
  refine wpAny_pure ⟨plainId_quiet F.plain_extend_loop _, loop_zip (A := X.A.in1) (H1 := H1) hh D hS rv rv2 hl hz _ hfr (fun s' H' vs' g1 g2 g3 g4 g5 => ?_) _ 0 _ _ [] rfl (Nat.zero_le _) st4 I4 (fun b hb => ?_) (fun b hb => ?_) (Ex.mut (Ex.mut (Ex.mut (Ex.new hfr) hfr) hfr) hfr) upd_same rfl fun j hj => absurd hj (Nat.not_lt_zero j)⟩
  · exact ⟨rfl, hQ s' H' vs' g1 g2 hfr g3 g4 g5⟩
  · obtain ⟨g0, g⟩ := hf b hb
    have b1 : b ≠ s.heap.objs.size := fun q => hS (by
      rw [← q]
      simp only [List.mem_cons, List.not_mem_nil, or_false] at hb ⊢
      rcases hb with hb | hb | hb | hb | hb <;> simp [hb])
    refine ⟨?_, g⟩
    rw [upd_ne b1, upd_ne b1, upd_ne b1, upd_ne b1]
    exact g0
  · have h1 : b < s.heap.objs.size := hb0 b (by
      simp only [List.mem_cons, List.not_mem_nil, or_false] at hb ⊢
      rcases hb with hb | hb | hb | hb | hb <;> simp [hb])
    show b < (((((s.heap.push _).update _ _).update _ _).update _ _)).objs.size
    rw [Heap.size_update, Heap.size_update, Heap.size_update, Heap.size_push]
    exact Nat.lt_succ_of_lt h1
end
/-- list(zip(xs, ys)) -/
def tLZ (K : PySem.W.Frag) (ta : TA) : TE := fun σ H Q => ta σ H fun vs H1 => ∃ a b xs ys, vs = [.ref a, .ref b] ∧ SqL K H1 a xs ∧ SqL K H1 b ys ∧ xs.length = ys.length ∧ xs.length ≤ 40000 ∧ ∀ l vs' H', Ex H1 H' → H1 l = none → H' l = some (.lst vs') → vs'.length = xs.length → Prs H1 H' xs ys vs' → Q (.ref l) H'
theorem pe_listZip {X : Cx} {e e2 : Expr} {ta : TA} {p0 p pos pos2 : Pos} (hc : X.calm = true) (hg0 : Gl X "list") (hm0 : X.mg "list" = none) (hg : Gl X "zip") (hm : X.mg "zip" = none) (ha : PA X [e, e2] ta)
    (hs1 : starEach [.Call (.Name "zip" p) [e, e2] [] pos2] X.env = [(false, eval (.Call (.Name "zip" p) [e, e2] [] pos2) X.env)] := by rfl)
    (hs : starEach [e, e2] X.env = (false, eval e X.env) :: starEach [e2] X.env := by rfl) (hpl : (backTo pos2 (starEach [e2] X.env)).any (·.1) = false := by rfl) :
    PE X (.Call (.Name "list" p0) [.Call (.Name "zip" p) [e, e2] [] pos2] [] pos) (tLZ X.K ta) := by
  refine ⟨fun pins s σ H Q I h => ?_⟩
  refine wpAny_Call_Name_kw (ld_blt I hg0 hm0 rfl ?_)
  refine PyProof.Rows.callWith_type1 ?_ hs1 rfl
  rw [hs1]
  refine Calls.spliced_cons (Call_ (ld_blt I hg hm PyProof.Rows.boot_zip (PyProof.Rows.callWith_type1 (thn (ha.run pos2 pins s σ H _ I h) fun us s1 ⟨vs, H1, I1, r1, q1⟩ => ?_) hs hpl)))
  obtain ⟨a, b, xs, ys, ex, hqx, hqy, hl, hz, q1⟩ := q1
  subst ex
  cases r1 with
  | cons r rr =>
    cases rr with
    | cons r' rr =>
      cases rr
      cases r
      cases r'
      have fresh5 : ∀ c, c ∈ [s1.heap.objs.size + 4, s1.heap.objs.size + 2, s1.heap.objs.size + 3, s1.heap.objs.size, s1.heap.objs.size + 1] → FpOk X pins H1 c := fun c hcm => by
        have hle : s1.heap.objs.size ≤ c := by
          simp only [List.mem_cons, List.not_mem_nil, or_false] at hcm
          omega
        exact I1.fpOk hle (I1.hok.fresh hle)
      obtain ⟨its, rv, p1, _⟩ := I1.list hqx
      obtain ⟨its2, rv2, p2, _⟩ := I1.list hqy
      refine call_zip_2 p1.isList p2.isList fun h' hzz hTI hTO h1 h2 hsz hk => Calls.spliced_nil ?_
      have I2 : Inv X pins σ H1 { s1 with heap := h' } := I1.kept (t' := s1.toks) hk
      obtain ⟨its', rv', p1', _⟩ := I2.list hqx
      obtain ⟨its2', rv2', p2', _⟩ := I2.list hqy
      refine call_list_zip (s := { s1 with heap := h' }) (I1.ok.hd hc) (PySem.W.ktu_apart s1.heap.objs.size a b p1.lt p2.lt) rv' rv2' hl hz I2 fresh5 (fun c hcm => ?_) (fun S hS => ⟨hTI, h1, h2, p1'.isList, p2'.isList, .inl ⟨hzz, _, _, hTO⟩⟩) fun s' H' vs' g1 g2 g3 g4 g5 g6 => ?_
      · show c < h'.objs.size
        rw [hsz]
        simp only [List.mem_cons, List.not_mem_nil, or_false] at hcm
        rcases hcm with q | q | q | q | q | q | q
        · rw [q]; exact Nat.add_lt_add_left (by decide) _
        · rw [q]; exact Nat.add_lt_add_left (by decide) _
        · rw [q]; exact Nat.add_lt_add_left (by decide) _
        · rw [q]; exact Nat.lt_add_of_pos_right (by decide)
        · rw [q]; exact Nat.add_lt_add_left (by decide) _
        · rw [q]; exact Nat.lt_of_lt_of_le p1.lt (Nat.le_add_right _ _)
        · rw [q]; exact Nat.lt_of_lt_of_le p2.lt (Nat.le_add_right _ _)
      · exact ⟨.ref _, H', g1, rfl, q1 _ vs' H' g2 g3 g4 g5 g6⟩
section
variable {K : PySem.W.Frag} {B0 H0 : Hp} {δ : List Sl} {ds es : List PyData} {ta : TA}
theorem n_listZip (h : EvD K B0 H0 ta δ [.list ds, .list es]) (hl : ds.length = es.length) (hz : ds.length ≤ 40000) : EvN K B0 H0 (tLZ K ta) δ (zipD ds es) := fun B H σ S Q q => h B H σ S _ fun vs B1 H1 s1 i1 => by
  cases i1 with
  | cons g1 g2 =>
    cases g2 with
    | cons g3 g4 =>
      cases g4
      cases g1 with
      | @lst a xs _ h1 h2 =>
        cases g3 with
        | @lst b ys _ k1 k2 =>
          refine ⟨a, b, xs, ys, rfl, sq_of (s1.bh _ _ h1), sq_of (s1.bh _ _ k1), by rw [h2.len, k2.len, hl], by rw [h2.len]; exact hz, fun l vs' H' e1 f1 f2 f3 f4 => ?_⟩
          -- the base: B1 with the new pairs in it
          let B2 : Hp := fun c => if H1 c = none ∧ c ≠ l then H' c else B1 c
          have b2l : B2 l = none := by
            show (if H1 l = none ∧ l ≠ l then H' l else B1 l) = none
            rw [if_neg (fun z => z.2 rfl)]
            exact none_of s1.bh f1
          have eb : Ex B1 B2 := fun c u hc => by
            show (if H1 c = none ∧ c ≠ l then H' c else B1 c) = some u
            rw [if_neg (fun z => by
              have := s1.bh _ _ hc
              rw [z.1] at this
              cases this)]
            exact hc
          have bh : Ex B2 H' := fun c u hc => by
            have hc' : (if H1 c = none ∧ c ≠ l then H' c else B1 c) = some u := hc
            split at hc'
            · exact hc'
            · exact e1 _ _ (s1.bh _ _ hc')
          have n2 : ∀ c, B2 c ≠ none → B1 c ≠ none ∨ H1 c = none := fun c hc => by
            by_cases z : H1 c = none
            · exact .inr z
            · left
              intro z2
              apply hc
              show (if H1 c = none ∧ c ≠ l then H' c else B1 c) = none
              rw [if_neg (fun y => z y.1)]
              exact z2
          refine q l vs' B2 H' (s1.trans ⟨eb, bh, e1, n2⟩) (none_of s1.h f1) b2l f2 ?_
          have hlen : (zipD ds es).length = ds.length := by
            unfold zipD
            rw [List.length_map, List.length_zip, ← hl, Nat.min_self]
          refine DtAll.of (by rw [f3, h2.len, hlen]) fun i v d hv hd => ?_
          obtain ⟨T, x, y, y1, y2, y3, y4, y5⟩ := f4 i (List.getElem?_eq_some_iff.mp hv).1
          rw [y1] at hv
          cases Option.some.inj hv
          obtain ⟨f, hf, df⟩ := h2.getV y2
          obtain ⟨g, hg, dg⟩ := k2.getV y3
          have e : d = .tuple [f, g] := by
            unfold zipD at hd
            rw [List.getElem?_map, show (ds.zip es)[i]? = some (f, g) from List.getElem?_zip_eq_some.mpr ⟨hf, hg⟩] at hd
            exact (Option.some.inj hd).symm
          rw [e]
          have hTl : T ≠ l := fun z => by
            rw [z, f2] at y4
            cases y4
          have bT : B2 T = some (.tup [x, y]) := by
            show (if H1 T = none ∧ T ≠ l then H' T else B1 T) = _
            rw [if_pos ⟨y5, hTl⟩]
            exact y4
          exact .tup (st_of bT) (.cons (dt_mono eb _ _ df) (.cons (dt_mono eb _ _ dg) .nil))
end
end Ja

/-! Own data layer: isinstance, x in (a, b, c) of ints, ranges with a step. -/
namespace Ja
open PySem PySem.Spec PyProof.Rows L2 Evl Cm
def tyD : PyData → Option String
  | .bool _ => some "bool"
  | .int _ => some "int"
  | .str _ => some "str"
  | .list _ => some "list"
  | .tuple _ => some "tuple"
  | _ => none
section
variable {K : PySem.W.Frag} {B0 H0 : Hp} {δ : List Sl} {te ta tb : TE} {d : PyData} {i : Int}
theorem ty_rd_l {H : Hp} {a : Addr} {xs : List V} (h : SqL K H a xs) : TyX K H (.ref a) (.type "list") := by
  rcases h with (h | ⟨o, h⟩) | ⟨o, its, n, h, hc, _⟩
  · exact .base (.lst h)
  · exact .base (.frz h)
  · exact .kList h hc
theorem ty_rd_t {H : Hp} {a : Addr} {xs : List V} (h : SqT K H a xs) : TyX K H (.ref a) (.type "tuple") := by
  rcases h with (h | ⟨o, h⟩) | ⟨o, its, n, h, hc, _⟩
  · exact .base (.tup h)
  · exact .fTuple h
  · exact .kTuple h hc
theorem ty_of {B : Hp} {v : V} {t : String} (h : Dt K B v d) (ht : tyD d = some t) : TyX K B v (.type t) := by
  cases h with
  | non => cases ht
  | bl b => cases ht; exact .base (.bl _)
  | int i => cases ht; exact .base (.int _)
  | str x => cases ht; exact .base (.str _)
  | lst h1 h2 => cases ht; exact ty_rd_l (sq_of h1)
  | tup h1 h2 => cases ht; exact ty_rd_t h1
theorem d_isi {T t : String} {b : Bool} (h : EvS K B0 H0 te δ (.dat d)) (ht : tyD d = some t) (hk : kitB t T = some b) : EvS K B0 H0 (tCB (rIsi K) (tCons te (tCons (tC (.ty T)) tNil))) δ (nB b) := fun B H σ S Q q => h B H σ S _ fun v B1 H1 s1 i1 => by
  have hty := ty_of (dt_mono s1.bh _ _ i1) ht
  exact ⟨v, .ty T, .type t, .type T, b, rfl, .ty T, hty, kit_ty hk, q _ B1 H1 s1 (Dt.bl _)⟩
theorem inV_ints (i : Int) : ∀ ns : List Int, inV (.int i) (ns.map V.int) = decide (i ∈ ns)
  | [] => rfl
  | n :: r => by
    have h := inV_ints i r
    unfold inV at h ⊢
    rw [List.map_cons, List.any_cons, h]
    show ((n == i) || decide (i ∈ r)) = _
    by_cases e : n = i
    · subst e
      simp
    · have e2 : ¬ i = n := fun z => e z.symm
      simp [e, e2]
theorem flat_ints : ∀ ns : List Int, (ns.map V.int).all flatV = true
  | [] => rfl
  | n :: r => flat_ints r
theorem d_inT {ns : List Int} (ha : EvS K B0 H0 ta δ (nI i)) (hb : EvS K B0 H0 tb δ (.dat (.tuple (ns.map PyData.int)))) : EvS K B0 H0 (tOp (rIn K false) ta tb) δ (nB (decide (i ∈ ns))) := fun B H σ S Q q => ha B H σ S _ fun v B1 H1 s1 i1 => hb B1 H1 σ (S.go s1) _ fun w B2 H2 s2 i2 => by
  cases i1
  cases i2 with
  | tup g1 g2 =>
    rw [dt_ints_inv ns g2] at g1
    refine ⟨_, ns.map V.int, rfl, .inr (ex_t s2.bh g1), rfl, flat_ints ns, ?_⟩
    rw [if_neg (by decide), inV_ints]
    exact q _ B2 H2 (s1.trans s2) (Dt.bl _)
/-- lo, lo + c, .. -/
def stepD (lo c : Int) (n : Nat) : List PyData := (List.range n).map fun i : Nat => PyData.int (lo + (i : Int) * c)
theorem stepD_len (lo c : Int) (n : Nat) : (stepD lo c n).length = n := by
  unfold stepD
  rw [List.length_map, List.length_range]
theorem stepD_get {lo c : Int} {n i : Nat} {d : PyData} (h : (stepD lo c n)[i]? = some d) : i < n ∧ d = .int (lo + (i : Int) * c) := by
  have hi : i < n := by
    have := (List.getElem?_eq_some_iff.mp h).1
    rwa [stepD_len] at this
  unfold stepD at h
  rw [List.getElem?_map, List.getElem?_range hi] at h
  exact ⟨hi, (Option.some.inj h).symm⟩
theorem w_rng3 {ta : TA} {lo hi c : Int} {n : Nat} (h : EvD K B0 H0 ta δ [.int lo, .int hi, .int c]) (h1 : RgC lo hi c n) : EvW K B0 H0 (iRng3 ta) δ (stepD lo c n) := fun B H σ S R q => h B H σ S _ fun vs B1 H1 s1 i1 => by
  cases i1 with
  | cons g1 g2 =>
    cases g1
    cases g2 with
    | cons g3 g4 =>
      cases g3
      cases g4 with
      | cons g5 g6 =>
        cases g5
        cases g6
        refine ⟨lo, hi, c, n, rfl, h1, q _ _ _ B1 H1 s1 (by rw [stepD_len]; exact walk_rangeC) (fun _ _ _ _ => trivial) fun i H2 x H3 B2 d hd e1 e2 y => ?_⟩
        obtain ⟨rfl, rfl⟩ := y
        obtain ⟨_, rfl⟩ := stepD_get hd
        exact ⟨B2, .refl e2, .int _⟩
end
/-- range(1, m - 1, 2) -/
theorem rg_odd : ∀ m : Nat, m ≤ 40 → RgC 1 ((m : Int) - 1) 2 ((m - 1) / 2) := by
  have h : ∀ m : Fin 41, RgC 1 ((m.val : Int) - 1) 2 ((m.val - 1) / 2) := by
    unfold RgC
    decide +kernel
  exact fun m hm => h ⟨m, by omega⟩
end Ja

/-! Own data layer: slices of mapped lists, points. -/
namespace Ja
open PySem PySem.Spec PyProof.Rows L2 Evl Cm
section
variable {A : Type}
def cutL (xs : List A) (lo hi : Option Int) : List A := (xs.drop (HT.sIx xs.length 0 lo)).take (HT.sIx xs.length xs.length hi - HT.sIx xs.length 0 lo)
theorem cutD_map (f : A → PyData) (xs : List A) (lo hi : Option Int) : cutD (xs.map f) lo hi = (cutL xs lo hi).map f := by
  unfold cutD cutL
  rw [List.length_map, ← List.map_drop, ← List.map_take]
theorem drop_min (xs : List A) (n : Nat) : xs.drop (min n xs.length) = xs.drop n := by
  by_cases h : n ≤ xs.length
  · rw [Nat.min_eq_left h]
  · rw [Nat.min_eq_right (by omega), List.drop_length, List.drop_eq_nil_of_le (by omega)]
theorem cut_from (xs : List A) (n : Nat) : cutL xs (some (n : Int)) none = xs.drop n := by
  unfold cutL
  rw [HT.sIx_none, HT.sIx_nat, drop_min, List.take_of_length_le]
  rw [List.length_drop]
  omega
theorem cut_to (xs : List A) (n : Nat) : cutL xs none (some (n : Int)) = xs.take n := by
  unfold cutL
  rw [HT.sIx_none, HT.sIx_nat, List.drop_zero, Nat.sub_zero]
  refine List.take_eq_take_iff.mpr ?_
  omega
theorem cut_mid (xs : List A) (a b : Nat) : cutL xs (some (a : Int)) (some (b : Int)) = (xs.drop a).take (b - a) := by
  unfold cutL
  rw [HT.sIx_nat, HT.sIx_nat, drop_min]
  refine List.take_eq_take_iff.mpr ?_
  rw [List.length_drop]
  omega
end
section
variable {K : PySem.W.Frag} {B0 H0 : Hp} {δ : List Sl} {te tb : TE} {A : Type} {f : A → PyData} {xs ys : List A}
theorem n_slF {tl th : TO} {lo hi : Option Int} (h : EvS K B0 H0 te δ (.dat (.list (xs.map f)))) (h1 : EvO K B0 H0 tl δ lo) (h2 : EvO K B0 H0 th δ hi) (e : cutL xs lo hi = ys) : EvN K B0 H0 (tSl (rSlL K) te tl th) δ (ys.map f) := by
  have := n_sl h h1 h2
  rwa [cutD_map, e] at this
theorem n_catF (ha : EvS K B0 H0 te δ (.dat (.list (xs.map f)))) (hb : EvS K B0 H0 tb δ (.dat (.list (ys.map f)))) (hz : xs.length + ys.length ≤ 100000) : EvN K B0 H0 (tOp rCat te tb) δ ((xs ++ ys).map f) := by
  have := n_cat ha hb (by rw [List.length_map, List.length_map]; exact hz)
  rwa [← List.map_append] at this
theorem n_zipF {B : Type} {g : B → PyData} {zs : List B} (h1 : EvS K B0 H0 te δ (.dat (.list (xs.map f)))) (h2 : EvS K B0 H0 tb δ (.dat (.list (zs.map g)))) (hl : xs.length = zs.length) (hz : xs.length ≤ 40000) : EvN K B0 H0 (tLZ K (tCons te (tCons tb tNil))) δ ((xs.zip zs).map fun p => .tuple [f p.1, g p.2]) := by
  have := n_listZip (ds_cons h1 (ds_cons h2 ds_nil)) (by rw [List.length_map, List.length_map]; exact hl) (by rw [List.length_map]; exact hz)
  unfold zipD at this
  rw [List.zip_map, List.map_map] at this
  exact this
theorem d_sumF {xs : List A} {g : A → Int} (h : EvN K B0 H0 te δ (xs.map fun x => .int (g x))) : EvS K B0 H0 (tCB (rSum K) (tCons te tNil)) δ (nI (xs.map g).sum) := by
  have e : (xs.map fun x => PyData.int (g x)) = (xs.map g).map PyData.int := by
    rw [List.map_map]
    rfl
  rw [e] at h
  exact d_sum (d_new h)
end
theorem enc_int : Enc PyData.int := ⟨fun x y => rfl, ⟨1, by decide, fun x => shp_int x⟩⟩
/-! ### points -/
open Pg
abbrev encP (p : Pt) : PyData := .tuple [.int p.1, .int p.2]
theorem shp_P (p : Pt) : Shp 1 (encP p) := shp_tup (shp_cons (n := 0) (shp_int _) (shp_cons (shp_int _) shp_nil))
theorem enc_P : Enc encP := by
  refine ⟨fun x y => ?_, ⟨1, by decide, shp_P⟩⟩
  have e : PyData.eqv (encP x) (encP y) = ((x.1 == y.1) && ((x.2 == y.2) && true)) := by simp only [encP, PyData.eqv, PyData.eqvAll]
  rw [e]
  obtain ⟨a, b⟩ := x
  obtain ⟨d, f⟩ := y
  by_cases h : (a, b) = (d, f)
  · rw [decide_eq_true h]
    cases h
    simp
  · rw [decide_eq_false h]
    have h2 : ¬ (a = d ∧ b = f) := fun ⟨h1, h2⟩ => h (by rw [h1, h2])
    simp only [Bool.and_true, Bool.and_eq_false_iff, beq_eq_false_iff_ne]
    omega
/-- the sides, as pairs -/
def sidesL (ps : List Pt) : List (Pt × Pt) := ps.zip (ps.drop 1 ++ ps.take 1)
abbrev encS (s : Pt × Pt) : PyData := .tuple [encP s.1, encP s.2]
theorem sides_len (ps : List Pt) : (sidesL ps).length = ps.length := by
  unfold sidesL
  cases ps <;> simp
theorem path_zip (q : Pt) : ∀ (p : Pt) (r : List Pt), (((p :: r).zip (r ++ [q])).map fun s => cr s.1 s.2).sum = path (p :: r ++ [q])
  | p, [] => by simp [path]
  | p, b :: r => by
    have h := path_zip q b r
    show cr p b + (((b :: r).zip (r ++ [q])).map fun s => cr s.1 s.2).sum = cr p b + path (b :: (r ++ [q]))
    rw [h]
    rfl
theorem sum_sides : ∀ ps : List Pt, ((sidesL ps).map fun s => cr s.1 s.2).sum = area2 ps
  | [] => rfl
  | p :: r => path_zip p p r
/-- both numbers are small -/
def Pb (k : Nat) (p : Pt) : Prop := p.1.natAbs < 2 ^ k ∧ p.2.natAbs < 2 ^ k
theorem sides_mem {ps : List Pt} {s : Pt × Pt} (h : s ∈ sidesL ps) : s.1 ∈ ps ∧ s.2 ∈ ps := by
  unfold sidesL at h
  have := List.of_mem_zip h
  refine ⟨this.1, ?_⟩
  rcases List.mem_append.mp this.2 with z | z
  · exact List.mem_of_mem_drop z
  · exact List.mem_of_mem_take z
end Ja

/-! Own data layer: max of three, insert, pop, items of mapped lists. -/
namespace Ja
open PySem PySem.Spec PyProof.Rows L2 Evl Cm
theorem hu65 {A : Around} {k : Nat} (hr : Room k A) : A.units + 65 < cLine := by
  have := hr.un
  omega
section
variable {K : PySem.W.Frag} {B0 H0 : Hp} {W : WX} {δ δ1 : List Sl} {E : DE} {ta tb tc te : TE} {u : TS} {d : PyData} {ds : List PyData} {i j k : Int} {A : Type} {f : A → PyData} {xs : List A} {x : A}
theorem at_map (h : atI xs i = some x) : atI (xs.map f) i = some (f x) := by
  unfold atI at h ⊢
  rw [List.length_map]
  cases hx : ixN xs.length i with
  | none =>
    rw [hx] at h
    cases h
  | some n =>
    rw [hx] at h
    show (xs.map f)[n]? = _
    rw [List.getElem?_map, show xs[n]? = some x from h]
    rfl
theorem d_ixM (ha : EvS K B0 H0 ta δ (.dat (.list (xs.map f)))) (hb : EvS K B0 H0 tb δ (nI i)) (h : atI xs i = some x) : EvS K B0 H0 (tOp (rIxL K) ta tb) δ (.dat (f x)) := d_ixL ha hb (at_map h)
theorem d_ixOM {n : Nat} (ho : δ[n]? = some (Sl.own (xs.map f))) (hb : EvS K B0 H0 tb δ (nI i)) (h : atI xs i = some x) : EvS K B0 H0 (tOp (rIxL K) (tVar n) tb) δ (.dat (f x)) := d_ixO ho hb (at_map h)
theorem d_max3 (h : EvS K B0 H0 ta δ (nI i)) (h2 : EvS K B0 H0 tb δ (nI j)) (h3 : EvS K B0 H0 tc δ (nI k)) : EvS K B0 H0 (tCB (rNuC3 nuMax3) (tCons ta (tCons tb (tCons tc tNil)))) δ (nI (max (max i j) k)) := fun B H σ S Q q =>
  h B H σ S _ fun v B1 H1 s1 i1 => h2 B1 H1 σ (S.go s1) _ fun w B2 H2 s2 i2 => h3 B2 H2 σ (S.go (s1.trans s2)) _ fun z B3 H3 s3 i3 => by
    cases i1
    cases i2
    cases i3
    refine ⟨.int i, .int j, .int k, .int (max (max i j) k), rfl, ?_, q _ B3 H3 ((s1.trans s2).trans s3) (Dt.int _)⟩
    by_cases a : i < j
    · have e1 : max i j = j := by omega
      rw [e1]
      have e2 : (nuMax2 (.int i) (.int j)) = some (.int j) := by
        show some (if decide (i < j) = true then V.int j else V.int i) = _
        rw [decide_eq_true a]
        rfl
      show (nuMax2 (.int i) (.int j)).bind _ = _
      rw [e2]
      show some (if decide (j < k) = true then V.int k else V.int j) = _
      by_cases b : j < k
      · rw [decide_eq_true b, show max j k = k by omega]
        rfl
      · rw [decide_eq_false b, show max j k = j by omega]
        rfl
    · have e1 : max i j = i := by omega
      rw [e1]
      have e2 : (nuMax2 (.int i) (.int j)) = some (.int i) := by
        show some (if decide (i < j) = true then V.int j else V.int i) = _
        rw [decide_eq_false a]
        rfl
      show (nuMax2 (.int i) (.int j)).bind _ = _
      rw [e2]
      show some (if decide (i < k) = true then V.int k else V.int i) = _
      by_cases b : i < k
      · rw [decide_eq_true b, show max i k = k by omega]
        rfl
      · rw [decide_eq_false b, show max i k = i by omega]
        rfl
/-- x not in xs, xs of its own -/
theorem d_niO {n : Nat} (ha : EvS K B0 H0 ta δ (.dat d)) (ho : δ[n]? = some (Sl.own ds)) (h1 : SeqAt.shaped d = true) (h2 : SeqAt.shaped (.list ds) = true) : EvS K B0 H0 (tOp (rNotInD K) ta (tVar n)) δ (nB (!ds.any fun z => PyData.eqv z d)) := fun B H σ S Q q =>
  ha B H σ S _ fun v B1 H1 s1 i1 => by
    obtain ⟨l, vs, g1, g2, g3, g4, g5⟩ := (S.go s1).own n ds ho
    have eb : Ex B1 (upd B1 l (.lst vs)) := Ex.new g3
    have bh : Ex (upd B1 l (.lst vs)) H1 := fun a o ha => by
      by_cases z : a = l
      · subst z
        rw [upd_same] at ha
        rw [g2]
        exact ha
      · rw [upd_ne z] at ha
        exact s1.bh a o ha
    exact ⟨.ref l, g1, d, ds, dp_mono s1.bh _ _ (dt_dp _ _ i1), dp_mono bh _ _ (dt_dp _ _ (Dt.lst upd_same (dts_mono eb _ _ g5))), h1, h2, q _ B1 H1 s1 (Dt.bl _)⟩
theorem d_niEO {A : Type} [DecidableEq A] {f : A → PyData} {x : A} {l : List A} {n : Nat} (h : Enc f) (ha : EvS K B0 H0 ta δ (.dat (f x))) (ho : δ[n]? = some (Sl.own (l.map f))) : EvS K B0 H0 (tOp (rNotInD K) ta (tVar n)) δ (nB (!decide (x ∈ l))) := d_isB (d_niO ha ho (h.shx x) (h.shl l)) (by rw [any_map h.eq x l])
theorem atI_prev {A : Type} {xs : List A} {z : A} (hz : xs.getLast? = some z) {k : Nat} (hk : k < xs.length) : atI xs ((k : Int) - 1) = (z :: xs)[k]? := by
  cases k with
  | zero =>
    show atI xs (-1) = some z
    rw [← hz, List.getLast?_eq_getElem?]
    have h1 : ixN xs.length (-1) = some (xs.length - 1) := by
      unfold ixN
      rw [if_neg (by omega)]
      first | rw [if_pos (by omega)] | skip
      congr 1
      omega
    unfold atI
    rw [h1]
    rfl
  | succ k =>
    show atI xs (((k + 1 : Nat) : Int) - 1) = xs[k]?
    rw [show ((k + 1 : Nat) : Int) - 1 = (k : Int) by omega]
    rw [List.getElem?_eq_getElem (show k < xs.length by omega)]
    exact atI_nat (List.getElem?_eq_getElem (show k < xs.length by omega))
/-- the item behind, going around -/
theorem atI_next {A : Type} {xs : List A} {k : Nat} (hk : k < xs.length) : ∃ x, x ∈ xs ∧ atI xs ((k : Int) + 1 - (xs.length : Int) * (((k : Int) + 1) / (xs.length : Int))) = some x := by
  have h0 : 0 < xs.length := by omega
  have h1 : (k + 1) % xs.length < xs.length := Nat.mod_lt _ h0
  have e : (k : Int) + 1 - (xs.length : Int) * (((k : Int) + 1) / (xs.length : Int)) = (((k + 1) % xs.length : Nat) : Int) := by
    rw [Int.natCast_emod, Int.emod_def, Int.natCast_add]
    rfl
  rw [e]
  exact ⟨xs[(k + 1) % xs.length], List.getElem_mem h1, atI_nat (List.getElem?_eq_getElem h1)⟩
theorem mul_div_ok {k n : Nat} (hn : n ≤ 1000) (hk : k ≤ 1000) : CMulX (n : Int) (((k : Int) + 1) / (n : Int)) := by
  have h1 : (((k : Int) + 1) / (n : Int)) = (((k + 1) / n : Nat) : Int) := by
    rw [Int.natCast_ediv, Int.natCast_add]
    rfl
  rw [h1]
  have h2 : (k + 1) / n ≤ k + 1 := Nat.div_le_self _ _
  generalize (k + 1) / n = m at h2 ⊢
  exact mulx_ok (a := 20) (b := 20) (by omega) (by omega) (by decide)
theorem r_newR {P : List PyData → Prop} (h : EvNR K B0 H0 te δ P) : EvR K B0 H0 te δ fun d => ∃ ds, P ds ∧ d = .list ds := fun B H σ S Q q => h B H σ S Q fun l vs ds B1 H1 p s1 f1 f2 f3 f4 => by
  have eb : Ex B1 (upd B1 l (.lst vs)) := Ex.new f2
  refine q _ _ (upd B1 l (.lst vs)) H1 ⟨ds, p, rfl⟩ ⟨s1.b.trans eb, fun a o ha => ?_, s1.h, fun a ha => ?_⟩ (.lst upd_same (dts_mono eb _ _ f4))
  · by_cases z : a = l
    · subst z
      rw [upd_same] at ha
      rw [f3]
      exact ha
    · rw [upd_ne z] at ha
      exact s1.bh a o ha
  · by_cases z : a = l
    · subst z
      exact .inr f1
    · rw [upd_ne z] at ha
      exact s1.n a ha
/-- a def called with one thing of which something is told -/
theorem r_call1 {A : Type} {enc : A → List Sl} {pre : A → Prop} {post : A → PyData → Prop} {R : XK} {P : PyData → Prop} (h : EvR K B0 H0 te δ P) (hh : ∀ d, P d → ∃ a, enc a = [.dat d] ∧ pre a) : EvR K B0 H0 (tCall (SpA K enc pre post) [] R (tCons te tNil)) δ fun d => ∃ a, pre a ∧ post a d := fun B H σ S Q q => h B H σ S _ fun v d B1 H1 p s1 i1 => by
  obtain ⟨a, e, hp⟩ := hh d p
  exact ⟨B1, a, s1.bh, by rw [List.append_nil, e]; exact .cons i1 .nil, hp, fun v2 d2 B2 H2 p2 st dv => q v2 d2 B2 H2 ⟨a, hp, p2⟩ (s1.trans st) dv⟩
/-- some answer -/
def EvBR (K : PySem.W.Frag) (B0 H0 : Hp) (tt : TT) (δ : List Sl) : Prop := ∀ B H σ, Sc K B0 H0 B H σ δ → ∀ Q : Bool → Hp → Prop, (∀ b B' H', Stp B H B' H' → Q b H') → tt σ H Q
theorem br_val (h : EvR K B0 H0 te δ fun d => ∃ b, d = .bool b) : EvBR K B0 H0 (tB te) δ := fun B H σ S Q q => h B H σ S _ fun v d B1 H1 ⟨b, e⟩ s1 i1 => by
  subst e
  cases i1
  exact ⟨b, rfl, q b B1 H1 s1⟩
theorem br_not {tt : TT} (h : EvBR K B0 H0 tt δ) : EvBR K B0 H0 (tNot tt) δ := fun B H σ S Q q => h B H σ S _ fun b B1 H1 s1 => q _ B1 H1 s1
theorem sd_ifBR {tt : TT} {t u : TS} (h : EvBR K B0 H0 tt δ) (h1 : SD K B0 H0 W t δ E) (h2 : SD K B0 H0 W u δ E) : SD K B0 H0 W (tIfS tt t u) δ E := fun D B H σ S L => h B H σ S _ fun b B1 H1 s1 => by
  cases b with
  | true => exact h1 D B1 H1 σ (S.go s1) (L.mono s1.b)
  | false => exact h2 D B1 H1 σ (S.go s1) (L.mono s1.b)
def rInsD : V → List V → Hp → VK → Prop := fun x vs H Q => ∃ (l : Addr) (xs : List V) (i : Int) (y : V), x = .ref l ∧ vs = [.int i, y] ∧ H l = some (.lst xs) ∧ xs.length < sizeLine ∧ 0 ≤ i ∧ i < 2 ^ 63 ∧ Q .non (upd H l (.lst (xs.take i.toNat ++ [y] ++ xs.drop i.toNat)))
theorem mt_insD {X : Cx} : MtR X "list.insert" rInsD := mt_insert
/-- xs.insert(m, e), xs of its own -/
theorem sd_ins {n m : Nat} (hn : δ[n]? = some (Sl.own ds)) (hi : EvS K B0 H0 tb δ (nI (m : Int))) (h : EvS K B0 H0 te δ (.dat d)) (hz : ds.length < 100000) (hm : m ≤ 100000) (k : E.nx (δ.set n (.own (ds.take m ++ [d] ++ ds.drop m)))) : SD K B0 H0 W (tDrop (tBM K "list" rInsD (tVar n) (tCons tb (tCons te tNil)))) δ E := fun D B H σ S L => by
  obtain ⟨l, vs, h1, h2, h3, h4, h5⟩ := S.own n ds hn
  refine ⟨.ref l, h1, .inl ⟨rfl, _, sq_of h2⟩, hi B H σ S _ fun w B1 H1 s1 i1 => h B1 H1 σ (S.go s1) _ fun v B2 H2 s2 i2 => ?_⟩
  cases i1
  have s := s1.trans s2
  obtain ⟨l', ws, g1, g2, g3, g4, g5⟩ := (S.go s).own n ds hn
  rw [h1] at g1
  cases Option.some.inj (Option.some.inj g1)
  refine ⟨l, ws, (m : Int), v, rfl, rfl, g2, by rw [g5.len]; exact sz_lt hz, by omega, by have : (100000 : Int) < 2 ^ 63 := by decide
                                                                                          omega, ?_⟩
  refine L.nx B2 _ σ _ s.b ((S.go s).mut hn h1 ?_) k
  rw [Int.toNat_natCast]
  exact ((g5.take m).app (.cons i2 .nil)).app (g5.drop m)
/-- xs.pop(), xs of its own -/
theorem sd_pop {n : Nat} {e : PyData} (hn : δ[n]? = some (Sl.own (ds ++ [e]))) (k : E.nx (δ.set n (.own ds))) : SD K B0 H0 W (tDrop (tBM0 K "list" rPop (tVar n))) δ E := fun D B H σ S L => by
  obtain ⟨l, vs, h1, h2, h3, h4, h5⟩ := S.own n _ hn
  have hl := h5.len
  rw [List.length_append] at hl
  have hlt : vs.length - 1 < vs.length := by
    have : [e].length = 1 := rfl
    omega
  refine ⟨.ref l, h1, .inl ⟨rfl, _, sq_of h2⟩, l, vs, vs[vs.length - 1], rfl, rfl, h2, List.getElem?_eq_getElem hlt, ?_⟩
  refine L.nx B _ σ _ (.refl _) (S.mut hn h1 ?_) k
  have h6 := h5.take (vs.length - 1)
  rw [List.dropLast_eq_take]
  have e1 : (ds ++ [e]).take (vs.length - 1) = ds := by
    have : [e].length = 1 := rfl
    rw [show vs.length - 1 = ds.length by omega, List.take_left]
  rwa [e1] at h6
end
end Ja

/-! Own data layer: sorted(a list of pairs of ints). -/
namespace Ja
open PySem PySem.Spec PyProof.Rows L2 Evl Cm
open Pg (Pt)
/-- the pair that stands at a reference -/
def rdP (h : Heap) (u : Value) : Int × Int := match u with
  | .ref t => match h.get? t with
    | some o => match o.data with
      | .seq zs _ => match zs.toList with
        | [.int i _, .int j _] => (i, j)
        | _ => (0, 0)
      | _ => (0, 0)
    | none => (0, 0)
  | _ => (0, 0)
abbrev PairOf (K : PySem.W.Frag) (H : Hp) (x : V) (p : Pt) : Prop := ∃ t, x = V.ref t ∧ SqT K H t [.int p.1, .int p.2]
def rSortedD (K : PySem.W.Frag) : List V → Hp → VK → Prop := fun vs H Q => ∃ (a : Addr) (xs : List V) (ps : List Pt) (R : V → Pt → Prop), vs = [V.ref a] ∧ SqL K H a xs ∧ Paired (fun x p => PairOf K H x p ∧ R x p) xs ps ∧
  ∀ ys qs p, Paired R ys qs → qs.Perm ps → qs.Pairwise (fun p q => SrtO.lexB q p = false) → H p = none → Q (.ref p) (upd H p (.lst ys))
section
variable {X : Cx} {R : V → Pt → Prop}
theorem pairs_read {pins : List (Addr × Obj)} {s : Shared} {σ : L2.St} {H : Hp} (I : Inv X pins σ H s) : ∀ {xs : List V} {its : List Value} {ps : List Pt}, Vals xs its → Paired (fun x p => PairOf X.K H x p ∧ R x p) xs ps → its.map (rdP s.heap) = ps ∧ ∀ u ∈ its, ∃ t, u = .ref t ∧ R (V.ref t) (rdP s.heap u) ∧ Srt.IsPair s.heap u (rdP s.heap u).1 (rdP s.heap u).2
  | _, _, _, .nil, .nil => ⟨rfl, fun u hu => nomatch hu⟩
  | _, u :: its, p :: ps, .cons r rr, .cons ⟨⟨t, e, ht⟩, hR⟩ hr => by
    obtain ⟨h1, h2⟩ := pairs_read I rr hr
    subst e
    cases r
    obtain ⟨zs, rz, ⟨o, ho, hc, n, hd⟩, _⟩ := I.tuple ht
    obtain ⟨u1, u2, rfl, ri, rj⟩ := vals2 rz
    obtain ⟨t1, rfl⟩ := ri
    obtain ⟨t2, rfl⟩ := rj
    have hk : rdP s.heap (.ref t) = p := by
      unfold rdP
      simp [ho, hd]
    refine ⟨by rw [List.map_cons, h1, hk], fun v hv => ?_⟩
    rcases List.mem_cons.mp hv with z | z
    · subst z
      rw [hk]
      exact ⟨t, rfl, hR, t, o, t1, t2, n, rfl, ho, hc, hd⟩
    · exact h2 v z
theorem pairs_back {k : Value → Int × Int} : ∀ {out : List Value}, (∀ u ∈ out, ∃ t, u = .ref t ∧ R (V.ref t) (k u)) → Paired R (out.map backV) (out.map k)
  | [], _ => .nil
  | u :: r, h => by
    obtain ⟨t, e, ht⟩ := h u (List.mem_cons_self ..)
    refine .cons ?_ (pairs_back fun v hv => h v (List.mem_cons_of_mem _ hv))
    have : backV u = V.ref t := by rw [e]; rfl
    rw [this]
    exact ht
theorem cr_sortedD : CallR X (.builtin "sorted") (rSortedD X.K) := by
  intro pins s σ H vs us Q I r h
  obtain ⟨a, xs, ps, R, rfl, hs, hp, q⟩ := h
  obtain ⟨its, rv, hl, hsz⟩ := I.list hs
  obtain ⟨h1, h2⟩ := pairs_read I rv hp
  rw [Vals.ref1 r]
  refine SrtO.sorted_pairsO (k := rdP s.heap) hl.isList (rv.length ▸ hsz) (fun v hv => ?_) fun h' d out g1 g2 kp hd hn => ?_
  · obtain ⟨t, _, _, z⟩ := h2 v hv
    exact z
  · have hm : ∀ u ∈ out, ∃ t, u = .ref t ∧ R (V.ref t) (rdP s.heap u) := fun u hu => by
      obtain ⟨t, e1, e2, _⟩ := h2 u (g2.perm.mem_iff.mp hu)
      exact ⟨t, e1, e2⟩
    obtain ⟨n, hn⟩ := hn
    have ho : ∀ u ∈ out, ∃ a, u = Value.ref a := fun u hu => by
      obtain ⟨t, e, _⟩ := hm u hu
      exact ⟨t, e⟩
    have hlen : (out.map backV).length ≤ sizeLine := by
      rw [List.length_map, g2.len, ← rv.length]
      exact hsz
    refine ⟨.ref d, upd H d (.lst (out.map backV)), I.laid (t' := s.toks) kp hd ⟨hlen, out, n, vals_back ho, hn⟩, rfl, q _ (out.map (rdP s.heap)) d (pairs_back hm) ?_ (List.pairwise_map.mpr g1) (I.hok.fresh hd)⟩
    rw [← h1]
    exact g2.perm.map _
end
section
variable {K : PySem.W.Frag} {B0 H0 : Hp} {δ : List Sl} {ta : TE} {ps : List Pt}
theorem pairs_of {B H : Hp} (e : Ex B H) : ∀ {xs : List V} {ps : List Pt}, DtAll K B xs (ps.map encP) → Paired (fun x p => PairOf K H x p ∧ Dt K B x (encP p)) xs ps
  | _, [], .nil => .nil
  | _, p :: ps, .cons h r => by
    refine .cons ⟨?_, h⟩ (pairs_of e r)
    cases h with
    | tup h1 h2 => exact ⟨_, rfl, by
      have := dt_ints_inv [p.1, p.2] h2
      rw [this] at h1
      exact ex_t e h1⟩
theorem pairs_to {B : Hp} : ∀ {xs : List V} {ps : List Pt}, Paired (fun x p => Dt K B x (encP p)) xs ps → DtAll K B xs (ps.map encP)
  | _, [], .nil => .nil
  | _, p :: ps, .cons h r => .cons h (pairs_to r)
theorem d_niT {tb : TE} {i : Int} {ns : List Int} (ha : EvS K B0 H0 ta δ (nI i)) (hb : EvS K B0 H0 tb δ (.dat (.tuple (ns.map PyData.int)))) : EvS K B0 H0 (tOp (rIn K true) ta tb) δ (nB (!decide (i ∈ ns))) := fun B H σ S Q q => ha B H σ S _ fun v B1 H1 s1 i1 => hb B1 H1 σ (S.go s1) _ fun w B2 H2 s2 i2 => by
  cases i1
  cases i2 with
  | tup g1 g2 =>
    rw [dt_ints_inv ns g2] at g1
    refine ⟨_, ns.map V.int, rfl, .inr (ex_t s2.bh g1), rfl, flat_ints ns, ?_⟩
    rw [if_pos rfl, inV_ints]
    exact q _ B2 H2 (s1.trans s2) (Dt.bl _)
/-- sorted: a new list, the same pairs in order -/
theorem nr_sortedP (h : EvS K B0 H0 ta δ (.dat (.list (ps.map encP)))) : EvNR K B0 H0 (tCB (rSortedD K) (tCons ta tNil)) δ fun ds => ∃ qs : List Pt, ds = qs.map encP ∧ qs.Perm ps ∧ qs.Pairwise fun p q => SrtO.lexB q p = false := fun B H σ S Q q => h B H σ S _ fun v B1 H1 s1 i1 => by
  cases i1 with
  | @lst a xs _ g1 g2 =>
    refine ⟨a, xs, ps, fun x p => Dt K B1 x (encP p), rfl, sq_of (s1.bh _ _ g1), pairs_of s1.bh g2, fun ys qs p f1 f2 f3 f4 => ?_⟩
    exact q p ys _ B1 _ ⟨qs, rfl, f2, f3⟩ (s1.trans (.same s1.bh (.new f4))) (none_of s1.h f4) (none_of s1.bh f4) upd_same (pairs_to f1)
end
end Ja

/-! Own data layer: sorted(set(a list of pairs of ints)). -/
namespace Ja
open PySem PySem.Spec PyProof.Rows L2 Evl Cm
open Pg (Pt)
theorem perm_map_back {α β : Type} [DecidableEq α] {f : α → β} : ∀ {out : List β} {L : List α}, out.Perm (L.map f) → ∃ L' : List α, L'.Perm L ∧ out = L'.map f
  | [], L, h => by
    have : L.map f = [] := h.symm.eq_nil
    have h2 : L = [] := List.map_eq_nil_iff.mp this
    exact ⟨[], by rw [h2], rfl⟩
  | x :: xs, L, h => by
    obtain ⟨q, hq, e⟩ := List.mem_map.mp (h.mem_iff.mp (List.mem_cons_self ..))
    have h1 := List.perm_cons_erase hq
    have h2 : (x :: xs).Perm (x :: (L.erase q).map f) := by
      have := h.trans (h1.map f)
      rw [List.map_cons, e] at this
      exact this
    obtain ⟨L', p1, p2⟩ := perm_map_back h2.cons_inv
    exact ⟨q :: L', (List.Perm.cons q p1).trans h1.symm, by rw [List.map_cons, e, p2]⟩
/-- the pair of a list of two -/
def pr (l : List Int) : Int × Int := (l.getD 0 0, l.getD 1 0)
def rSortedS (K : PySem.W.Frag) (P : Program) (w : World) : List V → Hp → VK → Prop := fun vs H Q => ∃ (a : Addr) (L : List (Addr × List Int)), vs = [V.ref a] ∧ H a = some (SetTO P w a L) ∧ (∀ p ∈ L, SqT K H p.1 (p.2.map V.int)) ∧ (∀ p ∈ L, p.2.length = 2) ∧
  ∀ (L' : List (Addr × List Int)) (p : Addr), L'.Perm L → (L'.map (·.2)).Nodup → L'.Pairwise (fun q r => SrtO.lexB (pr r.2) (pr q.2) = false) → H p = none → Q (.ref p) (upd H p (.lst (L'.map fun q => V.ref q.1)))
section
variable {P : Program} {w : World} {A : Around} {E : Value → Shared → Prop} {s : Shared} {a : Addr} {L : List (Addr × List Int)} {es : Array (Int × Value)} {ep : Nat} {t : SetTable}
theorem pair_at {h : Heap} {v : Value} {ns : List Int} (x : TS.TupInts h v ns) (h2 : ns.length = 2) : Srt.IsPair h v (pr ns).1 (pr ns).2 := by
  obtain ⟨b, xs, e, ⟨o, ho, hc, n, hd⟩, hi⟩ := x
  have hx : xs = xs.toList.toArray := by simp
  generalize xs.toList = l at hi hx
  subst hx
  cases hi with
  | nil => cases h2
  | cons n1 t1 hi =>
    cases hi with
    | nil => cases h2
    | cons n1 t1 hi =>
      cases hi with
      | nil => exact ⟨b, o, _, _, n, e, ho, hc, hd⟩
      | cons n3 t3 hi => simp at h2
theorem sorted_setP {Q : Value → Shared → Prop} (R : SetTR P w s.heap a L es ep t) (hh : A.handled = none) (h2 : ∀ p ∈ L, p.2.length = 2)
    (hQ : ∀ s' p (out : List Value) (c : Nat) (L' : List (Addr × List Int)), (∀ b o, s.heap.get? b = some o → s'.heap.get? b = some o) → s'.gens = s.gens → s'.os = s.os → s.heap.objs.size ≤ p →
      s'.heap.get? p = some (seqObj "list" out.toArray c) → out = L'.map (fun q => Value.ref q.1) → L'.Perm L → L'.Pairwise (fun q r => SrtO.lexB (pr r.2) (pr q.2) = false) → Q (.ref p) s') :
    wpAny (model P w) A (call (.builtin "sorted") [.ref a]) Q E s := by
  obtain ⟨o, ho, hex, hd⟩ := R.ob
  have hsz := R.size
  have hfew := R.few
  refine Calls.call_function_entry kind_sorted plain_sorted entry_sorted (args_sorted1 _) ?_
  unfold Builtin.«sorted»
  refine wpAny_bind (m := checkCount "sorted" 1 1 _) (wpAny_pure ?_)
  refine wpAny_bind (collect_set (A := A.in1) hh ⟨o, ho, hex.1, hd⟩ R.fits (by unfold scanBound; omega) R.tab.ris R.led fun s1 vs k1 hz g1 o1 pm => ?_)
  have hes : es.toList.map (·.2) = L.map fun q => Value.ref q.1 := by
    rw [R.rows]
    unfold rowsOf
    rw [List.map_map] <;> rfl
  rw [hes] at pm
  have hvl : vs.length < 64 := by rw [pm.length_eq, List.length_map]; exact hfew
  have hvz : vs.length ≤ sizeLine := by rw [sizeLine_eq]; omega
  refine wpAny_bind (wpAny_newList ?_ hvz)
  have hoL : (s1.heap.push (seqObj "list" vs.toArray 0)).get? s1.heap.objs.size = some (seqObj "list" vs.toArray 0) := Heap.get?_push_size _ rfl
  have tk : ∀ q ∈ L, TS.TupInts (s1.heap.push (seqObj "list" vs.toArray 0)) (.ref q.1) q.2 := fun q hq => tupInts_of (P := P) (w := w) (isT_keep (R.tup q hq) fun b u e => Heap.get?_push_of_some _ (k1 b u e))
  have x : ∀ v ∈ vs, Srt.IsPair (s1.heap.push (seqObj "list" vs.toArray 0)) v (pr (TS.intsOf (s1.heap.push (seqObj "list" vs.toArray 0)) v)).1 (pr (TS.intsOf (s1.heap.push (seqObj "list" vs.toArray 0)) v)).2 := fun v hv => by
    obtain ⟨q, hq, e⟩ := List.mem_map.mp (pm.mem_iff.mp hv)
    subst e
    rw [(tk q hq).ints]
    exact pair_at (tk q hq) (h2 q hq)
  refine wpAny_bind (wpAny_holding (wpAny_call_entry (s := { s1 with heap := s1.heap.push (seqObj "list" vs.toArray 0) }) slot_list_sort ⟨_, hoL, rfl⟩ entry_list_sort (SrtO.list_sort_ord (SrtO.swo_lex fun v => pr (TS.intsOf (s1.heap.push (seqObj "list" vs.toArray 0)) v)) hoL hvz (fun h3 => SrtO.pairs_sortableO (by omega) x fun o e => ?_) fun out a1 a2 => ⟨_, rfl, ?_⟩) (args_list_sort _)))
  · have e' : some o = some (seqObj "list" vs.toArray 0) := e.symm.trans hoL
    cases e'
    intro c
    exact absurd (Value.type.inj c) (by decide)
  · obtain ⟨c, hc⟩ := sortedHeap_at (vs := vs) (out := out.toArray) hoL
    obtain ⟨L', p1, p2⟩ := perm_map_back (a2.perm.trans pm)
    refine wpAny_pure ⟨_, rfl, hQ _ s1.heap.objs.size out c L' (fun b u e => ?_) g1 o1 hz hc p2 p1 ?_⟩
    · have q := k1 b u e
      have hlt := Heap.lt_size q
      show (sortedHeap (s1.heap.push (seqObj "list" vs.toArray 0)) s1.heap.objs.size vs out.toArray).get? b = some u
      rw [sortedHeap_old (Nat.ne_of_lt hlt) (by rw [size_push']; exact Nat.lt_succ_of_lt hlt)]
      exact Heap.get?_push_of_some _ q
    · rw [p2] at a1
      refine List.Pairwise.imp_of_mem (fun {q r} hq hr hle => ?_) (List.pairwise_map.mp a1)
      have f1 := (tk q (p1.mem_iff.mp hq)).ints
      have f2 := (tk r (p1.mem_iff.mp hr)).ints
      have hle' : SrtO.lexB (pr (TS.intsOf (s1.heap.push (seqObj "list" vs.toArray 0)) (.ref r.1))) (pr (TS.intsOf (s1.heap.push (seqObj "list" vs.toArray 0)) (.ref q.1))) = false := hle
      rw [f1, f2] at hle'
      exact hle'
end
section
variable {X : Cx}
theorem cr_sortedSP (hc : X.calm = true) : CallR X (.builtin "sorted") (rSortedS X.K X.prog X.w) := by
  intro pins s σ H vs us Q I r h
  obtain ⟨a, L, rfl, ha, hk, h2, q⟩ := h
  have R0 : SetT0 X.prog X.w s.heap a L := (I.hok a _ ha).1
  obtain ⟨es, ep, t, R⟩ := R0.full fun p hp => I.isT (hk p hp)
  rw [Vals.ref1 r]
  refine sorted_setP R (I.ok.hd hc) h2 fun s' p out c L' k g o hp hg hout pm pw => ?_
  have hfew : L'.length < 64 := by rw [pm.length_eq]; exact R.few
  have hlen : (L'.map fun q => V.ref q.1).length ≤ sizeLine := by rw [List.length_map, sizeLine_eq]; omega
  have hn : H p = none := I.hok.fresh hp
  have hv : Vals (L'.map fun q => V.ref q.1) out := by rw [hout]; exact vals_of_refs L'
  have J : Inv X pins σ (upd H p (.lst (L'.map fun q => V.ref q.1))) { s with heap := s'.heap, gens := s'.gens, drawn := s'.drawn, toks := s'.toks } :=
    I.call (ch := []) (Un.laid k hp hn) (I.hok.laid k hp ⟨hlen, out, c, hv, hg⟩) (by rw [g]; exact I.bare) (fun _ z => nomatch z)
  have e : s' = { s with heap := s'.heap, gens := s'.gens, drawn := s'.drawn, toks := s'.toks } := by
    cases s'
    cases s
    cases o
    rfl
  rw [e]
  exact ⟨.ref p, _, J, rfl, q L' p pm ((pm.map (·.2)).nodup_iff.mpr R.nd) pw hn⟩
end
end Ja

/-! Own data layer: sorted(set(a list of pairs of ints)). -/
namespace Ja
open PySem PySem.Spec PyProof.Rows L2 Evl Cm
open Pg (Pt)
theorem hu64 {A : Around} {k : Nat} (hr : Room k A) : A.units + 64 < cLine := by
  have := hr.un
  omega
section
variable {K : PySem.W.Frag} {P : Program} {w : World} {B0 H0 : Hp} {δ : List Sl} {ta : TE} {ps : List Pt}
/-- references to pairs, as the set's rule wants them -/
theorem keys_of {B H : Hp} (e : Ex B H) : ∀ {xs : List V} {ps : List Pt}, DtAll K B xs (ps.map encP) → ∃ ks : List (Addr × List Int), xs = ks.map (fun p => V.ref p.1) ∧ ks.map (·.2) = ps.map (fun p => [p.1, p.2]) ∧ ∀ p ∈ ks, SqT K H p.1 (p.2.map V.int) ∧ Dt K B (V.ref p.1) (encP (pr p.2))
  | _, [], .nil => ⟨[], rfl, rfl, fun p hp => nomatch hp⟩
  | _, p :: ps, .cons h r => by
    obtain ⟨ks, e1, e2, e3⟩ := keys_of e r
    cases h with
    | @tup t zs _ h1 h2 =>
      have hz := dt_ints_inv [p.1, p.2] h2
      have h3 : SqT K B t [V.int p.1, V.int p.2] := by
        rw [hz] at h1
        exact h1
      refine ⟨(t, [p.1, p.2]) :: ks, by rw [e1]; rfl, by rw [List.map_cons, e2]; rfl, fun q hq => ?_⟩
      rcases List.mem_cons.mp hq with z | z
      · rw [z]
        exact ⟨ex_t e h3, .tup h1 h2⟩
      · exact e3 q z
theorem keys_dt {B : Hp} : ∀ {L : List (Addr × List Int)}, (∀ p ∈ L, Dt K B (V.ref p.1) (encP (pr p.2))) → DtAll K B (L.map fun p => V.ref p.1) ((L.map fun p => pr p.2).map encP)
  | [], _ => .nil
  | q :: L, h => .cons (h q (List.mem_cons_self ..)) (keys_dt fun p hp => h p (List.mem_cons_of_mem _ hp))
theorem two_of {l : List Int} (h : l.length = 2) : ∃ x y, l = [x, y] := by
  cases l with
  | nil => cases h
  | cons x l =>
    cases l with
    | nil => cases h
    | cons y l =>
      cases l with
      | nil => exact ⟨x, y, rfl⟩
      | cons z l => simp at h
theorem lex_str {x1 x2 y1 y2 : Int} (h1 : SrtO.lexB (pr [y1, y2]) (pr [x1, x2]) = false) (h2 : ¬ (x1 = y1 ∧ x2 = y2)) : SrtO.lexB (pr [x1, x2]) (pr [y1, y2]) = true := by
  have h3 : ¬ (y1 < x1 ∨ (y1 = x1 ∧ y2 < x2)) := SrtO.lexB_no.mp h1
  refine SrtO.lexB_iff.mpr ?_
  show x1 < y1 ∨ (x1 = y1 ∧ x2 < y2)
  omega
/-- sorted(set(a list of pairs)): each once, in order -/
theorem nr_sortedSet (h : EvS K B0 H0 ta δ (.dat (.list (ps.map encP)))) (hl : ps.length < 64) : EvNR K B0 H0 (tCB (rSortedS K P w) (tCons (tCB (rSetOfT K P w) (tCons ta tNil)) tNil)) δ fun ds => ∃ qs : List Pt, ds = qs.map encP ∧ (∀ q, q ∈ qs ↔ q ∈ ps) ∧ qs.Pairwise fun p q => SrtO.lexB p q = true := fun B H σ S Q q => h B H σ S _ fun v B1 H1 s1 i1 => by
  cases i1 with
  | @lst a xs _ g1 g2 =>
    obtain ⟨ks, e1, e2, e3⟩ := keys_of s1.bh g2
    subst e1
    have hkl : ks.length = ps.length := by
      have := congrArg List.length e2
      simpa using this
    refine ⟨a, ks, rfl, sq_of (s1.bh _ _ g1), fun p hp => (e3 p hp).1, by omega, fun b L hb hsub hall => ?_⟩
    have ex : Ex H1 (upd H1 b (SetTO P w b L)) := Ex.new hb
    have two : ∀ p ∈ ks, p.2.length = 2 := fun p hp => by
      have : p.2 ∈ ks.map (·.2) := List.mem_map.mpr ⟨p, hp, rfl⟩
      rw [e2] at this
      obtain ⟨z, _, ez⟩ := List.mem_map.mp this
      rw [← ez]
      rfl
    refine ⟨b, L, rfl, upd_same, fun p hp => ex_t ex (e3 p (hsub p hp)).1, fun p hp => two p (hsub p hp), fun L' p pm nd pw hp => ?_⟩
    have hsub' : ∀ r ∈ L', r ∈ ks := fun r hr => hsub r (pm.mem_iff.mp hr)
    have hp1 : H1 p = none := none_of ex hp
    have st : Stp B1 H1 B1 (upd (upd H1 b (SetTO P w b L)) p (.lst (L'.map fun q => V.ref q.1))) := .same s1.bh (ex.trans (Ex.new hp))
    refine q p _ _ B1 _ ⟨L'.map fun q => pr q.2, rfl, fun z => ?_, ?_⟩ (s1.trans st) (none_of s1.h hp1) (none_of s1.bh hp1) upd_same (keys_dt fun r hr => (e3 r (hsub' r hr)).2)
    · rw [List.mem_map]
      constructor
      · rintro ⟨r, hr, rfl⟩
        have : r.2 ∈ ks.map (·.2) := List.mem_map.mpr ⟨r, hsub' r hr, rfl⟩
        rw [e2] at this
        obtain ⟨y, hy, ey⟩ := List.mem_map.mp this
        rw [← ey]
        exact hy
      · intro hz
        have : [z.1, z.2] ∈ ks.map (·.2) := by
          rw [e2]
          exact List.mem_map.mpr ⟨z, hz, rfl⟩
        obtain ⟨r, hr, er⟩ := List.mem_map.mp this
        obtain ⟨r2, hr2, er2⟩ := List.mem_map.mp (hall r hr)
        refine ⟨r2, pm.mem_iff.mpr hr2, ?_⟩
        rw [er2, er]
        rfl
    · rw [List.pairwise_map]
      refine List.Pairwise.imp_of_mem (fun {x y} hx hy hh => ?_) (pw.and (List.pairwise_map.mp nd))
      obtain ⟨h1, h2⟩ := hh
      have hx2 := two x (hsub' x hx)
      have hy2 := two y (hsub' y hy)
      obtain ⟨xa, xl⟩ := x
      obtain ⟨ya, yl⟩ := y
      obtain ⟨x1, x2, rfl⟩ := two_of hx2
      obtain ⟨y1, y2, rfl⟩ := two_of hy2
      exact lex_str h1 fun z => h2 (by rw [z.1, z.2])
/-- xs[::-1] -/
theorem n_rev {ds : List PyData} (h : EvS K B0 H0 ta δ (.dat (.list ds))) : EvN K B0 H0 (tRevL K ta) δ ds.reverse := fun B H σ S Q q => h B H σ S _ fun v B1 H1 s1 i1 => by
  cases i1 with
  | @lst a xs _ g1 g2 => exact ⟨a, xs, rfl, sq_of (s1.bh _ _ g1), fun p hp => q p _ B1 _ (s1.trans (.same s1.bh (.new hp))) (none_of s1.h hp) (none_of s1.bh hp) upd_same g2.rev⟩
end
end Ja

/-! Own data layer: min(a list of pairs of ints). -/
namespace Ja
open PySem PySem.Spec PyProof.Rows L2 Evl Cm
open Pg (Pt)
section
variable {prog : Program} {w : World} {A : Around} {s : Shared}
theorem lt_pairs {E : Value → Shared → Prop} {v u : Value} {p q : Int × Int} {Q : Value → Shared → Prop} (h1 : Srt.IsPair s.heap v p.1 p.2) (h2 : Srt.IsPair s.heap u q.1 q.2) (hu : A.units < cLine) (h : Q (.bool (SrtO.lexB p q)) s) : wpAny (model prog w) A (richCompare .Lt v u) Q E s := by
  obtain ⟨a, o, t1, t2, n, rfl, ho, hc, hd⟩ := h1
  obtain ⟨b, o2, t3, t4, n2, rfl, ho2, hc2, hd2⟩ := h2
  refine HT.lt_tupInts (ns := [p.1, p.2]) (ms := [q.1, q.2]) ⟨o, ho, hc, n, hd⟩ ⟨o2, ho2, hc2, n2, hd2⟩ (.cons _ _ (.cons _ _ .nil)) (.cons _ _ (.cons _ _ .nil)) hu ?_
  have e : HT.lexLt [p.1, p.2] [q.1, q.2] = SrtO.lexB p q := by
    unfold SrtO.lexB
    show (if p.1 = q.1 then (if p.2 = q.2 then false else decide (p.2 < q.2)) else decide (p.1 < q.1)) = _
    split
    · split
      · exact (decide_eq_false (by omega)).symm
      · rfl
    · rfl
  rw [e]
  exact h
variable {R : Result → Shared → Prop} {I S : Addr} {fp wr : List Addr} {n : Nat} {P : Nat → Value → Prop} {St : Nat → Heap → Prop} {h0 : Heap} {bt : Nat → Nat → Bool}
/-- old objects that stand -/
abbrev Old (h0 h : Heap) : Prop := ∀ b o, h0.get? b = some o → h.get? b = some o
/-- a comparison that needs old objects only -/
abbrev CmpK (prog : Program) (w : World) (A : Around) (h0 : Heap) (P : Nat → Value → Prop) (bt : Nat → Nat → Bool) : Prop := ∀ i j vi vj (s : Shared) (Q E : Value → Shared → Prop), Old h0 s.heap → P i vi → P j vj → Q (.bool (bt i j)) s → wpAny (model prog w) A (richCompare .Lt vi vj) Q E s
theorem minK_go (W : Walks prog w A.in1 I fp wr n P St) (hcmp : CmpK prog w A.in1 h0 P bt) (hSf : S ∉ fp) (hw : ∀ b o, h0.get? b = some o → b ∉ wr ∧ b ≠ S) :
    ∀ (k j : Nat) (s : Shared) (vb : Value) (c : Nat), n - (j + 1) = k → j + 1 ≤ n → Old h0 s.heap → St (j + 1) s.heap → P (argBest bt j) vb → s.heap.get? S = some { cls := .type "list", dict := none, data := .seq #[vb, vb] c, slots := #[] } →
    (∀ v h' tk, P (argBest bt (n - 1)) v → Old h0 h' → (∀ b o, b ∉ wr → b ≠ S → s.heap.get? b = some o → h'.get? b = some o) → R (.ok (.ret v)) { s with heap := h', toks := tk }) → codeAny (model prog w) A (.builtin "min.loop" ⟨[.ref I, .none, .ref S], []⟩) R s := by
  have nm : (toString "min" ++ toString ".loop" : String) = "min.loop" := by decide
  have hSw : S ∉ wr := fun h => hSf (W.sub _ h)
  intro k
  induction k with
  | zero =>
    intro j s vb c hk hj hO hst hPb hS hR
    have hin : n = j + 1 := by omega
    subst hin
    refine codeAny_builtin F.entry_min_loop ?_
    rw [Around.under_plainId F.plain_min_loop _]
    refine (show wpAny _ A.in1 (seqItems? (.ref S) >>= _) _ _ s from wpAny_bind (wpAny_seqItems hS rfl ?_))
    refine (show wpAny _ A.in1 (tryCatch (pyNext (.ref I)) _ >>= _) _ _ s from wpAny_bind (wpAny_tryCatch (W.done s _ _ hst fun h1 tk1 k1 => ?_)))
    have hS1 := k1 S _ hSw hS
    refine (show wpAny _ A.in1 (updateSeq S (fun _ => #[]) >>= _) _ _ _ from wpAny_bind (wpAny_updateSeq hS1 rfl (wpAny_bind (wpAny_letGo (wpAny_pure ?_)))))
    refine hR vb _ tk1 hPb (fun b o e => ?_) fun b o nb nS e => ?_
    · exact (Heap.get?_update_other _ _ (Ne.symm (hw b o e).2)).trans (k1 b o (hw b o e).1 (hO b o e))
    · exact (Heap.get?_update_other _ _ (Ne.symm nS)).trans (k1 b o nb e)
  | succ k ih =>
    intro j s vb c hk hj hO hst hPb hS hR
    have hlt : j + 1 < n := by omega
    refine codeAny_builtin F.entry_min_loop ?_
    rw [Around.under_plainId F.plain_min_loop _]
    refine (show wpAny _ A.in1 (seqItems? (.ref S) >>= _) _ _ s from wpAny_bind (wpAny_seqItems hS rfl ?_))
    refine (show wpAny _ A.in1 (tryCatch (pyNext (.ref I)) _ >>= _) _ _ s from wpAny_bind (wpAny_tryCatch (W.item (j + 1) s _ _ hlt hst fun v h1 tk1 hPv st1 k1 => ?_)))
    have hS1 := k1 S _ hSw hS
    have hO1 : Old h0 h1 := fun b o e => k1 b o (hw b o e).1 (hO b o e)
    show wpAny _ A.in1 (tryCatch (holding [v, v] (richCompare .Lt v vb >>= _)) _ >>= _) _ _ _
    refine wpAny_bind (wpAny_tryCatch (wpAny_holding (wpAny_bind (hcmp (j + 1) (argBest bt j) v vb _ _ _ hO1 hPv hPb ?_))))
    refine wpAny_bind (wpAny_holding (wpAny_truthy_bool (wpAny_bind (wpAny_letGo (wpAny_pure ?_)))))
    by_cases hb : bt (j + 1) (argBest bt j) = true
    · rw [hb]
      simp only [if_true]
      refine wpAny_bind (wpAny_updateSeq hS1 rfl (wpAny_bind (wpAny_letGo ?_)))
      rw [nm]
      refine wpAny_pure ⟨plainId_quiet F.plain_min_loop _, ih (j + 1) _ v _ (by omega) hlt (fun b o e => ?_) (W.frame _ _ _ st1 fun b hbf o e => ?_) (by simp only [argBest, hb, if_true]; exact hPv) (Heap.get?_update_self _ hS1 rfl) fun v2 h2 tk2 p2 o2 k2 => ?_⟩
      · exact (Heap.get?_update_other _ _ (Ne.symm (hw b o e).2)).trans (hO1 b o e)
      · exact (Heap.get?_update_other _ _ (fun h : S = b => hSf (h ▸ hbf))).trans e
      · exact hR v2 h2 tk2 p2 o2 fun b o nb nS e => k2 b o nb nS ((Heap.get?_update_other _ _ (Ne.symm nS)).trans (k1 b o nb e))
    · rw [Bool.eq_false_iff.mpr hb]
      simp only [Bool.false_eq_true, if_false]
      refine wpAny_bind (wpAny_letGo ?_)
      rw [nm]
      refine wpAny_pure ⟨plainId_quiet F.plain_min_loop _, ih (j + 1) _ vb c (by omega) hlt hO1 st1 (by simp only [argBest, Bool.eq_false_iff.mpr hb, Bool.false_eq_true, if_false]; exact hPb) hS1 fun v2 h2 tk2 p2 o2 k2 => ?_⟩
      exact hR v2 h2 tk2 p2 o2 fun b o nb nS e => k2 b o nb nS (k1 b o nb e)
theorem minK_first (W : Walks prog w A.in1 I fp wr n P St) (hcmp : CmpK prog w A.in1 h0 P bt) (hSf : S ∉ fp) (hw : ∀ b o, h0.get? b = some o → b ∉ wr ∧ b ≠ S) (hn : 0 < n) {c : Nat} (hO : Old h0 s.heap) (hst : St 0 s.heap) (hS : s.heap.get? S = some { cls := .type "list", dict := none, data := .seq #[] c, slots := #[] })
    (hR : ∀ v h' tk, P (argBest bt (n - 1)) v → Old h0 h' → R (.ok (.ret v)) { s with heap := h', toks := tk }) : codeAny (model prog w) A (.builtin "min.loop" ⟨[.ref I, .none, .ref S], []⟩) R s := by
  have nm : (toString "min" ++ toString ".loop" : String) = "min.loop" := by decide
  have hSw : S ∉ wr := fun h => hSf (W.sub _ h)
  refine codeAny_builtin F.entry_min_loop ?_
  rw [Around.under_plainId F.plain_min_loop _]
  refine (show wpAny _ A.in1 (seqItems? (.ref S) >>= _) _ _ s from wpAny_bind (wpAny_seqItems hS rfl ?_))
  refine (show wpAny _ A.in1 (tryCatch (pyNext (.ref I)) _ >>= _) _ _ s from wpAny_bind (wpAny_tryCatch (W.item 0 s _ _ hn hst fun v h1 tk1 hPv st1 k1 => ?_)))
  have hS1 := k1 S _ hSw hS
  have hO1 : Old h0 h1 := fun b o e => k1 b o (hw b o e).1 (hO b o e)
  refine (show wpAny _ A.in1 (updateSeq S (fun _ => #[v, v]) >>= _) _ _ _ from wpAny_bind (wpAny_updateSeq hS1 rfl ?_))
  rw [nm]
  refine wpAny_pure ⟨plainId_quiet F.plain_min_loop _, minK_go W hcmp hSf hw _ 0 _ v _ rfl hn (fun b o e => ?_) (W.frame _ _ _ st1 fun b hbf o e => ?_) hPv (Heap.get?_update_self _ hS1 rfl) fun v2 h2 tk2 p2 o2 k2 => hR v2 h2 tk2 p2 o2⟩
  · exact (Heap.get?_update_other _ _ (Ne.symm (hw b o e).2)).trans (hO1 b o e)
  · exact (Heap.get?_update_other _ _ (fun h : S = b => hSf (h ▸ hbf))).trans e
/-- which place is found, of pairs -/
theorem best_pairs (k : Nat → Int × Int) : ∀ m, argBest (fun i j => SrtO.lexB (k i) (k j)) m ≤ m ∧ ∀ j, j ≤ m → SrtO.lexB (k j) (k (argBest (fun i j => SrtO.lexB (k i) (k j)) m)) = false
  | 0 => ⟨Nat.le_refl _, fun j hj => by
    rw [Nat.le_zero.mp hj]
    exact SrtO.lexB_no.mpr (by show ¬ ((k 0).1 < (k 0).1 ∨ (k 0).1 = (k 0).1 ∧ (k 0).2 < (k 0).2); omega)⟩
  | m + 1 => by
    obtain ⟨h1, h2⟩ := best_pairs k m
    have e : argBest (fun i j => SrtO.lexB (k i) (k j)) (m + 1) = if SrtO.lexB (k (m + 1)) (k (argBest (fun i j => SrtO.lexB (k i) (k j)) m)) = true then m + 1 else argBest (fun i j => SrtO.lexB (k i) (k j)) m := rfl
    rw [e]
    generalize argBest (fun i j => SrtO.lexB (k i) (k j)) m = b at h1 h2
    split
    · rename_i hb
      refine ⟨Nat.le_refl _, fun j hj => ?_⟩
      have hb := SrtO.lexB_iff.mp hb
      refine SrtO.lexB_no.mpr ?_
      rcases Nat.lt_or_eq_of_le hj with z | z
      · have hj2 := SrtO.lexB_no.mp (h2 j (Nat.le_of_lt_succ z))
        omega
      · rw [z]
        omega
    · rename_i hb
      refine ⟨Nat.le_succ_of_le h1, fun j hj => ?_⟩
      rcases Nat.lt_or_eq_of_le hj with z | z
      · exact h2 j (Nat.le_of_lt_succ z)
      · rw [z]
        exact Bool.eq_false_iff.mpr hb
theorem min_pairs {E : Value → Shared → Prop} {l : Addr} {vs : List Value} {k : Nat → Int × Int} {Q : Value → Shared → Prop} (hh : A.handled = none) (hu : A.units + 64 < cLine) (hl : s.heap.IsList l vs.toArray) (hne : 0 < vs.length) (hp : ∀ i v, vs[i]? = some v → Srt.IsPair s.heap v (k i).1 (k i).2)
    (hQ : ∀ i v h' tk, vs[i]? = some v → (∀ j, j < vs.length → SrtO.lexB (k j) (k i) = false) → Old s.heap h' → Q v { s with heap := h', toks := tk }) : wpAny (model prog w) A (call (.builtin "min") [.ref l]) Q E s := by
  have nm : (toString "min" ++ toString ".loop" : String) = "min.loop" := by decide
  refine call_function_tree F.kind_min F.plain_min F.entry_min (F.args_min1 _) ?_
  refine wpAny_bind (m := Builtin.Builtins.bindParams "min" ["key", "default"] 0 ⟨[], []⟩) (wpAny_of_eq (show _ = pure [none, none] from rfl) ?_)
  refine wpAny_bind (wpAny_pure ?_)
  have hlt : l < s.heap.objs.size := by obtain ⟨_, e, _⟩ := hl; exact Heap.lt_size e
  refine wpAny_bind (wpAny_pyIter_list hl (wpAny_bind (wpAny_newObj_type ?_)))
  rw [nm]
  have hl1 : Old s.heap (s.heap.push { cls := .type "list_iterator", data := .fields #[.ref l, .int 0 0] }) := fun b o e => Heap.get?_push_of_some _ e
  have hz : (s.heap.push { cls := .type "list_iterator", data := .fields #[.ref l, .int 0 0] }).objs.size = s.heap.objs.size + 1 := Heap.size_push ..
  refine wpAny_pure ⟨plainId_quiet F.plain_min_loop _, minK_first (Walks.list (A := A.in1) hh s.heap.objs.size l (Nat.ne_of_lt hlt) vs.toArray) (h0 := s.heap) (bt := fun i j => SrtO.lexB (k i) (k j)) (fun i j vi vj s2 Q2 E2 ho hi hj hq => ?_) (fun hm => ?_) (fun b o e => ⟨fun hm => ?_, fun hm => ?_⟩) (by simpa using hne) (c := 0) (fun b o e => Heap.get?_push_of_some _ (hl1 b o e)) ⟨⟨_, Heap.get?_push_of_some _ (Heap.get?_push_size _ rfl), rfl, rfl⟩, (hl.push _).push _⟩ (Heap.get?_push_size _ rfl) fun v h' tk hP ho => ?_⟩
  · have keep : ∀ {i v}, vs.toArray[i]? = some v → Srt.IsPair s2.heap v (k i).1 (k i).2 := fun {i v} e => (hp i v (by simpa using e)).keeps fun b o e _ => ho b o e
    exact lt_pairs (keep hi) (keep hj) (by show A.units + 1 < cLine; omega) hq
  · rw [hz] at hm
    rcases List.mem_cons.mp hm with z | z
    · exact absurd z (Nat.succ_ne_self _)
    · exact absurd hlt (Nat.not_lt.mpr (Nat.le_of_lt (Nat.lt_of_lt_of_eq (Nat.lt_succ_self _) (List.mem_singleton.mp z))))
  · exact absurd (Heap.lt_size e) (Nat.not_lt.mpr (Nat.le_of_eq (List.mem_singleton.mp hm).symm))
  · rw [hz] at hm
    exact absurd (Heap.lt_size e) (Nat.not_lt.mpr (by rw [hm]; exact Nat.le_succ _))
  · obtain ⟨b1, b2⟩ := best_pairs k (vs.toArray.size - 1)
    refine hQ _ v h' tk (by simpa using hP) (fun j hj => b2 j ?_) ho
    rw [List.size_toArray]
    omega
end
def rMinP (K : PySem.W.Frag) : List V → Hp → VK → Prop := fun vs H Q => ∃ (a : Addr) (xs : List V) (ps : List Pt), vs = [V.ref a] ∧ SqL K H a xs ∧ Paired (fun x p => PairOf K H x p ∧ True) xs ps ∧ 0 < ps.length ∧ ∀ (i : Nat) (x : V) (p : Pt), xs[i]? = some x → ps[i]? = some p → (∀ q ∈ ps, SrtO.lexB q p = false) → Q x H
theorem vals_at {i : Nat} : ∀ {xs : List V} {its : List Value} {j : Nat} {u : Value}, Vals xs its → its[j]? = some u → ∃ x, xs[j]? = some x ∧ RelV x u
  | _, _, 0, _, .cons r _, h => ⟨_, rfl, by cases h; exact r⟩
  | _, _, j + 1, _, .cons _ rr, h => vals_at (i := i) (j := j) rr h
theorem cr_minP {X : Cx} (hc : X.calm = true) (hu : X.A.units + 64 < cLine) : CallR X (.builtin "min") (rMinP X.K) := by
  intro pins s σ H vs us Q I r h
  obtain ⟨a, xs, ps, rfl, hs, hp, hne, q⟩ := h
  obtain ⟨its, rv, hl, hsz⟩ := I.list hs
  obtain ⟨h1, h2⟩ := pairs_read I rv hp
  have hlen : its.length = ps.length := by rw [← h1, List.length_map]
  have hat : ∀ i v, its[i]? = some v → ps[i]? = some (rdP s.heap v) := fun i v e => by rw [← h1, List.getElem?_map, e]; rfl
  rw [Vals.ref1 r]
  refine min_pairs (k := fun i => ps.getD i (0, 0)) (I.ok.hd hc) hu hl.isList (hlen ▸ hne) (fun i v e => ?_) fun i v h' tk e hm ho => ?_
  · obtain ⟨t, _, _, z⟩ := h2 v (List.mem_of_getElem? e)
    have : ps.getD i (0, 0) = rdP s.heap v := by rw [List.getD_eq_getElem?_getD, hat i v e]; rfl
    show Srt.IsPair s.heap v (ps.getD i (0, 0)).1 (ps.getD i (0, 0)).2
    rw [this]
    exact z
  · obtain ⟨x, hx, rx⟩ := vals_at (i := 0) rv e
    refine ⟨x, H, I.kept ho, rx, q i x _ hx (hat i v e) fun y hy => ?_⟩
    obtain ⟨j, hj, ej⟩ := List.mem_iff_getElem.mp hy
    have := hm j (by rw [hlen]; exact hj)
    have e1 : ps.getD i (0, 0) = rdP s.heap v := by rw [List.getD_eq_getElem?_getD, hat i v e]; rfl
    have e2 : ps.getD j (0, 0) = y := by rw [List.getD_eq_getElem?_getD, List.getElem?_eq_getElem hj, ej]; rfl
    rw [← e1, ← e2]
    exact this
section
variable {K : PySem.W.Frag} {B0 H0 : Hp} {δ : List Sl} {ta : TE} {ps : List Pt}
theorem pairs_dt {B H : Hp} (e : Ex B H) : ∀ {xs : List V} {ps : List Pt}, DtAll K B xs (ps.map encP) → Paired (fun x p => PairOf K H x p ∧ True) xs ps
  | _, [], .nil => .nil
  | _, p :: ps, .cons h r => by
    refine .cons ⟨?_, trivial⟩ (pairs_dt e r)
    cases h with
    | @tup t zs _ h1 h2 =>
      have hz := dt_ints_inv [p.1, p.2] h2
      have h3 : SqT K B t [V.int p.1, V.int p.2] := by
        rw [hz] at h1
        exact h1
      exact ⟨t, rfl, ex_t e h3⟩
/-- min(a list of pairs): the first in order -/
theorem dt_at {B : Hp} : ∀ {xs : List V} {ds : List PyData} {i : Nat} {x : V}, DtAll K B xs ds → xs[i]? = some x → ∃ d, ds[i]? = some d ∧ Dt K B x d
  | _, _, 0, _, .cons h _, e => ⟨_, rfl, by cases e; exact h⟩
  | _, _, i + 1, _, .cons _ r, e => dt_at (i := i) r e
theorem r_minP (h : EvS K B0 H0 ta δ (.dat (.list (ps.map encP)))) (hn : 0 < ps.length) : EvR K B0 H0 (tCB (rMinP K) (tCons ta tNil)) δ fun d => ∃ p, d = encP p ∧ p ∈ ps ∧ ∀ q ∈ ps, SrtO.lexB q p = false := fun B H σ S Q q => h B H σ S _ fun v B1 H1 s1 i1 => by
  cases i1 with
  | @lst a xs _ g1 g2 =>
    refine ⟨a, xs, ps, rfl, sq_of (s1.bh _ _ g1), pairs_dt s1.bh g2, hn, fun i x p hx hp hm => ?_⟩
    obtain ⟨d, hd, hx2⟩ := dt_at g2 hx
    rw [List.getElem?_map, hp] at hd
    cases hd
    exact q x _ B1 H1 ⟨p, rfl, List.mem_of_getElem? hp, hm⟩ s1 hx2
end
end Ja

/-! Own rule: a list comprehension whose element may raise. -/
namespace Lx
open PySem PySem.Spec PyProof.Rows L2
/-- what is wanted of an exception that leaves a comprehension's block, its own variables let go -/
def errX (M : Model) (A : Around) (E : Value → Shared → Prop) (ce : Env) (x : Value) (t : Shared) : Prop :=
  ∃ m, t.heap.Ns ce.locals m ∧ ∀ g, Heap.SameBut ce.locals t.heap g → wpAny M A (PySem.passOn "comprehension.variables-let-go" x ce : Sem Value) (fun _ _ => False) E { t with heap := g }
def postX (M : Model) (A : Around) (E : Value → Shared → Prop) (use : Option (Value → Sem Unit)) (Q : Value → Shared → Prop) (acc : Value) (ce : Env) (r : Result) (t : Shared) : Prop :=
  match r with
  | .ok _ => compPost M A E use Q acc ce.locals (.ok .next) t
  | .error x => errX M A E ce x t
section
variable {M : Model} {A : Around} {E : Value → Shared → Prop} {s : Shared} {env : Env}
theorem comp_freeX {e : Expr} {scope : Scope} {pos : Pos} {newAcc first : Sem Value} {g : Comprehension} {gs : List Comprehension} {cl : List (Str × Addr)} {use : Option (Value → Sem Unit)} {Q : Value → Shared → Prop} (hcl : clausesOf e = g :: gs) (hs : ∀ x, foldedSetIterable g.iter env x = pure x) (hclos : closureFor scope env = pure cl) (hkind : scope.kind = .function) (hnames : ∀ x ∈ scope.names, x.2 = .local → scope.names.lookup x.1 = some .local)
    (h : wpAny M A first (fun x t1 => wpAny M A (pyIter x) (fun it t2 => wpAny M A newAcc (fun acc t3 => wpAny M A (newFunctionEnv scope env.globals cl [] env.qual none .none (some env)) (fun ce t4 => codeAny M A (.compStart e 0 it acc { ce with scope := relabel scope env }) (postX M A E use Q acc { ce with scope := relabel scope env }) t4) E t3) E t2) E t1) E s) : wpAny M A (comprehension e scope env pos newAcc false first use) Q E s := by
  unfold comprehension
  rw [hclos, hcl]
  refine wpAny_bind (wpAny_mono h (fun x t1 k1 => wpAny_bind (wpAny_standAt (wpAny_bind (wpAny_of_eq (hs x) (wpAny_bind (wpAny_holding (wpAny_mono k1 (fun it t2 k2 => wpAny_standIf (wpAny_bind (wpAny_mono k2 (fun acc t3 k3 => wpAny_bind (wpAny_pure (wpAny_bind (wpAny_mono k3 (fun ce t4 k4 => ?_) fun _ _ z => z)))) fun _ _ z => z))) fun _ _ z => z))))))) fun _ _ z => z)
  dsimp only
  have hv : ∀ x ∈ (scope.names.filter fun x => (x.2 == .local || x.2 == .cell) && x.1 != (".0" : Str)).reverse, x.2 = .local → Env.kindOf { ce with scope := relabel scope env } x.1 = some .local := fun x hx hl => lookup_relabel_local (hnames x (List.mem_filter.mp (List.mem_reverse.mp hx)).1 hl)
  have hv2 : ∀ x ∈ (scope.names.filter fun x => (x.2 == .local || x.2 == .cell) && x.1 != (".0" : Str)).reverse.drop 1 ++ (scope.names.filter fun x => (x.2 == .local || x.2 == .cell) && x.1 != (".0" : Str)).reverse.take 1, x.2 = .local → Env.kindOf { ce with scope := relabel scope env } x.1 = some .local := fun x hx hl => (List.mem_append.mp hx).elim (fun z => hv x (List.mem_of_mem_drop z) hl) fun z => hv x (List.mem_of_mem_take z) hl
  refine wpAny_holding (wpAny_bind (wpAny_attempt (wpAny_holding (wpAny_run (codeAny_mono k4 fun r t hr => ?_)))))
  cases r with
  | ok f =>
    cases use with
    | none =>
      obtain ⟨m, hn, hr⟩ := hr
      exact wpAny_bind (wpAny_holding (wpAny_comp_letGo (cenv := { ce with scope := relabel scope env }) hkind _ t m hv hn fun g m' _ z => wpAny_pure (hr g z)))
    | some u =>
      refine wpAny_bind (wpAny_rule (wpAny_bind (wpAny_holding (wpAny_mono hr (fun _ t5 k5 => ?_) fun _ _ z => z))))
      obtain ⟨m, hn, k6⟩ := k5
      exact wpAny_bind (wpAny_comp_letGo (cenv := { ce with scope := relabel scope env }) hkind _ t5 m hv2 hn fun g m' _ z => wpAny_pure (k6 g z))
  | error x =>
    obtain ⟨m, hn, hr⟩ := hr
    exact wpAny_bind (wpAny_holding (wpAny_comp_letGo (cenv := { ce with scope := relabel scope env }) hkind _ t m hv hn fun g m' _ z => wpAny_mono (hr g z) (fun _ _ f => f.elim) fun _ _ y => y))
theorem note_env {x : Value} {e1 e2 : Env} (h : e1.frame = e2.frame) : noteFrame x e1 = noteFrame x e2 := by
  unfold noteFrame PySem.frameOf
  rw [h]
theorem pass_env {α : Type} {w : String} {x : Value} {e1 e2 : Env} (h : e1.frame = e2.frame) : (PySem.passOn w x e1 : Sem α) = passOn w x e2 := by
  unfold PySem.passOn
  rw [h]
theorem frames_but {C : Addr} {h g B B' : Heap} (k : ∀ b, b ≠ C → g.get? b = h.get? b) (kb : ∀ b, B.get? b = none → B'.get? b = none) : ∀ {l : List Env}, C ∉ frs l → h.FunFrames B l → g.FunFrames B' l
  | [], _, _ => trivial
  | e :: l, hC, hl => by
    obtain ⟨hk, ⟨L, o, hf, hn, ho, hd⟩, hr⟩ := hl
    have hm : L ∈ frs (e :: l) := List.mem_filterMap.mpr ⟨e, List.mem_cons_self, hf⟩
    refine ⟨hk, ⟨L, o, hf, kb L hn, (k L fun z => hC (z ▸ hm)).trans ho, hd⟩, frames_but k kb (fun z => hC ?_) hr⟩
    obtain ⟨e2, he, q⟩ := List.mem_filterMap.mp z
    exact List.mem_filterMap.mpr ⟨e2, List.mem_cons_of_mem _ he, q⟩
end
section
variable {X : Cx} {pins pins' : List (Addr × Obj)} {σ σ' : L2.St} {H H' : Hp} {s s' : Shared} {W : WX} {E : XK}
/-- a call's exception is in our air, and flies -/
theorem air_of_call (I : Inv X pins σ H s) {u : Value} (c : L2.CX X.prog X.w X.stack H s E u s') : ∃ (a : Addr) (B : Heap) (sI : Shared) (pins : List (Addr × Obj)) (σ2 : L2.St) (H2 : Hp) (cls : Value) (d : Option Addr),
    u = .ref a ∧ Inv X pins σ2 H2 sI ∧ (∀ b o, sI.heap.get? b = some o → b ∉ frs X.stack → B.get? b = some o) ∧ sI.heap.UpToSlots s'.heap ∧ HandSPX.FlyingZ B X.stack a (Zc cls d) s'.heap ∧ H2 a = none ∧ s'.os = sI.os ∧ AllBare s'.gens ∧ E cls d H2 := by
  obtain ⟨a0, B0, H0, cls0, d0, e0, fl0, _⟩ := id c
  obtain ⟨a, B, sI, p2, σ2, H2, cls, d, e1, I2, nb, up, sky, na, os, ag, w⟩ := XE.of_call (W := fun cls d _ H => E cls d H) I (fun _ _ _ h => h) c
  rw [e0] at e1
  cases e1
  obtain ⟨_, _, _, oe, vs, T, oT, ts, he, _, hd, h1, _, _, hT, hdT, h3⟩ := fl0
  refine ⟨a0, B, sI, p2, σ2, H2, cls, d, e0, I2, nb, up, ?_, na, os, ag, w⟩
  rcases sky with ⟨_, _, _, oe2, vs2, he2, _, hd2, h12⟩ | fl | ⟨_, _, _, oe2, vs2, T2, oT2, ts2, he2, _, hd2, h12, _, _, hT2, hdT2, h32⟩
  · rw [he] at he2
    cases he2
    rw [hd] at hd2
    cases hd2
    rw [h1] at h12
    cases h12
  · exact fl
  · rw [he] at he2
    cases he2
    rw [hd] at hd2
    cases hd2
    rw [h1] at h12
    cases h12
    rw [hT] at hT2
    cases hT2
    rw [hdT] at hdT2
    cases hdT2
    rw [h3] at h32
    cases h32
abbrev blkX (X : Cx) (s : Shared) (H : Hp) (scope : Scope) (ce : Env) (fp : List Addr) (xe : Value → Shared → Prop) : Cx := (X.blk s H scope ce fp).wish xe
theorem passes_comp {ce : Env} {fp : List Addr} {s3 : Shared} {H3 : Hp} {scope : Scope} {σ2 : L2.St} (hs : X.stack = X.env :: X.outer) (hf : X.env.frame = some X.env.locals) (hcf : ce.frame = X.env.frame) (hC : ce.locals = s3.heap.objs.size) (I3 : Inv X pins σ H3 s3)
    (hfp : ∀ b ∈ fp, (b ∈ X.ex ∨ X.s_0.heap.objs.size ≤ b) ∧ b ≠ X.env.locals ∧ (∀ x c, X.env.cells.lookup x = some c → c ≠ b) ∧ ∀ p ∈ X.pn ++ pins, p.1 ≠ b) (tk : Takes X W) : PassesAt (L2.CX X.prog X.w) (blkX X s3 H3 scope ce fp (notedBy (model X.prog X.w) X.A ce (errX (model X.prog X.w) X.A X.xe ce))) σ2 (fun cls d H => W cls d σ H) := by
  intro p1 H1 s1 u s2 I1 c
  obtain ⟨a, B, sI, p2, σ3, H2, cls, d, rfl, I2, nb, up, fl, na, os, ag, w⟩ := air_of_call I1 c
  have hfr : X.A.frames = some (X.env :: X.outer) := by rw [I3.ok.frames, hs]
  have fl : HandSPX.FlyingZ B X.stack a (Zc cls d) s2.heap := fl
  have hCs : ce.locals ∉ frs X.stack := by
    have f := I3.fpOk (H' := fun _ => none) (b := s3.heap.objs.size) (Nat.le_refl _) rfl
    rw [hC, hs]
    intro hm
    obtain ⟨e2, he, q⟩ := List.mem_filterMap.mp hm
    rcases List.mem_cons.mp he with z | z
    · rw [z, hf] at q
      exact f.2.1 (Option.some.inj q).symm
    · exact f.2.2.1 (List.mem_filterMap.mpr ⟨e2, z, q⟩)
  show notedBy _ _ ce _ (.ref a) s2
  unfold notedBy
  rw [note_env hcf]
  rw [hs] at fl
  refine HandSPX.looks_onZ Zc.steady hfr hf fl fun h1 hh1 up1 => ?_
  rw [← hs] at hh1
  obtain ⟨m, hm, _⟩ := I2.loc
  have hm : sI.heap.Ns ce.locals m := hm
  refine ⟨m, hm.at' fun o eo => hh1.1 _ o (nb _ o eo hCs), fun g sb => ?_⟩
  rw [pass_env hcf]
  have hold : HandSPX.HeldZ (PySem.W.hideAll B [ce.locals]) X.stack a (Zc cls d) X.env.locals g := by
    obtain ⟨k1, k2, k3, oe, vs, T, oT, ts, he, hz, hd, q1, hnT, hTe, hT, hdT, q3⟩ := hh1
    have off : ∀ b, B.get? b = none → (PySem.W.hideAll B [ce.locals]).get? b = none := fun b e => by
      cases q : (PySem.W.hideAll B [ce.locals]).get? b with
      | none => rfl
      | some o =>
        have z := PySem.W.of_hideAll _ q
        rw [e] at z
        cases z
    have hB : ∃ o, B.get? ce.locals = some o := by
      obtain ⟨o, es, ep, ho, _⟩ := hm
      exact ⟨o, nb _ o ho hCs⟩
    obtain ⟨oC, hBC⟩ := hB
    refine ⟨fun b o e => ?_, off a k2, frames_but sb.2 off hCs k3, oe, vs, T, oT, ts, (sb.2 a fun z => ?_).trans he, hz, hd, q1, off T hnT, hTe, (sb.2 T fun z => ?_).trans hT, hdT, q3⟩
    · have hb : b ≠ ce.locals := fun z => by
        rw [z, PySem.W.hideAll_none _ (List.mem_singleton.mpr rfl)] at e
        cases e
      exact (sb.2 b hb).trans (k1 b o (PySem.W.of_hideAll _ e))
    · rw [z, hBC] at k2
      cases k2
    · rw [z, hBC] at hnT
      cases hnT
  obtain ⟨k1, k2, k3, oe, vs, T, oT, ts, he, hz, hd, q1, hnT, hTe, hT, hdT, q3⟩ := id hold
  unfold PySem.passOn
  refine wpAny_bind (wpAny_field he hd q1 ?_)
  rw [if_neg (show ¬ ((Value.ref T == Value.none) = true) from by simp)]
  have fin : wpAny (model X.prog X.w) X.A (setFlight (.ref a) X.env.frame) (fun _ s4 => wpAny (model X.prog X.w) X.A (throw (.ref a) : Sem Value) (fun _ _ => False) X.xe s4) X.xe { s2 with heap := g } := by
    rw [hf]
    refine HandSPX.setFlight_onZ hold fun h4 hh4 up4 => wpAny_throw (tk _ _ ?_)
    have hid : ∀ b o, (PySem.W.hideAll sI.heap [ce.locals]).get? b = some o → sI.heap.get? b = some o ∧ b ≠ ce.locals := fun b o e => ⟨PySem.W.of_hideAll _ e, fun z => by
      rw [z, PySem.W.hideAll_none _ (List.mem_singleton.mpr rfl)] at e
      cases e⟩
    have keep : ∀ b o, sI.heap.get? b = some o → b ≠ ce.locals → (PySem.W.hideAll sI.heap [ce.locals]).get? b = some o := fun b o e n => PySem.W.hideAll_get _ e fun z => n (List.mem_singleton.mp z)
    have old : ∀ b o, s3.heap.get? b = some o → b ≠ ce.locals := fun b o e z => by
      have := Heap.lt_size e
      rw [z, hC] at this
      exact Nat.lt_irrefl _ this
    have fC : H2 ce.locals = none := I2.free
    have u2 : Un (frs X.stack) fp H3 H2 s3.heap (PySem.W.hideAll sI.heap [ce.locals]) := ⟨fun b o e n nf nx => keep b o (I2.base.keep b o e n nf nx) (old b o e), fun b o e n hb nx => by
        obtain ⟨sl, q⟩ := I2.base.slot b o e n hb nx
        exact ⟨sl, keep b _ q (old b o e)⟩, fun b o e n nx => I2.base.free b o e n nx, fun b o e nx => by
        obtain ⟨o', q⟩ := I2.base.there b o e nx
        exact ⟨o', keep b o' q (old b o e)⟩, I2.base.tups, I2.base.frzs, I2.base.tbls⟩
    have hok2 : HOk X.prog X.w H2 (PySem.W.hideAll sI.heap [ce.locals]) := fun b o q => (I2.hok b o q).stay (fun c v hc r => keep c v r fun z => by
      rcases hc with y | y
      · rw [z] at y
        rw [y, q] at fC
        cases fC
      · rw [z, fC] at y
        cases y) (fun _ r => r) fun _ _ r => r
    have J : Inv X pins σ H2 { sI with heap := PySem.W.hideAll sI.heap [ce.locals] } := I3.call' (ch := fp) I2.os u2 hok2 I2.bare hfp
    refine ⟨a, PySem.W.hideAll B [ce.locals], { sI with heap := PySem.W.hideAll sI.heap [ce.locals] }, pins, σ, H2, cls, d, rfl, J, fun b o e nf => ?_, fun b o e nfl => ?_, .inr (.inr hh4), na, os, ag, w⟩
    · obtain ⟨e1, n1⟩ := hid b o e
      exact PySem.W.hideAll_get _ (nb b o e1 nf) fun z => n1 (List.mem_singleton.mp z)
    · obtain ⟨e1, n1⟩ := hid b o e
      obtain ⟨sl1, r1⟩ := up b o e1 nfl
      obtain ⟨sl2, r2⟩ := up1 b _ r1 nfl
      obtain ⟨sl3, r3⟩ := up4 b _ ((sb.2 b n1).trans r2) nfl
      exact ⟨sl3, r3⟩
  first
    | exact wpAny_bind (wpAny_pure (wpAny_bind fin))
    | exact wpAny_bind fin
end
/-- [elt for target in iter if ..], the element may raise what W takes -/
def tLcX (W : WX) (wi : TI) (g : TG) (tt : TT) (te : XK → TE) (vs : List Nat) : TE := fun σ H Q => tLc wi g tt (te fun cls d H' => W cls d σ H') vs σ H Q
theorem lc_coreX {X : Cx} {W : WX} {pins : List (Addr × Obj)} {s : Shared} {σ : L2.St} {H : Hp} {Q : VK} {elt tg iter : Expr} {ifs : List Expr} {scope : Scope} {own : List (Str × Nat)} {pos pos' : Pos} {wi : TI} {g : TG} {tt : TT} {te : XK → TE} {use : Option (Value → Sem Unit)} {Qf : Value → Shared → Prop}
    (hs1 : X.stack = X.env :: X.outer) (hf : X.env.frame = some X.env.locals) (tk : Takes X W) (hc : X.calm = true) (hN : X.N.Nodup) (I : Inv X pins σ H s) (hi : PI X tg iter wi) (ok : BlkOk X.N X.env.scope scope own)
    (hg : ∀ (s : Shared) (H : Hp) (C : Addr) (cl : List (Str × Addr)) (fp : List Addr) (xe : Value → Shared → Prop), PG (blkX X s H scope (compEnvC scope cl C X.env) fp xe) tg g) (ht : ∀ (s : Shared) (H : Hp) (C : Addr) (cl : List (Str × Addr)) (fp : List Addr) (xe : Value → Shared → Prop), PTs (blkX X s H scope (compEnvC scope cl C X.env) fp xe) ifs tt)
    (he : ∀ (s : Shared) (H : Hp) (C : Addr) (cl : List (Str × Addr)) (fp : List Addr) (xe : Value → Shared → Prop) (E0 : XK), (∀ σ', PassesAt (L2.CX X.prog X.w) (blkX X s H scope (compEnvC scope cl C X.env) fp xe) σ' E0) → PE (blkX X s H scope (compEnvC scope cl C X.env) fp xe) elt (te E0)) (hs : ∀ x, foldedSetIterable iter X.env x = pure x)
    (h : tLcX W wi g tt te (own.map (·.2)) σ H Q)
    (hRR : ∀ D C s' m H', Inv X pins σ H' s' → Q (.ref D) H' → s'.heap.Ns C m → FpOk X pins H' C → compPost (model X.prog X.w) X.A X.xe use Qf (.ref D) C (.ok .next) s') :
    wpAny (model X.prog X.w) X.A (comprehension (.ListComp elt [⟨tg, iter, ifs, 0⟩] scope pos) scope X.env pos' (newList []) false (eval iter X.env) use) Qf X.xe s := by
  have hfree : ∀ y ∈ scope.names, y.2 = .free → ∃ c, X.env.cells.lookup y.1 = some c := fun y hy e => by
    rcases ok.free y hy e with k | k
    · exact I.ok.has _ (.inl k)
    · exact I.ok.has _ (.inr k)
  refine comp_freeX (use := use) rfl hs (closure_ok hfree) ok.kind (fun y hy e => by rw [ok.uniq y hy, e])
    (thn (hi.run pins s σ H _ I h) fun xv z1 hx => thn hx fun itv z2 h2 => ?_)
  obtain ⟨it, fp, tn, J, G2, e, v2, T, kt2, ff2, q⟩ := h2
  subst e
  refine wpAny_newObj_type (newEnv_comp ?_) (by show 0 ≤ sizeLine; decide)
  generalize hD : z2.heap.objs.size = D
  have hDn : G2 D = none := v2.hok.fresh (Nat.le_of_eq hD)
  obtain ⟨Ms, ⟨m0, ms0⟩, turn⟩ := q D hDn
  generalize hs3 : ({ z2 with heap := z2.heap.push { cls := .type "list", data := .seq ([] : List Value).toArray } } : Shared) = z3
  have v3 : Inv X pins σ (upd G2 D (.lst [])) z3 := by
    rw [← hs3]
    refine v2.laid (t' := z2.toks) (fun b o e => Heap.get?_push_of_some _ e) (Nat.le_of_eq hD) ⟨Nat.zero_le _, [], 0, .nil, ?_⟩
    rw [← hD]
    exact Heap.get?_push_size _ rfl
  have h3 : z3.heap = z2.heap.push { cls := .type "list", data := .seq ([] : List Value).toArray } := by rw [← hs3]
  have sz : ∀ b ∈ fp, b < z2.heap.objs.size := fun b hb => by
    obtain ⟨o, e, _⟩ := T.obj _ _ kt2 b hb
    exact Heap.lt_size e
  have ff3 : ∀ b ∈ fp, FpOk X pins (upd G2 D (.lst [])) b ∧ b < z3.heap.objs.size := fun b hb => by
    have hlt := sz b hb
    refine ⟨⟨?_, (ff2 b hb).2⟩, by rw [h3, Heap.size_push]; exact Nat.lt_succ_of_lt hlt⟩
    rw [upd_ne (by rw [← hD]; exact Nat.ne_of_lt hlt)]
    exact (ff2 b hb).1
  have kt3 : tn 0 z3.heap := T.keep _ _ _ kt2 fun b _ o e => by rw [h3]; exact Heap.get?_push_of_some _ e
  have v4 := block_start v3 ok hN ff3
  have pg := hg z3 (upd G2 D (.lst [])) z3.heap.objs.size (cellsFrom (z3.heap.objs.size + 1) scope.names (cloFrom X.env.cells scope.names [])) fp
  have pt := ht z3 (upd G2 D (.lst [])) z3.heap.objs.size (cellsFrom (z3.heap.objs.size + 1) scope.names (cloFrom X.env.cells scope.names [])) fp
  have pe := he z3 (upd G2 D (.lst [])) z3.heap.objs.size (cellsFrom (z3.heap.objs.size + 1) scope.names (cloFrom X.env.cells scope.names [])) fp
  show codeAny _ _ (.compStart (.ListComp elt [⟨tg, iter, ifs, 0⟩] scope pos) 0 (.ref it) (.ref D) (compEnvC scope (cellsFrom (z3.heap.objs.size + 1) scope.names (cloFrom X.env.cells scope.names [])) z3.heap.objs.size X.env)) (postX (model X.prog X.w) X.A X.xe use Qf (.ref D) (compEnvC scope (cellsFrom (z3.heap.objs.size + 1) scope.names (cloFrom X.env.cells scope.names [])) z3.heap.objs.size X.env)) { z3 with heap := pushCells (z3.heap.push { cls := .type "dict", data := .dict #[] }) scope.names }
  have nfp : ∀ b ∈ fp, (upd G2 D (.lst [])) b = none := fun b hb => (ff3 b hb).1.1
  generalize hce : compEnvC scope (cellsFrom (z3.heap.objs.size + 1) scope.names (cloFrom X.env.cells scope.names [])) z3.heap.objs.size X.env = ce at v4 pg pt pe ⊢
  have cL : ce.locals = z3.heap.objs.size := by subst hce; rfl
  have cF : ce.frame = X.env.frame := by subst hce; rfl
  generalize hH3 : upd G2 D (.lst []) = G3 at v3 v4 pg pt pe ms0 nfp ff3
  have hps : ∀ σ2, PassesAt (L2.CX X.prog X.w) (blkX X z3 G3 scope ce fp (notedBy (model X.prog X.w) X.A ce (errX (model X.prog X.w) X.A X.xe ce))) σ2 (fun cls d H => W cls d σ H) := fun σ2 => passes_comp hs1 hf cF cL v3 (fun b hb => ⟨(ff3 b hb).1.2.2.2.1, (ff3 b hb).1.2.1, (ff3 b hb).1.2.2.2.2.1, (ff3 b hb).1.2.2.2.2.2⟩) tk
  generalize hs4 : ({ z3 with heap := pushCells (z3.heap.push { cls := .type "dict", data := .dict #[] }) scope.names } : Shared) = z4 at v4 ⊢
  have kt4 : tn 0 z4.heap := T.keep _ _ _ kt3 fun b _ o e => by rw [← hs4]; exact pushCells_keeps _ _ _ _ (Heap.get?_push_of_some _ e)
  replace pg := pg (notedBy (model X.prog X.w) X.A ce (errX (model X.prog X.w) X.A X.xe ce))
  replace pt := pt (notedBy (model X.prog X.w) X.A ce (errX (model X.prog X.w) X.A X.xe ce))
  replace pe := pe _ _ hps
  replace v4 := v4.wish (notedBy (model X.prog X.w) X.A ce (errX (model X.prog X.w) X.A X.xe ce))
  generalize hxe : notedBy (model X.prog X.w) X.A ce (errX (model X.prog X.w) X.A X.xe ce) = xe at pg pt pe v4
  have stat : ∀ {σ' : L2.St} {H' : Hp} {s' : Shared}, Inv (blkX X z3 G3 scope ce fp xe) [] σ' H' s' → (∀ b ∈ fp, H' b = none) → ∀ b ∈ fp, FpOk (blkX X z3 G3 scope ce fp xe) [] H' b := fun {σ' H' s'} I' hn b hb =>
    ⟨hn b hb, (I'.ok.exf b hb).1, I'.ok.exfs b hb, .inl hb, fun x c e => (I'.ok.exf b hb).2 x c e, fun p hp => absurd (show p ∈ ([] : List (Addr × Obj)) ++ [] from hp) (by simp)⟩
  have loop : codeAny (model X.prog X.w) X.A (.compLoop (.ListComp elt [⟨tg, iter, ifs, 0⟩] scope pos) 0 (.ref it) (.ref D) ce) (postX (model X.prog X.w) X.A X.xe use Qf (.ref D) ce) z4 := by
    have hxe2 : notedBy (model X.prog X.w) X.A ce (fun e s' => postX (model X.prog X.w) X.A X.xe use Qf (.ref D) ce (.error e) s') = xe := hxe
    refine compLoop_any (fun n s' => ∃ i H', Inv (blkX X z3 G3 scope ce fp xe) [] (wipe σ (own.map (·.2))) H' s' ∧ tn i s'.heap ∧ (∀ b ∈ fp, H' b = none) ∧ Ms i n H') ?_ m0 ⟨0, G3, v4, kt4, nfp, ms0⟩
    rintro n z5 ⟨i, G5, v5, kt5, nn5, ms5⟩
    rw [hxe2]
    rcases turn i n G5 ms5 with ⟨stop, qq⟩ | ⟨go, Nx, hNx, step⟩
    · have td := T.done (blkX X z3 G3 scope ce fp xe) rfl rfl rfl hc i [] z5 _ G5 xe v5 (stat v5 nn5) kt5 stop
      refine thn td fun r z6 ⟨hr, v6⟩ => ?_
      subst hr
      have v7 : Inv X pins σ G5 z6 := v3.call' (ch := fp) v6.os v6.base v6.hok v6.bare fun b hb => ⟨(ff3 b hb).1.2.2.2.1, (ff3 b hb).1.2.1, (ff3 b hb).1.2.2.2.2.1, (ff3 b hb).1.2.2.2.2.2⟩
      have nC : G5 z3.heap.objs.size = none := by
        have z : G5 ce.locals = none := v6.free
        rw [cL] at z
        exact z
      obtain ⟨m, hn, _⟩ := v6.loc
      have hn : z6.heap.Ns ce.locals m := hn
      rw [cL] at hn
      have fin1 := hRR D z3.heap.objs.size z6 m G5 v7 qq hn (v3.fpOk (Nat.le_refl _) nC)
      rw [← cL] at fin1
      exact fin1
    · have ti := T.item (blkX X z3 G3 scope ce fp xe) rfl rfl rfl hc i [] z5 _ G5 xe v5 (stat v5 nn5) kt5 go
      refine thn ti fun r z6 ⟨u, hr, h6⟩ => ?_
      subst hr
      refine thn h6 fun _ z7 ⟨x, G7, v7, rv7, y7, kt7, nn7⟩ => ?_
      have v7' := v7.pinned (stat v7 nn7) (T.obj _ _ kt7)
      refine thn (pg.run _ z7 _ G7 x u _ v7' rv7 (step x G7 y7)) fun _ z8 ⟨σ8, G8, v8, hw8, qu8⟩ => ?_
      refine thn (pt.run _ z8 σ8 G8 _ v8 qu8) fun b z9 ⟨G9, v9, qu9⟩ => ?_
      have fin : ∀ {s' : Shared} {H' : Hp}, Inv (blkX X z3 G3 scope ce fp xe) ([] ++ pinsAt fp z7.heap) σ8 H' s' → Nx H' → ∃ m, m < n ∧ ∃ i H', Inv (blkX X z3 G3 scope ce fp xe) [] (wipe σ (own.map (·.2))) H' s' ∧ tn i s'.heap ∧ (∀ b ∈ fp, H' b = none) ∧ Ms i m H' := fun {s' H'} I' nx => by
        obtain ⟨m', hm, w'⟩ := hNx H' nx
        have pin' : ∀ b ∈ fp, ∀ o, z7.heap.get? b = some o → s'.heap.get? b = some o ∧ H' b = none := fun b hb o e =>
          let z := I'.pin (b, o) (List.mem_append_right _ (List.mem_append_right _ (mem_pinsAt hb e)))
          ⟨z.1, z.2.1⟩
        have hl : (wipe σ (own.map (·.2))).length = σ8.length := by rw [← hw8, wipe_length]
        refine ⟨m', hm, i + 1, H', (I'.unpinned (pins := [])).weak hl (fun j v e => ?_), T.keep _ _ _ kt7 fun b hb o e => (pin' b hb o e).1, fun b hb => ?_, w'⟩
        · rw [← hw8] at e
          exact (wipe_some e).1
        · obtain ⟨o, e, _⟩ := T.obj _ _ kt7 b hb
          exact (pin' b hb o e).2
      cases b with
      | false =>
        simp only [Bool.false_eq_true, if_false] at qu9 ⊢
        exact fin v9 qu9
      | true =>
        simp only [if_true] at qu9 ⊢
        refine thn (pe.run _ z9 σ8 G9 _ v9 qu9) fun z z10 ⟨yv, G10, v10, rv10, acc, hD10, hz10, nx⟩ => ?_
        exact app_ok (X := blkX X z3 G3 scope ce fp xe) v10 hD10 hz10 rv10 fun z11 v11 => fin v11 nx
  exact codeAny_compStart_list loop (T.self X.A 0 _ _ _ kt4 loop)
/-- as a value -/
theorem pe_lcX {X : Cx} {W : WX} {elt tg iter : Expr} {ifs : List Expr} {scope : Scope} {own : List (Str × Nat)} {pos : Pos} {wi : TI} {g : TG} {tt : TT} {te : XK → TE} (hs1 : X.stack = X.env :: X.outer) (hf : X.env.frame = some X.env.locals) (tk : Takes X W) (hc : X.calm = true) (hN : X.N.Nodup) (hi : PI X tg iter wi) (ok : BlkOk X.N X.env.scope scope own)
    (hg : ∀ (s : Shared) (H : Hp) (C : Addr) (cl : List (Str × Addr)) (fp : List Addr) (xe : Value → Shared → Prop), PG (blkX X s H scope (compEnvC scope cl C X.env) fp xe) tg g) (ht : ∀ (s : Shared) (H : Hp) (C : Addr) (cl : List (Str × Addr)) (fp : List Addr) (xe : Value → Shared → Prop), PTs (blkX X s H scope (compEnvC scope cl C X.env) fp xe) ifs tt)
    (he : ∀ (s : Shared) (H : Hp) (C : Addr) (cl : List (Str × Addr)) (fp : List Addr) (xe : Value → Shared → Prop) (E0 : XK), (∀ σ', PassesAt (L2.CX X.prog X.w) (blkX X s H scope (compEnvC scope cl C X.env) fp xe) σ' E0) → PE (blkX X s H scope (compEnvC scope cl C X.env) fp xe) elt (te E0)) (hs : ∀ x, foldedSetIterable iter X.env x = pure x := by intro _; rfl) :
    PE X (.ListComp elt [⟨tg, iter, ifs, 0⟩] scope pos) (tLcX W wi g tt te (own.map (·.2))) := by
  refine ⟨fun pins s σ H Q I h => ?_⟩
  rw [eval_ListComp]
  refine lc_coreX hs1 hf tk hc hN I hi ok hg ht he hs h fun D C t m G I2 q hn f => ⟨m, hn, fun g2 sb => ?_⟩
  exact ⟨.ref D, G, I2.turned (t' := t.toks) (fun b o hb e => (sb.2 b hb).trans e) f.1 f.2.1 f.2.2.2.1 f.2.2.2.2.1 f.2.2.2.2.2, rfl, q⟩
/-- name = [..] on one line, the name a local -/
theorem ps_setLcX {X : Cx} {W : WX} {i : Nat} {y : Str} {py : Pos} {elt tg iter : Expr} {ifs : List Expr} {scope : Scope} {own : List (Str × Nat)} {pos spos : Pos} {wi : TI} {g : TG} {tt : TT} {te : XK → TE} (hs1 : X.stack = X.env :: X.outer) (hf : X.env.frame = some X.env.locals) (tk : Takes X W) (hc : X.calm = true) (hN : X.N.Nodup) (hy : X.N[i]? = some y) (hyl : X.env.scope.names.lookup y = some .local)
    (hsw : swapsWith (.ListComp elt [⟨tg, iter, ifs, 0⟩] scope pos) (some (.Name y py)) spos.line X.env = pure true) (hi : PI X tg iter wi) (ok : BlkOk X.N X.env.scope scope own)
    (hg : ∀ (s : Shared) (H : Hp) (C : Addr) (cl : List (Str × Addr)) (fp : List Addr) (xe : Value → Shared → Prop), PG (blkX X s H scope (compEnvC scope cl C X.env) fp xe) tg g) (ht : ∀ (s : Shared) (H : Hp) (C : Addr) (cl : List (Str × Addr)) (fp : List Addr) (xe : Value → Shared → Prop), PTs (blkX X s H scope (compEnvC scope cl C X.env) fp xe) ifs tt)
    (he : ∀ (s : Shared) (H : Hp) (C : Addr) (cl : List (Str × Addr)) (fp : List Addr) (xe : Value → Shared → Prop) (E0 : XK), (∀ σ', PassesAt (L2.CX X.prog X.w) (blkX X s H scope (compEnvC scope cl C X.env) fp xe) σ' E0) → PE (blkX X s H scope (compEnvC scope cl C X.env) fp xe) elt (te E0)) (hs : ∀ x, foldedSetIterable iter X.env x = pure x := by intro _; rfl) :
    PS X (.Assign [.Name y py] (.ListComp elt [⟨tg, iter, ifs, 0⟩] scope pos) spos) (tAsg (tLcX W wi g tt te (own.map (·.2))) (gName i)) := by
  refine ⟨fun pins s σ H D I h => ?_⟩
  rw [exec_Assign_Name_used _ _ _ _ hsw]
  refine wpAny_bind (wpAny_standAt (wpAny_bind ?_))
  have k : tLcX W wi g tt te (own.map (·.2)) σ H (fun x H1 => gName i x σ H1 D.nx) := h
  refine (show wpAny _ X.A (do let _ ← comprehension (.ListComp elt [⟨tg, iter, ifs, 0⟩] scope pos) scope X.env (firstIterPos [⟨tg, iter, ifs, 0⟩] pos) (newList []) false (eval iter X.env) (some (assign (.Name y py) X.env))) _ _ s from wpAny_bind (thn (lc_coreX (Qf := fun _ t => SP X pins D .next t) hs1 hf tk hc hN I hi ok hg ht he hs k fun L C t m G I2 q hn f => ?_) fun _ t hq => wpAny_pure (wpAny_pure hq)))
  refine (show wpAny _ _ (assign (.Name y py) X.env (.ref L)) _ _ _ from wpAny_assign_Name (store_ok2 (v := V.ref L) I2 hN hy (.inl hyl) rfl (fun t2 J2 ⟨a, sb, ha⟩ => ?_) (.inr hyl)))
  have haC : C ≠ a := fun z => by
    rcases ha with y2 | y2
    · exact f.2.1 (z.trans y2)
    · exact f.2.2.2.2.1 _ _ y2 z.symm
  exact ⟨m, hn.sameBut sb haC, fun g3 sb3 => ⟨_, G, J2.turned (t' := t2.toks) (fun b o hb e => (sb3.2 b hb).trans e) f.1 f.2.1 f.2.2.2.1 f.2.2.2.2.1 f.2.2.2.2.2, q⟩⟩
end Lx

/-! Own data layer: a list comprehension whose element may raise. -/
namespace Ja
open PySem PySem.Spec PyProof.Rows L2 Evl Cm
/-- every item, if there is one for each -/
def mapO {A B : Type} (v : A → Option B) : List A → Option (List B)
  | [] => some []
  | x :: r => (v x).bind fun y => (mapO v r).map fun ys => y :: ys
theorem mapO_snoc {A B : Type} (v : A → Option B) (x : A) : ∀ l : List A, mapO v (l ++ [x]) = (mapO v l).bind fun ys => (v x).map fun y => ys ++ [y]
  | [] => by
    show (v x).bind _ = (v x).map _
    cases v x <;> rfl
  | z :: l => by
    show (v z).bind (fun y => (mapO v (l ++ [x])).map fun ys => y :: ys) = ((v z).bind fun y => (mapO v l).map fun ys => y :: ys).bind _
    rw [mapO_snoc v x l]
    cases v z with
    | none => rfl
    | some y =>
      cases mapO v l with
      | none => rfl
      | some ys =>
        cases v x <;> rfl
theorem mapO_none {A B : Type} {v : A → Option B} {x : A} (h : v x = none) : ∀ {l : List A}, x ∈ l → mapO v l = none
  | z :: l, hm => by
    show (v z).bind (fun y => (mapO v l).map fun ys => y :: ys) = none
    rcases List.mem_cons.mp hm with e | e
    · rw [← e, h]
      rfl
    · rw [mapO_none h e]
      cases v z <;> rfl
theorem mapO_some {A B : Type} {v : A → Option B} {f : A → B} : ∀ {l : List A}, (∀ x ∈ l, v x = some (f x)) → mapO v l = some (l.map f)
  | [], _ => rfl
  | z :: l, h => by
    show (v z).bind (fun y => (mapO v l).map fun ys => y :: ys) = _
    rw [h z (List.mem_cons_self ..), mapO_some fun x hx => h x (List.mem_cons_of_mem _ hx)]
    rfl
theorem mapO_len {A B : Type} {v : A → Option B} : ∀ {l : List A} {ys : List B}, mapO v l = some ys → ys.length = l.length
  | [], ys, h => by
    cases h
    rfl
  | z :: l, ys, h => by
    have h : (v z).bind (fun y => (mapO v l).map fun ys => y :: ys) = some ys := h
    cases hz : v z with
    | none =>
      rw [hz] at h
      cases h
    | some y =>
      rw [hz] at h
      cases hl : mapO v l with
      | none =>
        rw [hl] at h
        cases h
      | some zs =>
        rw [hl] at h
        cases h
        rw [List.length_cons, mapO_len hl]
        rfl
/-- a new list of which P is true, or one of ex is raised -/
def EvNX (K : PySem.W.Frag) (B0 H0 : Hp) (W : WX) (te : TE) (δ : List Sl) (P : List PyData → Prop) (ex : Addr → Prop) : Prop := ∀ B H σ, Sc K B0 H0 B H σ δ → (∀ C B' H', Stp B H B' H' → ex C → W (.ref C) none σ H') → ∀ Q : VK, (∀ l vs ds B' H', P ds → Stp B H B' H' → H l = none → B' l = none → H' l = some (.lst vs) → DtAll K B' vs ds → Q (.ref l) H') → te σ H Q
section
variable {K : PySem.W.Frag} {B0 H0 B H B' H' : Hp} {W : WX} {σ : L2.St} {δ δ1 δ2 : List Sl} {te : TE} {t u : TS} {E : DE}
theorem nx_lc {A : Type} {wi : TI} {g : TG} {vs ix : List Nat} {te : XK → TE} (xs : List A) (enc : A → PyData) (δt : A → List Sl) (v : A → Option PyData) (bad : Addr) (hw : EvW K B0 H0 wi δ (xs.map enc)) (hix : ∀ i ∈ ix, i ∈ vs) (hz : xs.length ≤ 40000)
    (hg : ∀ x ∈ xs, TGd K B0 H0 g ix (wipeD δ vs) (enc x) (δt x)) (he : ∀ x ∈ xs, ∀ E0 : XK, EvX K B0 H0 (fun cls d _ H => E0 cls d H) (te E0) (δt x) (fun d => v x = some d) (fun C => C = bad ∧ v x = none)) : EvNX K B0 H0 W (Lx.tLcX W wi g tYes te vs) δ (fun ds => mapO v xs = some ds) (fun C => C = bad ∧ mapO v xs = none) := fun B H σ S qx Q q => by
  refine hw B H σ S _ fun J G Y B1 H1 s1 Wk hG hY => ?_
  intro D hD
  have hBD : B1 D = none := none_of s1.bh hD
  refine lc_it Wk (fun i H' => ∃ B' ws ds, mapO v (xs.take i) = some ds ∧ Ex B1 B' ∧ Ex B' H' ∧ Ex H1 H' ∧ (∀ a, B' a ≠ none → B1 a ≠ none ∨ H1 a = none) ∧ B' D = none ∧ H' D = some (.lst ws) ∧ DtAll K B' ws ds) ?_ (fun i H' hi ⟨B', ws, ds, e0, e1, e2, e3, hn, e4, e5, e6⟩ => hG B' H' e1 e2) ?_ fun H' ⟨B', ws, ds, e0, e1, e2, e3, hn, e4, e5, e6⟩ => ?_
  · exact ⟨B1, [], [], rfl, .refl _, Ex.mut s1.bh hBD, Ex.new hD, fun a h => .inl h, hBD, upd_same, .nil⟩
  · intro i x H2 H3 hi ⟨B2, ws, ds, e0, e1, e2, e3, hn, e4, e5, e6⟩ y
    rw [List.length_map] at hi
    have hx : (xs.map enc)[i]? = some (enc xs[i]) := by rw [List.getElem?_map, List.getElem?_eq_getElem hi]; rfl
    obtain ⟨B3, s3, dx⟩ := hY i H2 x H3 B2 _ hx e1 e2 y
    have hmem : xs[i] ∈ xs := List.getElem_mem hi
    have tk : xs.take (i + 1) = xs.take i ++ [xs[i]] := by rw [List.take_succ, List.getElem?_eq_getElem hi]; rfl
    have hDn : H2 D ≠ none := by rw [e5]; exact fun z => by cases z
    have b3 : B3 D = none := by
      cases e : B3 D with
      | none => rfl
      | some o =>
        rcases s3.n D (by rw [e]; exact fun z => by cases z) with z | z
        · exact absurd e4 z
        · exact absurd z hDn
    have st12 : Stp B1 H1 B2 H2 := ⟨e1, e2, e3, hn⟩
    have S3 : Sc K B0 H0 B3 H3 σ δ := (S.go s1).go (st12.trans s3)
    refine hg _ hmem B3 H3 (wipe σ vs) x (S3.wipe vs) dx _ fun σ2 S2 w2 => ⟨?_, ?_⟩
    · rw [w2 vs hix]
      exact wipe_id fun _ h => h
    · show tYes σ2 H3 _
      unfold tYes
      show if true = true then _ else _
      rw [if_pos rfl]
      have b4 : ∀ {B5 H5 : Hp}, Stp B3 H3 B5 H5 → B5 D = none := fun {B5 H5} s5 => by
        cases e : B5 D with
        | none => rfl
        | some o =>
          rcases s5.n D (by rw [e]; exact fun z => by cases z) with z | z
          · exact absurd b3 z
          · rw [s3.h _ _ e5] at z
            cases z
      refine he _ hmem _ B3 H3 σ2 S2 (fun C B5 H5 s5 ⟨hC, hv⟩ => qx C B5 H5 (s1.trans ((st12.trans s3).trans s5)) ⟨hC, mapO_none hv hmem⟩) _ fun u d B5 H5 hd s5 i5 => ?_
      have sAll := (st12.trans s3).trans s5
      have h5 : H5 D = some (.lst ws) := s5.h _ _ (s3.h _ _ e5)
      refine ⟨ws, h5, ?_, B5, ws ++ [u], ds ++ [d], ?_, sAll.b, Ex.mut sAll.bh (b4 s5), Ex.mut sAll.h hD, sAll.n, b4 s5, upd_same, (dts_mono (s3.b.trans s5.b) _ _ e6).app (.cons i5 .nil)⟩
      · rw [e6.len, mapO_len e0, List.length_take]
        exact sz_lt (by omega)
      · rw [tk, mapO_snoc, e0, hd]
        rfl
  · rw [List.length_map, List.take_length] at e0
    exact q D ws ds B' H' e0 (s1.trans (⟨e1, e2, e3, hn⟩ : Stp B1 H1 B' H')) (none_of s1.h hD) e4 e5 e6
theorem sd_asgNX {n : Nat} {P : List PyData → Prop} {ex : Addr → Prop} (h : EvNX K B0 H0 W te δ P ex) (hx : ∀ C, ex C → E.ex C δ) (k : ∀ ds, P ds → E.nx (δ.set n (.own ds))) : SD K B0 H0 W (tAsg te (gName n)) δ E := fun D B H σ S L => h B H σ S (fun C B' H' st hC => L.ex C B' H' σ δ st.b (S.go st) (hx C hC)) _ fun l vs ds B1 H1 p s1 f1 f2 f3 f4 => by
  refine L.nx B1 H1 _ _ s1.b ((S.go s1).setO n f3 f2 (none_of S.st.h f1) f4 fun j es _ hj hl => ?_) (k ds p)
  obtain ⟨m, ws, g1, g2, _⟩ := S.own j es hj
  rw [hl] at g1
  cases Option.some.inj (Option.some.inj g1)
  rw [f1] at g2
  cases g2
theorem q_asgNX {n : Nat} {P : List PyData → Prop} {ex : Addr → Prop} (h : EvNX K B0 H0 W te δ P ex) (hx : ∀ C, ex C → E.ex C δ) (k : ∀ ds, P ds → SD K B0 H0 W u (δ.set n (.own ds)) E) : SD K B0 H0 W (tSeq (tAsg te (gName n)) u) δ E := sd_seq (sd_asgNX h hx k)
end
end Ja

/-! Own data layer: texts cut and split, tuples. -/
namespace Ja
open PySem PySem.Spec PyProof.Rows L2 Evl Cm
open SX (S S_cat S_len num_S)
open TL (numL numL_lt)
section
variable {K : PySem.W.Frag} {P : Program} {w : World} {B0 H0 : Hp} {W : WX} {E : DE} {δ : List Sl} {ta tb te to : TE} {a b : List Nat} {ds es : List PyData} {d : PyData} {i : Int}
theorem d_m1 {g : Str → Str → Bool} (h : EvS K B0 H0 to δ (nS (S a))) (h2 : EvS K B0 H0 te δ (nS (S b))) : EvS K B0 H0 (tM1 (fun x xs H Q => ∃ a b, x = .str a ∧ xs = [.str b] ∧ Q (.bl (g a b)) H) to te) δ (nB (g (S a) (S b))) := fun B H σ Z Q q => h B H σ Z _ fun v B1 H1 s1 i1 => by
  cases i1
  refine ⟨⟨_, rfl⟩, h2 B1 H1 σ (Z.go s1) _ fun u B2 H2 s2 i2 => ?_⟩
  cases i2
  exact ⟨S a, S b, rfl, rfl, q _ B2 H2 (s1.trans s2) (Dt.bl _)⟩
theorem d_m0 {g : Str → Bool} (h : EvS K B0 H0 to δ (nS (S a))) : EvS K B0 H0 (tM0 (fun x xs H Q => ∃ a, x = .str a ∧ xs = [] ∧ True ∧ Q (.bl (g a)) H) to) δ (nB (g (S a))) := fun B H σ Z Q q => h B H σ Z _ fun v B1 H1 s1 i1 => by
  cases i1
  exact ⟨⟨_, rfl⟩, S a, rfl, rfl, trivial, q _ B1 H1 s1 (Dt.bl _)⟩
/-- a part of a text -/
theorem d_slX {tl th : TO} {lo hi : Option Int} {w1 : List Nat} (h : EvS K B0 H0 te δ (nS (S a))) (h1 : EvO K B0 H0 tl δ lo) (h2 : EvO K B0 H0 th δ hi) (hz : a.length ≤ 100000) (e : Txt.slice (S a) lo hi = S w1) : EvS K B0 H0 (tSl C8.rSlX te tl th) δ (nS (S w1)) := fun B H σ Z Q q =>
  h B H σ Z _ fun v B1 H1 s1 i1 => h1 B1 H1 σ (Z.go s1) _ fun B2 H2 s2 => h2 B2 H2 σ (Z.go (s1.trans s2)) _ fun B3 H3 s3 => by
    cases i1
    exact ⟨S a, rfl, by rw [S_len]; exact sz_of hz, by rw [e]; exact q _ B3 H3 ((s1.trans s2).trans s3) (Dt.str _)⟩
abbrev encT (x : List Nat) : PyData := .str (S x)
theorem dt_strs {B : Hp} : ∀ ys : List (List Nat), DtAll K B ((ys.map S).map V.str) (ys.map encT)
  | [] => .nil
  | y :: r => .cons (Dt.str _) (dt_strs r)
/-- x.split(c), by the parts -/
theorem n_split {c : Nat} {parts : List (List Nat)} (h : EvS K B0 H0 to δ (nS (S (TL.joinL [c] parts)))) (h2 : EvS K B0 H0 te δ (nS (S [c]))) (hc : c < 256) (hne : parts ≠ []) (hp : ∀ p ∈ parts, c ∉ p) (hz : (TL.joinL [c] parts).length ≤ 50000) :
    EvN K B0 H0 (tM1 (fun x xs H Q => ∃ a b, x = .str a ∧ xs = [.str b] ∧ (b.length == 0) = false ∧ a.length + 2 ≤ sizeLine ∧ rNewStrs (Txt.split a b) H Q) to te) δ (parts.map encT) := fun B H σ Z Q q => h B H σ Z _ fun v B1 H1 s1 i1 => by
  cases i1
  refine ⟨⟨_, rfl⟩, h2 B1 H1 σ (Z.go s1) _ fun u B2 H2 s2 i2 => ?_⟩
  cases i2
  have s := s1.trans s2
  refine ⟨_, _, rfl, rfl, by rw [S_len]; rfl, by rw [S_len]; have := sz_of (n := (TL.joinL [c] parts).length + 2) (by omega); exact this, fun p hp2 => ?_⟩
  have e : Txt.split (S (TL.joinL [c] parts)) (S [c]) = parts.map S := by
    rw [SX.split_S (by simp) (by simp [hc]), SX.spl_join hne hp]
  rw [e]
  exact q p _ B2 _ (s.trans (.same s.bh (.new hp2))) (none_of s.h hp2) (none_of s.bh hp2) upd_same (dt_strs parts)
/-- tuple(a list) -/
theorem d_tupL (h : EvS K B0 H0 te δ (.dat (.list ds))) : EvS K B0 H0 (tCB (fun xs H Q => ∃ p ys, xs = [.ref p] ∧ ((SqL K H p ys ∧ ∀ l, H l = none → Q (.ref l) (upd H l (.tup ys))) ∨ (SqT K H p ys ∧ Q (.ref p) H))) (tCons te tNil)) δ (.dat (.tuple ds)) := fun B H σ Z Q q => h B H σ Z _ fun v B1 H1 s1 i1 => by
  cases i1 with
  | lst g1 g2 => exact ⟨_, _, rfl, .inl ⟨sq_of (s1.bh _ _ g1), fun p hp => q _ _ _ (s1.trans (.new s1.bh hp)) (.tup (st_of upd_same) (dts_mono (Ex.new (none_of s1.bh hp)) _ _ g2))⟩⟩
/-- *xs among the items -/
theorem ds_star {tr : TA} (h : EvS K B0 H0 te δ (.dat (.list ds))) (hr : EvD K B0 H0 tr δ es) : EvD K B0 H0 (StX.tStar K te tr) δ (ds ++ es) := fun B H σ Z Q q => h B H σ Z _ fun v B1 H1 s1 i1 => by
  cases i1 with
  | lst g1 g2 => exact ⟨_, _, rfl, .inr (sq_of (s1.bh _ _ g1)), hr B1 H1 σ (Z.go s1) _ fun vs B2 H2 s2 i2 => q _ B2 H2 (s1.trans s2) ((dts_mono s2.b _ _ g2).app i2)⟩
theorem d_is_ds {tr : TA} (h : EvD K B0 H0 tr δ ds) (e : ds = es) : EvD K B0 H0 tr δ es := e ▸ h
/-- enumerate(a tuple) -/
theorem w_enumT {tr : TA} (h : EvD K B0 H0 tr δ [.tuple ds]) : EvW K B0 H0 (Et.iEnumT K tr) δ (enumD ds) := fun B H σ S R q => h B H σ S _ fun vs B1 H1 s1 i1 => by
  cases i1 with
  | cons g1 g2 =>
    cases g2
    cases g1 with
    | @tup a xs _ h1 h2 =>
      have hw : Walk (Et.Iet K a) xs.length (fun H => SqT K H a xs) (fun i H v H' => ∃ T x, v = .ref T ∧ H T = none ∧ H' = upd H T (.tup [.int (i : Nat), x]) ∧ xs[i]? = some x) := ⟨fun i _ hi q => ⟨xs, xs[i], q, by simp [hi]⟩, fun _ q => ⟨xs, q, Nat.le_refl _⟩, fun i H v H' _ q ⟨T, x, k1, k2, k3, k4⟩ => ⟨T, x, k1, k2, k3, k4 xs q⟩⟩
      refine ⟨a, xs, rfl, ex_t s1.bh h1, q _ _ _ B1 H1 s1 (by unfold enumD; rw [List.length_map, List.length_zipIdx, ← h2.len]; exact hw) (fun B2 H2 e1 e2 => ex_t (e1.trans e2) h1) fun i H2 v H3 B2 d hd e1 e2 y => ?_⟩
      obtain ⟨T, u, rfl, hT, rfl, hu⟩ := y
      obtain ⟨f, hf, df⟩ := h2.getV hu
      have e : d = .tuple [.int (i : Int), f] := by
        unfold enumD at hd
        rw [List.getElem?_map, List.getElem?_zipIdx, hf] at hd
        have := Option.some.inj hd
        simpa using this.symm
      rw [e]
      exact ⟨_, .new e2 hT, .tup (st_of upd_same) (.cons (.int _) (.cons (dt_mono (e1.trans (Ex.new (none_of e2 hT))) _ _ df) .nil))⟩
/-- a part of a tuple, not the whole -/
theorem d_slT {tl th : TO} {lo hi : Option Int} (h : EvS K B0 H0 te δ (.dat (.tuple ds))) (h1 : EvO K B0 H0 tl δ lo) (h2 : EvO K B0 H0 th δ hi) (hn : HT.sIx ds.length 0 lo ≠ 0 ∨ ds = []) (hd : ds ≠ []) : EvS K B0 H0 (tSl (rSlT K) te tl th) δ (.dat (.tuple (cutD ds lo hi))) := fun B H σ S Q q =>
  h B H σ S _ fun v B1 H1 s1 i1 => h1 B1 H1 σ (S.go s1) _ fun B2 H2 s2 => h2 B2 H2 σ (S.go (s1.trans s2)) _ fun B3 H3 s3 => by
    have s := (s1.trans s2).trans s3
    cases i1 with
    | tup g1 g2 =>
      refine ⟨_, _, rfl, ex_t ((s2.b.trans s3.b).trans s3.bh) g1, fun z => ?_, fun p hp => q _ _ _ (s.trans (.new s.bh hp)) (.tup (st_of upd_same) (dts_mono (Ex.new (none_of s.bh hp)) _ _ (cut_dt (dts_mono (s2.b.trans s3.b) _ _ g2) lo hi)))⟩
      rw [g2.len] at z
      rcases hn with y | y
      · exact y z.1
      · exact hd y
/-- a word that is no key, its count -/
theorem d_niK {x : Str} {D : Addr} {r : Option Value} (h : EvS K B0 H0 ta δ (nS x)) (h2 : EvS K B0 H0 tb δ (.raw (.ref D))) (hr : PySem.W.nsIn K D x = some r) : EvS K B0 H0 (tOp (fun x y H Q => ∃ (z : Str) (r : Option Value), x = .str z ∧ y = .ref D ∧ PySem.W.nsIn K D z = some r ∧ Q (.bl (!r.isSome)) H) ta tb) δ (nB (!r.isSome)) := fun B H σ Z Q q => h B H σ Z _ fun v B1 H1 s1 i1 => h2 B1 H1 σ (Z.go s1) _ fun u B2 H2 s2 i2 => by
  cases i1
  cases i2
  exact ⟨x, r, rfl, rfl, hr, q _ B2 H2 (s1.trans s2) (Dt.bl _)⟩
theorem d_ixK {x : Str} {D : Addr} (h : EvS K B0 H0 ta δ (.raw (.ref D))) (h2 : EvS K B0 H0 tb δ (nS x)) (hr : KDct K w D x (.int i)) : EvS K B0 H0 (tOp (rIxD K w) ta tb) δ (nI i) := fun B H σ Z Q q => h B H σ Z _ fun v B1 H1 s1 i1 => h2 B1 H1 σ (Z.go s1) _ fun u B2 H2 s2 i2 => by
  cases i1
  cases i2
  exact ⟨D, x, .int i, rfl, rfl, hr, q _ B2 H2 (s1.trans s2) (Dt.int _)⟩
/-- str(i) -/
theorem log_small {i : Int} (h : Sm i.natAbs) : i.natAbs.log2 < 1920 := sm_lg h
theorem d_strI (h : EvS K B0 H0 te δ (nI i)) (hs : Sm i.natAbs) : EvS K B0 H0 (tCB (fun xs H Q => ∃ i, xs = [.int i] ∧ i.natAbs.log2 < 1920 ∧ Q (.str (toString i)) H) (tCons te tNil)) δ (nS (S (Tx.intL i))) := d_cb1 h (.int _) (fun _ H1 _ Q q => ⟨i, rfl, sm_lg hs, by
  have e : (toString i : Str) = S (Tx.intL i) := Tx.int_text i
  rw [e]
  exact q H1 (Ex.refl H1)⟩) (.str _)
/-- xs.pop(i), xs of its own -/
theorem sd_popAt {n m : Nat} {e : PyData} {es : List PyData} (hn : δ[n]? = some (Sl.own (ds ++ [e] ++ es))) (hm : ds.length = m) (hl : ds.length + es.length ≤ 100000) (hi : EvS K B0 H0 tb δ (nI (m : Int))) (k : E.nx (δ.set n (.own (ds ++ es)))) : SD K B0 H0 W (tDrop (tBM K "list" rPopAt (tVar n) (tCons tb tNil))) δ E := fun D B H σ S L => by
  obtain ⟨l, vs, h1, h2, h3, h4, h5⟩ := S.own n _ hn
  refine ⟨.ref l, h1, .inl ⟨rfl, _, sq_of h2⟩, hi B H σ S _ fun w B1 H1 s1 i1 => ?_⟩
  cases i1
  obtain ⟨l', ws, g1, g2, g3, g4, g5⟩ := (S.go s1).own n _ hn
  rw [h1] at g1
  cases Option.some.inj (Option.some.inj g1)
  have hlen := g5.len
  rw [List.length_append, List.length_append] at hlen
  have e1 : [e].length = 1 := rfl
  have hlt : m < ws.length := by omega
  refine ⟨l, ws, (m : Int), m, ws[m], rfl, rfl, g2, ?_, ?_, ?_, List.getElem?_eq_getElem hlt, ?_⟩
  · have : (0 : Int) < 2 ^ 63 := by decide
    omega
  · have : (200000 : Int) < 2 ^ 63 := by decide
    omega
  · unfold seqIndex?
    simp only [show ¬ ((m : Int) < 0) by omega, if_false]
    rw [if_pos (by simp; omega)]
    exact congrArg some (Int.toNat_natCast m)
  · refine L.nx B1 _ σ _ s1.b ((S.go s1).mut hn h1 ?_) k
    have q1 := g5.take m
    have q2 := g5.drop (m + 1)
    rw [List.append_assoc, ← hm, List.take_left] at q1
    have e2 : (ds ++ [e] ++ es).drop (m + 1) = es := by
      rw [show m + 1 = (ds ++ [e]).length by rw [List.length_append, hm]; rfl, List.drop_left]
    rw [e2] at q2
    rw [List.eraseIdx_eq_take_drop_succ, ← hm]
    rw [← hm] at q2
    exact q1.app q2
/-! ### raising within tuples -/
theorem x_imp {P P' : PyData → Prop} {ex ex' : Addr → Prop} (h : EvX K B0 H0 W te δ P ex) (hp : ∀ d, P d → P' d) (hx : ∀ C, ex C → ex' C) : EvX K B0 H0 W te δ P' ex' := fun B H σ Z q Q k => h B H σ Z (fun C B' H' s e => q C B' H' s (hx C e)) Q fun v d B' H' p s i => k v d B' H' (hp d p) s i
def EvDX (K : PySem.W.Frag) (B0 H0 : Hp) (W : WX) (tr : TA) (δ : List Sl) (P : List PyData → Prop) (ex : Addr → Prop) : Prop := ∀ B H σ, Sc K B0 H0 B H σ δ → (∀ C B' H', Stp B H B' H' → ex C → W (.ref C) none σ H') → ∀ Q : List V → Hp → Prop, (∀ vs ds B' H', P ds → Stp B H B' H' → DtAll K B' vs ds → Q vs H') → tr σ H Q
theorem dx_nil {P : List PyData → Prop} {ex : Addr → Prop} (h : P []) : EvDX K B0 H0 W tNil δ P ex := fun B H σ Z q Q k => k [] [] B H h (.refl Z.st.bh) .nil
theorem dx_cons {tr : TA} {P1 : PyData → Prop} {P2 P : List PyData → Prop} {ex : Addr → Prop} (h : EvX K B0 H0 W te δ P1 ex) (hr : EvDX K B0 H0 W tr δ P2 ex) (hp : ∀ d es, P1 d → P2 es → P (d :: es)) : EvDX K B0 H0 W (tCons te tr) δ P ex := fun B H σ Z q Q k =>
  h B H σ Z q _ fun v d B1 H1 p1 s1 i1 => hr B1 H1 σ (Z.go s1) (fun C B' H' s e => q C B' H' (s1.trans s) e) _ fun vs es B2 H2 p2 s2 i2 => k _ _ B2 H2 (hp d es p1 p2) (s1.trans s2) (.cons (dt_mono s2.b _ _ i1) i2)
theorem x_tup {tr : TA} {P : List PyData → Prop} {ex : Addr → Prop} (h : EvDX K B0 H0 W tr δ P ex) (hl : ∀ ds, P ds → ds.length ≤ 100000) : EvX K B0 H0 W (tTup tr) δ (fun d => ∃ ds, d = .tuple ds ∧ P ds) ex := fun B H σ Z q Q k =>
  h B H σ Z q _ fun vs ds B1 H1 p s1 i1 => ⟨by rw [i1.len]; exact sz_of (hl ds p), fun x hx => k _ _ _ _ ⟨ds, rfl, p⟩ (s1.trans (.new (o := .tup vs) s1.bh hx)) (.tup (st_of upd_same) (dts_mono (Ex.new (none_of s1.bh hx)) _ _ i1))⟩
theorem x_ofS {ex : Addr → Prop} (h : EvS K B0 H0 te δ (.dat d)) : EvX K B0 H0 W te δ (fun e => e = d) ex := x_of (r_of h rfl)
end
end Ja

/-! Own: a paper as lines of words, when it is taken. -/
namespace Dc
open PySem PySem.Spec
open SX (S S_cat S_len num_S)
open TL (numL numL_lt joinL)
open Ja (mapO)
open Ra Tx
abbrev Word := List Nat
def digsW (w : Word) : Word := if neg w then w.drop 1 else w
/-- no number -/
def badW (w : Word) : Bool := (!(Txt.isascii (S (digsW w))) || (!(Txt.isdigit (S (digsW w))) || decide ((2000 : Int) < ((digsW w).length : Int)))) || (Txt.startswith (S (digsW w)) (S [48]) && !decide (w = [48]))
def OkW (w : Word) : Prop := badW w = true ∨ ∃ i : Int, w = intL i ∧ (intL i).length ≤ 600
def numW (w : Word) : Option Int := if badW w then none else intText? (S w)
theorem bad_num {w : Word} (h : badW w = true) : numW w = none := by
  unfold numW
  rw [h]
  rfl
theorem bad_nat (n : Nat) (h : (numL n).length ≤ 600) : (!(Txt.isascii (S (numL n))) || (!(Txt.isdigit (S (numL n))) || decide ((2000 : Int) < ((numL n).length : Int)))) = false := by
  rw [ascii_num, digit_num, decide_eq_false (by omega)]
  rfl
theorem bad_int (i : Int) (h : (intL i).length ≤ 600) : badW (intL i) = false := by
  by_cases hi : i < 0
  · have e : intL i = 45 :: numL i.natAbs := by
      unfold intL
      rw [if_pos hi]
    have hd : digsW (intL i) = numL i.natAbs := by
      rw [e]
      rfl
    unfold badW
    rw [hd, bad_nat _ (by rw [e] at h; simp at h; omega)]
    have h0 : Txt.startswith (S (numL i.natAbs)) (S [48]) = false := by
      cases hq : numL i.natAbs with
      | nil => exact absurd hq (TL.numL_ne _)
      | cons c r =>
        rw [starts1]
        refine decide_eq_false fun z => ?_
        have := head0 hq z
        omega
    rw [h0]
    rfl
  · obtain ⟨n, rfl⟩ := Int.eq_ofNat_of_zero_le (show 0 ≤ i by omega)
    rw [intL_nat] at h ⊢
    have hneg : neg (numL n) = false := by
      cases hq : numL n with
      | nil => rfl
      | cons c r =>
        have hd := TL.numL_digits n
        rw [hq] at hd
        have h1 := hd.head
        rw [← neg_is, starts1]
        refine decide_eq_false fun z => ?_
        omega
    have hd : digsW (numL n) = numL n := by
      unfold digsW
      rw [hneg]
      rfl
    unfold badW
    rw [hd, bad_nat _ h, Bool.false_or]
    by_cases h0 : numL n = [48]
    · rw [decide_eq_true h0]
      exact Bool.and_false _
    · rw [decide_eq_false h0]
      cases hq : numL n with
      | nil => exact absurd hq (TL.numL_ne _)
      | cons c r =>
        rw [starts1]
        have : decide (c = 48) = false := decide_eq_false fun z => by
          have h3 := head0 hq z
          subst h3
          exact h0 (by decide)
        rw [this]
        rfl
theorem num_int (i : Int) (h : (intL i).length ≤ 600) : numW (intL i) = some i := by
  unfold numW
  rw [bad_int i h]
  exact int_back (by omega)
theorem num_ok {w : Word} (h : OkW w) (hb : badW w = false) : ∃ i : Int, w = intL i ∧ (intL i).length ≤ 600 ∧ numW w = some i := by
  rcases h with h | ⟨i, rfl, h2⟩
  · rw [h] at hb
    cases hb
  · exact ⟨i, rfl, h2, num_int i h2⟩
abbrev Form := Word × List Int
abbrev Row := Form × (Int × Int)
def midW (ws : List Word) : List Word := (ws.drop 1).take (ws.length - 4)
def rowW (ws : List Word) : Option Row := if ws.length < 4 ∨ ws.getD (ws.length - 3) [] ≠ [58] then none else (mapO numW (midW ws)).bind fun ns => (numW (ws.getD (ws.length - 2) [])).bind fun lo => (numW (ws.getD (ws.length - 1) [])).map fun hi => ((ws.getD 0 [], ns), (lo, hi))
def paperL : Word := [112, 97, 112, 101, 114]
def headW (ws : List Word) : Option Int := if ws.length ≠ 2 ∨ ws.getD 0 [] ≠ paperL then none else numW (ws.getD 1 [])
def sg (s : String) : Word := s.toList.map Char.toNat
def numberL : Word := [110, 117, 109, 98, 101, 114]
def piL : Word := [112, 105]
def twos : List Word := [[97, 100, 100], [115, 117, 98, 116, 114, 97, 99, 116], [116, 105, 109, 101, 115], [100, 105, 118, 105, 100, 101]]
def ones : List Word := [[114, 111, 111, 116], [115, 105, 110, 101], [99, 111, 115, 105, 110, 101], [101, 120, 112], [108, 111, 103], [97, 114, 99, 116, 97, 110], [97, 114, 99, 115, 105, 110, 101], [97, 114, 99, 99, 111, 115, 105, 110, 101]]
def offs : List Word := [[112, 111, 119, 101, 114], [65, 100, 100], [], [110, 117, 109, 98, 101, 114, 115], [48], [58], [112, 105, 50], [115, 105, 110]]
def cnt (w : Word) : Option Nat := if w = numberL then some 2 else if w = piL then some 0 else if w ∈ twos then some 2 else if w ∈ ones then some 1 else none
def WS : List Word := numberL :: piL :: (twos ++ ones ++ offs)
def stepOk (k : Nat) (f : Form) : Bool := match cnt f.1 with
  | none => false
  | some c => decide (f.2.length = c) && (if f.1 = numberL then decide (1 ≤ f.2.getD 1 0) else f.2.all fun i => decide (0 ≤ i) && decide (i < (k : Int)))
def formOk (fs : List Form) : Bool := !fs.isEmpty && fs.zipIdx.all fun p => stepOk p.2 p.1
def papOk (b : Int) (es : List (Int × Int)) : Bool := (decide (8 ≤ b) && decide (b ≤ 4096)) && es.all fun e => decide (e.1 ≤ e.2)
def okD : List (List Word) → Bool
  | [] => false
  | h :: rows => match headW h, mapO rowW rows with
    | some b, some rs => formOk (rs.map fun r => r.1) && papOk b (rs.map fun r => r.2)
    | _, _ => false
/-- a line -/
abbrev lineL (ws : List Word) : Word := joinL [32] ws
def textD (D : List (List Word)) : Word := (D.map fun ws => lineL ws ++ [10]).flatten
theorem join_text : ∀ D : List (List Word), D ≠ [] → textD D = joinL [10] (D.map lineL) ++ [10]
  | [], h => absurd rfl h
  | [ws], _ => by
    show (lineL ws ++ [10]) ++ [] = lineL ws ++ [10]
    exact List.append_nil _
  | ws :: w2 :: r, _ => by
    have ih := join_text (w2 :: r) (List.cons_ne_nil _ _)
    show (lineL ws ++ [10]) ++ textD (w2 :: r) = (lineL ws ++ ([10] ++ joinL [10] ((w2 :: r).map lineL))) ++ [10]
    rw [ih]
    simp only [List.append_assoc]
/-- every word of a document is free of blanks and line feeds, and a number or none -/
structure Good (D : List (List Word)) : Prop where
  ne : ∀ ws ∈ D, ws ≠ []
  fr : ∀ ws ∈ D, ∀ w ∈ ws, 32 ∉ w ∧ 10 ∉ w
  ok : ∀ ws ∈ D, ∀ w ∈ ws, OkW w
  nm : ∀ ws ∈ D.drop 1, ∀ r, rowW ws = some r → r.1.1 ∈ WS
  few : D.length ≤ 100
  len : (textD D).length ≤ 40000
theorem line_free {ws : List Word} (h : ∀ w ∈ ws, 32 ∉ w ∧ 10 ∉ w) : 10 ∉ lineL ws := by
  have key : ∀ ps : List Word, (∀ p ∈ ps, 10 ∉ p) → 10 ∉ joinL [32] ps := fun ps => by
    induction ps with
    | nil => exact fun _ h => by simp [joinL] at h
    | cons p r ih =>
      intro hp
      cases r with
      | nil => exact hp p (List.mem_cons_self ..)
      | cons q r =>
        show 10 ∉ p ++ ([32] ++ joinL [32] (q :: r))
        intro hm
        rcases List.mem_append.mp hm with z | z
        · exact hp p (List.mem_cons_self ..) z
        · rcases List.mem_append.mp z with y | y
          · exact absurd (List.mem_singleton.mp y) (by decide)
          · exact ih (fun x hx => hp x (List.mem_cons_of_mem _ hx)) y
  exact key ws fun w hw => (h w hw).2
theorem part_le {ws : List Word} : ∀ {D : List (List Word)}, ws ∈ D → (lineL ws).length ≤ (textD D).length
  | d :: D, h => by
    have e : textD (d :: D) = (lineL d ++ [10]) ++ textD D := rfl
    rw [e, List.length_append, List.length_append]
    rcases List.mem_cons.mp h with z | z
    · rw [z]
      omega
    · have := part_le z
      omega
theorem word_le {w : Word} : ∀ {ws : List Word}, w ∈ ws → w.length ≤ (lineL ws).length
  | [p], h => by
    rw [List.mem_singleton.mp h]
    exact Nat.le_refl _
  | p :: q :: r, h => by
    show w.length ≤ (p ++ ([32] ++ joinL [32] (q :: r))).length
    rw [List.length_append, List.length_append]
    rcases List.mem_cons.mp h with z | z
    · rw [z]
      omega
    · have := word_le z
      have : w.length ≤ (joinL [32] (q :: r)).length := this
      omega
end Dc

/-! Own: the papers that the law writes, and what is wrong with the changed ones. -/
namespace Dd
open PySem PySem.Spec Dc
open SX (S S_cat S_len num_S)
open TL (numL numL_lt joinL)
open Ja (mapO mapO_none mapO_some mapO_len)
open Ra Tx
def rowOf (k : Nat) (f : Form) : List Word := f.1 :: (f.2.map intL ++ [[58], intL ((k : Int) - 3), intL (k : Int)])
def docOf (N : Int) (fs : List Form) : List (List Word) := [paperL, intL N] :: fs.zipIdx.map fun p => rowOf p.2 p.1
structure Frm (f : Form) : Prop where
  nm : f.1 ∈ numberL :: piL :: (twos ++ ones)
  few : f.2.length ≤ 2
  sm : ∀ i ∈ f.2, i.natAbs ≤ 1000
/-! ### words -/
structure Fine (w : Word) : Prop where
  b : 32 ∉ w
  n : 10 ∉ w
  ok : OkW w
theorem int_len {i : Int} (h : i.natAbs < 10 ^ 7) : (intL i).length ≤ 20 := by
  have := Dg.num_len 6 i.natAbs h
  unfold intL
  split
  · rw [List.length_cons]
    omega
  · omega
theorem int_free {i : Int} {c : Nat} (hc : c < 45) : c ∉ intL i := by
  unfold intL
  split
  · intro h
    rcases List.mem_cons.mp h with h | h
    · omega
    · exact TL.numL_free (.inl (by omega)) h
  · exact TL.numL_free (.inl (by omega))
theorem int_fine {i : Int} (h : i.natAbs < 10 ^ 7) : Fine (intL i) := ⟨int_free (by decide), int_free (by decide), .inr ⟨i, rfl, by have := int_len h; omega⟩⟩
theorem int_num {i : Int} (h : i.natAbs < 10 ^ 7) : numW (intL i) = some i := num_int i (by have := int_len h; omega)
theorem int_colon {i : Int} : intL i ≠ [58] := by
  intro h
  unfold intL at h
  split at h
  · exact absurd (List.cons.inj h).1 (by decide)
  · have := TL.numL_digits i.natAbs 58 (by rw [h]; exact List.mem_singleton.mpr rfl)
    omega
theorem name_bad : ∀ x ∈ paperL :: [58] :: (WS ++ [[112, 97, 112, 101, 114], [80, 97, 112, 101, 114], [120], [48, 49], [43, 49], [45, 48], [49, 46, 48], [45], [48, 48], [45, 48, 49], [49, 101, 49], [45, 45, 49], [48, 56]]), x = [48] ∨ badW x = true := by decide +kernel
theorem name_free : ∀ x ∈ paperL :: [58] :: (WS ++ [[112, 97, 112, 101, 114], [80, 97, 112, 101, 114], [120], [48, 49], [43, 49], [45, 48], [49, 46, 48], [45], [48, 48], [45, 48, 49], [49, 101, 49], [45, 45, 49], [48, 56]]), 32 ∉ x ∧ 10 ∉ x := by decide
theorem zero_fine : Fine [48] := int_fine (i := 0) (by decide)
theorem name_fine {x : Word} (h : x ∈ paperL :: [58] :: (WS ++ [[112, 97, 112, 101, 114], [80, 97, 112, 101, 114], [120], [48, 49], [43, 49], [45, 48], [49, 46, 48], [45], [48, 48], [45, 48, 49], [49, 101, 49], [45, 45, 49], [48, 56]])) : Fine x := by
  obtain ⟨h1, h2⟩ := name_free x h
  rcases name_bad x h with z | z
  · rw [z]
    exact zero_fine
  · exact ⟨h1, h2, .inl z⟩
def longL : Word := [49] ++ List.replicate 2000 48
theorem long_bad : badW longL = true := by
  have hd : digsW longL = longL := rfl
  unfold badW
  rw [hd]
  have hl : longL.length = 2001 := by
    unfold longL
    rw [List.length_append, List.length_replicate]
    rfl
  rw [hl]
  simp
theorem long_fine : Fine longL := by
  have key : ∀ c ∈ longL, c = 49 ∨ c = 48 := fun c hc => by
    rcases List.mem_append.mp hc with z | z
    · exact .inl (List.mem_singleton.mp z)
    · exact .inr (List.mem_replicate.mp z).2
  exact ⟨fun h => absurd (key 32 h) (by decide), fun h => absurd (key 10 h) (by decide), .inl long_bad⟩
/-! ### rows -/
theorem get_at {A : Type} {a : List A} {d x : A} {b : List A} {n : Nat} (h : n = a.length) : (a ++ x :: b).getD n d = x := by
  rw [List.getD_eq_getElem?_getD, h, List.getElem?_append_right (Nat.le_refl _), Nat.sub_self]
  rfl
theorem row_is (x c l h : Word) (mid : List Word) : rowW (x :: (mid ++ [c, l, h])) = if c ≠ [58] then none else (mapO numW mid).bind fun ns => (numW l).bind fun lo => (numW h).map fun hi => ((x, ns), (lo, hi)) := by
  have hlen : (x :: (mid ++ [c, l, h])).length = mid.length + 4 := by simp
  have e3 : (x :: (mid ++ [c, l, h])).getD ((x :: (mid ++ [c, l, h])).length - 3) [] = c := by
    rw [hlen]
    exact get_at (a := x :: mid) (b := [l, h]) (by simp)
  have e2 : (x :: (mid ++ [c, l, h])).getD ((x :: (mid ++ [c, l, h])).length - 2) [] = l := by
    rw [hlen]
    have : x :: (mid ++ [c, l, h]) = (x :: (mid ++ [c])) ++ l :: [h] := by simp
    rw [this]
    exact get_at (by simp)
  have e1 : (x :: (mid ++ [c, l, h])).getD ((x :: (mid ++ [c, l, h])).length - 1) [] = h := by
    rw [hlen]
    have : x :: (mid ++ [c, l, h]) = (x :: (mid ++ [c, l])) ++ h :: [] := by simp
    rw [this]
    exact get_at (by simp)
  have em : midW (x :: (mid ++ [c, l, h])) = mid := by
    unfold midW
    rw [hlen]
    show (mid ++ [c, l, h]).take (mid.length + 4 - 4) = mid
    rw [Nat.add_sub_cancel]
    exact List.take_left
  unfold rowW
  rw [e3, e2, e1, em]
  by_cases hc : c = [58]
  · rw [if_neg (by rintro (z | z); · omega
                   · exact z hc), if_neg (fun z => z hc)]
    rfl
  · rw [if_pos (.inr hc), if_pos hc]
theorem row_none {ws : List Word} (h : ws.length < 4) : rowW ws = none := by
  unfold rowW
  rw [if_pos (.inl h)]
theorem row_head {ws : List Word} {r : Dc.Row} (h : rowW ws = some r) : r.1.1 = ws.getD 0 [] := by
  unfold rowW at h
  split at h
  · cases h
  · cases hm : mapO numW (midW ws) with
    | none =>
      rw [hm] at h
      cases h
    | some ns =>
      rw [hm] at h
      cases h2 : numW (ws.getD (ws.length - 2) []) with
      | none =>
        rw [h2] at h
        cases h
      | some lo =>
        rw [h2] at h
        cases h3 : numW (ws.getD (ws.length - 1) []) with
        | none =>
          rw [h3] at h
          cases h
        | some hi =>
          rw [h3] at h
          cases h
          rfl
theorem mid_some {f : Form} (F : Frm f) : mapO numW (f.2.map intL) = some f.2 := by
  have h := mapO_some (v := numW) (f := fun w => (numW w).getD 0) (l := f.2.map intL) fun w hw => by
    obtain ⟨i, hi, rfl⟩ := List.mem_map.mp hw
    rw [int_num (Nat.lt_of_le_of_lt (F.sm i hi) (by decide))]
    rfl
  rw [h, List.map_map]
  congr 1
  have : ∀ l : List Int, (∀ i ∈ l, i.natAbs ≤ 1000) → l.map ((fun w => (numW w).getD 0) ∘ intL) = l := fun l => by
    induction l with
    | nil => exact fun _ => rfl
    | cons i l ih =>
      intro hl
      rw [List.map_cons, ih fun j hj => hl j (List.mem_cons_of_mem _ hj)]
      show (numW (intL i)).getD 0 :: l = _
      rw [int_num (Nat.lt_of_le_of_lt (hl i (List.mem_cons_self ..)) (by decide))]
      rfl
  exact this f.2 F.sm
theorem row_good {k : Nat} {f : Form} (F : Frm f) (hk : k ≤ 1000) : rowW (rowOf k f) = some (f, ((k : Int) - 3, (k : Int))) := by
  unfold rowOf
  rw [row_is, if_neg (fun z => z rfl), mid_some F, int_num (by omega), int_num (by omega)]
  rfl
theorem row_badlo {x l h : Word} {mid : List Word} (hb : badW l = true) : rowW (x :: (mid ++ [[58], l, h])) = none := by
  rw [row_is, if_neg (fun z => z rfl), bad_num hb]
  cases mapO numW mid <;> rfl
theorem row_badhi {x l h : Word} {mid : List Word} (hb : badW h = true) : rowW (x :: (mid ++ [[58], l, h])) = none := by
  rw [row_is, if_neg (fun z => z rfl), bad_num hb]
  cases mapO numW mid with
  | none => rfl
  | some _ => cases numW l <;> rfl
theorem row_badmid {x l h c w : Word} {mid : List Word} (hm : w ∈ mid) (hb : badW w = true) : rowW (x :: (mid ++ [c, l, h])) = none := by
  rw [row_is, mapO_none (bad_num hb) hm]
  split <;> rfl
theorem row_colon {x l h c : Word} {mid : List Word} (hc : c ≠ [58]) : rowW (x :: (mid ++ [c, l, h])) = none := by
  rw [row_is, if_pos hc]
/-! ### documents -/
theorem bad_row {top : List Word} {rows : List (List Word)} {ws : List Word} (hm : ws ∈ rows) (h : rowW ws = none) : okD (top :: rows) = false := by
  show (match headW top, mapO rowW rows with
    | some b, some rs => formOk (rs.map fun r : Dc.Row => r.1) && papOk b (rs.map fun r : Dc.Row => r.2)
    | _, _ => false) = false
  rw [mapO_none h hm]
  cases headW top <;> rfl
theorem bad_head {top : List Word} {rows : List (List Word)} (h : headW top = none) : okD (top :: rows) = false := by
  show (match headW top, mapO rowW rows with
    | some b, some rs => formOk (rs.map fun r : Dc.Row => r.1) && papOk b (rs.map fun r : Dc.Row => r.2)
    | _, _ => false) = false
  rw [h]
theorem bad_all {top : List Word} {rows : List (List Word)} (h : ∀ b rs, headW top = some b → mapO rowW rows = some rs → (formOk (rs.map fun r : Dc.Row => r.1) && papOk b (rs.map fun r : Dc.Row => r.2)) = false) : okD (top :: rows) = false := by
  show (match headW top, mapO rowW rows with
    | some b, some rs => formOk (rs.map fun r : Dc.Row => r.1) && papOk b (rs.map fun r : Dc.Row => r.2)
    | _, _ => false) = false
  cases h1 : headW top with
  | none => rfl
  | some b =>
    cases h2 : mapO rowW rows with
    | none => rfl
    | some rs => exact h b rs h1 h2
theorem bad_bits {top : List Word} {rows : List (List Word)} {b : Int} (h : headW top = some b) (hb : ¬ (8 ≤ b ∧ b ≤ 4096)) : okD (top :: rows) = false := bad_all fun b2 rs h1 h2 => by
  rw [h] at h1
  cases h1
  have : (decide (8 ≤ b) && decide (b ≤ 4096)) = false := by
    by_cases z : 8 ≤ b
    · rw [decide_eq_false (show ¬ b ≤ 4096 from fun y => hb ⟨z, y⟩), Bool.and_false]
    · rw [decide_eq_false z, Bool.false_and]
  unfold papOk
  rw [this, Bool.false_and, Bool.and_false]
theorem mapO_back {A B : Type} {v : A → Option B} {x : A} {y : B} (h : v x = some y) : ∀ {l : List A} {ys : List B}, x ∈ l → mapO v l = some ys → y ∈ ys
  | z :: l, ys, hm, hl => by
    have hl : (v z).bind (fun y => (mapO v l).map fun ys => y :: ys) = some ys := hl
    cases hz : v z with
    | none =>
      rw [hz] at hl
      cases hl
    | some u =>
      rw [hz] at hl
      cases hr : mapO v l with
      | none =>
        rw [hr] at hl
        cases hl
      | some us =>
        rw [hr] at hl
        cases hl
        rcases List.mem_cons.mp hm with e | e
        · rw [e, hz] at h
          cases h
          exact List.mem_cons_self ..
        · exact List.mem_cons_of_mem _ (mapO_back h e hr)
theorem bad_encl {top : List Word} {rows : List (List Word)} {ws : List Word} {r : Dc.Row} (hm : ws ∈ rows) (h : rowW ws = some r) (hr : ¬ r.2.1 ≤ r.2.2) : okD (top :: rows) = false := bad_all fun b rs h1 h2 => by
  have hb := mapO_back h hm h2
  have : papOk b (rs.map fun r : Dc.Row => r.2) = false := by
    unfold papOk
    rw [← Bool.not_eq_true]
    intro z
    have := List.all_eq_true.mp (Bool.and_eq_true_iff.mp z).2 r.2 (List.mem_map.mpr ⟨r, hb, rfl⟩)
    exact hr (of_decide_eq_true this)
  rw [this, Bool.and_false]
theorem bad_name {top : List Word} {rows : List (List Word)} {ws : List Word} {r : Dc.Row} (hm : ws ∈ rows) (h : rowW ws = some r) (hr : cnt r.1.1 = none) : okD (top :: rows) = false := bad_all fun b rs h1 h2 => by
  have hb := mapO_back h hm h2
  have : formOk (rs.map fun r : Dc.Row => r.1) = false := by
    unfold formOk
    rw [← Bool.not_eq_true]
    intro z
    obtain ⟨j, hj, e⟩ := List.mem_iff_getElem.mp (List.mem_map.mpr ⟨r, hb, rfl⟩ : r.1 ∈ rs.map fun r : Dc.Row => r.1)
    have h3 := List.all_eq_true.mp (Bool.and_eq_true_iff.mp z).2 (r.1, j) (List.mem_zipIdx_iff_getElem?.mpr (by rw [List.getElem?_eq_getElem hj, e]))
    have h4 : stepOk j r.1 = true := h3
    unfold stepOk at h4
    rw [hr] at h4
    cases h4
  rw [this, Bool.false_and]
theorem bad_empty {top : List Word} : okD [top] = false := bad_all fun b rs h1 h2 => by
  cases h2
  rfl
/-! ### the changed rows -/
theorem row_len (k : Nat) (f : Form) : (rowOf k f).length = f.2.length + 4 := by
  unfold rowOf
  simp
theorem set_mid {A : Type} {a : List A} {y v : A} {b : List A} {n : Nat} (h : n = a.length) : (a ++ y :: b).set n v = a ++ v :: b := by
  rw [h, List.set_append_right _ _ (Nat.le_refl _), Nat.sub_self]
  rfl
theorem ch2 (k : Nat) (f : Form) (v : Word) : (rowOf k f).set ((rowOf k f).length - 1) v = f.1 :: (f.2.map intL ++ [[58], intL ((k : Int) - 3), v]) := by
  rw [row_len]
  have : rowOf k f = (f.1 :: (f.2.map intL ++ [[58], intL ((k : Int) - 3)])) ++ intL (k : Int) :: [] := by
    unfold rowOf
    simp
  rw [this, set_mid (by simp)]
  simp
theorem ch3 (k : Nat) (f : Form) (v : Word) : (rowOf k f).set ((rowOf k f).length - 2) v = f.1 :: (f.2.map intL ++ [[58], v, intL (k : Int)]) := by
  rw [row_len]
  have : rowOf k f = (f.1 :: (f.2.map intL ++ [[58]])) ++ intL ((k : Int) - 3) :: [intL (k : Int)] := by
    unfold rowOf
    simp
  rw [this, set_mid (by simp)]
  simp
theorem ch3_some {k : Nat} {f : Form} (F : Frm f) (hk : k ≤ 1000) {i : Int} (hi : i.natAbs < 10 ^ 7) : rowW ((rowOf k f).set ((rowOf k f).length - 2) (intL i)) = some (f, (i, (k : Int))) := by
  rw [ch3, row_is, if_neg (fun z => z rfl), mid_some F, int_num hi, int_num (by omega)]
  rfl
theorem ch5_some {k : Nat} {f : Form} (F : Frm f) (hk : k ≤ 1000) (x : Word) : rowW ((rowOf k f).set 0 x) = some ((x, f.2), ((k : Int) - 3, (k : Int))) := by
  show rowW (x :: (f.2.map intL ++ [[58], intL ((k : Int) - 3), intL (k : Int)])) = _
  rw [row_is, if_neg (fun z => z rfl), mid_some F, int_num (by omega), int_num (by omega)]
  rfl
theorem ch6_none {k : Nat} {f : Form} : rowW ((f.1 :: f.2.map intL) ++ [intL ((k : Int) - 3), intL (k : Int)]) = none := by
  cases h : f.2.map intL with
  | nil => exact row_none (by show 3 < 4; decide)
  | cons y r =>
    obtain ⟨c, s, e⟩ : ∃ s c, y :: r = s ++ [c] := ⟨(y :: r).dropLast, (y :: r).getLast (List.cons_ne_nil _ _), (List.dropLast_concat_getLast _).symm⟩
    have hs : s ∈ f.2.map intL := by
      rw [h, e]
      exact List.mem_append_right _ (List.mem_singleton.mpr rfl)
    obtain ⟨i, _, hi⟩ := List.mem_map.mp hs
    rw [e]
    have e2 : f.1 :: (c ++ [s]) ++ [intL ((k : Int) - 3), intL (k : Int)] = f.1 :: (c ++ [s, intL ((k : Int) - 3), intL (k : Int)]) := by simp
    rw [e2]
    exact row_colon (by rw [← hi]; exact int_colon)
theorem ch7_none {k : Nat} {f : Form} : rowW (rowOf k f ++ [[49]]) = none := by
  have : rowOf k f ++ [[49]] = f.1 :: ((f.2.map intL ++ [[58]]) ++ [intL ((k : Int) - 3), intL (k : Int), [49]]) := by
    unfold rowOf
    simp
  rw [this]
  exact row_colon int_colon
theorem name_isbad : ∀ x ∈ numberL :: piL :: (twos ++ ones), badW x = true := by decide +kernel
theorem ch4_none {k : Nat} {f : Form} (F : Frm f) {m : Nat} (hm : m < (rowOf k f).length) : rowW ((rowOf k f).take m ++ [[]] ++ (rowOf k f).drop m) = none := by
  rw [row_len] at hm
  have he : badW ([] : Word) = true := by decide +kernel
  have eW : rowOf k f = f.1 :: (f.2.map intL ++ [[58], intL ((k : Int) - 3), intL (k : Int)]) := rfl
  have hml : (f.2.map intL).length = f.2.length := List.length_map _
  generalize hmid : f.2.map intL = mid at eW hml
  rcases Nat.lt_or_ge (f.2.length + 1) m with h1 | h1
  · -- behind the sign
    rcases Nat.lt_or_ge (f.2.length + 2) m with h2 | h2
    · have e : m = f.2.length + 3 := by omega
      subst e
      have : (rowOf k f).take (f.2.length + 3) ++ [[]] ++ (rowOf k f).drop (f.2.length + 3) = f.1 :: ((mid ++ [[58]]) ++ [intL ((k : Int) - 3), [], intL (k : Int)]) := by
        have e1 : rowOf k f = (f.1 :: (mid ++ [[58], intL ((k : Int) - 3)])) ++ [intL (k : Int)] := by rw [eW]; simp
        have e2 : f.2.length + 3 = (f.1 :: (mid ++ [[58], intL ((k : Int) - 3)])).length := by simp [hml]
        rw [e1, e2, List.take_left, List.drop_left]
        simp
      rw [this]
      exact row_colon int_colon
    · have e : m = f.2.length + 2 := by omega
      subst e
      have : (rowOf k f).take (f.2.length + 2) ++ [[]] ++ (rowOf k f).drop (f.2.length + 2) = f.1 :: ((mid ++ [[58]]) ++ [[], intL ((k : Int) - 3), intL (k : Int)]) := by
        have e1 : rowOf k f = (f.1 :: (mid ++ [[58]])) ++ [intL ((k : Int) - 3), intL (k : Int)] := by rw [eW]; simp
        have e2 : f.2.length + 2 = (f.1 :: (mid ++ [[58]])).length := by simp [hml]
        rw [e1, e2, List.take_left, List.drop_left]
        simp
      rw [this]
      exact row_colon (by decide)
  · cases m with
    | zero =>
      have : (rowOf k f).take 0 ++ [[]] ++ (rowOf k f).drop 0 = [] :: ((f.1 :: mid) ++ [[58], intL ((k : Int) - 3), intL (k : Int)]) := by
        rw [eW]
        simp
      rw [this]
      exact row_badmid (List.mem_cons_self ..) (name_isbad _ F.nm)
    | succ m =>
      have : (rowOf k f).take (m + 1) ++ [[]] ++ (rowOf k f).drop (m + 1) = f.1 :: ((mid.take m ++ [[]] ++ mid.drop m) ++ [[58], intL ((k : Int) - 3), intL (k : Int)]) := by
        rw [eW, List.take_succ_cons, List.drop_succ_cons, List.take_append_of_le_length (by omega), List.drop_append_of_le_length (by omega)]
        simp
      rw [this]
      exact row_badmid (List.mem_append_left _ (List.mem_append_right _ (List.mem_singleton.mpr rfl))) he
/-! ### the changed documents -/
def AllFine (D : List (List Word)) : Prop := ∀ ws ∈ D, ws ≠ [] ∧ ∀ w ∈ ws, Fine w
def NmOk (rows : List (List Word)) : Prop := ∀ ws ∈ rows, ws.getD 0 [] ∈ WS ∨ rowW ws = none
theorem ws_of {x : Word} (h : x ∈ numberL :: piL :: (twos ++ ones)) : x ∈ WS := by
  unfold WS
  rcases List.mem_cons.mp h with e | h
  · rw [e]
    exact List.mem_cons_self ..
  · rcases List.mem_cons.mp h with e | h
    · rw [e]
      exact List.mem_cons_of_mem _ (List.mem_cons_self ..)
    · exact List.mem_cons_of_mem _ (List.mem_cons_of_mem _ (List.mem_append_left _ h))
theorem nm_fine {x : Word} (h : x ∈ WS) : Fine x := name_fine (List.mem_cons_of_mem _ (List.mem_cons_of_mem _ (List.mem_append_left _ h)))
theorem colon_fine : Fine [58] := name_fine (List.mem_cons_of_mem _ (List.mem_cons_self ..))
theorem row_fine {k : Nat} {f : Form} (F : Frm f) (hk : k ≤ 1000) : rowOf k f ≠ [] ∧ ∀ w ∈ rowOf k f, Fine w := ⟨List.cons_ne_nil _ _, fun w hw => by
  rcases List.mem_cons.mp hw with rfl | hw
  · exact nm_fine (ws_of F.nm)
  · rcases List.mem_append.mp hw with hw | hw
    · obtain ⟨i, hi, rfl⟩ := List.mem_map.mp hw
      exact int_fine (Nat.lt_of_le_of_lt (F.sm i hi) (by decide))
    · simp only [List.mem_cons, List.not_mem_nil, or_false] at hw
      rcases hw with rfl | rfl | rfl
      · exact colon_fine
      · exact int_fine (by omega)
      · exact int_fine (by omega)⟩
theorem doc_fine {N : Int} {fs : List Form} (hN : N.natAbs < 10 ^ 7) (hf : ∀ f ∈ fs, Frm f) (hl : fs.length ≤ 100) : AllFine (docOf N fs) := fun ws hw => by
  rcases List.mem_cons.mp hw with rfl | hw
  · refine ⟨List.cons_ne_nil _ _, fun w hw => ?_⟩
    rcases List.mem_cons.mp hw with rfl | hw
    · exact name_fine (List.mem_cons_self ..)
    · rw [List.mem_singleton.mp hw]
      exact int_fine hN
  · obtain ⟨⟨f, k⟩, hp, rfl⟩ := List.mem_map.mp hw
    obtain ⟨h1, h2, h3⟩ := List.mem_zipIdx hp
    have hk : k < fs.length := by omega
    exact row_fine (hf f (h3 ▸ List.getElem_mem _)) (by omega)
theorem fine_set {D : List (List Word)} (h : AllFine D) {i : Nat} {ws : List Word} (h2 : ws ≠ [] ∧ ∀ w ∈ ws, Fine w) : AllFine (D.set i ws) := fun x hx => by
  rcases List.mem_or_eq_of_mem_set hx with z | z
  · exact h x z
  · rw [z]
    exact h2
theorem nm_doc {fs : List Form} (hf : ∀ f ∈ fs, Frm f) : NmOk (fs.zipIdx.map fun p => rowOf p.2 p.1) := fun ws hw => by
  obtain ⟨⟨f, k⟩, hp, rfl⟩ := List.mem_map.mp hw
  obtain ⟨h1, h2, h3⟩ := List.mem_zipIdx hp
  exact .inl (ws_of (hf f (h3 ▸ List.getElem_mem _)).nm)
theorem nm_set {rows : List (List Word)} (h : NmOk rows) {i : Nat} {ws : List Word} (h2 : ws.getD 0 [] ∈ WS ∨ rowW ws = none) : NmOk (rows.set i ws) := fun x hx => by
  rcases List.mem_or_eq_of_mem_set hx with z | z
  · exact h x z
  · rw [z]
    exact h2
theorem text_cons (ws : List Word) (D : List (List Word)) : (textD (ws :: D)).length = (lineL ws).length + 1 + (textD D).length := by
  have : textD (ws :: D) = (lineL ws ++ [10]) ++ textD D := rfl
  rw [this, List.length_append, List.length_append]
  rfl
theorem text_set (ws : List Word) : ∀ (D : List (List Word)) (i : Nat), (textD (D.set i ws)).length ≤ (textD D).length + ((lineL ws).length + 1)
  | [], i => Nat.zero_le _
  | d :: D, 0 => by
    rw [List.set_cons_zero, text_cons, text_cons]
    omega
  | d :: D, i + 1 => by
    have := text_set ws D i
    rw [List.set_cons_succ, text_cons, text_cons]
    omega
theorem line_len {c : Nat} : ∀ {ws : List Word}, (∀ w ∈ ws, w.length ≤ c) → (lineL ws).length ≤ ws.length * (c + 1)
  | [], _ => Nat.zero_le _
  | [p], h => by
    have := h p (List.mem_cons_self ..)
    show p.length ≤ 1 * (c + 1)
    omega
  | p :: q :: r, h => by
    have h1 := h p (List.mem_cons_self ..)
    have h2 := line_len (c := c) (ws := q :: r) fun w hw => h w (List.mem_cons_of_mem _ hw)
    show (p ++ ([32] ++ lineL (q :: r))).length ≤ _
    have h3 : (p :: q :: r).length * (c + 1) = (q :: r).length * (c + 1) + (c + 1) := Nat.succ_mul _ _
    rw [List.length_append, List.length_append, h3]
    show p.length + (1 + (lineL (q :: r)).length) ≤ _
    omega
theorem text_len {c : Nat} : ∀ {D : List (List Word)}, (∀ ws ∈ D, (lineL ws).length ≤ c) → (textD D).length ≤ D.length * (c + 1)
  | [], _ => Nat.zero_le _
  | d :: D, h => by
    have h1 := h d (List.mem_cons_self ..)
    have h2 := text_len (c := c) (D := D) fun w hw => h w (List.mem_cons_of_mem _ hw)
    rw [text_cons, List.length_cons, Nat.succ_mul]
    omega
theorem nm_len : ∀ x ∈ WS, x.length ≤ 20 := by decide
theorem row_words {k : Nat} {f : Form} (F : Frm f) (hk : k ≤ 1000) : (∀ w ∈ rowOf k f, w.length ≤ 20) ∧ (rowOf k f).length ≤ 6 := ⟨fun w hw => by
  rcases List.mem_cons.mp hw with rfl | hw
  · exact nm_len _ (ws_of F.nm)
  · rcases List.mem_append.mp hw with hw | hw
    · obtain ⟨i, hi, rfl⟩ := List.mem_map.mp hw
      exact int_len (Nat.lt_of_le_of_lt (F.sm i hi) (by decide))
    · simp only [List.mem_cons, List.not_mem_nil, or_false] at hw
      rcases hw with rfl | rfl | rfl
      · decide
      · exact int_len (by omega)
      · exact int_len (by omega), by
  rw [row_len]
  have := F.few
  omega⟩
theorem doc_len {N : Int} {fs : List Form} (hN : N.natAbs < 10 ^ 7) (hf : ∀ f ∈ fs, Frm f) (hl : fs.length ≤ 20) : (textD (docOf N fs)).length ≤ 3000 := by
  have h1 : ∀ ws ∈ docOf N fs, (lineL ws).length ≤ 126 := fun ws hw => by
    rcases List.mem_cons.mp hw with rfl | hw
    · have := int_len hN
      have h2 := line_len (c := 20) (ws := [paperL, intL N]) fun w hw => by
        rcases List.mem_cons.mp hw with rfl | hw
        · decide
        · rw [List.mem_singleton.mp hw]
          exact this
      have h3 : [paperL, intL N].length = 2 := rfl
      omega
    · obtain ⟨⟨f, k⟩, hp, rfl⟩ := List.mem_map.mp hw
      obtain ⟨h4, h2, h3⟩ := List.mem_zipIdx hp
      have hk : k < fs.length := by omega
      obtain ⟨h5, h6⟩ := row_words (hf f (h3 ▸ List.getElem_mem _)) (k := k) (by omega)
      have h7 := line_len h5
      have h8 : (rowOf k f).length * (20 + 1) ≤ 6 * 21 := Nat.mul_le_mul_right _ h6
      show (lineL (rowOf k f)).length ≤ 126
      omega
  have h2 := text_len h1
  have h3 : (docOf N fs).length = fs.length + 1 := by
    unfold docOf
    simp
  have h4 : (docOf N fs).length * (126 + 1) ≤ 21 * 127 := Nat.mul_le_mul_right _ (by omega)
  omega
theorem good_of {D : List (List Word)} (h1 : AllFine D) (h2 : NmOk (D.drop 1)) (h3 : D.length ≤ 100) (h4 : (textD D).length ≤ 40000) : Dc.Good D where
  ne := fun ws hw => (h1 ws hw).1
  fr := fun ws hw w hx => ⟨((h1 ws hw).2 w hx).b, ((h1 ws hw).2 w hx).n⟩
  ok := fun ws hw w hx => ((h1 ws hw).2 w hx).ok
  nm := fun ws hw r hr => by
    rcases h2 ws hw with z | z
    · rw [row_head hr]
      exact z
    · rw [z] at hr
      cases hr
  few := h3
  len := h4
theorem doc_ok {N : Int} {fs : List Form} (hN : 8 ≤ N ∧ N ≤ 4096) (hf : ∀ f ∈ fs, Frm f) (hs : ∀ k f, fs[k]? = some f → stepOk k f = true) (hne : fs ≠ []) (hl : fs.length ≤ 100) : okD (docOf N fs) = true := by
  have hh : headW [paperL, intL N] = some N := by
    unfold headW
    rw [if_neg (by rintro (z | z); · exact z rfl
                   · exact z rfl)]
    exact int_num (by omega)
  have hr : mapO rowW (fs.zipIdx.map fun p => rowOf p.2 p.1) = some (fs.zipIdx.map fun p : Form × Nat => (p.1, ((p.2 : Int) - 3, (p.2 : Int)))) := by
    have h := mapO_some (v := rowW) (f := fun ws => (rowW ws).getD (([], []), (0, 0))) (l := fs.zipIdx.map fun p => rowOf p.2 p.1) fun ws hw => by
      obtain ⟨⟨f, k⟩, hp, rfl⟩ := List.mem_map.mp hw
      obtain ⟨h1, h2, h3⟩ := List.mem_zipIdx hp
      have hk : k < fs.length := by omega
      rw [row_good (hf f (h3 ▸ List.getElem_mem _)) (by omega)]
      rfl
    rw [h, List.map_map]
    congr 1
    refine List.map_congr_left fun p hp => ?_
    obtain ⟨f, k⟩ := p
    obtain ⟨h1, h2, h3⟩ := List.mem_zipIdx hp
    have hk : k < fs.length := by omega
    show (rowW (rowOf k f)).getD (([], []), (0, 0)) = _
    rw [row_good (hf f (h3 ▸ List.getElem_mem _)) (by omega)]
    rfl
  show (match headW [paperL, intL N], mapO rowW (fs.zipIdx.map fun p => rowOf p.2 p.1) with
    | some b, some rs => formOk (rs.map fun r : Dc.Row => r.1) && papOk b (rs.map fun r : Dc.Row => r.2)
    | _, _ => false) = true
  rw [hh, hr]
  have e1 : (fs.zipIdx.map fun p : Form × Nat => ((p.1, ((p.2 : Int) - 3, (p.2 : Int))) : Dc.Row)).map (fun r : Dc.Row => r.1) = fs := by
    rw [List.map_map]
    show fs.zipIdx.map (fun p => p.1) = fs
    exact List.zipIdx_map_fst _ _
  show (formOk ((fs.zipIdx.map fun p : Form × Nat => ((p.1, ((p.2 : Int) - 3, (p.2 : Int))) : Dc.Row)).map (fun r : Dc.Row => r.1)) && papOk N ((fs.zipIdx.map fun p : Form × Nat => ((p.1, ((p.2 : Int) - 3, (p.2 : Int))) : Dc.Row)).map (fun r : Dc.Row => r.2))) = true
  rw [e1, Bool.and_eq_true]
  constructor
  · unfold formOk
    rw [Bool.and_eq_true]
    refine ⟨by cases fs with
      | nil => exact absurd rfl hne
      | cons _ _ => rfl, List.all_eq_true.mpr fun p hp => ?_⟩
    obtain ⟨f, k⟩ := p
    exact hs k f (List.mem_zipIdx_iff_getElem?.mp hp)
  · unfold papOk
    rw [decide_eq_true hN.1, decide_eq_true hN.2, Bool.and_self, Bool.true_and]
    refine List.all_eq_true.mpr fun e he => ?_
    obtain ⟨r, hr2, rfl⟩ := List.mem_map.mp he
    obtain ⟨p, _, rfl⟩ := List.mem_map.mp hr2
    exact decide_eq_true (by show (p.2 : Int) - 3 ≤ (p.2 : Int); omega)
/-! ### what is refused -/
def Rej (D : List (List Word)) : Prop := D ≠ [] ∧ Dc.Good D ∧ okD D = false
structure Base (N : Int) (fs : List Form) : Prop where
  n : 8 ≤ N ∧ N ≤ 4096
  f : ∀ f ∈ fs, Frm f
  l : fs.length ≤ 20
  ne : fs ≠ []
theorem Base.fine {N : Int} {fs : List Form} (b : Base N fs) : AllFine (docOf N fs) := doc_fine (by have := b.n; omega) b.f (by have := b.l; omega)
theorem Base.len {N : Int} {fs : List Form} (b : Base N fs) : (textD (docOf N fs)).length ≤ 3000 := doc_len (by have := b.n; omega) b.f b.l
theorem doc_length (N : Int) (fs : List Form) : (docOf N fs).length = fs.length + 1 := by
  unfold docOf
  simp
theorem Base.good {N : Int} {fs : List Form} (b : Base N fs) : Dc.Good (docOf N fs) := good_of b.fine (nm_doc b.f) (by rw [doc_length]; have := b.l; omega) (by have := b.len; omega)
theorem rows_at {N : Int} {fs : List Form} {j : Nat} (hj : j < fs.length) : (docOf N fs)[j + 1]? = some (rowOf j fs[j]) := by
  show (fs.zipIdx.map fun p => rowOf p.2 p.1)[j]? = _
  rw [List.getElem?_map, List.getElem?_zipIdx, List.getElem?_eq_getElem hj]
  simp
theorem Rej.set {N : Int} {fs : List Form} (b : Base N fs) {j : Nat} {ws : List Word} (hw : ws ≠ [] ∧ ∀ w ∈ ws, Fine w) (hl : (lineL ws).length ≤ 30000) (hn : ws.getD 0 [] ∈ WS ∨ rowW ws = none) (hb : okD ((docOf N fs).set (j + 1) ws) = false) : Rej ((docOf N fs).set (j + 1) ws) := by
  refine ⟨?_, good_of (fine_set b.fine hw) ?_ ?_ ?_, hb⟩
  · show [paperL, intL N] :: _ ≠ []
    exact List.cons_ne_nil _ _
  · show NmOk ((fs.zipIdx.map fun p => rowOf p.2 p.1).set j ws)
    exact nm_set (nm_doc b.f) hn
  · rw [List.length_set, doc_length]
    have := b.l
    omega
  · have h1 := text_set ws (docOf N fs) (j + 1)
    have h2 := b.len
    omega
theorem mem_set {rows : List (List Word)} {j : Nat} (hj : j < rows.length) (ws : List Word) : ws ∈ rows.set j ws := by
  have h : (rows.set j ws)[j]? = some ws := by
    rw [List.getElem?_set_self hj]
  exact List.mem_of_getElem? h
theorem rows_length (fs : List Form) : (fs.zipIdx.map fun p => rowOf p.2 p.1).length = fs.length := by simp
/-- a row that is none -/
theorem rej_none {N : Int} {fs : List Form} (b : Base N fs) {j : Nat} (hj : j < fs.length) {ws : List Word} (hw : ws ≠ [] ∧ ∀ w ∈ ws, Fine w) (hl : (lineL ws).length ≤ 30000) (hn : rowW ws = none) : Rej ((docOf N fs).set (j + 1) ws) := Rej.set b hw hl (.inr hn) (bad_row (mem_set (by rw [rows_length]; exact hj) ws) hn)
/-- another first line -/
theorem rej_top {N : Int} {fs : List Form} (b : Base N fs) {j : Nat} {top ws : List Word} (ht : top ≠ [] ∧ ∀ w ∈ top, Fine w) (htl : (lineL top).length ≤ 100) (hbad : headW top = none ∨ ∃ b, headW top = some b ∧ ¬ (8 ≤ b ∧ b ≤ 4096)) (hw : ws ≠ [] ∧ ∀ w ∈ ws, Fine w) (hl : (lineL ws).length ≤ 30000) (hn : ws.getD 0 [] ∈ WS ∨ rowW ws = none) : Rej (((docOf N fs).set 0 top).set (j + 1) ws) := by
  refine ⟨?_, good_of (fine_set (fine_set b.fine ht) hw) ?_ ?_ ?_, ?_⟩
  · show top :: _ ≠ []
    exact List.cons_ne_nil _ _
  · show NmOk ((fs.zipIdx.map fun p => rowOf p.2 p.1).set j ws)
    exact nm_set (nm_doc b.f) hn
  · rw [List.length_set, List.length_set, doc_length]
    have := b.l
    omega
  · have h1 := text_set ws ((docOf N fs).set 0 top) (j + 1)
    have h3 := text_set top (docOf N fs) 0
    have h2 := b.len
    omega
  · show okD (top :: _) = false
    rcases hbad with h | ⟨b2, h, hb⟩
    · exact bad_head h
    · exact bad_bits h hb
def tops : List (List Word) := [[paperL], [paperL, [55]], [paperL, [52, 48, 57, 55]], [paperL, [48, 56]], [[80, 97, 112, 101, 114], [57]], [paperL, [45, 57]], [paperL, [], [57]], [paperL, [57], []]]
theorem i7 : intL 7 = [55] := by decide +kernel
theorem i4097 : intL 4097 = [52, 48, 57, 55] := by decide +kernel
theorem im9 : intL (-9) = [45, 57] := by decide +kernel
theorem i9 : intL 9 = [57] := by decide +kernel
theorem empty_fine : Fine [] := name_fine (by decide)
theorem nine_fine : Fine [57] := i9 ▸ int_fine (i := 9) (by decide)
theorem tops_ok : ∀ top ∈ tops, (top ≠ [] ∧ ∀ w ∈ top, Fine w) ∧ (lineL top).length ≤ 100 ∧ (headW top = none ∨ ∃ b, headW top = some b ∧ ¬ (8 ≤ b ∧ b ≤ 4096)) := by
  have pf : Fine paperL := name_fine (List.mem_cons_self ..)
  have one : ∀ {w : Word}, Fine w → ∀ x ∈ [paperL, w], Fine x := fun h x hx => by
    rcases List.mem_cons.mp hx with rfl | hx
    · exact pf
    · rw [List.mem_singleton.mp hx]
      exact h
  have hd : ∀ {w : Word} {o : Option Int}, numW w = o → headW [paperL, w] = o := fun {w o} h => by
    unfold headW
    rw [if_neg (by rintro (z | z); · exact z rfl
                   · exact z rfl)]
    exact h
  intro top ht
  unfold tops at ht
  simp only [List.mem_cons, List.not_mem_nil, or_false] at ht
  rcases ht with rfl | rfl | rfl | rfl | rfl | rfl | rfl | rfl
  · exact ⟨⟨by decide, fun x hx => by rw [List.mem_singleton.mp hx]; exact pf⟩, by decide, .inl (by unfold headW; rw [if_pos (.inl (by decide))])⟩
  · exact ⟨⟨by decide, one (i7 ▸ int_fine (i := 7) (by decide))⟩, by decide, .inr ⟨7, hd (i7 ▸ int_num (i := 7) (by decide)), by decide⟩⟩
  · exact ⟨⟨by decide, one (i4097 ▸ int_fine (i := 4097) (by decide))⟩, by decide, .inr ⟨4097, hd (i4097 ▸ int_num (i := 4097) (by decide)), by decide⟩⟩
  · exact ⟨⟨by decide, one (name_fine (by decide))⟩, by decide, .inl (hd (bad_num (by decide +kernel)))⟩
  · refine ⟨⟨by decide, fun x hx => ?_⟩, by decide, .inl (by unfold headW; rw [if_pos (.inr (by decide))])⟩
    rcases List.mem_cons.mp hx with rfl | hx
    · exact name_fine (by decide)
    · rw [List.mem_singleton.mp hx]
      exact nine_fine
  · exact ⟨⟨by decide, one (im9 ▸ int_fine (i := -9) (by decide))⟩, by decide, .inr ⟨-9, hd (im9 ▸ int_num (i := -9) (by decide)), by decide⟩⟩
  · refine ⟨⟨by decide, fun x hx => ?_⟩, by decide, .inl (by unfold headW; rw [if_pos (.inl (by decide))])⟩
    simp only [List.mem_cons, List.not_mem_nil, or_false] at hx
    rcases hx with rfl | rfl | rfl
    · exact pf
    · exact empty_fine
    · exact nine_fine
  · refine ⟨⟨by decide, fun x hx => ?_⟩, by decide, .inl (by unfold headW; rw [if_pos (.inl (by decide))])⟩
    simp only [List.mem_cons, List.not_mem_nil, or_false] at hx
    rcases hx with rfl | rfl | rfl
    · exact pf
    · exact nine_fine
    · exact empty_fine
def bads : List Word := [[], [120], [48, 49], [43, 49], [45, 48], [49, 46, 48], [45], longL]
theorem bads_ok : ∀ w ∈ bads, Fine w ∧ badW w = true ∧ w.length ≤ 2001 := by
  intro w hw
  have sm : ∀ x ∈ [[], [120], [48, 49], [43, 49], [45, 48], [49, 46, 48], [45]], Fine x ∧ badW x = true ∧ x.length ≤ 2001 := fun x hx => by
    have h1 : x ∈ paperL :: [58] :: (WS ++ [[112, 97, 112, 101, 114], [80, 97, 112, 101, 114], [120], [48, 49], [43, 49], [45, 48], [49, 46, 48], [45], [48, 48], [45, 48, 49], [49, 101, 49], [45, 45, 49], [48, 56]]) ∧ badW x = true ∧ x.length ≤ 2001 := by
      revert x
      decide +kernel
    exact ⟨name_fine h1.1, h1.2⟩
  have : w ∈ [[], [120], [48, 49], [43, 49], [45, 48], [49, 46, 48], [45]] ∨ w = longL := by
    have h : w ∈ [[], [120], [48, 49], [43, 49], [45, 48], [49, 46, 48], [45]] ++ [longL] := hw
    rcases List.mem_append.mp h with z | z
    · exact .inl z
    · exact .inr (List.mem_singleton.mp z)
  rcases this with z | z
  · exact sm w z
  · rw [z]
    refine ⟨long_fine, long_bad, ?_⟩
    unfold longL
    rw [List.length_append, List.length_replicate]
    decide
def los : List Word := [[], [120], [48, 48], longL, [45, 48, 49], [49, 101, 49], [45, 45, 49]]
theorem los_ok : ∀ w ∈ los, Fine w ∧ badW w = true ∧ w.length ≤ 2001 := by
  intro w hw
  have sm : ∀ x ∈ [[], [120], [48, 48], [45, 48, 49], [49, 101, 49], [45, 45, 49]], Fine x ∧ badW x = true ∧ x.length ≤ 2001 := fun x hx => by
    have h1 : x ∈ paperL :: [58] :: (WS ++ [[112, 97, 112, 101, 114], [80, 97, 112, 101, 114], [120], [48, 49], [43, 49], [45, 48], [49, 46, 48], [45], [48, 48], [45, 48, 49], [49, 101, 49], [45, 45, 49], [48, 56]]) ∧ badW x = true ∧ x.length ≤ 2001 := by
      revert x
      decide +kernel
    exact ⟨name_fine h1.1, h1.2⟩
  have : w ∈ [[], [120], [48, 48], [45, 48, 49], [49, 101, 49], [45, 45, 49]] ∨ w = longL := by
    unfold los at hw
    simp only [List.mem_cons, List.not_mem_nil, or_false] at hw
    rcases hw with h | h | h | h | h | h | h
    · exact .inl (by simp [h])
    · exact .inl (by simp [h])
    · exact .inl (by simp [h])
    · exact .inr h
    · exact .inl (by simp [h])
    · exact .inl (by simp [h])
    · exact .inl (by simp [h])
  rcases this with z | z
  · exact sm w z
  · rw [z]
    refine ⟨long_fine, long_bad, ?_⟩
    unfold longL
    rw [List.length_append, List.length_replicate]
    decide
theorem offs_ok : ∀ x ∈ offs, x ∈ WS ∧ cnt x = none ∧ x.length ≤ 20 := by decide
/-- few words of at most 2001 signs -/
theorem few_len {ws : List Word} (h : ∀ w ∈ ws, w.length ≤ 2001) (h2 : ws.length ≤ 8) : (lineL ws).length ≤ 30000 := by
  have h1 := line_len h
  have h3 : ws.length * (2001 + 1) ≤ 8 * 2002 := Nat.mul_le_mul_right _ h2
  omega
theorem set_fine {ws : List Word} (h : ws ≠ [] ∧ ∀ w ∈ ws, Fine w) {v : Word} (hv : Fine v) (i : Nat) : ws.set i v ≠ [] ∧ ∀ w ∈ ws.set i v, Fine w := ⟨fun z => h.1 (by
  have := congrArg List.length z
  rw [List.length_set] at this
  exact List.length_eq_zero_iff.mp this), fun w hw => by
  rcases List.mem_or_eq_of_mem_set hw with z | z
  · exact h.2 w z
  · rw [z]
    exact hv⟩
theorem set_len2 {ws : List Word} (h : ∀ w ∈ ws, w.length ≤ 20) {v : Word} (hv : v.length ≤ 2001) (i : Nat) : ∀ w ∈ ws.set i v, w.length ≤ 2001 := fun w hw => by
  rcases List.mem_or_eq_of_mem_set hw with z | z
  · have := h w z
    omega
  · rw [z]
    exact hv
section
variable {N : Int} {fs : List Form} {j : Nat}
theorem way_same (b : Base N fs) (hj : j < fs.length) : ((rowOf j fs[j]) ≠ [] ∧ ∀ w ∈ rowOf j fs[j], Fine w) ∧ (lineL (rowOf j fs[j])).length ≤ 30000 ∧ ((rowOf j fs[j]).getD 0 [] ∈ WS) ∧ (∀ w ∈ rowOf j fs[j], w.length ≤ 20) ∧ (rowOf j fs[j]).length ≤ 6 := by
  have F := b.f _ (List.getElem_mem hj)
  have hj2 : j ≤ 1000 := by have := b.l; omega
  obtain ⟨h1, h2⟩ := row_words F hj2
  exact ⟨row_fine F hj2, few_len (fun w hw => by have := h1 w hw; omega) (by omega), ws_of F.nm, h1, h2⟩
theorem way1 (b : Base N fs) (hj : j < fs.length) {top : List Word} (ht : top ∈ tops) : Rej (((docOf N fs).set 0 top).set (j + 1) (rowOf j fs[j])) := by
  obtain ⟨h1, h2, h3, _, _⟩ := way_same b hj
  obtain ⟨t1, t2, t3⟩ := tops_ok top ht
  exact rej_top b t1 t2 t3 h1 h2 (.inl h3)
theorem way2 (b : Base N fs) (hj : j < fs.length) {v : Word} (hv : v ∈ bads) : Rej ((docOf N fs).set (j + 1) ((rowOf j fs[j]).set ((rowOf j fs[j]).length - 1) v)) := by
  obtain ⟨h1, h2, h3, h4, h5⟩ := way_same b hj
  obtain ⟨v1, v2, v3⟩ := bads_ok v hv
  exact rej_none b hj (set_fine h1 v1 _) (few_len (set_len2 h4 v3 _) (by rw [List.length_set]; omega)) (by rw [ch2]; exact row_badhi v2)
theorem way3 (b : Base N fs) (hj : j < fs.length) {v : Word} (hv : v ∈ intL ((j : Int) + 1 + 9) :: los) : Rej ((docOf N fs).set (j + 1) ((rowOf j fs[j]).set ((rowOf j fs[j]).length - 2) v)) := by
  obtain ⟨h1, h2, h3, h4, h5⟩ := way_same b hj
  have F := b.f _ (List.getElem_mem hj)
  have hj2 : j ≤ 1000 := by have := b.l; omega
  rcases List.mem_cons.mp hv with rfl | hv
  · have hi : ((j : Int) + 1 + 9).natAbs < 10 ^ 7 := by omega
    have hr := ch3_some F hj2 hi
    refine Rej.set b (set_fine h1 (int_fine hi) _) (few_len (set_len2 h4 (by have := int_len hi; omega) _) (by rw [List.length_set]; omega)) (.inl ?_) (bad_encl (mem_set (by rw [rows_length]; exact hj) _) hr (by show ¬ (j : Int) + 1 + 9 ≤ (j : Int); omega))
    have := row_head hr
    rw [← this]
    exact ws_of F.nm
  · obtain ⟨v1, v2, v3⟩ := los_ok v hv
    exact rej_none b hj (set_fine h1 v1 _) (few_len (set_len2 h4 v3 _) (by rw [List.length_set]; omega)) (by rw [ch3]; exact row_badlo v2)
theorem way4 (b : Base N fs) (hj : j < fs.length) {m : Nat} (hm : m < (rowOf j fs[j]).length) : Rej ((docOf N fs).set (j + 1) ((rowOf j fs[j]).take m ++ [[]] ++ (rowOf j fs[j]).drop m)) := by
  obtain ⟨h1, h2, h3, h4, h5⟩ := way_same b hj
  have F := b.f _ (List.getElem_mem hj)
  have mem : ∀ w ∈ (rowOf j fs[j]).take m ++ [[]] ++ (rowOf j fs[j]).drop m, w ∈ rowOf j fs[j] ∨ w = [] := fun w hw => by
    rcases List.mem_append.mp hw with z | z
    · rcases List.mem_append.mp z with y | y
      · exact .inl (List.mem_of_mem_take y)
      · exact .inr (List.mem_singleton.mp y)
    · exact .inl (List.mem_of_mem_drop z)
  refine rej_none b hj ⟨fun z => ?_, fun w hw => ?_⟩ (few_len (fun w hw => ?_) ?_) (ch4_none F hm)
  · have := congrArg List.length z
    simp at this
  · rcases mem w hw with z | z
    · exact h1.2 w z
    · rw [z]
      exact empty_fine
  · rcases mem w hw with z | z
    · have := h4 w z
      omega
    · rw [z]
      exact Nat.zero_le _
  · rw [List.length_append, List.length_append, List.length_take, List.length_drop]
    show min _ _ + 1 + _ ≤ 8
    omega
theorem way5 (b : Base N fs) (hj : j < fs.length) {x : Word} (hx : x ∈ offs) : Rej ((docOf N fs).set (j + 1) ((rowOf j fs[j]).set 0 x)) := by
  obtain ⟨h1, h2, h3, h4, h5⟩ := way_same b hj
  have F := b.f _ (List.getElem_mem hj)
  have hj2 : j ≤ 1000 := by have := b.l; omega
  obtain ⟨x1, x2, x3⟩ := offs_ok x hx
  exact Rej.set b (set_fine h1 (nm_fine x1) _) (few_len (set_len2 h4 (by omega) _) (by rw [List.length_set]; omega)) (.inl x1) (bad_name (mem_set (by rw [rows_length]; exact hj) _) (ch5_some F hj2 x) x2)
theorem way6 (b : Base N fs) (hj : j < fs.length) : Rej ((docOf N fs).set (j + 1) ((fs[j].1 :: fs[j].2.map intL) ++ [intL ((j : Int) - 3), intL (j : Int)])) := by
  obtain ⟨h1, h2, h3, h4, h5⟩ := way_same b hj
  have sub : ∀ w ∈ (fs[j].1 :: fs[j].2.map intL) ++ [intL ((j : Int) - 3), intL (j : Int)], w ∈ rowOf j fs[j] := fun w hw => by
    unfold rowOf
    rcases List.mem_append.mp hw with z | z
    · rcases List.mem_cons.mp z with y | y
      · rw [y]
        exact List.mem_cons_self ..
      · exact List.mem_cons_of_mem _ (List.mem_append_left _ y)
    · exact List.mem_cons_of_mem _ (List.mem_append_right _ (List.mem_cons_of_mem _ z))
  refine rej_none b hj ⟨List.cons_ne_nil _ _, fun w hw => h1.2 w (sub w hw)⟩ (few_len (fun w hw => by have := h4 w (sub w hw); omega) ?_) ch6_none
  have := (b.f _ (List.getElem_mem hj)).few
  simp
  omega
theorem way7 (b : Base N fs) (hj : j < fs.length) : Rej ((docOf N fs).set (j + 1) (rowOf j fs[j] ++ [[49]])) := by
  obtain ⟨h1, h2, h3, h4, h5⟩ := way_same b hj
  have i1 : intL 1 = [49] := by decide +kernel
  refine rej_none b hj ⟨fun z => ?_, fun w hw => ?_⟩ (few_len (fun w hw => ?_) ?_) ch7_none
  · have := congrArg List.length z
    simp at this
  · rcases List.mem_append.mp hw with z | z
    · exact h1.2 w z
    · rw [List.mem_singleton.mp z]
      exact i1 ▸ int_fine (i := 1) (by decide)
  · rcases List.mem_append.mp hw with z | z
    · have := h4 w z
      omega
    · rw [List.mem_singleton.mp z]
      decide
  · rw [List.length_append]
    show _ + 1 ≤ 8
    omega
theorem way8a (b : Base N fs) : Rej ((docOf N fs).take 1) := by
  have e : (docOf N fs).take 1 = [[paperL, intL N]] := rfl
  rw [e]
  refine ⟨List.cons_ne_nil _ _, good_of (fun ws hw => b.fine ws (by rw [List.mem_singleton.mp hw]; exact List.mem_cons_self ..)) (fun ws hw => nomatch hw) (show 1 ≤ 100 by decide) ?_, bad_empty⟩
  have h1 := b.len
  have h2 := part_le (ws := [paperL, intL N]) (D := docOf N fs) (List.mem_cons_self ..)
  rw [text_cons]
  show _ + 1 + 0 ≤ 40000
  omega
theorem way8b (b : Base N fs) : Rej ((docOf N fs).drop 1) := by
  have e : (docOf N fs).drop 1 = fs.zipIdx.map fun p => rowOf p.2 p.1 := rfl
  have hlen : (textD ((docOf N fs).drop 1)).length ≤ 40000 := by
    have h1 := b.len
    have h2 : (textD (docOf N fs)).length = (lineL [paperL, intL N]).length + 1 + (textD ((docOf N fs).drop 1)).length := text_cons _ _
    omega
  refine ⟨fun z => b.ne ?_, good_of (fun ws hw => b.fine ws (List.mem_of_mem_drop hw)) (fun ws hw => nm_doc b.f ws (List.mem_of_mem_drop (l := (docOf N fs).drop 1) hw)) ?_ hlen, ?_⟩
  · have := congrArg List.length z
    rw [e, rows_length] at this
    exact List.length_eq_zero_iff.mp this
  · rw [List.length_drop, doc_length]
    have := b.l
    omega
  · rw [e]
    cases hfs : fs with
    | nil => exact absurd hfs b.ne
    | cons f r =>
      rw [List.zipIdx_cons, List.map_cons]
      refine bad_head ?_
      unfold headW
      exact if_pos (.inl (by show (rowOf 0 f).length ≠ 2; rw [row_len]; omega))
theorem way8c (b : Base N fs) : Rej ([paperL, [57]] :: docOf N fs) := by
  have hr : rowW [paperL, intL N] = none := row_none (by show 2 < 4; decide)
  refine ⟨List.cons_ne_nil _ _, good_of (fun ws hw => ?_) (fun ws hw => ?_) ?_ ?_, bad_row (List.mem_cons_self ..) hr⟩
  · rcases List.mem_cons.mp hw with rfl | hw
    · refine ⟨List.cons_ne_nil _ _, fun w hw => ?_⟩
      rcases List.mem_cons.mp hw with rfl | hw
      · exact name_fine (List.mem_cons_self ..)
      · rw [List.mem_singleton.mp hw]
        exact nine_fine
    · exact b.fine ws hw
  · rcases List.mem_cons.mp hw with z | z
    · rw [z]
      exact .inr hr
    · exact nm_doc b.f ws z
  · rw [List.length_cons, doc_length]
    have := b.l
    omega
  · rw [text_cons]
    have h1 := b.len
    have h2 : (lineL [paperL, [57]]).length = 7 := rfl
    omega
end
end Dd

/-! Own data layer: texts of own lists, calls with something told; texts of documents. -/
namespace Ja
open PySem PySem.Spec PyProof.Rows L2 Evl Cm Dc
open SX (S S_cat S_len num_S)
open TL (numL numL_lt)
section
variable {K : PySem.W.Frag}
/-! ### the law's own steps -/
def rStrAny : List V → Hp → VK → Prop := fun xs H Q => (∃ a, xs = [.str a] ∧ Q (.str a) H) ∨ ∃ i : Int, xs = [.int i] ∧ i.natAbs.log2 < 1920 ∧ Q (.str (toString i)) H
theorem call_str_any {X : Cx} : CallR X (.type "str") rStrAny := fun pins s σ H xs us Q I r h => by
  rcases h with h | h
  · exact SkE.call_str_str pins s σ H xs us Q I r h
  · exact call_str_int pins s σ H xs us Q I r h
section
variable {B0 H0 : Hp} {W : WX} {δ : List Sl} {E : DE} {te to : TE} {t u : TS}
theorem sd_seqM {M : List Sl → Prop} (h : SD K B0 H0 W t δ { E with nx := M }) (k : ∀ δ', M δ' → SD K B0 H0 W u δ' E) : SD K B0 H0 W (tSeq t u) δ E := fun D B H σ S0 L => h { D with nx := u D } B H σ S0 ⟨fun B' H' σ' δ' e S' m => k δ' m D B' H' σ' S' (L.mono e), L.rt, L.bk, L.ct, L.ex, L.ro⟩
theorem d_anyI {i : Int} (h : EvS K B0 H0 te δ (nI i)) (hs : Sm i.natAbs) : EvS K B0 H0 (tCB rStrAny (tCons te tNil)) δ (nS (S (Tx.intL i))) := d_cb1 h (.int _) (fun _ H1 _ Q q => .inr ⟨i, rfl, sm_lg hs, by
  have e : (toString i : Str) = S (Tx.intL i) := Tx.int_text i
  rw [e]
  exact q H1 (Ex.refl H1)⟩) (.str _)
theorem d_anyS {x : Str} (h : EvS K B0 H0 te δ (nS x)) : EvS K B0 H0 (tCB rStrAny (tCons te tNil)) δ (nS x) := d_cb1 h (.str _) (fun _ H1 _ Q q => .inl ⟨x, rfl, q H1 (Ex.refl H1)⟩) (.str _)
/-- sep.join(xs), xs of its own -/
theorem d_joinO {n : Nat} {a : List Nat} {ys : List (List Nat)} (ho : EvS K B0 H0 to δ (nS (S a))) (hw : δ[n]? = some (Sl.own (ys.map encT))) (hz : (ys.map (·.length)).sum + ys.length * a.length ≤ 100000) : EvS K B0 H0 (tM1 (fun x xs H Q => ∃ a p, ∃ ys : List Str, x = .str a ∧ xs = [.ref p] ∧ (SqL K H p (ys.map V.str) ∨ SqT K H p (ys.map V.str)) ∧
    (ys.map (·.length)).sum + ys.length * a.length ≤ 16777216 ∧ Q (.str (Txt.join a ys)) H) to (tVar n)) δ (nS (S (TL.joinL a ys))) := fun B H σ Z Q q => ho B H σ Z _ fun v B1 H1 s1 i1 => by
  cases i1
  obtain ⟨l, vs, g1, g2, g3, g4, g5⟩ := (Z.go s1).own n _ hw
  refine ⟨⟨_, rfl⟩, .ref l, g1, S a, _, ys.map S, rfl, rfl, .inl (sq_of ?_), ?_, ?_⟩
  · have e : ys.map encT = (ys.map S).map PyData.str := by rw [List.map_map]; rfl
    rw [e] at g5
    rw [dt_strs_inv _ g5] at g2
    exact g2
  · rw [SX.lens, List.length_map, S_len]
    omega
  · rw [SX.join_S]
    exact q _ B1 H1 s1 (Dt.str _)
theorem nr_catL {ta tb : TE} {P0 : List PyData → Prop} {es : List PyData} (ha : EvR K B0 H0 ta δ fun d => ∃ ds, d = .list ds ∧ P0 ds) (hb : EvS K B0 H0 tb δ (.dat (.list es))) (hz : ∀ ds, P0 ds → ds.length + es.length ≤ 100000) : EvNR K B0 H0 (tOp rCat ta tb) δ fun fs => ∃ ds, P0 ds ∧ fs = ds ++ es := fun B H σ Z Q q =>
  ha B H σ Z _ fun v d B1 H1 ⟨ds, e, p0⟩ s1 i1 => hb B1 H1 σ (Z.go s1) _ fun w B2 H2 s2 i2 => by
    subst e
    have s := s1.trans s2
    cases i1 with
    | lst g1 g2 =>
      cases i2 with
      | lst k1 k2 =>
        refine ⟨_, _, _, _, rfl, rfl, s2.bh _ _ (s2.b _ _ g1), s2.bh _ _ k1, by rw [g2.len, k2.len]; exact sz_of (hz ds p0), fun p hp => ?_⟩
        exact q p _ _ B2 _ ⟨ds, p0, rfl⟩ (s.trans (.same s.bh (.new hp))) (none_of s.h hp) (none_of s.bh hp) upd_same ((dts_mono s2.b _ _ g2).app k2)
theorem r_call2 {A : Type} {enc : A → List Sl} {pre : A → Prop} {post : A → PyData → Prop} {R : XK} {P0 : PyData → Prop} {ta : TE} {s2 : Sl} (h : EvR K B0 H0 te δ P0) (h2 : EvS K B0 H0 ta δ s2) (hh : ∀ d, P0 d → ∃ a, enc a = [.dat d, s2] ∧ pre a) : EvR K B0 H0 (tCall (SpA K enc pre post) [] R (tCons te (tCons ta tNil))) δ fun d => ∃ a d0, P0 d0 ∧ enc a = [.dat d0, s2] ∧ post a d := fun B H σ Z Q q => h B H σ Z _ fun v d B1 H1 p s1 i1 => h2 B1 H1 σ (Z.go s1) _ fun w B2 H2 t2 i2 => by
  obtain ⟨a, e, hp⟩ := hh d p
  exact ⟨B2, a, t2.bh, by rw [List.append_nil, e]; exact .cons (dt_mono t2.b _ _ i1) (.cons i2 .nil), hp, fun v2 d2 B3 H3 p2 st dv => q v2 d2 B3 H3 ⟨a, d, p, e, p2⟩ ((s1.trans t2).trans st) dv⟩
end
theorem fold_one : ∀ (k : Nat) (a : Array Nat), (List.replicate k (#[48] : Array Nat)).foldl (· ++ ·) a = a ++ (List.replicate k 48).toArray
  | 0, a => by simp
  | k + 1, a => by
    rw [List.replicate_succ, List.foldl_cons, fold_one k, List.replicate_succ]
    apply Array.ext'
    simp
theorem zeros2000 : MulOk (S [48]) 2000 ∧ Txt.mul (S [48]) 2000 = S (List.replicate 2000 48) := by
  refine ⟨by unfold MulOk; decide +kernel, ?_⟩
  unfold Txt.mul
  rw [if_neg (by decide), if_neg (by decide)]
  show (⟨(List.replicate 2000 (S [48]).cps).foldl (· ++ ·) #[]⟩ : Str) = _
  have := fold_one 2000 #[]
  show (⟨(List.replicate 2000 (#[48] : Array Nat)).foldl (· ++ ·) #[]⟩ : Str) = _
  rw [this]
  simp
theorem d_zeros {B0 H0 : Hp} {δ : List Sl} {ta tb : TE} (ha : EvS K B0 H0 ta δ (nS (S [48]))) (hb : EvS K B0 H0 tb δ (nI 2000)) : EvS K B0 H0 (tOp (fun x y H Q => ∃ (a : Str) (n : Int), x = .str a ∧ y = .int n ∧ MulOk a n ∧ Q (.str (Txt.mul a n)) H) ta tb) δ (nS (S (List.replicate 2000 48))) := d_sis ha hb fun _ H1 _ Q q => ⟨S [48], 2000, rfl, rfl, zeros2000.1, by
  rw [zeros2000.2]
  exact q H1 (Ex.refl H1)⟩
/-! ### the texts -/
theorem joinL_app {c : Nat} : ∀ {a b : List Word}, a ≠ [] → b ≠ [] → TL.joinL [c] (a ++ b) = TL.joinL [c] a ++ ([c] ++ TL.joinL [c] b)
  | [x], y :: r, _, _ => rfl
  | x :: z :: a, b, _, hb => by
    have ih := joinL_app (c := c) (a := z :: a) (b := b) (List.cons_ne_nil _ _) hb
    show x ++ ([c] ++ TL.joinL [c] (z :: a ++ b)) = (x ++ ([c] ++ TL.joinL [c] (z :: a))) ++ _
    rw [ih]
    simp only [List.append_assoc]
theorem joinL_nil : ∀ ys : List Word, TL.joinL [] ys = ys.flatten
  | [] => rfl
  | [y] => by
    show y = y ++ []
    rw [List.append_nil]
  | y :: z :: r => by
    show y ++ ([] ++ TL.joinL [] (z :: r)) = y ++ (z :: r).flatten
    rw [joinL_nil (z :: r)]
    rfl
open Dd in
theorem line_row (k : Nat) (f : Form) : lineL (rowOf k f) = (((TL.joinL [32] (f.1 :: f.2.map Tx.intL) ++ [32, 58, 32]) ++ Tx.intL ((k : Int) - 3)) ++ [32]) ++ Tx.intL (k : Int) := by
  have e : rowOf k f = (f.1 :: f.2.map Tx.intL) ++ [[58], Tx.intL ((k : Int) - 3), Tx.intL (k : Int)] := rfl
  show TL.joinL [32] (rowOf k f) = _
  rw [e, joinL_app (List.cons_ne_nil _ _) (List.cons_ne_nil _ _)]
  show TL.joinL [32] (f.1 :: f.2.map Tx.intL) ++ ([32] ++ ([58] ++ ([32] ++ (Tx.intL ((k : Int) - 3) ++ ([32] ++ Tx.intL (k : Int)))))) = _
  simp only [List.append_assoc, List.cons_append, List.nil_append]
theorem line_ne {ws : List Word} (h : 2 ≤ ws.length) : lineL ws ≠ [] := by
  cases ws with
  | nil => simp at h
  | cons a r =>
    cases r with
    | nil => simp at h
    | cons b r =>
      intro z
      have z : a ++ ([32] ++ TL.joinL [32] (b :: r)) = [] := z
      have := congrArg List.length z
      rw [List.length_append, List.length_append] at this
      simp at this
theorem ends_other : ∀ {ls : List Word}, ls ≠ [] → (∀ l ∈ ls, l ≠ [] ∧ 10 ∉ l) → ∃ p c, TL.joinL [10] ls = p ++ [c] ∧ c ≠ 10
  | [l], _, h => by
    obtain ⟨h1, h2⟩ := h l (List.mem_cons_self ..)
    refine ⟨l.dropLast, l.getLast h1, (List.dropLast_concat_getLast h1).symm, fun z => h2 ?_⟩
    rw [← z]
    exact List.getLast_mem h1
  | x :: y :: r, _, h => by
    obtain ⟨p, c, e, hc⟩ := ends_other (ls := y :: r) (List.cons_ne_nil _ _) fun l hl => h l (List.mem_cons_of_mem _ hl)
    refine ⟨x ++ [10] ++ p, c, ?_, hc⟩
    show x ++ ([10] ++ TL.joinL [10] (y :: r)) = _
    rw [e]
    simp only [List.append_assoc]
theorem ends_not {p : List Nat} {c : Nat} (hc : c ≠ 10) : Txt.endswith (S (p ++ [c])) (S [10]) = false := by
  unfold Txt.endswith
  rw [S_len, S_len, List.length_append]
  simp [Builtin.Str.subAt, S_len, hc]
theorem ends_empty : Txt.endswith (S []) (S [10]) = false := by decide +kernel
end
end Ja


namespace K14
open PySem PySem.Spec PyProof.Rows L2 Cm Mi Ja
open SX (S S_cat S_len num_S)
open TL (numL numL_lt)
open Pg
def topS (i : Nat) : Stmt := PySem.Challenge.pw_portolan_k14_faulty_texts_of_papers.main.body.getD i (.Pass ⟨0, 0, 0, 0⟩)
abbrev s_is_integer : Stmt := topS 4
theorem sc_is_integer : FnScope ["value"] ["value"] (defScope s_is_integer) := ⟨rfl, rfl, rfl, by decide +kernel, rfl, by decide +kernel, by decide +kernel⟩
abbrev s_are_integers : Stmt := topS 5
theorem sc_are_integers : FnScope ["values", "value"] ["values"] (defScope s_are_integers) := ⟨rfl, rfl, rfl, by decide +kernel, rfl, by decide +kernel, by decide +kernel⟩
abbrev s_is_formula : Stmt := topS 8
theorem sc_is_formula : FnScope ["value", "place", "step"] ["value"] (defScope s_is_formula) := ⟨rfl, rfl, rfl, by decide +kernel, rfl, by decide +kernel, by decide +kernel⟩
abbrev s_is_step : Stmt := topS 9
theorem sc_is_step : FnScope ["step", "place", "word", "index"] ["step", "place"] (defScope s_is_step) := ⟨rfl, rfl, rfl, by decide +kernel, rfl, by decide +kernel, by decide +kernel⟩
abbrev s_is_paper : Stmt := topS 13
theorem sc_is_paper : FnScope ["value", "bits", "enclosures", "enclosure"] ["value"] (defScope s_is_paper) := ⟨rfl, rfl, rfl, by decide +kernel, rfl, by decide +kernel, by decide +kernel⟩
abbrev s_is_enclosure : Stmt := topS 14
theorem sc_is_enclosure : FnScope ["value"] ["value"] (defScope s_is_enclosure) := ⟨rfl, rfl, rfl, by decide +kernel, rfl, by decide +kernel, by decide +kernel⟩
abbrev s_read_paper : Stmt := topS 17
theorem sc_read_paper : FnScope ["text", "lines", "bits", "rows", "line", "formula", "row", "paper"] ["text"] (defScope s_read_paper) := ⟨rfl, rfl, rfl, by decide +kernel, rfl, by decide +kernel, by decide +kernel⟩
abbrev s_read_head : Stmt := topS 18
theorem sc_read_head : FnScope ["line", "words"] ["line"] (defScope s_read_head) := ⟨rfl, rfl, rfl, by decide +kernel, rfl, by decide +kernel, by decide +kernel⟩
abbrev s_read_row : Stmt := topS 19
theorem sc_read_row : FnScope ["line", "words", "numbers", "word"] ["line"] (defScope s_read_row) := ⟨rfl, rfl, rfl, by decide +kernel, rfl, by decide +kernel, by decide +kernel⟩
abbrev s_read_number : Stmt := topS 20
theorem sc_read_number : FnScope ["word", "digits"] ["word"] (defScope s_read_number) := ⟨rfl, rfl, rfl, by decide +kernel, rfl, by decide +kernel, by decide +kernel⟩
abbrev s_law_cell : Stmt := topS 22
theorem sc_law_cell : FnScope ["script", "k"] ["script", "k"] (defScope s_law_cell) := ⟨rfl, rfl, rfl, by decide +kernel, rfl, by decide +kernel, by decide +kernel⟩
abbrev s_law_numbers : Stmt := topS 23
theorem sc_law_numbers : FnScope ["script", "first", "most", "found", "at", "cell", "k", "mixed"] ["script", "first", "most"] (defScope s_law_numbers) := ⟨rfl, rfl, rfl, by decide +kernel, rfl, by decide +kernel, by decide +kernel⟩
abbrev s_law_formula : Stmt := topS 24
theorem sc_law_formula : FnScope ["numbers", "most", "steps", "figure", "kind", "a", "i", "j"] ["numbers", "most"] (defScope s_law_formula) := ⟨rfl, rfl, rfl, by decide +kernel, rfl, by decide +kernel, by decide +kernel⟩
abbrev s_law_refused : Stmt := topS 25
theorem sc_law_refused : FnScope ["text", "e"] ["text"] (defScope s_law_refused) := ⟨rfl, rfl, rfl, by decide +kernel, rfl, by decide +kernel, by decide +kernel⟩
abbrev s_law : Stmt := topS 26
theorem sc_law : FnScope ["script", "digit", "formula", "lines", "k", "item", "way", "pick", "at", "words", "long", "line"] ["script"] (defScope s_law) := ⟨rfl, rfl, rfl, by decide +kernel, rfl, by decide +kernel, by decide +kernel⟩
section
variable {P : Program} {w : World} {K : PySem.W.Frag} {mg : Str → Option Value} {base : Heap}
/-! ### errors -/
/-- what the top says of an error class CU below CP -/
structure Errs (K : PySem.W.Frag) (mg : Str → Option Value) (nU : Str) (CU CP : Addr) : Prop where
  gU : mg nU = some (.ref CU)
  gP : mg "PortolanError" = some (.ref CP)
  xU : PySem.W.excIn K CU [.type "ValueError", .type "Exception", .type "BaseException", .type "object"] "ValueError.__new__" = true
  kU : PySem.W.keepIn K (.ref CU) = true
  bU : PySem.W.subIn K (.ref CU) (.type "BaseException") = some true
  tU : PySem.W.typeIn K (.ref CU) = some (.type "type")
  bP : PySem.W.subIn K (.ref CP) (.type "BaseException") = some true
  tP : PySem.W.typeIn K (.ref CP) = some (.type "type")
  iP : PySem.W.isClsIn K CP = true
  sUP : PySem.W.subIn K (.ref CU) (.ref CP) = some true
  ec : ExcC K CU
theorem Errs.caught {nU : Str} {CU CP : Addr} (T : Errs K mg nU CU CP) : PySem.W.exmOne K (.ref CU) (.ref CP) = some true := by
  have e1 : (PySem.W.subIn K (.ref CP) (.type "BaseException") == some true) = true := by rw [T.bP] <;> rfl
  have e2 : ((PySem.W.clsIn K CP).isSome && PySem.W.typeIn K (.ref CP) == some (.type "type")) = true := by
    have h2' : (PySem.W.clsIn K CP).isSome = true := T.iP
    rw [h2', T.tP] <;> rfl
  show (if (PySem.W.subIn K (.ref CP) (.type "BaseException") == some true) = true then (if ((PySem.W.clsIn K CP).isSome && PySem.W.typeIn K (.ref CP) == some (.type "type")) = true then PySem.W.subIn K (.ref CU) (.ref CP) else none) else none) = some true
  rw [if_pos e1, if_pos e2]
  exact T.sUP
/-- a statement whose reading says one thing more -/
theorem pss_if {X : Cx} {φ : Prop} {ss : List Stmt} {t : TS} (h : φ → PSs X ss t) : PSs X ss (fun D σ H => φ ∧ t D σ H) := ⟨fun pins s σ H D I q => (h q.1).run pins s σ H D I q.2⟩
theorem kit_self {CU : Addr} : PySem.W.kitOne K (.ref CU) (.ref CU) = some true := by
  unfold PySem.W.kitOne
  rw [if_pos (beq_self_eq_true _)]
theorem d_isE {B0 H0 : Hp} {δ : List Sl} {CU a : Addr} {i : Nat} (h : δ[i]? = some (Sl.raw (.ref a))) : EvS K B0 H0 (tCB (rIsE K CU a) (tCons (tVar i) (tCons (tC (.ref CU)) tNil))) δ (nB true) := fun B H σ S Q q => by
  obtain ⟨v, h1, h2⟩ := S.val i _ h rfl
  cases h2
  exact ⟨_, h1, .ref CU, .ref CU, true, rfl, fun u hu => hu, kit_self, q _ B H (.refl S.st.bh) (Dt.bl _)⟩
/-- a suite of an except clause: for the class D of what was caught -/
theorem pss_ex {X : Cx} {A : Type} {φ : A → Prop} {ss : List Stmt} {t : A → TS} (h : ∀ x, φ x → PSs X ss (t x)) : PSs X ss (fun D σ H => ∃ x, φ x ∧ t x D σ H) := ⟨fun pins s σ H D I ⟨x, hx, q⟩ => (h x hx).run pins s σ H D I q⟩
theorem sd_ex {B0 H0 : Hp} {W : WX} {δ : List Sl} {E : DE} {A : Type} {φ : A → Prop} {t : A → TS} (x : A) (hx : φ x) (h : SD K B0 H0 W (t x) δ E) : SD K B0 H0 W (fun D σ H => ∃ x, φ x ∧ t x D σ H) δ E := fun D B H σ S L => ⟨x, hx, h D B H σ S L⟩
theorem d_isED {B0 H0 : Hp} {δ : List Sl} {CU a C : Addr} {i : Nat} {b : Bool} (h : δ[i]? = some (Sl.raw (.ref a))) (hk : PySem.W.kitOne K (.ref CU) (.ref C) = some b) : EvS K B0 H0 (tCB (rIsE K CU a) (tCons (tVar i) (tCons (tC (.ref C)) tNil))) δ (nB b) := fun B H σ S Q q => by
  obtain ⟨v, h1, h2⟩ := S.val i _ h rfl
  cases h2
  exact ⟨_, h1, .ref C, .ref C, b, rfl, fun u hu => hu, hk, q _ B H (.refl S.st.bh) (Dt.bl _)⟩
/-! ### the law's cells, by data -/
def cellOf (ns : List Int) (k : Nat) : Int := ns.getD k 0
abbrev spCell (K : PySem.W.Frag) : Sp := SpF K (fun a : List Int × Nat => [.sem (scrP K a.1), nI (a.2 : Int)]) (fun _ => True) fun a => .int (cellOf a.1 a.2)
theorem ok_cell {f : Addr} {fd : FuncData} (F : Fun K "_law_cell" "_law_cell" s_law_cell f fd) (m_len : mg "len" = none) : FnOk P w K mg base CX0 1 f fd ["script", "k"] (spCell K) := by
  refine F.ok sc_law_cell (fun vs H Q E ⟨_, _, _, iv, _⟩ => iv.len) (fun cdv A outer s H vs Q E hr h => ⟨_, (pss_cons (ps_if (pt_cmpR op_lt (pv 1) (pe_callB call_len (by rfl) m_len (by decide +kernel) (pa_cons (pv 0) pa_nil)) (nomark _)) (pss_one (ps_ret (pe_ix ix_list (pv 0) (pv 1) (fun _ _ => rfl)))) pss_nil)
        (pss_one (ps_ret pe_int))), run_body h fun a B _ => ?_⟩)
  obtain ⟨ns, k⟩ := a
  refine sd_env (δ1 := [.sem (scrP K ns), nI (k : Int)]) rfl ?_
  refine q_when (b_test (d_b0 (d_var rfl) (d_lenSc (d_var rfl)))) (fun hb => ?_) (fun hb => ?_)
  · have hk : k < ns.length := by
      have := of_decide_eq_true hb
      omega
    refine sd_ret (d_ixS (j := ns[k]) (d_var rfl) (d_var rfl) (atI_nat (List.getElem?_eq_getElem hk))) ?_
    show PyData.int _ = .int (ns.getD k 0)
    rw [List.getD_eq_getElem?_getD, List.getElem?_eq_getElem hk]
    rfl
  · have hk : ns.length ≤ k := by
      have := of_decide_eq_false hb
      omega
    refine sd_ret d_ci ?_
    show PyData.int 0 = .int (ns.getD k 0)
    rw [List.getD_eq_getElem?_getD, List.getElem?_eq_none hk]
    rfl
theorem mulc {x : Int} {c : Int} (h : x.natAbs < 2 ^ 100) (hc : c.natAbs < 2 ^ 100) : CMulX x c := mulx_ok (a := 100) (b := 100) h hc (by decide)
/-- the same, by a bound in figures -/
theorem mulk {x : Int} {k : Nat} (c : Int) (h : x.natAbs ≤ k) (hk : k < 2 ^ 100 := by decide +kernel) (hc : c.natAbs < 2 ^ 100 := by decide +kernel) : CMulX x c := mulc (Nat.lt_of_le_of_lt h hk) hc
/-! ### ints of a bounded number of bits -/
def Big (i : Int) : Prop := Builtin.Int.intBits i ≤ 1048576
theorem big_lt {i : Int} {a : Nat} (h : i.natAbs < 2 ^ a) (ha : a ≤ 1048576 := by decide) : Big i := Nat.le_trans (PyProof.Rows.intBits_le h) ha
theorem big_k {i : Int} {k : Nat} (h : i.natAbs ≤ k) (hk : k < 2 ^ 100 := by decide +kernel) : Big i := big_lt (Nat.lt_of_le_of_lt h hk)
theorem big_abs {i : Int} (h : Big i) : Big (i.natAbs : Int) := by
  unfold Big Builtin.Int.intBits at *
  have e : (((i.natAbs : Nat) : Int) == 0) = (i == 0) := by
    by_cases z : i = 0
    · subst z
      rfl
    · rw [beq_eq_false_iff_ne.mpr z, beq_eq_false_iff_ne.mpr (by omega)]
  rw [e, Int.natAbs_natCast]
  exact h
theorem mul_big {i : Int} (c : Int) (h : Big i) (hc : c.natAbs < 2 ^ 100 := by decide +kernel) : CMulX i c := by
  have := PyProof.Rows.intBits_le hc
  unfold Big at h
  unfold CMulX
  omega
theorem big_cell {ns : List Int} (h : ∀ z ∈ ns, Builtin.Int.intBits z ≤ 1048576) (k : Nat) : Big (cellOf ns k) := by
  unfold cellOf
  rw [List.getD_eq_getElem?_getD]
  cases e : ns[k]? with
  | none => exact big_k (k := 0) (Nat.le_refl _)
  | some z => exact h z (List.mem_of_getElem? e)
/-! ### the law's numbers -/
def GoodN (most : Nat) (ms : List Nat) : Prop := ms.length ≤ most ∧ ∀ m ∈ ms, m < 4096
theorem good_app {most : Nat} {ms : List Nat} (h : GoodN most ms) (h2 : ms.length < most) {i : Int} (h0 : 0 ≤ i) (h1 : i < 4096) : GoodN most (ms ++ [i.toNat]) := by
  refine ⟨by rw [List.length_append]; exact h2, fun m hm => ?_⟩
  rcases List.mem_append.mp hm with z | z
  · exact h.2 m z
  · rw [List.mem_singleton.mp z]
    omega
abbrev encN (n : Nat) : PyData := .int (n : Int)
theorem app_N (ms : List Nat) {i : Int} (h0 : 0 ≤ i) : ms.map encN ++ [PyData.int i] = (ms ++ [i.toNat]).map encN := by
  rw [List.map_append]
  show _ = ms.map encN ++ [PyData.int ((i.toNat : Nat) : Int)]
  rw [Int.toNat_of_nonneg h0]
abbrev spNumbers (K : PySem.W.Frag) : Sp := SpA K (fun a : List Int × Nat × Nat => [.sem (scrP K a.1), nI (a.2.1 : Int), nI (a.2.2 : Int)]) (fun a => a.1.length ≤ 63 ∧ a.2.1 ≤ 100 ∧ a.2.2 ≤ 100) fun a d => ∃ ms : List Nat, d = .list (ms.map encN) ∧ GoodN a.2.2 ms
theorem ok_numbers {f : Addr} {fd : FuncData} (F : Fun K "_law_numbers" "_law_numbers" s_law_numbers f fd) (m_len : mg "len" = none) (m_abs : mg "abs" = none) (m_int : mg "int" = none) (m_range : mg "range" = none) : FnOk P w K mg base CX0 1 f fd ["script", "first", "most"] (spNumbers K) := by
  refine F.ok sc_law_numbers (fun vs H Q E ⟨_, _, _, iv, _⟩ => iv.len) (fun cdv A outer s H vs Q E hr h => ⟨_, (pss_cons (ps_set (i := 3) sc_law_numbers.nd rfl (.inl rfl) (pe_lst pa_nil))
        (pss_cons (ps_for PassesOwn.never rfl (pi_range2 (by rfl) m_range (pa_cons (pv 1) (pa_cons (pe_callB call_len (by rfl) m_len (by decide +kernel) (pa_cons (pv 0) pa_nil)) pa_nil))) (pg_name (i := 4) sc_law_numbers.nd rfl (.inl rfl)) (pss_cons (ps_set (i := 5) sc_law_numbers.nd rfl (.inl rfl) (pe_callB call_abs (by rfl) m_abs (by decide +kernel) (pa_cons (pe_ix ix_list (pv 0) (pv 4) (fun _ _ => rfl)) pa_nil)))
        (pss_one (ps_if (pt_cmpR op_ge (pv 5) pe_int (nomark _)) (pss_one (ps_for PassesOwn.never rfl (pi_range1 (by rfl) m_range (pa_cons pe_int pa_nil)) (pg_name (i := 6) sc_law_numbers.nd rfl (.inl rfl)) (pss_one (ps_if (PW.pt (pw_and (pt_cmpR op_gt (pv 5) pe_int (nomark _)) (pw_and1 (pt_cmpR op_lt (pe_callB call_len (by rfl) m_len (by decide +kernel) (pa_cons (pv 3) pa_nil)) (pv 2) (nomark _))))) (pss_cons (ps_expr (pe_bm PySem.F.plainAttrs_list PySem.F.slot_list_append PySem.F.type_list_append mt_append (pv 3) (pa_cons (pe_op op_mod (pe_callTy call_int1 (by rfl) m_int (by decide +kernel) (pa_cons (pv 5) pa_nil)) pe_int) pa_nil)))
        (pss_one (ps_set (i := 5) sc_law_numbers.nd rfl (.inl rfl) (pe_op op_fdiv (pv 5) pe_int)))) pss_nil)))) (pss_one (ps_if (pt_cmpR op_lt (pe_callB call_len (by rfl) m_len (by decide +kernel) (pa_cons (pv 3) pa_nil)) (pv 2) (nomark _)) (pss_cons (ps_set (i := 7) sc_law_numbers.nd rfl (.inl rfl) (pe_op op_mod (pe_callTy call_int1 (by rfl) m_int (by decide +kernel) (pa_cons (pe_op op_add (pe_op op_add (pe_op op_mulX (pv 5) pe_int) (pe_op op_mulX (pv 4) pe_int)) pe_int) pa_nil)) pe_int))
        (pss_cons (ps_set (i := 7) sc_law_numbers.nd rfl (.inl rfl) (pe_op op_mod (pe_callTy call_int1 (by rfl) m_int (by decide +kernel) (pa_cons (pe_op op_add (pe_op op_mulX (pv 7) pe_int) (pe_op op_fdiv (pv 7) pe_int)) pa_nil)) pe_int))
        (pss_one (ps_expr (pe_bm PySem.F.plainAttrs_list PySem.F.slot_list_append PySem.F.type_list_append mt_append (pv 3) (pa_cons (pe_op op_mod (pe_callTy call_int1 (by rfl) m_int (by decide +kernel) (pa_cons (pv 7) pa_nil)) pe_int) pa_nil)))))) pss_nil))))))
        (pss_one (ps_ret (pv 3))))), run_body h fun a B ha => ?_⟩)
  obtain ⟨ns, fi, mo⟩ := a
  obtain ⟨hl, hf, hm⟩ : ns.length ≤ 63 ∧ fi ≤ 100 ∧ mo ≤ 100 := ha
  refine sd_env (δ1 := [.sem (scrP K ns), nI (fi : Int), nI (mo : Int), .no, .no, .no, .no, .no]) rfl ?_
  refine q_asgO [_, _, _, .own (([] : List Nat).map encN), _, _, _, _] (n_lst ds_nil) ?_
  refine q_for (w_rng2 (ds_cons (d_var rfl) (ds_cons (d_lenSc (d_var rfl)) ds_nil)) (by omega)) (fun i δ => ∃ ms s4 s5 s6 s7, δ = [.sem (scrP K ns), nI (fi : Int), nI (mo : Int), .own (List.map encN ms), s4, s5, s6, s7] ∧ GoodN mo ms) ⟨[], _, _, _, _, rfl, Nat.zero_le _, fun m hm => by cases hm⟩ (fun i d δ' hd hp => ?_) (fun δ' hp => ?_)
  · obtain ⟨ms, s4, s5, s6, s7, rfl, hg⟩ := hp
    obtain ⟨hi, rfl⟩ := upto_get hd
    refine ⟨_, _, g_name, ?_⟩
    have hat : fi + i < ns.length := by omega
    refine sd_env (δ1 := [.sem (scrP K ns), nI (fi : Int), nI (mo : Int), .own (List.map encN ms), nI (((fi + i : Nat)) : Int), s5, s6, s7]) (by rw [Int.natCast_add]; rfl) ?_
    refine q_asg [_, _, _, _, _, nI ((ns[fi + i].natAbs : Nat) : Int), _, _] (d_abs (d_ixS (j := ns[fi + i]) (d_var rfl) (d_var rfl) (atI_nat (List.getElem?_eq_getElem hat)))) ?_
    generalize ns[fi + i].natAbs = c
    refine sd_if (b_test (d_b0 (d_var rfl) d_ci)) (fun hb => ?_) (fun hb => ?_)
    · refine sd_for (w_nat (n := 60) (ds_cons d_ci ds_nil) (by decide)) (fun j δ => ∃ ms c s6, δ = [.sem (scrP K ns), nI (fi : Int), nI (mo : Int), .own (List.map encN ms), nI (((fi + i : Nat)) : Int), nI c, s6, s7] ∧ GoodN mo ms) ⟨ms, _, _, rfl, hg⟩ (fun j d δ' hd hp => ?_) (fun δ' hp => ?_)
      · obtain ⟨ms, c, s6, rfl, hg⟩ := hp
        obtain ⟨hj, rfl⟩ := nats_get hd
        refine ⟨_, _, g_name, ?_⟩
        refine sd_env (δ1 := [.sem (scrP K ns), nI (fi : Int), nI (mo : Int), .own (List.map encN ms), nI (((fi + i : Nat)) : Int), nI c, nI (j : Int), s7]) rfl ?_
        refine sd_when (b_and (b_test (d_b0 (d_var rfl) d_ci)) fun _ => (b_test (d_b0 (d_lenO rfl) (d_var rfl)))) (fun hb => ?_) (fun hb => ?_)
        · have hlt : ms.length < mo := by
            have h2 := of_decide_eq_true (Bool.and_eq_true_iff.mp hb).2
            rw [List.length_map] at h2
            omega
          have h0 : 0 ≤ c % 4096 := by omega
          refine q_app [_, _, _, .own (List.map encN (ms ++ [(c % 4096).toNat])), _, _, _, _] rfl (d_iC (d_int (d_var rfl)) d_ci (by decide)) (by rw [List.length_map]; omega) ?_ (by rw [← app_N ms h0]; rfl)
          refine sd_asg (d_iC (d_var rfl) d_ci ⟨by decide, by decide⟩) ?_
          exact ⟨_, _, _, rfl, good_app hg hlt h0 (by omega)⟩
        · exact ⟨ms, c, _, rfl, hg⟩
      · obtain ⟨ms, c, s6, rfl, hg⟩ := hp
        exact ⟨ms, _, _, _, _, rfl, hg⟩
    · have hc : c < 1000000000000000000 := by
        have := of_decide_eq_false hb
        omega
      refine sd_when (b_test (d_b0 (d_lenO rfl) (d_var rfl))) (fun hb => ?_) (fun hb => ?_)
      · have hlt : ms.length < mo := by
          have h2 := of_decide_eq_true hb
          rw [List.length_map] at h2
          omega
        have hfi : fi + i < 1000 := by omega
        generalize fi + i = at_ at hfi
        refine q_asg [_, _, _, _, _, _, _, nI (((c : Int) * 48271 + (at_ : Int) * 69621 + 12345) % 2147483647)] (d_iC (d_int (d_i0 (d_i0 (d_iC (d_var rfl) d_ci (mulk (k := 1000000000000000000) _ (by omega))) (d_iC (d_var rfl) d_ci (mulk (k := 1000) _ (by omega)))) d_ci)) d_ci (by decide)) ?_
        have hx : 0 ≤ ((c : Int) * 48271 + (at_ : Int) * 69621 + 12345) % 2147483647 ∧ ((c : Int) * 48271 + (at_ : Int) * 69621 + 12345) % 2147483647 < 2147483647 := ⟨by omega, by omega⟩
        generalize ((c : Int) * 48271 + (at_ : Int) * 69621 + 12345) % 2147483647 = m at hx
        refine q_asg [_, _, _, _, _, _, _, nI ((m * 69621 + m / 1009) % 1000003)] (d_iC (d_int (d_i0 (d_iC (d_var rfl) d_ci (mulk (k := 2147483647) _ (by omega))) (d_iC (d_var rfl) d_ci ⟨by decide, by decide⟩))) d_ci (by decide)) ?_
        generalize (m * 69621 + m / 1009) % 1000003 = m2
        have h0 : 0 ≤ m2 % 4096 := by omega
        refine sd_app rfl (d_iC (d_int (d_var rfl)) d_ci (by decide)) (by rw [List.length_map]; omega) ?_
        exact ⟨ms ++ [(m2 % 4096).toNat], nI (at_ : Int), nI (c : Int), s6, nI m2, by rw [← app_N ms h0]; rfl, good_app hg hlt h0 (by omega)⟩
      · exact ⟨ms, _, _, _, _, rfl, hg⟩
  · obtain ⟨ms, s4, s5, s6, s7, rfl, hg⟩ := hp
    refine sd_freeze (n := 3) rfl ?_
    exact sd_ret (d_var rfl) ⟨ms, rfl, hg⟩
open Dc
open Et (pi_enumT)
/-! ### the program: formulas and papers -/
abbrev encF (f : Form) : PyData := .tuple (encT f.1 :: f.2.map PyData.int)
abbrev encE (e : Int × Int) : PyData := .tuple [.int e.1, .int e.2]
abbrev spInt (K : PySem.W.Frag) : Sp := SpF K (fun i : Int => [nI i]) (fun _ => True) fun _ => .bool true
theorem ok_isint {f : Addr} {fd : FuncData} (F : Fun K "is_integer" "is_integer" s_is_integer f fd) (m_isinstance : mg "isinstance" = none) (m_int : mg "int" = none) (m_bool : mg "bool" = none) : FnOk P w K mg base CX0 1 f fd ["value"] (spInt K) := by
  refine F.ok sc_is_integer (fun vs H Q E ⟨_, _, _, iv, _⟩ => iv.len) (fun cdv A outer s H vs Q E hr h => ⟨_, (pss_one (ps_ret (pe_and (pe_callB call_isi (by rfl) m_isinstance (by decide +kernel) (pa_cons (pv 0) (pa_cons (pe_bltn (by rfl) m_int (by decide +kernel) (show RelV (.ty "int") _ from rfl)) pa_nil))) (pe_one (pe_not (pe_callB call_isi (by rfl) m_isinstance (by decide +kernel) (pa_cons (pv 0) (pa_cons (pe_bltn (by rfl) m_bool (by decide +kernel) (show RelV (.ty "bool") _ from rfl)) pa_nil)))))))), run_body h fun i B _ => ?_⟩)
  refine sd_env (δ1 := [nI i]) rfl ?_
  exact sd_ret (d_andV (d_isi (T := "int") (t := "int") (b := true) (d_var rfl) rfl (by rfl)) fun _ => d_notV (d_isi (T := "bool") (t := "int") (b := false) (d_var rfl) rfl (by rfl))) rfl
abbrev spInts (K : PySem.W.Frag) : Sp := SpF K (fun is : List Int => [.dat (.tuple (is.map PyData.int))]) (fun _ => True) fun _ => .bool true
theorem ok_ints {f f0 : Addr} {fd fd0 : FuncData} (F : Fun K "are_integers" "are_integers" s_are_integers f fd) (F_is_integer : Fun K "is_integer" "is_integer" s_is_integer f0 fd0) (b_is_integer : Binds K fd0 ["value"] []) (g_is_integer : mg "is_integer" = some (.ref f0))
    (m_isinstance : mg "isinstance" = none) (m_int : mg "int" = none) (m_bool : mg "bool" = none) : FnOk P w K mg base CX0 2 f fd ["values"] (spInts K) := by
  have G_is_integer : FnOk P w K mg base CX0 1 f0 fd0 ["value"] (spInt K) := ok_isint F_is_integer m_isinstance m_int m_bool
  refine F.ok sc_are_integers (fun vs H Q E ⟨_, _, _, iv, _⟩ => iv.len) (fun cdv A outer s H vs Q E hr h => ⟨_, (pss_cons (ps_for PassesOwn.never rfl (pi_tup (pv 0)) (pg_name (i := 1) sc_are_integers.nd rfl (.inl rfl)) (pss_one (ps_if (pt_not (pt_val (pe_call G_is_integer (hr.mono (by decide)) (by rfl) g_is_integer F_is_integer.kp b_is_integer .nil pass0 (pa_cons (pv 1) pa_nil)))) (pss_one (ps_ret pe_bl)) pss_nil)))
        (pss_one (ps_ret pe_bl))), run_body h fun is B _ => ?_⟩)
  refine sd_env (δ1 := [.dat (.tuple (is.map PyData.int)), .no]) rfl ?_
  refine q_for (w_tup (d_var rfl)) (fun i δ => ∃ s1, δ = [.dat (.tuple (is.map PyData.int)), s1]) ⟨_, rfl⟩ (fun i d δ' hd hp => ?_) (fun δ' hp => ?_)
  · obtain ⟨s1, rfl⟩ := hp
    rw [List.getElem?_map] at hd
    obtain ⟨n, _, rfl⟩ := Option.map_eq_some_iff.mp hd
    refine ⟨_, _, g_name, ?_⟩
    refine sd_env (δ1 := [_, nI n]) rfl ?_
    exact sd_when (b_is (c := false) (b_not (b_val (d_callF n (a_cons (d_var rfl) a_nil) trivial))) rfl) (fun hb => (nomatch hb)) fun _ => ⟨_, rfl⟩
  · obtain ⟨s1, rfl⟩ := hp
    exact sd_ret d_cb rfl
/-- the counts behind the words, as the top has written them -/
structure Counts (K : PySem.W.Frag) (w : World) (D : Addr) : Prop where
  dict : ∃ es n, KDict K w D es n
  at_ : ∀ x ∈ WS, (∃ (c : Nat) (t : Tok), cnt x = some c ∧ PySem.W.nsIn K D (S x) = some (some (.int (c : Int) t))) ∨ (cnt x = none ∧ PySem.W.nsIn K D (S x) = some none)
theorem cut_tail (d : PyData) (ds : List PyData) : Ja.cutD (d :: ds) (some 1) none = ds := by
  unfold Ja.cutD
  have e1 : HT.sIx (d :: ds).length 0 (some 1) = 1 := by
    show min (1 : Int).toNat (d :: ds).length = 1
    rw [List.length_cons]
    show min 1 (ds.length + 1) = 1
    omega
  rw [e1]
  show ds.take ((d :: ds).length - 1) = ds
  exact List.take_of_length_le (by rw [List.length_cons]; omega)
theorem tail_is {B0 H0 : Hp} {δ : List Sl} {te : TE} {d : PyData} {ds : List PyData} (h : EvS K B0 H0 te δ (.dat (.tuple (d :: ds)))) : EvS K B0 H0 (tSl (rSlT K) te (tPart (tC (.int 1))) tNoPart) δ (.dat (.tuple ds)) := by
  have := d_slT h (o_some (i := 1) d_ci) o_none (.inl (by show min (1 : Int).toNat (d :: ds).length ≠ 0; rw [List.length_cons]; show min 1 (ds.length + 1) ≠ 0; omega)) (List.cons_ne_nil _ _)
  rwa [cut_tail] at this
abbrev spStep (K : PySem.W.Frag) : Sp := SpF K (fun a : Form × Nat => [.dat (encF a.1), nI (a.2 : Int)]) (fun a => a.1.1 ∈ WS ∧ a.1.2.length ≤ 100000) fun a => .bool (stepOk a.2 a.1)
theorem step_no {k : Nat} {f : Form} (h : cnt f.1 = none) : stepOk k f = false := by
  unfold stepOk
  rw [h]
theorem step_is {k c : Nat} {f : Form} (h : cnt f.1 = some c) : stepOk k f = (decide (f.2.length = c) && (if f.1 = numberL then decide (1 ≤ f.2.getD 1 0) else f.2.all fun i => decide (0 ≤ i) && decide (i < (k : Int)))) := by
  unfold stepOk
  rw [h]
theorem ok_step {f f0 f1 D : Addr} {fd fd0 fd1 : FuncData} (F : Fun K "is_step" "is_step" s_is_step f fd) (F_is_integer : Fun K "is_integer" "is_integer" s_is_integer f0 fd0) (b_is_integer : Binds K fd0 ["value"] []) (g_is_integer : mg "is_integer" = some (.ref f0))
    (F_are_integers : Fun K "are_integers" "are_integers" s_are_integers f1 fd1) (b_are_integers : Binds K fd1 ["values"] []) (g_are_integers : mg "are_integers" = some (.ref f1)) (g_COUNTS : mg "COUNTS" = some (.ref D)) (C : Counts K w D)
    (m_isinstance : mg "isinstance" = none) (m_int : mg "int" = none) (m_bool : mg "bool" = none) (m_len : mg "len" = none) (m_tuple : mg "tuple" = none) (m_str : mg "str" = none) : FnOk P w K mg base CX0 3 f fd ["step", "place"] (spStep K) := by
  have G_are_integers : FnOk P w K mg base CX0 2 f1 fd1 ["values"] (spInts K) := ok_ints F_are_integers F_is_integer b_is_integer g_is_integer m_isinstance m_int m_bool
  obtain ⟨es, nn, D_COUNTS⟩ := C.dict
  refine F.ok sc_is_step (fun vs H Q E ⟨_, _, _, iv, _⟩ => iv.len) (fun cdv A outer s H vs Q E hr h => ⟨_, (pss_cons (ps_if (PW.pt (pw_or (pt_not (pt_val (pe_callB call_isi (by rfl) m_isinstance (by decide +kernel) (pa_cons (pv 0) (pa_cons (pe_bltn (by rfl) m_tuple (by decide +kernel) (show RelV (.ty "tuple") _ from rfl)) pa_nil))))) (pw_or (pt_cmpR op_eq (pe_callB call_len (by rfl) m_len (by decide +kernel) (pa_cons (pv 0) pa_nil)) pe_int (nomark _)) (pw_or1 (pt_not (pt_val (pe_callB call_isi (by rfl) m_isinstance (by decide +kernel) (pa_cons (pe_ix ix_tup (pv 0) pe_int (fun _ _ => rfl)) (pa_cons (pe_bltn (by rfl) m_str (by decide +kernel) (show RelV (.ty "str") _ from rfl)) pa_nil))))))))) (pss_one (ps_ret pe_bl)) pss_nil)
        (pss_cons (ps_set (i := 2) sc_is_step.nd rfl (.inl rfl) (pe_ix ix_tup (pv 0) pe_int (fun _ _ => rfl)))
        (pss_cons (ps_if (PW.pt (pw_or (pt_cmpR (op_notIn_kd D_COUNTS) (pv 2) (pe_glob (by rfl) g_COUNTS (show RelV (.ref _) _ from rfl)) (by rfl)) (pw_or (pt_cmpR op_ne (pe_callB call_len (by rfl) m_len (by decide +kernel) (pa_cons (pv 0) pa_nil)) (pe_op op_add (pe_ix ix_kdict (pe_glob (by rfl) g_COUNTS (show RelV (.ref _) _ from rfl)) (pv 2) (fun _ _ => rfl)) pe_int) (nomark _)) (pw_or1 (pt_not (pt_val (pe_call G_are_integers (hr.mono (by decide)) (by rfl) g_are_integers F_are_integers.kp b_are_integers .nil pass0 (pa_cons (pe_slice sl_tup (pv 0) (po_some pe_int) po_none) pa_nil)))))))) (pss_one (ps_ret pe_bl)) pss_nil)
        (pss_cons (ps_if (pt_cmpR op_eq (pv 2) pe_str (nomark _)) (pss_one (ps_ret (pe_cmpR op_ge (pe_ix ix_tup (pv 0) pe_int (fun _ _ => rfl)) pe_int (nomark _)))) pss_nil)
        (pss_cons (ps_for PassesOwn.never rfl (pi_tup (pe_slice sl_tup (pv 0) (po_some pe_int) po_none)) (pg_name (i := 3) sc_is_step.nd rfl (.inl rfl)) (pss_one (ps_if (PW.pt (pw_or (pt_cmpR op_lt (pv 3) pe_int (nomark _)) (pw_or1 (pt_cmpR op_ge (pv 3) (pv 1) (nomark _))))) (pss_one (ps_ret pe_bl)) pss_nil)))
        (pss_one (ps_ret pe_bl))))))), run_body h fun a B hp => ?_⟩)
  obtain ⟨⟨x, is⟩, k⟩ := a
  obtain ⟨hx, hl⟩ : x ∈ WS ∧ is.length ≤ 100000 := hp
  refine sd_env (δ1 := [.dat (encF (x, is)), nI (k : Int), .no, .no]) rfl ?_
  have hlen : ((encT x :: is.map PyData.int).length : Int) = (is.length : Int) + 1 := by
    rw [List.length_cons, List.length_map]
    omega
  refine q_when (b_is (c := false) (b_or (b_not (b_val (d_isi (T := "tuple") (t := "tuple") (b := true) (d_var rfl) rfl (by rfl)))) fun _ => b_or (b_test (d_eqI (d_isI (d_lenT (d_var rfl)) hlen) d_ci)) fun _ => b_not (b_val (d_isi (T := "str") (t := "str") (b := true) (d_ixT (d := encT x) (d_var rfl) d_ci (show atI _ ((0 : Nat) : Int) = _ from atI_nat rfl)) rfl (by rfl)))) (by rw [decide_eq_false (show ¬ ((is.length : Int) + 1 = 0) by omega)]; rfl)) (fun hb => (nomatch hb)) (fun _ => ?_)
  refine q_asg [_, _, .dat (encT x), _] (d_ixT (d := encT x) (d_var rfl) d_ci (show atI _ ((0 : Nat) : Int) = _ from atI_nat rfl)) ?_
  rcases C.at_ x hx with ⟨c, t, hc, hn⟩ | ⟨hc, hn⟩
  · have kd : KDct K w D (S x) (.int (c : Int)) := ⟨es, nn, _, D_COUNTS.at_, D_COUNTS.lit, hn, ⟨_, rfl⟩⟩
    have hst := step_is (k := k) (f := (x, is)) hc
    refine q_when (b_is (c := !decide (is.length = c)) (b_or (b_test (d_niK (x := S x) (d_var rfl) d_cr hn)) fun _ => b_or (b_test (d_neI (d_isI (d_lenT (d_var rfl)) hlen) (d_i0 (d_ixK d_cr (d_var rfl) kd) d_ci))) fun _ => b_not (b_val (d_callF is (a_cons (tail_is (d_var rfl)) a_nil) trivial))) (by
      show (false || (!decide ((is.length : Int) + 1 = (c : Int) + 1) || false)) = _
      rw [Bool.false_or, Bool.or_false]
      exact congrArg (fun b => !b) (decide_eq_decide.mpr (by omega)))) (fun hb => ?_) (fun hb => ?_)
    · refine sd_ret d_cb ?_
      show PyData.bool false = .bool (stepOk k (x, is))
      rw [hst]
      have : decide (is.length = c) = false := by simpa using hb
      rw [show decide ((x, is).2.length = c) = false from this]
      rfl
    · have hlc : decide (is.length = c) = true := by simpa using hb
      rw [show decide ((x, is).2.length = c) = true from hlc, Bool.true_and] at hst
      refine q_when (b_test (d_eqSS (a := x) (b := numberL) (d_var rfl) d_cs)) (fun hb2 => ?_) (fun hb2 => ?_)
      · have e : x = numberL := of_decide_eq_true hb2
        rw [if_pos e] at hst
        subst e
        have hc2 : c = 2 := Option.some.inj (hc.symm.trans (by decide))
        have hl2 : is.length = 2 := (of_decide_eq_true hlc).trans hc2
        obtain ⟨p, q, rfl⟩ : ∃ p q, is = [p, q] := by
          cases is with
          | nil => cases hl2
          | cons p is =>
            cases is with
            | nil => cases hl2
            | cons q is =>
              cases is with
              | nil => exact ⟨p, q, rfl⟩
              | cons _ _ => simp at hl2
        refine sd_ret (d_b0 (d_ixT (d := .int q) (d_var rfl) d_ci rfl) d_ci) ?_
        show PyData.bool (decide (1 ≤ q)) = .bool (stepOk k (numberL, [p, q]))
        rw [hst]
        rfl
      · have e : ¬ x = numberL := of_decide_eq_false hb2
        rw [if_neg e] at hst
        refine q_for (w_tup (tail_is (d_var rfl))) (fun i δ => (is.take i).all (fun i => decide (0 ≤ i) && decide (i < (k : Int))) = true ∧ ∃ s3, δ = [.dat (encF (x, is)), nI (k : Int), .dat (encT x), s3]) ⟨rfl, _, rfl⟩ (fun i d δ' hd hp => ?_) (fun δ' hp => ?_)
        · obtain ⟨hall, s3, rfl⟩ := hp
          rw [List.getElem?_map] at hd
          obtain ⟨n, hn2, rfl⟩ := Option.map_eq_some_iff.mp hd
          refine ⟨_, _, g_name, ?_⟩
          refine sd_env (δ1 := [_, _, _, nI n]) rfl ?_
          refine sd_when (b_or (b_test (d_b0 (d_var rfl) d_ci)) fun _ => b_test (d_b0 (d_var rfl) (d_var rfl))) (fun hb3 => ?_) (fun hb3 => ?_)
          · refine sd_ret d_cb ?_
            show PyData.bool false = .bool (stepOk k (x, is))
            rw [hst]
            congr 1
            symm
            rw [← Bool.not_eq_true]
            intro hall2
            have h1 := List.all_eq_true.mp hall2 n (List.mem_of_getElem? hn2)
            simp only [Bool.and_eq_true, Bool.or_eq_true, decide_eq_true_eq] at h1 hb3
            omega
          · refine ⟨?_, _, rfl⟩
            rw [List.take_succ, hn2, List.all_append, hall]
            simp only [Bool.or_eq_false_iff, decide_eq_false_iff_not] at hb3
            show (true && (decide (0 ≤ n) && decide (n < (k : Int)) && true)) = true
            rw [decide_eq_true (show 0 ≤ n by omega), decide_eq_true (show n < (k : Int) by omega)]
            rfl
        · obtain ⟨hall, s3, rfl⟩ := hp
          rw [List.length_map, List.take_length] at hall
          refine sd_ret d_cb ?_
          show PyData.bool true = .bool (stepOk k (x, is))
          rw [hst, show (x, is).2.all (fun i => decide (0 ≤ i) && decide (i < (k : Int))) = true from hall]
  · refine q_when (b_is (c := true) (b_or (c := true) (b_test (d_niK (x := S x) (d_var rfl) d_cr hn)) fun z => absurd z (by decide)) rfl) (fun _ => ?_) (fun hb => (nomatch hb))
    refine sd_ret d_cb ?_
    show PyData.bool false = .bool (stepOk k (x, is))
    rw [step_no hc]
abbrev spForm (K : PySem.W.Frag) : Sp := SpF K (fun fs : List Form => [.dat (.tuple (fs.map encF))]) (fun fs => ∀ f ∈ fs, f.1 ∈ WS ∧ f.2.length ≤ 100000) fun fs => .bool (formOk fs)
theorem ok_form {f f2 : Addr} {fd fd2 : FuncData} (F : Fun K "is_formula" "is_formula" s_is_formula f fd) (F_is_step : Fun K "is_step" "is_step" s_is_step f2 fd2) (G_is_step : FnOk P w K mg base CX0 3 f2 fd2 ["step", "place"] (spStep K)) (b_is_step : Binds K fd2 ["step", "place"] []) (g_is_step : mg "is_step" = some (.ref f2))
    (m_isinstance : mg "isinstance" = none) (m_len : mg "len" = none) (m_tuple : mg "tuple" = none) (m_enumerate : mg "enumerate" = none) : FnOk P w K mg base CX0 4 f fd ["value"] (spForm K) := by
  refine F.ok sc_is_formula (fun vs H Q E ⟨_, _, _, iv, _⟩ => iv.len) (fun cdv A outer s H vs Q E hr h => ⟨_, (pss_cons (ps_if (PW.pt (pw_or (pt_not (pt_val (pe_callB call_isi (by rfl) m_isinstance (by decide +kernel) (pa_cons (pv 0) (pa_cons (pe_bltn (by rfl) m_tuple (by decide +kernel) (show RelV (.ty "tuple") _ from rfl)) pa_nil))))) (pw_or1 (pt_cmpR op_eq (pe_callB call_len (by rfl) m_len (by decide +kernel) (pa_cons (pv 0) pa_nil)) pe_int (nomark _))))) (pss_one (ps_ret pe_bl)) pss_nil)
        (pss_cons (ps_for PassesOwn.never rfl (pi_enumT (by rfl) m_enumerate (pa_cons (pv 0) pa_nil)) (pg_tup rfl (pgs_cons (pg_name (i := 1) sc_is_formula.nd rfl (.inl rfl)) (pgs_cons (pg_name (i := 2) sc_is_formula.nd rfl (.inl rfl)) pgs_nil))) (pss_one (ps_if (pt_not (pt_val (pe_call G_is_step (hr.mono (by decide)) (by rfl) g_is_step F_is_step.kp b_is_step .nil pass0 (pa_cons (pv 2) (pa_cons (pv 1) pa_nil))))) (pss_one (ps_ret pe_bl)) pss_nil)))
        (pss_one (ps_ret pe_bl)))), run_body h fun fs B hp => ?_⟩)
  have hp : ∀ f ∈ fs, f.1 ∈ WS ∧ f.2.length ≤ 100000 := hp
  refine sd_env (δ1 := [.dat (.tuple (fs.map encF)), .no, .no]) rfl ?_
  refine q_when (b_is (c := decide (fs.length = 0)) (b_or (b_not (b_val (d_isi (T := "tuple") (t := "tuple") (b := true) (d_var rfl) rfl (by rfl)))) fun _ => b_test (d_eqI (d_isI (d_lenT (d_var rfl)) (by rw [List.length_map])) d_ci)) (by
    show (false || decide _) = _
    rw [Bool.false_or]
    exact decide_eq_decide.mpr (by omega))) (fun hb => ?_) (fun hb => ?_)
  · refine sd_ret d_cb ?_
    have : fs = [] := List.length_eq_zero_iff.mp (of_decide_eq_true hb)
    rw [this]
    rfl
  · have hne : ¬ fs.length = 0 := of_decide_eq_false hb
    have he : formOk fs = fs.zipIdx.all fun p => stepOk p.2 p.1 := by
      unfold formOk
      cases fs with
      | nil => exact absurd rfl hne
      | cons _ _ => rfl
    have hen : enumD (fs.map encF) = fs.zipIdx.map fun p => PyData.tuple [.int (p.2 : Int), encF p.1] := by
      unfold enumD
      rw [List.zipIdx_map, List.map_map]
      rfl
    refine q_for (w_enumT (ds_cons (d_var rfl) ds_nil)) (fun i δ => (fs.zipIdx.take i).all (fun p => stepOk p.2 p.1) = true ∧ ∃ s1 s2, δ = [.dat (.tuple (fs.map encF)), s1, s2]) ⟨rfl, _, _, rfl⟩ (fun i d δ' hd hq => ?_) (fun δ' hq => ?_)
    · obtain ⟨hall, s1, s2, rfl⟩ := hq
      rw [hen, List.getElem?_map] at hd
      obtain ⟨⟨f0, k0⟩, hn2, rfl⟩ := Option.map_eq_some_iff.mp hd
      have hf0 : f0 ∈ fs := by
        have := List.mem_of_getElem? hn2
        exact (List.mem_zipIdx this).2.2 ▸ List.getElem_mem _
      refine ⟨_, _, g_tup (g_cons g_name (g_cons g_name g_nil)), ?_⟩
      refine sd_env (δ1 := [_, nI (k0 : Int), .dat (encF f0)]) rfl ?_
      refine sd_when (b_not (b_val (d_callF (f0, k0) (a_cons (d_var rfl) (a_cons (d_var rfl) a_nil)) (hp f0 hf0)))) (fun hb3 => ?_) (fun hb3 => ?_)
      · refine sd_ret d_cb ?_
        show PyData.bool false = .bool (formOk fs)
        rw [he]
        congr 1
        symm
        rw [← Bool.not_eq_true]
        intro hall2
        have h1 := List.all_eq_true.mp hall2 (f0, k0) (List.mem_of_getElem? hn2)
        have h2 : stepOk k0 f0 = true := h1
        have h3 : (!stepOk k0 f0) = true := hb3
        rw [h2] at h3
        cases h3
      · refine ⟨?_, _, _, rfl⟩
        rw [List.take_succ, hn2, List.all_append, hall]
        have h3 : (!stepOk k0 f0) = false := hb3
        show (true && (stepOk k0 f0 && true)) = true
        cases hs : stepOk k0 f0 with
        | true => rfl
        | false =>
          rw [hs] at h3
          cases h3
    · obtain ⟨hall, s1, s2, rfl⟩ := hq
      rw [hen, List.length_map, List.take_length] at hall
      refine sd_ret d_cb ?_
      show PyData.bool true = .bool (formOk fs)
      rw [he, hall]
abbrev spEncl (K : PySem.W.Frag) : Sp := SpF K (fun e : Int × Int => [.dat (encE e)]) (fun _ => True) fun e => .bool (decide (e.1 ≤ e.2))
theorem ok_encl {f f1 f0 : Addr} {fd fd1 fd0 : FuncData} (F : Fun K "is_enclosure" "is_enclosure" s_is_enclosure f fd) (F_is_integer : Fun K "is_integer" "is_integer" s_is_integer f0 fd0) (b_is_integer : Binds K fd0 ["value"] []) (g_is_integer : mg "is_integer" = some (.ref f0))
    (F_are_integers : Fun K "are_integers" "are_integers" s_are_integers f1 fd1) (b_are_integers : Binds K fd1 ["values"] []) (g_are_integers : mg "are_integers" = some (.ref f1))
    (m_isinstance : mg "isinstance" = none) (m_int : mg "int" = none) (m_bool : mg "bool" = none) (m_len : mg "len" = none) (m_tuple : mg "tuple" = none) : FnOk P w K mg base CX0 3 f fd ["value"] (spEncl K) := by
  have G_are_integers : FnOk P w K mg base CX0 2 f1 fd1 ["values"] (spInts K) := ok_ints F_are_integers F_is_integer b_is_integer g_is_integer m_isinstance m_int m_bool
  refine F.ok sc_is_enclosure (fun vs H Q E ⟨_, _, _, iv, _⟩ => iv.len) (fun cdv A outer s H vs Q E hr h => ⟨_, (pss_cons (ps_if (PW.pt (pw_or (pt_not (pt_val (pe_callB call_isi (by rfl) m_isinstance (by decide +kernel) (pa_cons (pv 0) (pa_cons (pe_bltn (by rfl) m_tuple (by decide +kernel) (show RelV (.ty "tuple") _ from rfl)) pa_nil))))) (pw_or (pt_cmpR op_ne (pe_callB call_len (by rfl) m_len (by decide +kernel) (pa_cons (pv 0) pa_nil)) pe_int (nomark _)) (pw_or1 (pt_not (pt_val (pe_call G_are_integers (hr.mono (by decide)) (by rfl) g_are_integers F_are_integers.kp b_are_integers .nil pass0 (pa_cons (pv 0) pa_nil)))))))) (pss_one (ps_ret pe_bl)) pss_nil)
        (pss_one (ps_ret (pe_cmpR op_le (pe_ix ix_tup (pv 0) pe_int (fun _ _ => rfl)) (pe_ix ix_tup (pv 0) pe_int (fun _ _ => rfl)) (nomark _))))), run_body h fun e B _ => ?_⟩)
  obtain ⟨lo, hi⟩ := e
  refine sd_env (δ1 := [.dat (encE (lo, hi))]) rfl ?_
  refine q_when (b_is (c := false) (b_or (b_not (b_val (d_isi (T := "tuple") (t := "tuple") (b := true) (d_var rfl) rfl (by rfl)))) fun _ => b_or (b_test (d_neI (d_lenT (d_var rfl)) d_ci)) fun _ => b_not (b_val (d_callF [lo, hi] (a_cons (d_var rfl) a_nil) trivial))) rfl) (fun hb => (nomatch hb)) (fun _ => ?_)
  exact sd_ret (d_b0 (d_ixT (d := .int lo) (d_var rfl) d_ci rfl) (d_ixT (d := .int hi) (d_var rfl) d_ci rfl)) rfl
abbrev encPap (a : Int × List (Int × Int)) : PyData := .tuple [.int a.1, .tuple (a.2.map encE)]
abbrev spPap (K : PySem.W.Frag) : Sp := SpF K (fun a : Int × List (Int × Int) => [.dat (encPap a)]) (fun _ => True) fun a => .bool (papOk a.1 a.2)
theorem ok_pap {f f0 f2 : Addr} {fd fd0 fd2 : FuncData} {t0 t1 : Tok} (F : Fun K "is_paper" "is_paper" s_is_paper f fd) (F_is_integer : Fun K "is_integer" "is_integer" s_is_integer f0 fd0) (b_is_integer : Binds K fd0 ["value"] []) (g_is_integer : mg "is_integer" = some (.ref f0))
    (F_is_enclosure : Fun K "is_enclosure" "is_enclosure" s_is_enclosure f2 fd2) (G_is_enclosure : FnOk P w K mg base CX0 3 f2 fd2 ["value"] (spEncl K)) (b_is_enclosure : Binds K fd2 ["value"] []) (g_is_enclosure : mg "is_enclosure" = some (.ref f2))
    (g_FEWEST_BITS : mg "FEWEST_BITS" = some (.int 8 t0)) (g_MOST_BITS : mg "MOST_BITS" = some (.int 4096 t1))
    (m_isinstance : mg "isinstance" = none) (m_int : mg "int" = none) (m_bool : mg "bool" = none) (m_len : mg "len" = none) (m_tuple : mg "tuple" = none) : FnOk P w K mg base CX0 4 f fd ["value"] (spPap K) := by
  have G_is_integer : FnOk P w K mg base CX0 1 f0 fd0 ["value"] (spInt K) := ok_isint F_is_integer m_isinstance m_int m_bool
  refine F.ok sc_is_paper (fun vs H Q E ⟨_, _, _, iv, _⟩ => iv.len) (fun cdv A outer s H vs Q E hr h => ⟨_, (pss_cons (ps_if (PW.pt (pw_or (pt_not (pt_val (pe_callB call_isi (by rfl) m_isinstance (by decide +kernel) (pa_cons (pv 0) (pa_cons (pe_bltn (by rfl) m_tuple (by decide +kernel) (show RelV (.ty "tuple") _ from rfl)) pa_nil))))) (pw_or1 (pt_cmpR op_ne (pe_callB call_len (by rfl) m_len (by decide +kernel) (pa_cons (pv 0) pa_nil)) pe_int (nomark _))))) (pss_one (ps_ret pe_bl)) pss_nil)
        (pss_cons (ps_asg (pv 0) (pg_tup rfl (pgs_cons (pg_name (i := 1) sc_is_paper.nd rfl (.inl rfl)) (pgs_cons (pg_name (i := 2) sc_is_paper.nd rfl (.inl rfl)) pgs_nil))))
        (pss_cons (ps_if (PW.pt (pw_or (pt_not (pt_val (pe_call G_is_integer (hr.mono (by decide)) (by rfl) g_is_integer F_is_integer.kp b_is_integer .nil pass0 (pa_cons (pv 1) pa_nil)))) (pw_or (pt_cmpR op_lt (pv 1) (pe_glob (by rfl) g_FEWEST_BITS (show RelV (.int 8) _ from ⟨_, rfl⟩)) (nomark _)) (pw_or (pt_cmpR op_gt (pv 1) (pe_glob (by rfl) g_MOST_BITS (show RelV (.int 4096) _ from ⟨_, rfl⟩)) (nomark _)) (pw_or1 (pt_not (pt_val (pe_callB call_isi (by rfl) m_isinstance (by decide +kernel) (pa_cons (pv 2) (pa_cons (pe_bltn (by rfl) m_tuple (by decide +kernel) (show RelV (.ty "tuple") _ from rfl)) pa_nil)))))))))) (pss_one (ps_ret pe_bl)) pss_nil)
        (pss_cons (ps_for PassesOwn.never rfl (pi_tup (pv 2)) (pg_name (i := 3) sc_is_paper.nd rfl (.inl rfl)) (pss_one (ps_if (pt_not (pt_val (pe_call G_is_enclosure (hr.mono (by decide)) (by rfl) g_is_enclosure F_is_enclosure.kp b_is_enclosure .nil pass0 (pa_cons (pv 3) pa_nil)))) (pss_one (ps_ret pe_bl)) pss_nil)))
        (pss_one (ps_ret pe_bl)))))), run_body h fun a B _ => ?_⟩)
  obtain ⟨b, es⟩ := a
  refine sd_env (δ1 := [.dat (encPap (b, es)), .no, .no, .no]) rfl ?_
  refine q_when (b_is (c := false) (b_or (b_not (b_val (d_isi (T := "tuple") (t := "tuple") (b := true) (d_var rfl) rfl (by rfl)))) fun _ => b_test (d_neI (d_lenT (d_var rfl)) d_ci)) rfl) (fun hb => (nomatch hb)) (fun _ => ?_)
  refine q_unp [_, nI b, .dat (.tuple (es.map encE)), _] (d_var rfl) (g_tup (g_cons g_name (g_cons g_name g_nil))) ?_
  refine q_when (b_is (c := !(decide (8 ≤ b) && decide (b ≤ 4096))) (b_or (b_not (b_val (d_callF b (a_cons (d_var rfl) a_nil) trivial))) fun _ => b_or (b_test (d_b0 (d_var rfl) d_ci)) fun _ => b_or (b_test (d_b0 (d_var rfl) d_ci)) fun _ => b_not (b_val (d_isi (T := "tuple") (t := "tuple") (b := true) (d_var rfl) rfl (by rfl)))) (by
    show (false || (decide (b < 8) || (decide (4096 < b) || false))) = _
    by_cases h1 : b < 8
    · rw [decide_eq_true h1, decide_eq_false (show ¬ 8 ≤ b by omega)]
      rfl
    · by_cases h2 : 4096 < b
      · rw [decide_eq_true h2, decide_eq_false (show ¬ b ≤ 4096 by omega)]
        simp
      · rw [decide_eq_false h1, decide_eq_false h2, decide_eq_true (show 8 ≤ b by omega), decide_eq_true (show b ≤ 4096 by omega)]
        rfl)) (fun hb => ?_) (fun hb => ?_)
  · refine sd_ret d_cb ?_
    show PyData.bool false = .bool (papOk b es)
    unfold papOk
    have : (decide (8 ≤ b) && decide (b ≤ 4096)) = false := by
      rw [Bool.not_eq_true'] at hb
      exact hb
    rw [this]
    rfl
  · have hbt : (decide (8 ≤ b) && decide (b ≤ 4096)) = true := by
      rw [Bool.not_eq_false'] at hb
      exact hb
    have he : papOk b es = es.all fun e => decide (e.1 ≤ e.2) := by
      unfold papOk
      rw [hbt]
      rfl
    refine q_for (w_tup (d_var rfl)) (fun i δ => (es.take i).all (fun e => decide (e.1 ≤ e.2)) = true ∧ ∃ s3, δ = [.dat (encPap (b, es)), nI b, .dat (.tuple (es.map encE)), s3]) ⟨rfl, _, rfl⟩ (fun i d δ' hd hq => ?_) (fun δ' hq => ?_)
    · obtain ⟨hall, s3, rfl⟩ := hq
      rw [List.getElem?_map] at hd
      obtain ⟨e0, hn2, rfl⟩ := Option.map_eq_some_iff.mp hd
      refine ⟨_, _, g_name, ?_⟩
      refine sd_env (δ1 := [_, _, _, .dat (encE e0)]) rfl ?_
      refine sd_when (b_not (b_val (d_callF e0 (a_cons (d_var rfl) a_nil) trivial))) (fun hb3 => ?_) (fun hb3 => ?_)
      · refine sd_ret d_cb ?_
        show PyData.bool false = .bool (papOk b es)
        rw [he]
        congr 1
        symm
        rw [← Bool.not_eq_true]
        intro hall2
        have h1 := List.all_eq_true.mp hall2 e0 (List.mem_of_getElem? hn2)
        have h3 : (!decide (e0.1 ≤ e0.2)) = true := hb3
        rw [h1] at h3
        cases h3
      · refine ⟨?_, _, rfl⟩
        rw [List.take_succ, hn2, List.all_append, hall]
        have h3 : (!decide (e0.1 ≤ e0.2)) = false := hb3
        show (true && (decide (e0.1 ≤ e0.2) && true)) = true
        cases hs : decide (e0.1 ≤ e0.2) with
        | true => rfl
        | false =>
          rw [hs] at h3
          cases h3
    · obtain ⟨hall, s3, rfl⟩ := hq
      rw [List.length_map, List.take_length] at hall
      refine sd_ret d_cb ?_
      show PyData.bool true = .bool (papOk b es)
      rw [he, hall]
/-! ### the counts, from what the top says -/
theorem counts_mk {dd : Addr} {es : Array DictEntry} {nd : Nat} {t0 t1 t2 t3 t4 t5 t6 t7 t8 t9 t10 t11 t12 t13 : Tok} (D : KDict K w dd es nd)
    (y0 : PySem.W.nsIn K dd (S [110, 117, 109, 98, 101, 114]) = some (some (.int 2 t0))) (y1 : PySem.W.nsIn K dd (S [112, 105]) = some (some (.int 0 t1))) (y2 : PySem.W.nsIn K dd (S [97, 100, 100]) = some (some (.int 2 t2))) (y3 : PySem.W.nsIn K dd (S [115, 117, 98, 116, 114, 97, 99, 116]) = some (some (.int 2 t3))) (y4 : PySem.W.nsIn K dd (S [116, 105, 109, 101, 115]) = some (some (.int 2 t4))) (y5 : PySem.W.nsIn K dd (S [100, 105, 118, 105, 100, 101]) = some (some (.int 2 t5))) (y6 : PySem.W.nsIn K dd (S [114, 111, 111, 116]) = some (some (.int 1 t6))) (y7 : PySem.W.nsIn K dd (S [115, 105, 110, 101]) = some (some (.int 1 t7))) (y8 : PySem.W.nsIn K dd (S [99, 111, 115, 105, 110, 101]) = some (some (.int 1 t8))) (y9 : PySem.W.nsIn K dd (S [101, 120, 112]) = some (some (.int 1 t9))) (y10 : PySem.W.nsIn K dd (S [108, 111, 103]) = some (some (.int 1 t10))) (y11 : PySem.W.nsIn K dd (S [97, 114, 99, 116, 97, 110]) = some (some (.int 1 t11))) (y12 : PySem.W.nsIn K dd (S [97, 114, 99, 115, 105, 110, 101]) = some (some (.int 1 t12))) (y13 : PySem.W.nsIn K dd (S [97, 114, 99, 99, 111, 115, 105, 110, 101]) = some (some (.int 1 t13)))
    (v0 : PySem.W.nsIn K dd (S [112, 111, 119, 101, 114]) = some none) (v1 : PySem.W.nsIn K dd (S [65, 100, 100]) = some none) (v2 : PySem.W.nsIn K dd (S []) = some none) (v3 : PySem.W.nsIn K dd (S [110, 117, 109, 98, 101, 114, 115]) = some none) (v4 : PySem.W.nsIn K dd (S [48]) = some none) (v5 : PySem.W.nsIn K dd (S [58]) = some none) (v6 : PySem.W.nsIn K dd (S [112, 105, 50]) = some none) (v7 : PySem.W.nsIn K dd (S [115, 105, 110]) = some none) : Counts K w dd := ⟨⟨es, nd, D⟩, fun x hx => by
  unfold WS twos ones offs numberL piL at hx
  simp only [List.cons_append, List.nil_append, List.mem_cons, List.not_mem_nil, or_false] at hx
  rcases hx with rfl | rfl | rfl | rfl | rfl | rfl | rfl | rfl | rfl | rfl | rfl | rfl | rfl | rfl | rfl | rfl | rfl | rfl | rfl | rfl | rfl | rfl
  · exact .inl ⟨2, t0, by decide, y0⟩
  · exact .inl ⟨0, t1, by decide, y1⟩
  · exact .inl ⟨2, t2, by decide, y2⟩
  · exact .inl ⟨2, t3, by decide, y3⟩
  · exact .inl ⟨2, t4, by decide, y4⟩
  · exact .inl ⟨2, t5, by decide, y5⟩
  · exact .inl ⟨1, t6, by decide, y6⟩
  · exact .inl ⟨1, t7, by decide, y7⟩
  · exact .inl ⟨1, t8, by decide, y8⟩
  · exact .inl ⟨1, t9, by decide, y9⟩
  · exact .inl ⟨1, t10, by decide, y10⟩
  · exact .inl ⟨1, t11, by decide, y11⟩
  · exact .inl ⟨1, t12, by decide, y12⟩
  · exact .inl ⟨1, t13, by decide, y13⟩
  · exact .inr ⟨by decide, v0⟩
  · exact .inr ⟨by decide, v1⟩
  · exact .inr ⟨by decide, v2⟩
  · exact .inr ⟨by decide, v3⟩
  · exact .inr ⟨by decide, v4⟩
  · exact .inr ⟨by decide, v5⟩
  · exact .inr ⟨by decide, v6⟩
  · exact .inr ⟨by decide, v7⟩⟩
/-! ### the program: texts read -/
def badO {α : Type} (CI : Addr) : Option α → Option Addr
  | none => some CI
  | some _ => none
theorem badO_none {α : Type} {CI C : Addr} {o : Option α} (h : badO CI o = some C) : C = CI ∧ o = none := by
  cases o with
  | none => exact ⟨(Option.some.inj h).symm, rfl⟩
  | some _ => cases h
abbrev spNum (K : PySem.W.Frag) (CI : Addr) : Sp := SpX K (fun w : Word => [nS (S w)]) (fun w => OkW w ∧ w.length ≤ 40000) (fun w => badO CI (numW w)) fun w d => ∃ i, numW w = some i ∧ d = .int i
theorem ok_number {f CI CP : Addr} {fd : FuncData} {t0 : Tok} (F : Fun K "read_number" "read_number" s_read_number f fd) (T : Errs K mg "InvalidText" CI CP) (g_MOST_DIGITS : mg "MOST_DIGITS" = some (.int 2000 t0)) (m_len : mg "len" = none) (m_int : mg "int" = none) : FnOk P w K mg base (L2.CX P w) 1 f fd ["word"] (spNum K CI) := by
  obtain ⟨g_InvalidText, _, x_InvalidText, k_InvalidText, b_InvalidText, t_InvalidText, _, _, _, _, _⟩ := id T
  refine F.okX sc_read_number (fun vs H Q E ⟨_, _, _, iv, _⟩ => iv.len) (fun cdv A outer s H vs Q E hr h => ⟨_, (pss_cons (ps_set (i := 1) sc_read_number.nd rfl (.inl rfl) (pe_ifExp (pt_val (pe_m1 PySem.F.slot_str_startswith PySem.F.type_str_startswith mt_startswith (pv 0) pe_str)) (pe_slice C8.sl_txt (pv 0) (po_some pe_int) po_none) (pv 0)))
        (pss_cons (ps_if (PW.pt (pw_or (pt_not (pt_val (pe_m0 PySem.F.slot_str_isascii PySem.F.type_str_isascii mt_isascii (pv 1)))) (pw_or (pt_not (pt_val (pe_m0 PySem.F.slot_str_isdigit PySem.F.type_str_isdigit mt_isdigit (pv 1)))) (pw_or1 (pt_cmpR op_gt (pe_callB call_len (by rfl) m_len (by decide +kernel) (pa_cons (pv 1) pa_nil)) (pe_glob (by rfl) g_MOST_DIGITS (show RelV (.int 2000) _ from ⟨_, rfl⟩)) (nomark _)))))) (pss_one (ps_raise rfl (takes_of rfl rfl rfl rfl) (pmk_own PySem.F.excBase_ValueError x_InvalidText g_InvalidText k_InvalidText (raises_own b_InvalidText t_InvalidText) (by rfl)))) pss_nil)
        (pss_cons (ps_if (PW.pt (pw_and (pt_val (pe_m1 PySem.F.slot_str_startswith PySem.F.type_str_startswith mt_startswith (pv 1) pe_str)) (pw_and1 (pt_cmpR op_ne (pv 0) pe_str (nomark _))))) (pss_one (ps_raise rfl (takes_of rfl rfl rfl rfl) (pmk_own PySem.F.excBase_ValueError x_InvalidText g_InvalidText k_InvalidText (raises_own b_InvalidText t_InvalidText) (by rfl)))) pss_nil)
        (pss_one (ps_ret (pe_callTy call_int_str (by rfl) m_int (by decide +kernel) (pa_cons (pv 0) pa_nil))))))), run_bodyX h fun x B hp => ?_⟩)
  obtain ⟨hok, hl⟩ : OkW x ∧ x.length ≤ 40000 := hp
  refine sd_env (δ1 := [nS (S x), .no]) rfl ?_
  have hdl : (digsW x).length ≤ 40000 := by
    unfold digsW
    split
    · rw [List.length_drop]
      omega
    · exact hl
  have hmin : Txt.startswith (S x) (S [45]) = Ra.neg x := Ra.neg_is x
  refine q_asg [_, nS (S (digsW x))] (d_if (b := Ra.neg x) (b_is (b_val (d_m1 (a := x) (b := [45]) (d_var rfl) (d_cs (x := S [45])))) hmin) (fun hn => d_is (s' := nS (S (digsW x))) (d_slX (w1 := x.drop 1) (d_var rfl) (o_some (i := 1) d_ci) o_none (by omega) (SX.slice_from (by decide))) (by
    unfold digsW
    rw [if_pos hn])) (fun hn => d_is (s' := nS (S (digsW x))) (d_var rfl) (by
    unfold digsW
    rw [if_neg (by rw [hn]; decide)]))) ?_
  refine q_when (b_or (b_not (b_val (d_m0 (g := Txt.isascii) (a := digsW x) (d_var rfl)))) fun _ => (b_or (b_not (b_val (d_m0 (g := Txt.isdigit) (a := digsW x) (d_var rfl)))) fun _ => b_test (d_b0 (d_lenSS (d_var rfl) (by omega)) d_ci))) (fun hb => ?_) (fun hb => ?_)
  · refine sd_raise (C := CI) ?_
    have : badW x = true := by
      unfold badW
      rw [Bool.or_eq_true]
      exact .inl hb
    show badO CI (numW x) = some CI
    rw [bad_num this]
    rfl
  refine q_when (b_and (b_val (d_m1 (a := digsW x) (b := [48]) (d_var rfl) (d_cs (x := S [48])))) fun _ => b_test (d_neSS (a := x) (b := [48]) (d_var rfl) (d_cs (x := S [48])))) (fun hb2 => ?_) (fun hb2 => ?_)
  · refine sd_raise (C := CI) ?_
    have : badW x = true := by
      unfold badW
      rw [Bool.or_eq_true]
      exact .inr hb2
    show badO CI (numW x) = some CI
    rw [bad_num this]
    rfl
  have hgood : badW x = false := by
    unfold badW
    rw [Bool.or_eq_false_iff]
    exact ⟨hb, hb2⟩
  obtain ⟨i, rfl, hi, hnum⟩ := num_ok hok hgood
  refine sd_ret (d_intS (n := i) (d_var rfl) (Tx.int_back (by omega)) (by omega)) ⟨?_, i, hnum, rfl⟩
  show badO CI (numW (Tx.intL i)) = none
  rw [hnum]
  rfl
/-- a line's words -/
structure LineOk (ws : List Word) : Prop where
  ne : ws ≠ []
  fr : ∀ w ∈ ws, 32 ∉ w
  ok : ∀ w ∈ ws, OkW w
  len : (lineL ws).length ≤ 40000
theorem LineOk.word {ws : List Word} (h : LineOk ws) {x : Word} (hx : x ∈ ws) : OkW x ∧ x.length ≤ 40000 := ⟨h.ok x hx, Nat.le_trans (word_le hx) h.len⟩
theorem at_getD {ws : List Word} {j : Nat} (h : j < ws.length) : atI ws (j : Int) = some (ws.getD j []) := by
  rw [List.getD_eq_getElem?_getD, List.getElem?_eq_getElem h]
  exact atI_nat (List.getElem?_eq_getElem h)
theorem at_neg {ws : List Word} {j : Nat} (h0 : 0 < j) (h : j ≤ ws.length) : atI ws (-(j : Int)) = some (ws.getD (ws.length - j) []) := by
  rw [List.getD_eq_getElem?_getD, List.getElem?_eq_getElem (show ws.length - j < ws.length by omega)]
  unfold atI ixN
  rw [if_neg (by omega), if_pos (by omega)]
  show ws[(-(j : Int) + (ws.length : Int)).toNat]? = _
  rw [show (-(j : Int) + (ws.length : Int)).toNat = ws.length - j by omega]
  exact List.getElem?_eq_getElem _
theorem mem_getD {ws : List Word} {j : Nat} (h : j < ws.length) : ws.getD j [] ∈ ws := by
  rw [List.getD_eq_getElem?_getD, List.getElem?_eq_getElem h]
  exact List.getElem_mem h
abbrev spHead (K : PySem.W.Frag) (CI : Addr) : Sp := SpX K (fun ws : List Word => [nS (S (lineL ws))]) LineOk (fun ws => badO CI (headW ws)) fun ws d => ∃ i, headW ws = some i ∧ d = .int i
theorem ok_head {f f0 CI CP : Addr} {fd fd0 : FuncData} (F : Fun K "read_head" "read_head" s_read_head f fd) (T : Errs K mg "InvalidText" CI CP) (G_read_number : FnOk P w K mg base (L2.CX P w) 1 f0 fd0 ["word"] (spNum K CI)) (F_read_number : Fun K "read_number" "read_number" s_read_number f0 fd0) (b_read_number : Binds K fd0 ["word"] []) (g_read_number : mg "read_number" = some (.ref f0)) (m_len : mg "len" = none) : FnOk P w K mg base (L2.CX P w) 2 f fd ["line"] (spHead K CI) := by
  obtain ⟨g_InvalidText, _, x_InvalidText, k_InvalidText, b_InvalidText, t_InvalidText, _, _, _, _, _⟩ := id T
  refine F.okX sc_read_head (fun vs H Q E ⟨_, _, _, iv, _⟩ => iv.len) (fun cdv A outer s H vs Q E hr h => ⟨_, (pss_cons (ps_set (i := 1) sc_read_head.nd rfl (.inl rfl) (pe_split (pv 0) pe_str))
        (pss_cons (ps_if (PW.pt (pw_or (pt_cmpR op_ne (pe_callB call_len (by rfl) m_len (by decide +kernel) (pa_cons (pv 1) pa_nil)) pe_int (nomark _)) (pw_or1 (pt_cmpR op_ne (pe_ix ix_list (pv 1) pe_int (fun _ _ => rfl)) pe_str (nomark _))))) (pss_one (ps_raise rfl (takes_of rfl rfl rfl rfl) (pmk_own PySem.F.excBase_ValueError x_InvalidText g_InvalidText k_InvalidText (raises_own b_InvalidText t_InvalidText) (by rfl)))) pss_nil)
        (pss_one (ps_ret (pe_callS G_read_number (hr.mono (by decide)) (by rfl) g_read_number F_read_number.kp b_read_number (fun σ => passAt (takes_of rfl rfl rfl rfl) σ) (pa_cons (pe_ix ix_list (pv 1) pe_int (fun _ _ => rfl)) pa_nil)))))), run_bodyX h fun ws B hp => ?_⟩)
  have hp : LineOk ws := hp
  refine sd_env (δ1 := [nS (S (lineL ws)), .no]) rfl ?_
  refine q_asg [_, .dat (.list (ws.map encT))] (d_new (n_split (c := 32) (parts := ws) (d_var rfl) (d_cs (x := S [32])) (by decide) hp.ne hp.fr (Nat.le_trans hp.len (by decide)))) ?_
  have hpos : 0 < ws.length := List.length_pos_iff.mpr hp.ne
  refine q_when (b_or (b_test (d_neI (i := (ws.length : Int)) (d_isI (d_lenL (d_var rfl)) (by rw [List.length_map])) d_ci)) fun _ => b_test (d_neSS (a := ws.getD 0 []) (b := paperL) (d_ixM (f := encT) (d_var rfl) d_ci (show atI ws ((0 : Nat) : Int) = _ from at_getD hpos)) (d_cs (x := S paperL)))) (fun hb => ?_) (fun hb => ?_)
  · refine sd_raise (C := CI) ?_
    show badO CI (headW ws) = some CI
    unfold headW
    rw [if_pos]
    · rfl
    · simp only [Bool.or_eq_true, Bool.not_eq_true', decide_eq_false_iff_not] at hb
      rcases hb with z | z
      · exact .inl (by omega)
      · exact .inr z
  simp only [Bool.or_eq_false_iff, Bool.not_eq_false', decide_eq_true_eq] at hb
  have h2 : ws.length = 2 := by omega
  have hh : headW ws = numW (ws.getD 1 []) := by
    unfold headW
    rw [if_neg]
    rintro (z | z)
    · exact z h2
    · exact z hb.2
  refine sd_retX (x_callS (ws.getD 1 []) (a_cons (d_ixM (f := encT) (d_var rfl) d_ci (show atI ws ((1 : Nat) : Int) = _ from at_getD (by omega))) a_nil) (hp.word (mem_getD (by omega)))) (fun C hC => ?_) (fun d hd => ?_)
  · show badO CI (headW ws) = some C
    rw [hh]
    exact hC
  · obtain ⟨h3, i, h4, rfl⟩ := hd
    exact ⟨by show badO CI (headW ws) = none; rw [hh]; exact h3, i, by rw [hh]; exact h4, rfl⟩
abbrev encR (r : Dc.Row) : PyData := .tuple [encF r.1, encE r.2]
abbrev spRow (K : PySem.W.Frag) (CI : Addr) : Sp := SpX K (fun ws : List Word => [nS (S (lineL ws))]) LineOk (fun ws => badO CI (rowW ws)) fun ws d => ∃ r, rowW ws = some r ∧ d = encR r
theorem cut_midW (ws : List Word) (h : 4 ≤ ws.length) : cutL ws (some 1) (some (-3)) = midW ws := by
  unfold cutL midW
  have e1 : HT.sIx ws.length 0 (some 1) = 1 := by
    show min (1 : Int).toNat ws.length = 1
    show min 1 ws.length = 1
    omega
  have e2 : HT.sIx ws.length ws.length (some (-3)) = ws.length - 3 := by
    show (if (-3 : Int) < 0 then ((-3 : Int) + (ws.length : Int)).toNat else min (-3 : Int).toNat ws.length) = _
    rw [if_pos (by decide)]
    omega
  rw [e1, e2, show ws.length - 3 - 1 = ws.length - 4 by omega]
theorem mid_mem {ws : List Word} {x : Word} (h : x ∈ midW ws) : x ∈ ws := List.mem_of_mem_drop (List.mem_of_mem_take h)
theorem ok_row {f f0 CI CP : Addr} {fd fd0 : FuncData} (F : Fun K "read_row" "read_row" s_read_row f fd) (T : Errs K mg "InvalidText" CI CP) (G_read_number : FnOk P w K mg base (L2.CX P w) 1 f0 fd0 ["word"] (spNum K CI)) (F_read_number : Fun K "read_number" "read_number" s_read_number f0 fd0) (b_read_number : Binds K fd0 ["word"] []) (g_read_number : mg "read_number" = some (.ref f0)) (m_len : mg "len" = none) : FnOk P w K mg base (L2.CX P w) 2 f fd ["line"] (spRow K CI) := by
  obtain ⟨g_InvalidText, _, x_InvalidText, k_InvalidText, b_InvalidText, t_InvalidText, _, _, _, _, _⟩ := id T
  refine F.okX sc_read_row (fun vs H Q E ⟨_, _, _, iv, _⟩ => iv.len) (fun cdv A outer s H vs Q E hr h => ⟨_, (pss_cons (ps_set (i := 1) sc_read_row.nd rfl (.inl rfl) (pe_split (pv 0) pe_str))
        (pss_cons (ps_if (PW.pt (pw_or (pt_cmpR op_lt (pe_callB call_len (by rfl) m_len (by decide +kernel) (pa_cons (pv 1) pa_nil)) pe_int (nomark _)) (pw_or1 (pt_cmpR op_ne (pe_ix ix_list (pv 1) (pe_un un_neg pe_int) (fun _ _ => rfl)) pe_str (nomark _))))) (pss_one (ps_raise rfl (takes_of rfl rfl rfl rfl) (pmk_own PySem.F.excBase_ValueError x_InvalidText g_InvalidText k_InvalidText (raises_own b_InvalidText t_InvalidText) (by rfl)))) pss_nil)
        (pss_cons (Lx.ps_setLcX (i := 2) (own := [("word", 3)]) (g := gName 3) rfl rfl (takes_of rfl rfl rfl rfl) rfl sc_read_row.nd rfl rfl (sw_true rfl rfl rfl (by decide +kernel)) (pi_list (pe_slice sl_list (pv 1) (po_some pe_int) (po_some (pe_un un_neg pe_int)))) (blkOk_by (own := [("word", 3)]) (N := ["line", "words", "numbers", "word"]) (sc := defScope s_read_row) (by decide +kernel)) (fun _ _ _ _ _ _ => (pg_name (i := 3) sc_read_row.nd rfl (.inl rfl))) (fun _ _ _ _ _ _ => pts_nil) (fun _ _ _ _ _ _ E0 hpX => (pe_callS G_read_number (hr.mono (by decide)) (by rfl) g_read_number F_read_number.kp b_read_number (fun σ => hpX σ) (pa_cons (pv 3) pa_nil))))
        (pss_one (ps_ret (pe_tup (pa_cons (pe_tup (pa_cons (pe_ix ix_list (pv 1) pe_int (fun _ _ => rfl)) (StX.pa_star (pv 2) pa_nil))) (pa_cons (pe_tup (pa_cons (pe_callS G_read_number (hr.mono (by decide)) (by rfl) g_read_number F_read_number.kp b_read_number (fun σ => passAt (takes_of rfl rfl rfl rfl) σ) (pa_cons (pe_ix ix_list (pv 1) (pe_un un_neg pe_int) (fun _ _ => rfl)) pa_nil)) (pa_cons (pe_callS G_read_number (hr.mono (by decide)) (by rfl) g_read_number F_read_number.kp b_read_number (fun σ => passAt (takes_of rfl rfl rfl rfl) σ) (pa_cons (pe_ix ix_list (pv 1) (pe_un un_neg pe_int) (fun _ _ => rfl)) pa_nil)) pa_nil))) pa_nil)))))))), run_bodyX h fun ws B hp => ?_⟩)
  have hp : LineOk ws := hp
  refine sd_env (δ1 := [nS (S (lineL ws)), .no, .no, .no]) rfl ?_
  refine q_asg [_, .dat (.list (ws.map encT)), _, _] (d_new (n_split (c := 32) (parts := ws) (d_var rfl) (d_cs (x := S [32])) (by decide) hp.ne hp.fr (Nat.le_trans hp.len (by decide)))) ?_
  have hlen : EvS K B H (tCB (fun xs H Q => ∃ x n, xs = [x] ∧ LenV K x H n ∧ Q (.int n) H) (tCons (tVar 1) tNil)) [nS (S (lineL ws)), .dat (.list (ws.map encT)), .no, .no] (nI (ws.length : Int)) := d_isI (d_lenL (d_var rfl)) (by rw [List.length_map])
  by_cases h4 : ws.length < 4
  · refine q_when (b_is (c := true) (b_or (c := true) (b_test (d_b0 hlen d_ci)) fun z => absurd (decide_eq_true (show (ws.length : Int) < 4 by omega)) (by rw [z]; decide)) (by rw [decide_eq_true (show (ws.length : Int) < 4 by omega)]; rfl)) (fun _ => ?_) (fun z => (nomatch z))
    refine sd_raise (C := CI) ?_
    show badO CI (rowW ws) = some CI
    unfold rowW
    rw [if_pos (.inl h4)]
    rfl
  have a3 : atI ws (-3) = some (ws.getD (ws.length - 3) []) := at_neg (j := 3) (by decide) (by omega)
  have a2 : atI ws (-2) = some (ws.getD (ws.length - 2) []) := at_neg (j := 2) (by decide) (by omega)
  have a1 : atI ws (-1) = some (ws.getD (ws.length - 1) []) := at_neg (j := 1) (by decide) (by omega)
  refine q_when (b_is (c := !decide (ws.getD (ws.length - 3) [] = [58])) (b_or (b_test (d_b0 hlen d_ci)) fun _ => b_test (d_neSS (a := ws.getD (ws.length - 3) []) (b := [58]) (d_ixM (f := encT) (d_var rfl) (d_neg d_ci) a3) (d_cs (x := S [58])))) (by rw [decide_eq_false (show ¬ (ws.length : Int) < 4 by omega), Bool.false_or])) (fun hb => ?_) (fun hb => ?_)
  · refine sd_raise (C := CI) ?_
    show badO CI (rowW ws) = some CI
    unfold rowW
    rw [if_pos (.inr (by rw [Bool.not_eq_true'] at hb; exact of_decide_eq_false hb))]
    rfl
  have hr : rowW ws = (mapO numW (midW ws)).bind fun ns => (numW (ws.getD (ws.length - 2) [])).bind fun lo => (numW (ws.getD (ws.length - 1) [])).map fun hi => ((ws.getD 0 [], ns), (lo, hi)) := by
    unfold rowW
    rw [if_neg]
    rintro (z | z)
    · exact h4 z
    · rw [Bool.not_eq_false'] at hb
      exact z (of_decide_eq_true hb)
  refine q_asgNX (nx_lc (ix := [3]) (midW ws) encT (fun x => [nS (S (lineL ws)), .dat (.list (ws.map encT)), .no, nS (S x)]) (fun x => (numW x).map PyData.int) CI (w_list (d_new (n_slF (d_var rfl) (o_some (i := 1) d_ci) (o_some (i := -3) (d_neg d_ci)) (cut_midW ws (by omega))))) (by decide) (by
    unfold midW
    rw [List.length_take, List.length_drop]
    have h1 : ∀ l : List Word, l.length ≤ (lineL l).length + 1 := fun l => by
      induction l with
      | nil => exact Nat.zero_le _
      | cons p r ih =>
        cases r with
        | nil => exact Nat.succ_le_succ (Nat.zero_le _)
        | cons q r =>
          show _ ≤ (p ++ ([32] ++ lineL (q :: r))).length + 1
          rw [List.length_append, List.length_append, List.length_cons]
          show _ ≤ p.length + (1 + (lineL (q :: r)).length) + 1
          omega
    have := h1 ws
    have := hp.len
    omega) (fun x _ => g_name) fun x hx E0 => x_imp (x_callS x (a_cons (d_var rfl) a_nil) (hp.word (mid_mem hx))) (fun d ⟨_, i, h1, h2⟩ => by rw [h1, h2]; rfl) (fun C hC => by
      obtain ⟨h1, h2⟩ := badO_none hC
      exact ⟨h1, by rw [h2]; rfl⟩)) (fun C hC => ?_) fun ds hds => ?_
  · obtain ⟨rfl, hn⟩ := hC
    show badO C (rowW ws) = some C
    rw [hr]
    have : mapO numW (midW ws) = none := by
      cases hm : mapO numW (midW ws) with
      | none => rfl
      | some ns =>
        exfalso
        have key : ∀ (l : List Word) (ns : List Int), mapO numW l = some ns → mapO (fun x => (numW x).map PyData.int) l = some (ns.map PyData.int) := fun l => by
          induction l with
          | nil =>
            intro ns h
            cases h
            rfl
          | cons z l ih =>
            intro ns h
            have h : (numW z).bind (fun y => (mapO numW l).map fun ys => y :: ys) = some ns := h
            show ((numW z).map PyData.int).bind (fun y => (mapO (fun x => (numW x).map PyData.int) l).map fun ys => y :: ys) = _
            cases hz : numW z with
            | none =>
              rw [hz] at h
              cases h
            | some y =>
              rw [hz] at h
              cases hl : mapO numW l with
              | none =>
                rw [hl] at h
                cases h
              | some zs =>
                rw [hl] at h
                cases h
                rw [ih zs hl]
                rfl
        rw [key _ ns hm] at hn
        cases hn
    rw [this]
    rfl
  obtain ⟨ns, hns, rfl⟩ : ∃ ns, mapO numW (midW ws) = some ns ∧ ds = ns.map PyData.int := by
    have key : ∀ (l : List Word) (ds : List PyData), mapO (fun x => (numW x).map PyData.int) l = some ds → ∃ ns, mapO numW l = some ns ∧ ds = ns.map PyData.int := fun l => by
      induction l with
      | nil =>
        intro ds h
        cases h
        exact ⟨[], rfl, rfl⟩
      | cons z l ih =>
        intro ds h
        have h : ((numW z).map PyData.int).bind (fun y => (mapO (fun x => (numW x).map PyData.int) l).map fun ys => y :: ys) = some ds := h
        cases hz : numW z with
        | none =>
          rw [hz] at h
          cases h
        | some y =>
          rw [hz] at h
          cases hl : mapO (fun x => (numW x).map PyData.int) l with
          | none =>
            rw [hl] at h
            cases h
          | some zs =>
            rw [hl] at h
            cases h
            obtain ⟨ns, h1, h2⟩ := ih zs hl
            refine ⟨y :: ns, ?_, by rw [h2]; rfl⟩
            show (numW z).bind (fun y => (mapO numW l).map fun ys => y :: ys) = _
            rw [hz, h1]
            rfl
    exact key _ ds hds
  refine sd_freeze (n := 2) rfl ?_
  refine sd_env (δ1 := [nS (S (lineL ws)), .dat (.list (ws.map encT)), .dat (.list (ns.map PyData.int)), .no]) rfl ?_
  rw [hns] at hr
  have hr : rowW ws = (numW (ws.getD (ws.length - 2) [])).bind fun lo => (numW (ws.getD (ws.length - 1) [])).map fun hi => ((ws.getD 0 [], ns), (lo, hi)) := hr
  have hnl : ns.length ≤ 50000 := by
    rw [Ja.mapO_len hns]
    unfold midW
    rw [List.length_take, List.length_drop]
    have h1 : ∀ l : List Word, l.length ≤ (lineL l).length + 1 := fun l => by
      induction l with
      | nil => exact Nat.zero_le _
      | cons p r ih =>
        cases r with
        | nil => exact Nat.succ_le_succ (Nat.zero_le _)
        | cons q r =>
          show _ ≤ (p ++ ([32] ++ lineL (q :: r))).length + 1
          rw [List.length_append, List.length_append, List.length_cons]
          show _ ≤ p.length + (1 + (lineL (q :: r)).length) + 1
          omega
    have := h1 ws
    have := hp.len
    omega
  refine sd_retX (x_imp (ex := fun C => C = CI ∧ rowW ws = none) (x_tup (P := fun ds => ∃ r, rowW ws = some r ∧ ds = [encF r.1, encE r.2]) (dx_cons (x_ofS (d := encF (ws.getD 0 [], ns)) (d_tup (ds_cons (d_ixM (f := encT) (x := ws.getD 0 []) (d_var rfl) d_ci (show atI ws ((0 : Nat) : Int) = _ from at_getD (by omega))) (d_is_ds (ds_star (d_var rfl) ds_nil) (List.append_nil _))) (by rw [List.length_cons, List.length_map]; show ns.length + 1 ≤ 100000; omega)))
    (dx_cons (x_tup (P := fun ds => ∃ lo hi, numW (ws.getD (ws.length - 2) []) = some lo ∧ numW (ws.getD (ws.length - 1) []) = some hi ∧ ds = [.int lo, .int hi]) (dx_cons (x_imp (x_callS (ws.getD (ws.length - 2) []) (a_cons (d_ixM (f := encT) (d_var rfl) (d_neg d_ci) a2) a_nil) (hp.word (mem_getD (by omega)))) (fun d h => h) (fun C hC => ?_)) (dx_cons (x_imp (x_callS (ws.getD (ws.length - 1) []) (a_cons (d_ixM (f := encT) (d_var rfl) (d_neg d_ci) a1) a_nil) (hp.word (mem_getD (by omega)))) (fun d h => h) (fun C hC => ?_)) (dx_nil (P := fun ds => ds = []) rfl) (P := fun ds => ∃ hi, numW (ws.getD (ws.length - 1) []) = some hi ∧ ds = [.int hi]) fun d es h1 h2 => ?_) fun d es h1 h2 => ?_) (fun ds h => ?_)) (dx_nil (P := fun ds => ds = []) rfl) (P := fun ds => ∃ e, ds = [encE e] ∧ rowW ws = some ((ws.getD 0 [], ns), e)) fun d es h1 h2 => ?_) fun d es h1 h2 => ?_) (fun ds h => ?_)) (fun d h => h) (fun C h => h)) (fun C hC => ?_) (fun d hd => ?_)
  · obtain ⟨h1, h2⟩ := badO_none hC
    exact ⟨h1, by rw [hr, h2]; rfl⟩
  · obtain ⟨h1, h2⟩ := badO_none hC
    refine ⟨h1, ?_⟩
    rw [hr, h2]
    cases numW (ws.getD (ws.length - 2) []) <;> rfl
  · obtain ⟨_, i, h3, h4⟩ := h1
    subst h2
    exact ⟨i, h3, by rw [h4]⟩
  · obtain ⟨_, i, h3, h4⟩ := h1
    obtain ⟨hi, h5, h6⟩ := h2
    exact ⟨i, hi, h3, h5, by rw [h4, h6]⟩
  · obtain ⟨lo, hi, _, _, rfl⟩ := h
    show 2 ≤ 100000
    decide
  · obtain ⟨ds, rfl, lo, hi, h3, h4, rfl⟩ := h1
    subst h2
    exact ⟨(lo, hi), rfl, by rw [hr, h3, h4]; rfl⟩
  · obtain ⟨e, rfl, h3⟩ := h2
    exact ⟨_, h3, by rw [h1]⟩
  · obtain ⟨r, _, rfl⟩ := h
    show 2 ≤ 100000
    decide
  · obtain ⟨rfl, hn⟩ := hC
    show badO C (rowW ws) = some C
    rw [hn]
    rfl
  · obtain ⟨ds, rfl, r, h1, rfl⟩ := hd
    exact ⟨by show badO CI (rowW ws) = none; rw [h1]; rfl, r, h1, rfl⟩
/-! ### the program: a paper read -/
inductive Pap
  | doc (D : List (List Word))
  | cut (a : Word)
def Pap.txt : Pap → Word
  | .doc D => textD D
  | .cut a => a
def Pap.ok : Pap → Option Unit
  | .doc D => if okD D then some () else none
  | .cut _ => none
def Pap.pre : Pap → Prop
  | .doc D => D ≠ [] ∧ Dc.Good D
  | .cut a => a.length ≤ 40000 ∧ Txt.endswith (S a) (S [10]) = false
theorem okD_head {top : List Word} {rows : List (List Word)} (h : headW top = none) : okD (top :: rows) = false := by
  show (match headW top, mapO rowW rows with
    | some b, some rs => formOk (rs.map fun r : Dc.Row => r.1) && papOk b (rs.map fun r : Dc.Row => r.2)
    | _, _ => false) = false
  rw [h]
theorem okD_rows {top : List Word} {rows : List (List Word)} (h : mapO rowW rows = none) : okD (top :: rows) = false := by
  show (match headW top, mapO rowW rows with
    | some b, some rs => formOk (rs.map fun r : Dc.Row => r.1) && papOk b (rs.map fun r : Dc.Row => r.2)
    | _, _ => false) = false
  rw [h]
  cases headW top <;> rfl
theorem okD_some {top : List Word} {rows : List (List Word)} {b : Int} {rs : List Dc.Row} (h : headW top = some b) (h2 : mapO rowW rows = some rs) : okD (top :: rows) = (formOk (rs.map fun r : Dc.Row => r.1) && papOk b (rs.map fun r : Dc.Row => r.2)) := by
  show (match headW top, mapO rowW rows with
    | some b, some rs => formOk (rs.map fun r : Dc.Row => r.1) && papOk b (rs.map fun r : Dc.Row => r.2)
    | _, _ => false) = _
  rw [h, h2]
theorem ends_nl (a : List Nat) : Txt.endswith (S (a ++ [10])) (S [10]) = true := by
  unfold Txt.endswith
  rw [S_len, S_len, List.length_append]
  simp [Builtin.Str.subAt, S_len]
theorem mapO_map {A B C : Type} (v : A → Option B) (g : B → C) : ∀ l : List A, mapO (fun x => (v x).map g) l = (mapO v l).map (List.map g)
  | [] => rfl
  | x :: r => by
    show ((v x).map g).bind (fun y => (mapO (fun x => (v x).map g) r).map fun ys => y :: ys) = ((v x).bind fun y => (mapO v r).map fun ys => y :: ys).map (List.map g)
    rw [mapO_map v g r]
    cases v x with
    | none => rfl
    | some y =>
      cases mapO v r <;> rfl
theorem mapO_mem {A B : Type} {v : A → Option B} {y : B} : ∀ {l : List A} {ys : List B}, mapO v l = some ys → y ∈ ys → ∃ x ∈ l, v x = some y
  | [], ys, h, hy => by
    cases h
    cases hy
  | z :: l, ys, h, hy => by
    have h : (v z).bind (fun y => (mapO v l).map fun ys => y :: ys) = some ys := h
    cases hz : v z with
    | none =>
      rw [hz] at h
      cases h
    | some u =>
      rw [hz] at h
      cases hl : mapO v l with
      | none =>
        rw [hl] at h
        cases h
      | some zs =>
        rw [hl] at h
        cases h
        rcases List.mem_cons.mp hy with e | e
        · exact ⟨z, List.mem_cons_self .., by rw [hz, e]⟩
        · obtain ⟨x, h1, h2⟩ := mapO_mem hl e
          exact ⟨x, List.mem_cons_of_mem _ h1, h2⟩
theorem words_le : ∀ l : List Word, l.length ≤ (lineL l).length + 1
  | [] => Nat.zero_le _
  | [_] => Nat.succ_le_succ (Nat.zero_le _)
  | p :: q :: r => by
    have := words_le (q :: r)
    show _ ≤ (p ++ ([32] ++ lineL (q :: r))).length + 1
    rw [List.length_append, List.length_append, List.length_cons]
    show _ ≤ p.length + (1 + (lineL (q :: r)).length) + 1
    omega
theorem row_len {ws : List Word} {r : Dc.Row} (h : rowW ws = some r) : r.1.2.length ≤ ws.length := by
  unfold rowW at h
  split at h
  · cases h
  · cases hm : mapO numW (midW ws) with
    | none =>
      rw [hm] at h
      cases h
    | some ns =>
      rw [hm] at h
      cases h2 : numW (ws.getD (ws.length - 2) []) with
      | none =>
        rw [h2] at h
        cases h
      | some lo =>
        rw [h2] at h
        cases h3 : numW (ws.getD (ws.length - 1) []) with
        | none =>
          rw [h3] at h
          cases h
        | some hi =>
          rw [h3] at h
          cases h
          show ns.length ≤ _
          rw [Ja.mapO_len hm]
          unfold midW
          rw [List.length_take, List.length_drop]
          omega
theorem good_line {D : List (List Word)} (g : Dc.Good D) {ws : List Word} (h : ws ∈ D) : LineOk ws := ⟨g.ne ws h, fun w hw => (g.fr ws h w hw).1, g.ok ws h, Nat.le_trans (part_le h) g.len⟩
abbrev spRead (K : PySem.W.Frag) (CI : Addr) : Sp := SpX K (fun p : Pap => [nS (S p.txt)]) Pap.pre (fun p => badO CI p.ok) fun _ _ => True
theorem ok_read {f f0 f1 f2 f3 CI CP : Addr} {fd fd0 fd1 fd2 fd3 : FuncData} (F : Fun K "read_paper" "read_paper" s_read_paper f fd) (T : Errs K mg "InvalidText" CI CP)
    (G_read_head : FnOk P w K mg base (L2.CX P w) 2 f0 fd0 ["line"] (spHead K CI)) (F_read_head : Fun K "read_head" "read_head" s_read_head f0 fd0) (b_read_head : Binds K fd0 ["line"] []) (g_read_head : mg "read_head" = some (.ref f0))
    (G_read_row : FnOk P w K mg base (L2.CX P w) 2 f1 fd1 ["line"] (spRow K CI)) (F_read_row : Fun K "read_row" "read_row" s_read_row f1 fd1) (b_read_row : Binds K fd1 ["line"] []) (g_read_row : mg "read_row" = some (.ref f1))
    (G_is_formula : FnOk P w K mg base CX0 4 f2 fd2 ["value"] (spForm K)) (F_is_formula : Fun K "is_formula" "is_formula" s_is_formula f2 fd2) (b_is_formula : Binds K fd2 ["value"] []) (g_is_formula : mg "is_formula" = some (.ref f2))
    (G_is_paper : FnOk P w K mg base CX0 4 f3 fd3 ["value"] (spPap K)) (F_is_paper : Fun K "is_paper" "is_paper" s_is_paper f3 fd3) (b_is_paper : Binds K fd3 ["value"] []) (g_is_paper : mg "is_paper" = some (.ref f3))
    (m_tuple : mg "tuple" = none) : FnOk P w K mg base (L2.CX P w) 5 f fd ["text"] (spRead K CI) := by
  obtain ⟨g_InvalidText, _, x_InvalidText, k_InvalidText, b_InvalidText, t_InvalidText, _, _, _, _, _⟩ := id T
  refine F.okX sc_read_paper (fun vs H Q E ⟨_, _, _, iv, _⟩ => iv.len) (fun cdv A outer s H vs Q E hr h => ⟨_, (pss_cons (ps_if (pt_not (pt_val (pe_m1 PySem.F.slot_str_endswith PySem.F.type_str_endswith mt_endswith (pv 0) pe_str))) (pss_one (ps_raise rfl (takes_of rfl rfl rfl rfl) (pmk_own PySem.F.excBase_ValueError x_InvalidText g_InvalidText k_InvalidText (raises_own b_InvalidText t_InvalidText) (by rfl)))) pss_nil)
        (pss_cons (ps_set (i := 1) sc_read_paper.nd rfl (.inl rfl) (pe_split (pe_slice C8.sl_txt (pv 0) po_none (po_some (pe_un un_neg pe_int))) pe_str))
        (pss_cons (ps_set (i := 2) sc_read_paper.nd rfl (.inl rfl) (pe_callS G_read_head (hr.mono (by decide)) (by rfl) g_read_head F_read_head.kp b_read_head (fun σ => passAt (takes_of rfl rfl rfl rfl) σ) (pa_cons (pe_ix ix_list (pv 1) pe_int (fun _ _ => rfl)) pa_nil)))
        (pss_cons (Lx.ps_setLcX (i := 3) (own := [("line", 4)]) (g := gName 4) rfl rfl (takes_of rfl rfl rfl rfl) rfl sc_read_paper.nd rfl rfl (sw_true rfl rfl rfl (by decide +kernel)) (pi_list (pe_slice sl_list (pv 1) (po_some pe_int) po_none)) (blkOk_by (own := [("line", 4)]) (N := ["text", "lines", "bits", "rows", "line", "formula", "row", "paper"]) (sc := defScope s_read_paper) (by decide +kernel)) (fun _ _ _ _ _ _ => (pg_name (i := 4) sc_read_paper.nd rfl (.inl rfl))) (fun _ _ _ _ _ _ => pts_nil) (fun _ _ _ _ _ _ E0 hpX => (pe_callS G_read_row (hr.mono (by decide)) (by rfl) g_read_row F_read_row.kp b_read_row (fun σ => hpX σ) (pa_cons (pv 4) pa_nil))))
        (pss_cons (ps_set (i := 5) sc_read_paper.nd rfl (.inl rfl) (pe_callTy call_tuple_of (by rfl) m_tuple (by decide +kernel) (pa_cons (pe_lc (own := [("row", 6)]) (g := gName 6) rfl sc_read_paper.nd (pi_list (pv 3)) (blkOk_by (own := [("row", 6)]) (N := ["text", "lines", "bits", "rows", "line", "formula", "row", "paper"]) (sc := defScope s_read_paper) (by decide +kernel)) (fun _ _ _ _ _ => (pg_name (i := 6) sc_read_paper.nd rfl (.inl rfl))) (fun _ _ _ _ _ => pts_nil) (fun _ _ _ _ _ => (pe_ix (r := rIxT K) ix_tup (pv 6) pe_int (fun _ _ => rfl)))) pa_nil)))
        (pss_cons (ps_set (i := 7) sc_read_paper.nd rfl (.inl rfl) (pe_tup (pa_cons (pv 2) (pa_cons (pe_callTy call_tuple_of (by rfl) m_tuple (by decide +kernel) (pa_cons (pe_lc (own := [("row", 6)]) (g := gName 6) rfl sc_read_paper.nd (pi_list (pv 3)) (blkOk_by (own := [("row", 6)]) (N := ["text", "lines", "bits", "rows", "line", "formula", "row", "paper"]) (sc := defScope s_read_paper) (by decide +kernel)) (fun _ _ _ _ _ => (pg_name (i := 6) sc_read_paper.nd rfl (.inl rfl))) (fun _ _ _ _ _ => pts_nil) (fun _ _ _ _ _ => (pe_ix (r := rIxT K) ix_tup (pv 6) pe_int (fun _ _ => rfl)))) pa_nil)) pa_nil))))
        (pss_cons (ps_if (PW.pt (pw_or (pt_not (pt_val (pe_call G_is_formula (hr.mono (by decide)) (by rfl) g_is_formula F_is_formula.kp b_is_formula .nil pass0 (pa_cons (pv 5) pa_nil)))) (pw_or1 (pt_not (pt_val (pe_call G_is_paper (hr.mono (by decide)) (by rfl) g_is_paper F_is_paper.kp b_is_paper .nil pass0 (pa_cons (pv 7) pa_nil))))))) (pss_one (ps_raise rfl (takes_of rfl rfl rfl rfl) (pmk_own PySem.F.excBase_ValueError x_InvalidText g_InvalidText k_InvalidText (raises_own b_InvalidText t_InvalidText) (by rfl)))) pss_nil)
        (pss_one (ps_ret (pe_tup (pa_cons (pv 5) (pa_cons (pv 7) pa_nil)))))))))))), run_bodyX h fun p B hp => ?_⟩)
  cases p with
  | cut a =>
    obtain ⟨hl, he⟩ : a.length ≤ 40000 ∧ Txt.endswith (S a) (S [10]) = false := hp
    refine sd_env (δ1 := [nS (S a), .no, .no, .no, .no, .no, .no, .no]) rfl ?_
    refine q_when (b_is (c := true) (b_not (b_val (d_m1 (g := Txt.endswith) (a := a) (b := [10]) (d_var rfl) (d_cs (x := S [10]))))) (by rw [he]; rfl)) (fun _ => sd_raise (C := CI) rfl) (fun z => (nomatch z))
  | doc D =>
    obtain ⟨hne, g⟩ : D ≠ [] ∧ Dc.Good D := hp
    cases D with
    | nil => exact absurd rfl hne
    | cons top rows =>
    have htx := join_text (top :: rows) hne
    have hlen := g.len
    rw [htx, List.length_append] at hlen
    refine sd_env (δ1 := [nS (S (TL.joinL [10] ((top :: rows).map lineL) ++ [10])), .no, .no, .no, .no, .no, .no, .no]) (by rw [← htx]; rfl) ?_
    refine q_when (b_is (c := false) (b_not (b_val (d_m1 (g := Txt.endswith) (b := [10]) (d_var rfl) (d_cs (x := S [10]))))) (by rw [ends_nl]; rfl)) (fun z => (nomatch z)) (fun _ => ?_)
    have hok : ∀ ws ∈ top :: rows, LineOk ws := fun ws hw => good_line g hw
    have hrl : rows.length ≤ 100 := by
      have := g.few
      rw [List.length_cons] at this
      omega
    have hsp := n_split (K := K) (B0 := B) (H0 := H) (c := 10) (parts := (top :: rows).map lineL) (d_slX (δ := [nS (S (TL.joinL [10] ((top :: rows).map lineL) ++ [10])), .no, .no, .no, .no, .no, .no, .no]) (d_var (n := 0) rfl) o_none (o_some (i := -1) (d_neg d_ci)) (by rw [List.length_append]; omega) (SX.butlast_snoc _ _)) (d_cs (x := S [10])) (by decide) (by rw [List.map_cons]; exact List.cons_ne_nil _ _) (fun p hp => by
      obtain ⟨ws, hw, rfl⟩ := List.mem_map.mp hp
      exact line_free fun x hx => g.fr ws hw x hx) (by omega)
    generalize S (TL.joinL [10] ((top :: rows).map lineL) ++ [10]) = whole at hsp
    refine q_asg [nS whole, .dat (.list (((top :: rows).map lineL).map encT)), _, _, _, _, _, _] (d_new hsp) ?_
    refine q_asgX (x_callS top (a_cons (d_ixM (f := encT) (xs := (top :: rows).map lineL) (x := lineL top) (d_var rfl) d_ci (show atI _ ((0 : Nat) : Int) = _ from atI_nat rfl)) a_nil) (hok top (List.mem_cons_self ..))) (fun C hC => ?_) fun d hd => ?_
    · obtain ⟨rfl, h2⟩ := badO_none hC
      show badO C (if okD (top :: rows) = true then some () else none) = some C
      rw [okD_head h2]
      rfl
    obtain ⟨_, b, hb, rfl⟩ := hd
    refine sd_env (δ1 := [nS whole, .dat (.list (((top :: rows).map lineL).map encT)), nI b, .no, .no, .no, .no, .no]) rfl ?_
    have hwl : EvW K B H (iList K (tSl (rSlL K) (tVar 1) (tPart (tC (.int 1))) tNoPart)) [nS whole, .dat (.list (((top :: rows).map lineL).map encT)), nI b, .no, .no, .no, .no, .no] (rows.map fun ws => encT (lineL ws)) := by
      have h1 := w_list (K := K) (B0 := B) (H0 := H) (d_new (n_slF (δ := [nS whole, .dat (.list (((top :: rows).map lineL).map encT)), nI b, .no, .no, .no, .no, .no]) (f := encT) (xs := (top :: rows).map lineL) (ys := rows.map lineL) (d_var (n := 1) rfl) (o_some (i := ((1 : Nat) : Int)) d_ci) o_none (cut_from _ 1)))
      have e2 : (rows.map lineL).map encT = rows.map fun ws => encT (lineL ws) := by
        rw [List.map_map]
        rfl
      rw [e2] at h1
      exact h1
    refine q_asgNX (nx_lc (ix := [4]) rows (fun ws => encT (lineL ws)) (fun ws => [nS whole, .dat (.list (((top :: rows).map lineL).map encT)), nI b, .no, nS (S (lineL ws)), .no, .no, .no]) (fun ws => (rowW ws).map encR) CI hwl (by decide) (by omega) (fun x _ => g_name) fun ws hx E0 => x_imp (x_callS ws (a_cons (d_var rfl) a_nil) (hok ws (List.mem_cons_of_mem _ hx))) (fun d ⟨_, i, h1, h2⟩ => by rw [h1, h2]; rfl) (fun C hC => by
      obtain ⟨h1, h2⟩ := badO_none hC
      exact ⟨h1, by rw [h2]; rfl⟩)) (fun C hC => ?_) fun ds hds => ?_
    · obtain ⟨rfl, hn⟩ := hC
      rw [mapO_map] at hn
      have hn2 : mapO rowW rows = none := by
        cases hm : mapO rowW rows with
        | none => rfl
        | some rs =>
          rw [hm] at hn
          cases hn
      show badO C (if okD (top :: rows) = true then some () else none) = some C
      rw [okD_rows hn2]
      rfl
    rw [mapO_map] at hds
    obtain ⟨rs, hrs, rfl⟩ : ∃ rs, mapO rowW rows = some rs ∧ ds = rs.map encR := by
      cases hm : mapO rowW rows with
      | none =>
        rw [hm] at hds
        cases hds
      | some rs =>
        rw [hm] at hds
        exact ⟨rs, rfl, (Option.some.inj hds).symm⟩
    have hrsl : rs.length ≤ 100 := by
      rw [Ja.mapO_len hrs]
      exact hrl
    have hoD : okD (top :: rows) = (formOk (rs.map fun r : Dc.Row => r.1) && papOk b (rs.map fun r : Dc.Row => r.2)) := okD_some hb hrs
    have hnm : ∀ f ∈ rs.map (fun r : Dc.Row => r.1), f.1 ∈ WS ∧ f.2.length ≤ 100000 := fun f hf => by
      obtain ⟨r, hr, rfl⟩ := List.mem_map.mp hf
      obtain ⟨ws, hw, hv⟩ := mapO_mem hrs hr
      refine ⟨g.nm ws hw r hv, ?_⟩
      have h1 := row_len hv
      have h2 := words_le ws
      have h3 := (hok ws (List.mem_cons_of_mem _ hw)).len
      omega
    refine sd_freeze (n := 3) rfl ?_
    refine sd_env (δ1 := [nS whole, .dat (.list (((top :: rows).map lineL).map encT)), nI b, .dat (.list (rs.map encR)), .no, .no, .no, .no]) rfl ?_
    refine q_asg [_, _, _, _, _, .dat (.tuple ((rs.map fun r : Dc.Row => r.1).map encF)), _, _] (d_is (s' := .dat (.tuple ((rs.map fun r : Dc.Row => r.1).map encF))) (d_tupL (d_new (n_lc1 (ix := [6]) rs encR (fun r => [nS whole, .dat (.list (((top :: rows).map lineL).map encT)), nI b, .dat (.list (rs.map encR)), .no, .no, .dat (encR r), .no]) (fun r => encF r.1) (w_list (d_var rfl)) (by decide) (by omega) (fun r _ => g_name) fun (r : Dc.Row) _ => d_ixT (d := encF r.1) (d_var rfl) d_ci rfl))) (by rw [List.map_map]; rfl)) ?_
    refine q_asg [_, _, _, _, _, _, _, .dat (encPap (b, rs.map fun r : Dc.Row => r.2))] (d_tup (ds_cons (d_var rfl) (ds_cons (d_is (s' := .dat (.tuple ((rs.map fun r : Dc.Row => r.2).map encE))) (d_tupL (d_new (n_lc1 (ix := [6]) rs encR (fun r => [nS whole, .dat (.list (((top :: rows).map lineL).map encT)), nI b, .dat (.list (rs.map encR)), .no, .dat (.tuple ((rs.map fun r : Dc.Row => r.1).map encF)), .dat (encR r), .no]) (fun r => encE r.2) (w_list (d_var rfl)) (by decide) (by omega) (fun r _ => g_name) fun (r : Dc.Row) _ => d_ixT (d := encE r.2) (d_var rfl) d_ci rfl))) (by rw [List.map_map]; rfl)) ds_nil))) ?_
    refine q_when (b_is (c := !(okD (top :: rows))) (b_or (b_not (b_val (d_callF (rs.map fun r : Dc.Row => r.1) (a_cons (d_var rfl) a_nil) hnm))) fun _ => b_not (b_val (d_callF (b, rs.map fun r : Dc.Row => r.2) (a_cons (d_var rfl) a_nil) trivial))) (by
      rw [hoD]
      show (!formOk _ || !papOk _ _) = _
      cases formOk (rs.map fun r : Dc.Row => r.1) <;> cases papOk b (rs.map fun r : Dc.Row => r.2) <;> rfl)) (fun hb => ?_) (fun hb => ?_)
    · refine sd_raise (C := CI) ?_
      show badO CI (if okD (top :: rows) = true then some () else none) = some CI
      rw [if_neg]
      · rfl
      · rw [Bool.not_eq_true'] at hb
        rw [hb]
        exact fun z => (nomatch z)
    · refine sd_ret (d_tup (ds_cons (d_var rfl) (ds_cons (d_var rfl) ds_nil))) ⟨?_, trivial⟩
      show badO CI (if okD (top :: rows) = true then some () else none) = none
      rw [Bool.not_eq_false'] at hb
      rw [if_pos hb]
      rfl
/-! ### the law's helpers -/
abbrev spRef (K : PySem.W.Frag) : Sp := SpF K (fun p : Pap => [nS (S p.txt)]) (fun p => p.pre ∧ p.ok = none) fun _ => .bool true
/-- an expression for its exception alone -/
theorem sd_dropX {B0 H0 : Hp} {W : WX} {δ : List Sl} {E : DE} {te : TE} {P0 : PyData → Prop} {ex : Addr → Prop} (h : EvX K B0 H0 W te δ P0 ex) (hx : ∀ C, ex C → E.ex C δ) (k : ∀ d, P0 d → E.nx δ) : SD K B0 H0 W (tDrop te) δ E := fun D B H σ S0 L => h B H σ S0 (fun C B' H' st hC => L.ex C B' H' σ δ st.b (S0.go st) (hx C hC)) _ fun v d B1 H1 p s1 i1 => L.nx B1 H1 σ δ s1.b (S0.go s1) (k d p)
theorem ok_refused {f f0 CI CP : Addr} {fd fd0 : FuncData} (F : Fun K "_law_refused" "_law_refused" s_law_refused f fd) (T : Errs K mg "InvalidText" CI CP) (G_read_paper : FnOk P w K mg base (L2.CX P w) 5 f0 fd0 ["text"] (spRead K CI)) (F_read_paper : Fun K "read_paper" "read_paper" s_read_paper f0 fd0) (b_read_paper : Binds K fd0 ["text"] []) (g_read_paper : mg "read_paper" = some (.ref f0)) (m_isinstance : mg "isinstance" = none) : FnOk P w K mg base CX0 6 f fd ["text"] (spRef K) := by
  refine F.ok sc_law_refused (fun vs H Q E ⟨_, _, _, iv, _⟩ => iv.len) (fun cdv A outer s H vs Q E hr h => ⟨_, (pss_cons (ps_tryD (i := 1) (ts := fun a cls d => fun Dn σ H => ∃ D, (cls = .ref D ∧ d = none ∧ ExcC K D) ∧ tRet (tCB (rIsE K D a) (tCons (tVar 1) (tCons (tC (.ref CI)) tNil))) Dn σ H) (Wout := fun _ _ _ _ => False) rfl rfl sc_law_refused.nd rfl rfl ⟨rfl, by decide, Or.inl T.gP⟩ takes0
        (fun W pn xe tk _ => pss_one (ps_expr (pe_callS G_read_paper (hr.mono (by decide)) (by rfl) g_read_paper F_read_paper.kp b_read_paper (fun σ => passAt tk σ) (pa_cons (pv 0) pa_nil))))
        (fun a oe cls d pn hz hf => pss_ex (φ := fun D => cls = .ref D ∧ d = none ∧ ExcC K D) fun D hD => by
          obtain ⟨rfl, rfl, hE⟩ := hD
          exact pss_one (ps_ret (pe_callB (call_isE hE hz hf) (by rfl) m_isinstance (by decide +kernel) (pa_cons (pv 1) (pa_cons (pe_glob (by rfl) T.gU (show RelV (.ref CI) _ from rfl)) pa_nil))))))
        (pss_one (ps_ret pe_bl))), run_body h fun p B hp => ?_⟩)
  obtain ⟨hp, hno⟩ : p.pre ∧ p.ok = none := hp
  refine sd_env (δ1 := [nS (S p.txt), .no]) rfl ?_
  refine sd_seq (sd_try (fun C δ' => C = CI ∧ δ' = [nS (S p.txt), .no]) (fun W' => ?_) fun C δ' hC => ?_)
  · refine sd_dropX (x_callS p (a_cons (d_var rfl) a_nil) hp) (fun C hC => ⟨(badO_none hC).1, rfl⟩) fun d hd => ?_
    have h1 : badO CI p.ok = none := hd.1
    rw [hno] at h1
    cases h1
  · obtain ⟨rfl, rfl⟩ := hC
    refine ⟨T.caught, fun a => sd_ex C ⟨rfl, rfl, T.ec⟩ ?_⟩
    exact sd_ret (d_isE rfl) rfl
theorem bits_pos {n : Nat} (h : n ≠ 0) : Builtin.Int.intBits (n : Int) = n.log2 + 1 := by
  unfold Builtin.Int.intBits
  rw [if_neg (by simp; exact h)]
  rw [Int.natAbs_natCast]
theorem big_div {i : Int} (h : Big i) (h0 : 0 ≤ i) {k : Int} (hk : 0 < k) : Big (i / k) ∧ 0 ≤ i / k := by
  have h1 : 0 ≤ i / k := Int.ediv_nonneg h0 (by omega)
  refine ⟨?_, h1⟩
  obtain ⟨n, rfl⟩ := Int.eq_ofNat_of_zero_le h0
  obtain ⟨m, hm⟩ := Int.eq_ofNat_of_zero_le h1
  have hle : m ≤ n := by
    have h2 : (n : Int) / k ≤ n := Int.ediv_le_self _ h0
    omega
  rw [hm]
  unfold Big at *
  by_cases hm0 : m = 0
  · subst hm0
    decide
  · have hn0 : n ≠ 0 := by omega
    rw [bits_pos hm0]
    rw [bits_pos hn0] at h
    have h3 : m.log2 ≤ n.log2 := (Nat.le_log2 hn0).mpr (Nat.le_trans (Nat.log2_self_le hm0) hle)
    omega
/-- an own list against [] -/
theorem d_eqO {B0 H0 : Hp} {δ : List Sl} {ds : List PyData} {n : Nat} (ho : δ[n]? = some (Sl.own ds)) (hs : SeqAt.shaped (.list ds) = true) : EvS K B0 H0 (tOp (rEqD K) (tVar n) (tLst tNil)) δ (nB (decide (ds = []))) := fun B H σ S0 Q q => by
  obtain ⟨l, vs, g1, g2, g3, g4, g5⟩ := S0.own n ds ho
  refine ⟨.ref l, g1, ?_⟩
  refine (n_lst (K := K) (B0 := B0) (H0 := H0) (δ := δ) ds_nil) B H σ S0 _ fun l2 ws B1 H1 s1 f1 f2 f3 f4 => ?_
  obtain ⟨l', us, k1, k2, k3, k4, k5⟩ := (S0.go s1).own n ds ho
  rw [g1] at k1
  cases Option.some.inj (Option.some.inj k1)
  refine ⟨.list ds, .list [], dt_dp _ _ (Dt.lst k2 (dts_mono s1.bh _ _ k5)), dt_dp _ _ (Dt.lst f3 (dts_mono s1.bh _ _ f4)), hs, by decide, ?_⟩
  have e : PyData.eqv (.list ds) (.list []) = decide (ds = []) := by
    cases ds <;> rfl
  rw [e]
  exact q _ B1 H1 s1 (Dt.bl _)
/-! ### the law's formula -/
structure FOk (k : Nat) (f : Form) : Prop where
  ok : stepOk k f = true
  nm : f.1 ∈ numberL :: piL :: (twos ++ ones)
  few : f.2.length ≤ 2
  sm : ∀ i ∈ f.2, i.natAbs ≤ 1000
def FsOk (fs : List Form) : Prop := ∀ k f, fs[k]? = some f → FOk k f
theorem FsOk.app {fs : List Form} (h : FsOk fs) {f : Form} (hf : FOk fs.length f) : FsOk (fs ++ [f]) := fun k g hg => by
  by_cases hk : k < fs.length
  · rw [List.getElem?_append_left hk] at hg
    exact h k g hg
  · rw [List.getElem?_append_right (by omega)] at hg
    have e0 : k - fs.length = 0 := by
      have := (List.getElem?_eq_some_iff.mp hg).1
      simp at this
      omega
    rw [e0] at hg
    cases Option.some.inj hg
    rw [show k = fs.length by omega]
    exact hf
theorem fok_number (k : Nat) {p q : Int} (hp : p.natAbs ≤ 1000) (h1 : 1 ≤ q) (h2 : q ≤ 1000) : FOk k (numberL, [p, q]) := ⟨by
  rw [step_is (c := 2) (show cnt numberL = some 2 by decide)]
  show (decide (2 = 2) && (if numberL = numberL then decide (1 ≤ q) else _)) = true
  rw [if_pos rfl, decide_eq_true h1]
  rfl, List.mem_cons_self .., Nat.le_refl _, fun i hi => by
  rcases List.mem_cons.mp hi with rfl | hi
  · exact hp
  · rw [List.mem_singleton.mp hi]
    omega⟩
theorem fok_pi (k : Nat) : FOk k (piL, []) := ⟨by
  rw [step_is (c := 0) (by decide)]
  rfl, List.mem_cons_of_mem _ (List.mem_cons_self ..), Nat.zero_le _, fun i hi => nomatch hi⟩
theorem twos_cnt : ∀ x ∈ twos, cnt x = some 2 ∧ x ≠ numberL := by decide
theorem ones_cnt : ∀ x ∈ ones, cnt x = some 1 ∧ x ≠ numberL := by decide
theorem fok_two {k : Nat} {x : Word} {i j : Int} (hx : x ∈ twos) (hi : 0 ≤ i ∧ i < (k : Int)) (hj : 0 ≤ j ∧ j < (k : Int)) (hk : k ≤ 1000) : FOk k (x, [i, j]) := ⟨by
  rw [step_is (c := 2) (twos_cnt x hx).1]
  show (decide (2 = 2) && (if x = numberL then _ else [i, j].all _)) = true
  rw [if_neg (twos_cnt x hx).2]
  simp [hi.1, hi.2, hj.1, hj.2], List.mem_cons_of_mem _ (List.mem_cons_of_mem _ (List.mem_append_left _ hx)), Nat.le_refl _, fun z hz => by
  rcases List.mem_cons.mp hz with rfl | hz
  · omega
  · rw [List.mem_singleton.mp hz]
    omega⟩
theorem fok_one {k : Nat} {x : Word} {i : Int} (hx : x ∈ ones) (hi : 0 ≤ i ∧ i < (k : Int)) (hk : k ≤ 1000) : FOk k (x, [i]) := ⟨by
  rw [step_is (c := 1) (ones_cnt x hx).1]
  show (decide (1 = 1) && (if x = numberL then _ else [i].all _)) = true
  rw [if_neg (ones_cnt x hx).2]
  simp [hi.1, hi.2], List.mem_cons_of_mem _ (List.mem_cons_of_mem _ (List.mem_append_right _ hx)), (show 1 ≤ 2 by decide), fun z hz => by
  rw [List.mem_singleton.mp hz]
  omega⟩
theorem lay_nm : ∀ x ∈ numberL :: piL :: (twos ++ ones), PyData.canLay0 (.str (S x)) = true := by decide +kernel
theorem lay_F {f : Form} (h : f.1 ∈ numberL :: piL :: (twos ++ ones)) : Shp 1 (encF f) := shp_tup (shp_cons (shp_str _ (lay_nm _ h)) (shp_map (n := 0) (fun i => shp_int i) f.2))
theorem shp_F : ∀ {fs : List Form}, (∀ f ∈ fs, f.1 ∈ numberL :: piL :: (twos ++ ones)) → ShpAll 1 (fs.map encF)
  | [], _ => shp_nil
  | f :: r, h => shp_cons (lay_F (h f (List.mem_cons_self ..))) (shp_F fun g hg => h g (List.mem_cons_of_mem _ hg))
theorem FsOk.nm {fs : List Form} (h : FsOk fs) : ∀ f ∈ fs, f.1 ∈ numberL :: piL :: (twos ++ ones) := fun f hf => by
  obtain ⟨k, hk, e⟩ := List.mem_iff_getElem.mp hf
  exact (h k f (by rw [List.getElem?_eq_getElem hk, e])).nm
theorem den_at (a : Int) : ∃ q : Int, atI [PyData.int 1, .int 1, .int (1 + a / 512 % 60), .int (1 + a * 7 % 60)] (a / 4 % 4) = some (.int q) ∧ 1 ≤ q ∧ q ≤ 60 := by
  obtain ⟨m, hm⟩ := Int.eq_ofNat_of_zero_le (show 0 ≤ a / 4 % 4 by omega)
  rw [hm]
  have h4 : m < 4 := by omega
  have : m = 0 ∨ m = 1 ∨ m = 2 ∨ m = 3 := by omega
  rcases this with rfl | rfl | rfl | rfl
  · exact ⟨1, rfl, by decide, by decide⟩
  · exact ⟨1, rfl, by decide, by decide⟩
  · exact ⟨_, rfl, by omega, by omega⟩
  · exact ⟨_, rfl, by omega, by omega⟩
theorem two_at {m : Int} (h : 4 ≤ m) (h2 : m < 8) : ∃ x, atI (twos.map encT) (m - 4) = some (encT x) ∧ x ∈ twos := by
  obtain ⟨n, hn⟩ := Int.eq_ofNat_of_zero_le (show 0 ≤ m - 4 by omega)
  rw [hn]
  have hlt : n < twos.length := by
    show n < 4
    omega
  exact ⟨twos[n], atI_nat (by rw [List.getElem?_map, List.getElem?_eq_getElem hlt]; rfl), List.getElem_mem hlt⟩
theorem one_at {m : Int} (h : 8 ≤ m) (h2 : m < 16) : ∃ x, atI (ones.map encT) (m - 8) = some (encT x) ∧ x ∈ ones := by
  obtain ⟨n, hn⟩ := Int.eq_ofNat_of_zero_le (show 0 ≤ m - 8 by omega)
  rw [hn]
  have hlt : n < ones.length := by
    show n < 8
    omega
  exact ⟨ones[n], atI_nat (by rw [List.getElem?_map, List.getElem?_eq_getElem hlt]; rfl), List.getElem_mem hlt⟩
abbrev spLForm (K : PySem.W.Frag) : Sp := SpA K (fun a : List Int × Nat => [.dat (.list (a.1.map PyData.int)), nI (a.2 : Int)]) (fun a => a.1.length ≤ 200 ∧ a.2 ≤ 100 ∧ ∀ n ∈ a.1, 0 ≤ n ∧ Big n) fun a d => ∃ fs : List Form, d = .tuple (fs.map encF) ∧ fs.length = (a.1.take a.2).length ∧ FsOk fs
theorem ok_lform {f : Addr} {fd : FuncData} (F : Fun K "_law_formula" "_law_formula" s_law_formula f fd) (m_len : mg "len" = none) (m_int : mg "int" = none) (m_max : mg "max" = none) (m_tuple : mg "tuple" = none) : FnOk P w K mg base CX0 1 f fd ["numbers", "most"] (spLForm K) := by
  refine F.ok sc_law_formula (fun vs H Q E ⟨_, _, _, iv, _⟩ => iv.len) (fun cdv A outer s H vs Q E hr h => ⟨_, (pss_cons (ps_set (i := 2) sc_law_formula.nd rfl (.inl rfl) (pe_lst pa_nil))
        (pss_cons (ps_for PassesOwn.never rfl (pi_list (pe_slice sl_list (pv 0) po_none (po_some (pv 1)))) (pg_name (i := 3) sc_law_formula.nd rfl (.inl rfl)) (pss_cons (ps_set (i := 4) sc_law_formula.nd rfl (.inl rfl) (pe_op op_mod (pe_callTy call_int1 (by rfl) m_int (by decide +kernel) (pa_cons (pv 3) pa_nil)) pe_int))
        (pss_cons (ps_set (i := 5) sc_law_formula.nd rfl (.inl rfl) (pe_op op_fdiv (pe_callTy call_int1 (by rfl) m_int (by decide +kernel) (pa_cons (pv 3) pa_nil)) pe_int))
        (pss_cons (ps_set (i := 6) sc_law_formula.nd rfl (.inl rfl) (pe_op op_mod (pe_callTy call_int1 (by rfl) m_int (by decide +kernel) (pa_cons (pv 5) pa_nil)) (pe_callB (call_max2 rfl) (by rfl) m_max (by decide +kernel) (pa_cons pe_int (pa_cons (pe_callB call_len (by rfl) m_len (by decide +kernel) (pa_cons (pv 2) pa_nil)) pa_nil)))))
        (pss_cons (ps_set (i := 7) sc_law_formula.nd rfl (.inl rfl) (pe_op op_mod (pe_op op_fdiv (pv 5) pe_int) (pe_callB (call_max2 rfl) (by rfl) m_max (by decide +kernel) (pa_cons pe_int (pa_cons (pe_callB call_len (by rfl) m_len (by decide +kernel) (pa_cons (pv 2) pa_nil)) pa_nil)))))
        (pss_one (ps_if (PW.pt (pw_or (pt_cmpR op_lt (pv 4) pe_int (nomark _)) (pw_or1 (pt_cmpR (op_eqD hr.units) (pv 2) (pe_lst pa_nil) (nomark _))))) (pss_one (ps_expr (pe_bm PySem.F.plainAttrs_list PySem.F.slot_list_append PySem.F.type_list_append mt_append (pv 2) (pa_cons (pe_tup (pa_cons pe_str (pa_cons (pe_op op_sub (pe_op op_mod (pe_op op_mulX (pe_callTy call_int1 (by rfl) m_int (by decide +kernel) (pa_cons (pv 5) pa_nil)) pe_int) pe_int) pe_int) (pa_cons (pe_ix ix_list (pe_lst (pa_cons pe_int (pa_cons pe_int (pa_cons (pe_op op_add pe_int (pe_op op_mod (pe_op op_fdiv (pv 5) pe_int) pe_int)) (pa_cons (pe_op op_add pe_int (pe_op op_mod (pe_op op_mulX (pe_callTy call_int1 (by rfl) m_int (by decide +kernel) (pa_cons (pv 5) pa_nil)) pe_int) pe_int)) pa_nil))))) (pe_op op_mod (pe_op op_fdiv (pv 5) pe_int) pe_int) (fun _ _ => rfl)) pa_nil)))) pa_nil)))) (pss_one (ps_if (pt_cmpR op_eq (pv 4) pe_int (nomark _)) (pss_one (ps_expr (pe_bm PySem.F.plainAttrs_list PySem.F.slot_list_append PySem.F.type_list_append mt_append (pv 2) (pa_cons (pe_tup (pa_cons pe_str pa_nil)) pa_nil)))) (pss_one (ps_if (pt_cmpR op_lt (pv 4) pe_int (nomark _)) (pss_one (ps_expr (pe_bm PySem.F.plainAttrs_list PySem.F.slot_list_append PySem.F.type_list_append mt_append (pv 2) (pa_cons (pe_tup (pa_cons (pe_ix ix_list (pe_lst (pa_cons pe_str (pa_cons pe_str (pa_cons pe_str (pa_cons pe_str pa_nil))))) (pe_op op_sub (pv 4) pe_int) (fun _ _ => rfl)) (pa_cons (pv 6) (pa_cons (pv 7) pa_nil)))) pa_nil)))) (pss_one (ps_expr (pe_bm PySem.F.plainAttrs_list PySem.F.slot_list_append PySem.F.type_list_append mt_append (pv 2) (pa_cons (pe_tup (pa_cons (pe_ix ix_list (pe_lst (pa_cons pe_str (pa_cons pe_str (pa_cons pe_str (pa_cons pe_str (pa_cons pe_str (pa_cons pe_str (pa_cons pe_str (pa_cons pe_str pa_nil))))))))) (pe_op op_sub (pv 4) pe_int) (fun _ _ => rfl)) (pa_cons (pv 6) pa_nil))) pa_nil)))))))))))))))
        (pss_one (ps_ret (pe_callTy call_tuple_of (by rfl) m_tuple (by decide +kernel) (pa_cons (pv 2) pa_nil)))))), run_body h fun a B hp => ?_⟩)
  obtain ⟨ns, most⟩ := a
  obtain ⟨hl, hm, hbig⟩ : ns.length ≤ 200 ∧ most ≤ 100 ∧ ∀ n ∈ ns, 0 ≤ n ∧ Big n := hp
  refine sd_env (δ1 := [.dat (.list (ns.map PyData.int)), nI (most : Int), .no, .no, .no, .no, .no, .no]) rfl ?_
  refine q_asgO [_, _, .own (([] : List Form).map encF), _, _, _, _, _] (n_lst ds_nil) ?_
  refine q_for (w_list (d_new (n_slF (f := PyData.int) (xs := ns) (ys := ns.take most) (d_var rfl) o_none (o_some (d_var rfl)) (cut_to ns most)))) (fun k δ => ∃ (fs : List Form) (s3 s4 s5 s6 s7 : Sl), δ = [.dat (.list (ns.map PyData.int)), nI (most : Int), .own (fs.map encF), s3, s4, s5, s6, s7] ∧ fs.length = k ∧ FsOk fs) ⟨[], _, _, _, _, _, rfl, rfl, fun k f hf => by simp at hf⟩ (fun k d δ' hd hq => ?_) (fun δ' hq => ?_)
  · obtain ⟨fs, s3, s4, s5, s6, s7, rfl, hk, hfs⟩ := hq
    have hkl : k < (ns.take most).length := by
      have := (List.getElem?_eq_some_iff.mp hd).1
      rwa [List.length_map] at this
    rw [List.getElem?_map] at hd
    obtain ⟨fg, hn2, rfl⟩ := Option.map_eq_some_iff.mp hd
    have hk100 : k ≤ 100 := by
      rw [List.length_take] at hkl
      omega
    obtain ⟨h0, hb⟩ := hbig fg (List.mem_of_mem_take (List.mem_of_getElem? hn2))
    obtain ⟨hba, ha0⟩ := big_div hb h0 (show (0 : Int) < 16 by decide)
    refine ⟨_, _, g_name, ?_⟩
    refine sd_env (δ1 := [.dat (.list (ns.map PyData.int)), nI (most : Int), .own (fs.map encF), nI fg, s4, s5, s6, s7]) rfl ?_
    refine q_asg [_, _, _, _, nI (fg % 16), _, _, _] (d_iC (d_int (d_var rfl)) d_ci (by decide)) ?_
    refine q_asg [_, _, _, _, _, nI (fg / 16), _, _] (d_iC (d_int (d_var rfl)) d_ci ⟨by decide, by decide⟩) ?_
    have hkind : 0 ≤ fg % 16 ∧ fg % 16 < 16 := by omega
    generalize fg / 16 = a at hba ha0
    generalize fg % 16 = kd at hkind
    have hmx : EvS K B H (tCB (fun xs H Q => ∃ i j, xs = [.int i, .int j] ∧ Q (.int (if j > i then j else i)) H) (tCons (tC (.int 1)) (tCons (tCB (fun xs H Q => ∃ x n, xs = [x] ∧ LenV K x H n ∧ Q (.int n) H) (tCons (tVar 2) tNil)) tNil))) [.dat (.list (ns.map PyData.int)), nI (most : Int), .own (fs.map encF), nI fg, nI kd, nI a, s6, s7] (nI (max 1 (k : Int))) := d_max d_ci (d_isI (d_lenO rfl) (by rw [List.length_map, hk]))
    refine q_asg [_, _, _, _, _, _, nI (a % max 1 (k : Int)), _] (d_iC (d_int (d_var rfl)) hmx (by show (0 : Int) < max 1 (k : Int); omega)) ?_
    have hmx2 : EvS K B H (tCB (fun xs H Q => ∃ i j, xs = [.int i, .int j] ∧ Q (.int (if j > i then j else i)) H) (tCons (tC (.int 1)) (tCons (tCB (fun xs H Q => ∃ x n, xs = [x] ∧ LenV K x H n ∧ Q (.int n) H) (tCons (tVar 2) tNil)) tNil))) [.dat (.list (ns.map PyData.int)), nI (most : Int), .own (fs.map encF), nI fg, nI kd, nI a, nI (a % max 1 (k : Int)), s7] (nI (max 1 (k : Int))) := d_max d_ci (d_isI (d_lenO rfl) (by rw [List.length_map, hk]))
    refine q_asg [_, _, _, _, _, _, _, nI (a / 16 % max 1 (k : Int))] (d_iC (d_iC (d_var rfl) d_ci ⟨by decide, by decide⟩) hmx2 (by show (0 : Int) < max 1 (k : Int); omega)) ?_
    have hi : 0 ≤ a % max 1 (k : Int) ∧ a % max 1 (k : Int) < max 1 (k : Int) := ⟨Int.emod_nonneg _ (by omega), Int.emod_lt_of_pos _ (by omega)⟩
    have hj : 0 ≤ a / 16 % max 1 (k : Int) ∧ a / 16 % max 1 (k : Int) < max 1 (k : Int) := ⟨Int.emod_nonneg _ (by omega), Int.emod_lt_of_pos _ (by omega)⟩
    generalize a % max 1 (k : Int) = i at hi
    generalize a / 16 % max 1 (k : Int) = j at hj
    have app : ∀ {E : DE} {te : TE} (g : Form), FOk k g → (∀ δ, (∃ (fs : List Form) (s3 s4 s5 s6 s7 : Sl), δ = [.dat (.list (ns.map PyData.int)), nI (most : Int), .own (fs.map encF), s3, s4, s5, s6, s7] ∧ fs.length = k + 1 ∧ FsOk fs) → E.nx δ) → EvS K B H te [.dat (.list (ns.map PyData.int)), nI (most : Int), .own (fs.map encF), nI fg, nI kd, nI a, nI i, nI j] (.dat (encF g)) → SD K B H (fun _ _ _ _ => False) (tDrop (tBM K "list" rAppend (tVar 2) (tCons te tNil))) [.dat (.list (ns.map PyData.int)), nI (most : Int), .own (fs.map encF), nI fg, nI kd, nI a, nI i, nI j] E := fun {E te} g hg hE he => by
      refine sd_app rfl he (by rw [List.length_map]; omega) (hE _ ⟨fs ++ [g], nI fg, nI kd, nI a, nI i, nI j, ?_, ?_, ?_⟩)
      · rw [List.map_append]
        rfl
      · rw [List.length_append, hk]
        rfl
      · exact hfs.app (by rw [hk]; exact hg)
    refine sd_if (b_is (c := decide (kd < 3) || decide (fs = [])) (b_or (b_test (d_b0 (d_var rfl) d_ci)) fun _ => b_test (d_eqO rfl (shp_lst (shp_F hfs.nm)).ok)) (by
      congr 1
      exact decide_eq_decide.mpr List.map_eq_nil_iff)) (fun hb3 => ?_) (fun hb3 => ?_)
    · obtain ⟨q, hq, h1, h2⟩ := den_at a
      refine app (numberL, [a * 41 % 401 - 200, q]) (fok_number k (by omega) h1 (by omega)) (fun δ h => h) ?_
      exact d_tup (ds_cons (d_cs (x := S numberL)) (ds_cons (d_i0 (d_iC (d_iC (d_int (d_var rfl)) d_ci (mul_big 41 hba)) d_ci (by decide)) d_ci) (ds_cons (d_ixL (d_new (n_lst (ds_cons d_ci (ds_cons d_ci (ds_cons (d_i0 d_ci (d_iC (d_iC (d_var rfl) d_ci ⟨by decide, by decide⟩) d_ci (by decide))) (ds_cons (d_i0 d_ci (d_iC (d_iC (d_int (d_var rfl)) d_ci (mul_big 7 hba)) d_ci (by decide))) ds_nil)))))) (d_iC (d_iC (d_var rfl) d_ci ⟨by decide, by decide⟩) d_ci (by decide)) hq) ds_nil)))
    · simp only [Bool.or_eq_false_iff, decide_eq_false_iff_not] at hb3
      obtain ⟨hk3, hne⟩ := hb3
      have hkp : 0 < k := by
        rw [← hk]
        exact List.length_pos_iff.mpr hne
      have hi2 : 0 ≤ i ∧ i < (k : Int) := by omega
      have hj2 : 0 ≤ j ∧ j < (k : Int) := by omega
      refine sd_if (b_test (d_eqI (d_var rfl) d_ci)) (fun hb4 => ?_) (fun hb4 => ?_)
      · exact app (piL, []) (fok_pi k) (fun δ h => h) (d_tup (ds_cons (d_cs (x := S piL)) ds_nil))
      have h4 : ¬ kd = 3 := of_decide_eq_false hb4
      refine sd_if (b_test (d_b0 (d_var rfl) d_ci)) (fun hb5 => ?_) (fun hb5 => ?_)
      · obtain ⟨x, hx, hmem⟩ := two_at (m := kd) (by omega) (of_decide_eq_true hb5)
        exact app (x, [i, j]) (fok_two hmem hi2 hj2 (by omega)) (fun δ h => h) (d_tup (ds_cons (d_ixL (d_new (n_lst (ds_cons (d_cs (x := S [97, 100, 100])) (ds_cons (d_cs (x := S [115, 117, 98, 116, 114, 97, 99, 116])) (ds_cons (d_cs (x := S [116, 105, 109, 101, 115])) (ds_cons (d_cs (x := S [100, 105, 118, 105, 100, 101])) ds_nil)))))) (d_i0 (d_var rfl) d_ci) hx) (ds_cons (d_var rfl) (ds_cons (d_var rfl) ds_nil))))
      · have h8 : 8 ≤ kd := by
          have := of_decide_eq_false hb5
          omega
        obtain ⟨x, hx, hmem⟩ := one_at (m := kd) h8 hkind.2
        exact app (x, [i]) (fok_one hmem hi2 (by omega)) (fun δ h => h) (d_tup (ds_cons (d_ixL (d_new (n_lst (ds_cons (d_cs (x := S [114, 111, 111, 116])) (ds_cons (d_cs (x := S [115, 105, 110, 101])) (ds_cons (d_cs (x := S [99, 111, 115, 105, 110, 101])) (ds_cons (d_cs (x := S [101, 120, 112])) (ds_cons (d_cs (x := S [108, 111, 103])) (ds_cons (d_cs (x := S [97, 114, 99, 116, 97, 110])) (ds_cons (d_cs (x := S [97, 114, 99, 115, 105, 110, 101])) (ds_cons (d_cs (x := S [97, 114, 99, 99, 111, 115, 105, 110, 101])) ds_nil)))))))))) (d_i0 (d_var rfl) d_ci) hx) (ds_cons (d_var rfl) ds_nil)))
  · obtain ⟨fs, s3, s4, s5, s6, s7, rfl, hk, hfs⟩ := hq
    rw [List.length_map] at hk
    refine sd_freeze (n := 2) rfl ?_
    refine sd_ret (d_tupL (d_var rfl)) ⟨fs, rfl, hk, hfs⟩
/-! ### the law -/
def spLaw (K : PySem.W.Frag) : Sp := fun vs H Q _ => ∃ (a : Addr) (ns : List Int), vs = [.ref a] ∧ SqL K H a (ns.map V.int) ∧ ns.length ≤ 63 ∧ (∀ z ∈ ns, Builtin.Int.intBits z ≤ 1048576) ∧ ∀ H', Q (.bl true) H'
open Dd in
theorem frm_of {k : Nat} {f : Form} (h : FOk k f) : Frm f := ⟨h.nm, h.few, h.sm⟩
theorem FsOk.get {fs : List Form} (h : FsOk fs) {f : Form} (hf : f ∈ fs) : ∃ k, FOk k f := by
  obtain ⟨k, hk, e⟩ := List.mem_iff_getElem.mp hf
  exact ⟨k, h k f (by rw [List.getElem?_eq_getElem hk, e])⟩
abbrev linesD (D : List (List Word)) : List PyData := (D.map lineL).map encT
abbrev wordsD (ws : List Word) : List PyData := ws.map encT
theorem lines_set (D : List (List Word)) (i : Nat) (ws : List Word) : (linesD D).set i (encT (lineL ws)) = linesD (D.set i ws) := by
  unfold linesD
  rw [List.map_set, List.map_set]
abbrev linesOf (D : List (List Word)) : List Word := D.map lineL
theorem words_set (ws : List Word) (i : Nat) (v : Word) : (wordsD ws).set i (encT v) = wordsD (ws.set i v) := by
  unfold wordsD
  rw [List.map_set]
/-- the item behind a place below eight -/
theorem pick_at {A : Type} (f : A → PyData) {l : List A} (hl : l.length = 8) {p : Int} (h0 : 0 ≤ p) (h1 : p < 8) : ∃ v, atI (l.map f) p = some (f v) ∧ v ∈ l := by
  obtain ⟨n, rfl⟩ := Int.eq_ofNat_of_zero_le h0
  have hn : n < l.length := by omega
  exact ⟨l[n], atI_nat (by rw [List.getElem?_map, List.getElem?_eq_getElem hn]; rfl), List.getElem_mem hn⟩
/-- an item of a step -/
abbrev encI : Word ⊕ Int → PyData
  | .inl x => encT x
  | .inr i => .int i
abbrev txtI : Word ⊕ Int → Word
  | .inl x => x
  | .inr i => Tx.intL i
def itemsOf (f : Form) : List (Word ⊕ Int) := .inl f.1 :: f.2.map .inr
theorem items_enc (f : Form) : (itemsOf f).map encI = encT f.1 :: f.2.map PyData.int := by
  unfold itemsOf
  rw [List.map_cons, List.map_map]
  rfl
theorem items_txt (f : Form) : (itemsOf f).map txtI = f.1 :: f.2.map Tx.intL := by
  unfold itemsOf
  rw [List.map_cons, List.map_map]
  rfl
theorem sum_len (ys : List Word) : (ys.map (·.length)).sum ≤ (ys.flatten).length := by
  rw [List.length_flatten]
  exact Nat.le_refl _
theorem join_sum {c : Nat} : ∀ ys : List (List Nat), (ys.map fun x : List Nat => x.length).sum + ys.length ≤ (TL.joinL [c] ys).length + 1
  | [] => Nat.zero_le _
  | [y] => by
    show y.length + 0 + 1 ≤ y.length + 1
    omega
  | y :: z :: r => by
    have ih := join_sum (c := c) (z :: r)
    show y.length + ((z :: r).map fun x : List Nat => x.length).sum + ((z :: r).length + 1) ≤ (y ++ ([c] ++ TL.joinL [c] (z :: r))).length + 1
    rw [List.length_append, List.length_append]
    show _ ≤ y.length + (1 + (TL.joinL [c] (z :: r)).length) + 1
    omega
theorem set_same {A : Type} {l : List A} {i : Nat} {x : A} (h : l[i]? = some x) : l.set i x = l := by
  obtain ⟨hi, rfl⟩ := List.getElem?_eq_some_iff.mp h
  exact List.set_getElem_self hi
open Dd in
/-- the paper at the end: none, or one that is refused -/
def endP (D : List (List Word)) : Pap := if D = [] then .cut [] else .doc D
open Dd in
theorem endP_ok {D : List (List Word)} (h : D = [] ∨ Rej D) : (endP D).txt = textD D ∧ (endP D).pre ∧ (endP D).ok = none := by
  unfold endP
  rcases h with rfl | ⟨h1, h2, h3⟩
  · rw [if_pos rfl]
    exact ⟨rfl, ⟨Nat.zero_le _, ends_empty⟩, rfl⟩
  · rw [if_neg h1]
    refine ⟨rfl, ⟨h1, h2⟩, ?_⟩
    show (if okD D = true then some () else none) = none
    rw [if_neg (by rw [h3]; exact fun z => (nomatch z))]
open Dd
open Rb (op_mul_sn)
abbrev envL (K : PySem.W.Frag) (ns : List Int) (dg : Nat) (fs : List Form) (s4 : Sl) (way pick : Int) (j : Nat) (D : List (List Word)) (ws : List Word) : List Sl := [.sem (scrP K ns), nI (dg : Int), .dat (.tuple (fs.map encF)), .own (linesD D), s4, .no, nI way, nI pick, nI ((j + 1 : Nat) : Int), .own (wordsD ws), nS (S longL), .no]
/-- what is known ahead of the i-th way -/
def MW (K : PySem.W.Frag) (ns : List Int) (dg : Nat) (fs : List Form) (s4 : Sl) (way pick : Int) (j : Nat) (N : Int) (row : List Word) (i : Int) (δ : List Sl) : Prop := ∃ (D : List (List Word)) (ws : List Word), δ = envL K ns dg fs s4 way pick j D ws ∧ D.length = fs.length + 1 ∧ ((way < i ∧ Rej (D.set (j + 1) ws)) ∨ (i ≤ way ∧ D = docOf N fs ∧ ws = row))
theorem MW.skip {ns : List Int} {dg : Nat} {fs : List Form} {s4 : Sl} {way pick : Int} {j : Nat} {N : Int} {row : List Word} {i i' : Int} {D : List (List Word)} {ws : List Word} (hl : D.length = fs.length + 1) (h : (way < i ∧ Rej (D.set (j + 1) ws)) ∨ (i ≤ way ∧ D = docOf N fs ∧ ws = row)) (hi : i' = i + 1) (hb : decide (way = i) = false) : MW K ns dg fs s4 way pick j N row i' (envL K ns dg fs s4 way pick j D ws) := by
  have hb := of_decide_eq_false hb
  rcases h with ⟨h1, h2⟩ | ⟨h1, h2⟩
  · exact ⟨D, ws, rfl, hl, .inl ⟨by omega, h2⟩⟩
  · exact ⟨D, ws, rfl, hl, .inr ⟨by omega, h2⟩⟩
theorem MW.here {fs : List Form} {way : Int} {j : Nat} {N : Int} {row : List Word} {i : Int} {D : List (List Word)} {ws : List Word} (h : (way < i ∧ Rej (D.set (j + 1) ws)) ∨ (i ≤ way ∧ D = docOf N fs ∧ ws = row)) (hb : decide (way = i) = true) : way = i ∧ D = docOf N fs ∧ ws = row := by
  have hb := of_decide_eq_true hb
  rcases h with ⟨h1, _⟩ | ⟨_, h2⟩
  · omega
  · exact ⟨hb, h2⟩
theorem ok_law {f f0 f1 f2 f3 f4 f5 f6 f7 f8 f9 f10 f11 f12 f13 CI CP D0 : Addr} {fd fd0 fd1 fd2 fd3 fd4 fd5 fd6 fd7 fd8 fd9 fd10 fd11 fd12 fd13 : FuncData} {t0 t1 t2 : Tok} (F : Fun K "law" "law" s_law f fd) (T : Errs K mg "InvalidText" CI CP)
    (F_is_integer : Fun K "is_integer" "is_integer" s_is_integer f0 fd0) (F_are_integers : Fun K "are_integers" "are_integers" s_are_integers f1 fd1) (F_is_formula : Fun K "is_formula" "is_formula" s_is_formula f2 fd2) (F_is_step : Fun K "is_step" "is_step" s_is_step f3 fd3) (F_is_paper : Fun K "is_paper" "is_paper" s_is_paper f4 fd4) (F_is_enclosure : Fun K "is_enclosure" "is_enclosure" s_is_enclosure f5 fd5) (F_read_paper : Fun K "read_paper" "read_paper" s_read_paper f6 fd6) (F_read_head : Fun K "read_head" "read_head" s_read_head f7 fd7) (F_read_row : Fun K "read_row" "read_row" s_read_row f8 fd8) (F_read_number : Fun K "read_number" "read_number" s_read_number f9 fd9) (F_law_cell : Fun K "_law_cell" "_law_cell" s_law_cell f10 fd10) (F_law_numbers : Fun K "_law_numbers" "_law_numbers" s_law_numbers f11 fd11) (F_law_formula : Fun K "_law_formula" "_law_formula" s_law_formula f12 fd12) (F_law_refused : Fun K "_law_refused" "_law_refused" s_law_refused f13 fd13)
    (b_is_integer : Binds K fd0 ["value"] []) (b_are_integers : Binds K fd1 ["values"] []) (b_is_formula : Binds K fd2 ["value"] []) (b_is_step : Binds K fd3 ["step", "place"] []) (b_is_paper : Binds K fd4 ["value"] []) (b_is_enclosure : Binds K fd5 ["value"] []) (b_read_paper : Binds K fd6 ["text"] []) (b_read_head : Binds K fd7 ["line"] []) (b_read_row : Binds K fd8 ["line"] []) (b_read_number : Binds K fd9 ["word"] []) (b_law_cell : Binds K fd10 ["script", "k"] []) (b_law_numbers : Binds K fd11 ["script", "first", "most"] []) (b_law_formula : Binds K fd12 ["numbers", "most"] []) (b_law_refused : Binds K fd13 ["text"] [])
    (g_is_integer : mg "is_integer" = some (.ref f0)) (g_are_integers : mg "are_integers" = some (.ref f1)) (g_is_formula : mg "is_formula" = some (.ref f2)) (g_is_step : mg "is_step" = some (.ref f3)) (g_is_paper : mg "is_paper" = some (.ref f4)) (g_is_enclosure : mg "is_enclosure" = some (.ref f5)) (g_read_paper : mg "read_paper" = some (.ref f6)) (g_read_head : mg "read_head" = some (.ref f7)) (g_read_row : mg "read_row" = some (.ref f8)) (g_read_number : mg "read_number" = some (.ref f9)) (g_law_cell : mg "_law_cell" = some (.ref f10)) (g_law_numbers : mg "_law_numbers" = some (.ref f11)) (g_law_formula : mg "_law_formula" = some (.ref f12)) (g_law_refused : mg "_law_refused" = some (.ref f13))
    (g_FEWEST_BITS : mg "FEWEST_BITS" = some (.int 8 t0)) (g_MOST_BITS : mg "MOST_BITS" = some (.int 4096 t1)) (g_MOST_DIGITS : mg "MOST_DIGITS" = some (.int 2000 t2)) (g_COUNTS : mg "COUNTS" = some (.ref D0)) (CN : Counts K w D0)
    (m_len : mg "len" = none) (m_abs : mg "abs" = none) (m_int : mg "int" = none) (m_bool : mg "bool" = none) (m_str : mg "str" = none) (m_isinstance : mg "isinstance" = none) (m_tuple : mg "tuple" = none) (m_range : mg "range" = none) (m_max : mg "max" = none) (m_enumerate : mg "enumerate" = none) : FnOk P w K mg base CX0 7 f fd ["script"] (spLaw K) := by
  have G_is_step : FnOk P w K mg base CX0 3 f3 fd3 ["step", "place"] (spStep K) := ok_step F_is_step F_is_integer b_is_integer g_is_integer F_are_integers b_are_integers g_are_integers g_COUNTS CN m_isinstance m_int m_bool m_len m_tuple m_str
  have G_is_formula : FnOk P w K mg base CX0 4 f2 fd2 ["value"] (spForm K) := ok_form F_is_formula F_is_step G_is_step b_is_step g_is_step m_isinstance m_len m_tuple m_enumerate
  have G_is_enclosure : FnOk P w K mg base CX0 3 f5 fd5 ["value"] (spEncl K) := ok_encl F_is_enclosure F_is_integer b_is_integer g_is_integer F_are_integers b_are_integers g_are_integers m_isinstance m_int m_bool m_len m_tuple
  have G_is_paper : FnOk P w K mg base CX0 4 f4 fd4 ["value"] (spPap K) := ok_pap F_is_paper F_is_integer b_is_integer g_is_integer F_is_enclosure G_is_enclosure b_is_enclosure g_is_enclosure g_FEWEST_BITS g_MOST_BITS m_isinstance m_int m_bool m_len m_tuple
  have G_read_number : FnOk P w K mg base (L2.CX P w) 1 f9 fd9 ["word"] (spNum K CI) := ok_number F_read_number T g_MOST_DIGITS m_len m_int
  have G_read_head : FnOk P w K mg base (L2.CX P w) 2 f7 fd7 ["line"] (spHead K CI) := ok_head F_read_head T G_read_number F_read_number b_read_number g_read_number m_len
  have G_read_row : FnOk P w K mg base (L2.CX P w) 2 f8 fd8 ["line"] (spRow K CI) := ok_row F_read_row T G_read_number F_read_number b_read_number g_read_number m_len
  have G_read_paper : FnOk P w K mg base (L2.CX P w) 5 f6 fd6 ["text"] (spRead K CI) := ok_read F_read_paper T G_read_head F_read_head b_read_head g_read_head G_read_row F_read_row b_read_row g_read_row G_is_formula F_is_formula b_is_formula g_is_formula G_is_paper F_is_paper b_is_paper g_is_paper m_tuple
  have G_law_cell : FnOk P w K mg base CX0 1 f10 fd10 ["script", "k"] (spCell K) := ok_cell F_law_cell m_len
  have G_law_numbers : FnOk P w K mg base CX0 1 f11 fd11 ["script", "first", "most"] (spNumbers K) := ok_numbers F_law_numbers m_len m_abs m_int m_range
  have G_law_formula : FnOk P w K mg base CX0 1 f12 fd12 ["numbers", "most"] (spLForm K) := ok_lform F_law_formula m_len m_int m_max m_tuple
  have G_law_refused : FnOk P w K mg base CX0 6 f13 fd13 ["text"] (spRef K) := ok_refused F_law_refused T G_read_paper F_read_paper b_read_paper g_read_paper m_isinstance
  refine F.ok sc_law (fun vs H Q E h => ?_) (fun cdv A outer s H vs Q E hr h => ?_)
  · obtain ⟨a, ns, rfl, _⟩ := h
    rfl
  · obtain ⟨sa, ns, rfl, hS, hl, hbits, fin⟩ := h
    refine ⟨_, (pss_cons (ps_set (i := 1) sc_law.nd rfl (.inl rfl) (pe_callB call_abs (by rfl) m_abs (by decide +kernel) (pa_cons (pe_call G_law_cell (hr.mono (by decide)) (by rfl) g_law_cell F_law_cell.kp b_law_cell .nil pass0 (pa_cons (pv 0) (pa_cons pe_int pa_nil))) pa_nil)))
        (pss_cons (ps_set (i := 2) sc_law.nd rfl (.inl rfl) (pe_call G_law_formula (hr.mono (by decide)) (by rfl) g_law_formula F_law_formula.kp b_law_formula .nil pass0 (pa_cons (pe_op op_cat (pe_call G_law_numbers (hr.mono (by decide)) (by rfl) g_law_numbers F_law_numbers.kp b_law_numbers .nil pass0 (pa_cons (pv 0) (pa_cons pe_int (pa_cons pe_int pa_nil)))) (pe_lst (pa_cons (pv 1) pa_nil))) (pa_cons (pe_op op_add pe_int (pe_op op_mod (pe_callTy call_int1 (by rfl) m_int (by decide +kernel) (pa_cons (pv 1) pa_nil)) pe_int)) pa_nil))))
        (pss_cons (ps_set (i := 3) sc_law.nd rfl (.inl rfl) (pe_lst (pa_cons (pe_op op_add_str pe_str (pe_callTy call_str_int (by rfl) m_str (by decide +kernel) (pa_cons (pe_op op_add pe_int (pe_op op_mod (pe_op op_fdiv (pv 1) pe_int) pe_int)) pa_nil))) pa_nil)))
        (pss_cons (ps_for PassesOwn.never rfl (pi_range1 (by rfl) m_range (pa_cons (pe_callB call_len (by rfl) m_len (by decide +kernel) (pa_cons (pv 2) pa_nil)) pa_nil)) (pg_name (i := 4) sc_law.nd rfl (.inl rfl)) (pss_one (ps_expr (pe_bm PySem.F.plainAttrs_list PySem.F.slot_list_append PySem.F.type_list_append mt_append (pv 3) (pa_cons (pe_op op_add_str (pe_op op_add_str (pe_op op_add_str (pe_op op_add_str (pe_join pe_str (pe_lc (own := [("item", 5)]) (g := gName 5) rfl sc_law.nd (pi_tup (pe_ix ix_tup (pv 2) (pv 4) (fun _ _ => rfl))) (blkOk_by (own := [("item", 5)]) (N := ["script", "digit", "formula", "lines", "k", "item", "way", "pick", "at", "words", "long", "line"]) (sc := defScope s_law) (by decide +kernel)) (fun _ _ _ _ _ => (pg_name (i := 5) sc_law.nd rfl (.inl rfl))) (fun _ _ _ _ _ => pts_nil) (fun _ _ _ _ _ => (pe_callTy (T := "str") (r := rStrAny) call_str_any (by rfl) m_str (by decide +kernel) (pa_cons (pv 5) pa_nil))))) pe_str) (pe_callTy call_str_int (by rfl) m_str (by decide +kernel) (pa_cons (pe_op op_sub (pv 4) pe_int) pa_nil))) pe_str) (pe_callTy call_str_int (by rfl) m_str (by decide +kernel) (pa_cons (pv 4) pa_nil))) pa_nil)))))
        (pss_cons (ps_expr (pe_call G_read_paper (hr.mono (by decide)) (by rfl) g_read_paper F_read_paper.kp b_read_paper .nil passL (pa_cons (pe_op op_add_str (pe_join pe_str (pv 3)) pe_str) pa_nil)))
        (pss_cons (ps_set (i := 6) sc_law.nd rfl (.inl rfl) (pe_op op_mod (pe_op op_fdiv (pv 1) pe_int) pe_int))
        (pss_cons (ps_set (i := 7) sc_law.nd rfl (.inl rfl) (pe_op op_mod (pe_op op_fdiv (pv 1) pe_int) pe_int))
        (pss_cons (ps_set (i := 8) sc_law.nd rfl (.inl rfl) (pe_op op_add pe_int (pe_op op_mod (pe_op op_fdiv (pv 1) pe_int) (pe_op op_sub (pe_callB call_len (by rfl) m_len (by decide +kernel) (pa_cons (pv 3) pa_nil)) pe_int))))
        (pss_cons (ps_set (i := 9) sc_law.nd rfl (.inl rfl) (pe_split (pe_ix ix_list (pv 3) (pv 8) (fun _ _ => rfl)) pe_str))
        (pss_cons (ps_set (i := 10) sc_law.nd rfl (.inl rfl) (pe_op op_add_str pe_str (pe_op op_mul_sn pe_str pe_int)))
        (pss_cons (ps_if (pt_cmpR op_eq (pv 6) pe_int (nomark _)) (pss_one (ps_ret (pe_call G_law_refused (hr.mono (by decide)) (by rfl) g_law_refused F_law_refused.kp b_law_refused .nil pass0 (pa_cons (pe_join pe_str (pv 3)) pa_nil)))) pss_nil)
        (pss_cons (ps_if (pt_cmpR op_eq (pv 6) pe_int (nomark _)) (pss_one (ps_asg (pe_ix ix_list (pe_lst (pa_cons pe_str (pa_cons pe_str (pa_cons pe_str (pa_cons pe_str (pa_cons pe_str (pa_cons pe_str (pa_cons pe_str (pa_cons pe_str pa_nil))))))))) (pv 7) (fun _ _ => rfl)) (pg_sub (pv 3) pe_int set_list))) pss_nil)
        (pss_cons (ps_if (pt_cmpR op_eq (pv 6) pe_int (nomark _)) (pss_one (ps_asg (pe_ix ix_list (pe_lst (pa_cons pe_str (pa_cons pe_str (pa_cons pe_str (pa_cons pe_str (pa_cons pe_str (pa_cons pe_str (pa_cons pe_str (pa_cons (pv 10) pa_nil))))))))) (pv 7) (fun _ _ => rfl)) (pg_sub (pv 9) (pe_op op_sub (pe_callB call_len (by rfl) m_len (by decide +kernel) (pa_cons (pv 9) pa_nil)) pe_int) set_list))) pss_nil)
        (pss_cons (ps_if (pt_cmpR op_eq (pv 6) pe_int (nomark _)) (pss_one (ps_asg (pe_ix ix_list (pe_lst (pa_cons (pe_callTy call_str_int (by rfl) m_str (by decide +kernel) (pa_cons (pe_op op_add (pv 8) pe_int) pa_nil)) (pa_cons pe_str (pa_cons pe_str (pa_cons pe_str (pa_cons (pv 10) (pa_cons pe_str (pa_cons pe_str (pa_cons pe_str pa_nil))))))))) (pv 7) (fun _ _ => rfl)) (pg_sub (pv 9) (pe_op op_sub (pe_callB call_len (by rfl) m_len (by decide +kernel) (pa_cons (pv 9) pa_nil)) pe_int) set_list))) pss_nil)
        (pss_cons (ps_if (pt_cmpR op_eq (pv 6) pe_int (nomark _)) (pss_one (ps_expr (pe_bm PySem.F.plainAttrs_list PySem.F.slot_list_insert PySem.F.type_list_insert mt_insD (pv 9) (pa_cons (pe_op op_mod (pe_callTy call_int1 (by rfl) m_int (by decide +kernel) (pa_cons (pv 7) pa_nil)) (pe_callB call_len (by rfl) m_len (by decide +kernel) (pa_cons (pv 9) pa_nil))) (pa_cons pe_str pa_nil))))) pss_nil)
        (pss_cons (ps_if (pt_cmpR op_eq (pv 6) pe_int (nomark _)) (pss_one (ps_asg (pe_ix ix_list (pe_lst (pa_cons pe_str (pa_cons pe_str (pa_cons pe_str (pa_cons pe_str (pa_cons pe_str (pa_cons pe_str (pa_cons pe_str (pa_cons pe_str pa_nil))))))))) (pv 7) (fun _ _ => rfl)) (pg_sub (pv 9) pe_int set_list))) pss_nil)
        (pss_cons (ps_if (pt_cmpR op_eq (pv 6) pe_int (nomark _)) (pss_one (ps_expr (pe_bm PySem.F.plainAttrs_list PySem.F.slot_list_pop PySem.F.type_list_pop mt_popAt (pv 9) (pa_cons (pe_op op_sub (pe_callB call_len (by rfl) m_len (by decide +kernel) (pa_cons (pv 9) pa_nil)) pe_int) pa_nil)))) pss_nil)
        (pss_cons (ps_if (pt_cmpR op_eq (pv 6) pe_int (nomark _)) (pss_one (ps_expr (pe_bm PySem.F.plainAttrs_list PySem.F.slot_list_append PySem.F.type_list_append mt_append (pv 9) (pa_cons pe_str pa_nil)))) pss_nil)
        (pss_cons (ps_asg (pe_join pe_str (pv 9)) (pg_sub (pv 3) (pv 8) set_list))
        (pss_cons (ps_if (pt_cmpR op_eq (pv 6) pe_int (nomark _)) (pss_one (ps_set (i := 3) sc_law.nd rfl (.inl rfl) (pe_ix ix_list (pe_lst (pa_cons (pe_lst pa_nil) (pa_cons (pe_slice sl_list (pv 3) po_none (po_some pe_int)) (pa_cons (pe_slice sl_list (pv 3) (po_some pe_int) po_none) (pa_cons (pe_op op_cat (pe_lst (pa_cons pe_str pa_nil)) (pv 3)) (pa_cons (pe_slice sl_list (pv 3) po_none (po_some pe_int)) (pa_cons (pe_slice sl_list (pv 3) (po_some pe_int) po_none) (pa_cons (pe_lst pa_nil) (pa_cons (pe_slice sl_list (pv 3) po_none (po_some pe_int)) pa_nil))))))))) (pv 7) (fun _ _ => rfl)))) pss_nil)
        (pss_one (ps_ret (pe_call G_law_refused (hr.mono (by decide)) (by rfl) g_law_refused F_law_refused.kp b_law_refused .nil pass0 (pa_cons (pe_join pe_str (pe_lc (own := [("line", 11)]) (g := gName 11) rfl sc_law.nd (pi_list (pv 3)) (blkOk_by (own := [("line", 11)]) (N := ["script", "digit", "formula", "lines", "k", "item", "way", "pick", "at", "words", "long", "line"]) (sc := defScope s_law) (by decide +kernel)) (fun _ _ _ _ _ => (pg_name (i := 11) sc_law.nd rfl (.inl rfl))) (fun _ _ _ _ _ => pts_nil) (fun _ _ _ _ _ => (pe_op op_add_str (pv 11) pe_str)))) pa_nil)))))))))))))))))))))))), run_law hS fin (n := 11) rfl fun B => ?_⟩
    have hbig : Big (((cellOf ns 0).natAbs : Nat) : Int) := big_abs (big_cell hbits 0)
    refine q_asg [_, nI (((cellOf ns 0).natAbs : Nat) : Int), _, _, _, _, _, _, _, _, _, _] (d_abs (d_callF (ns, 0) (a_cons (d_var rfl) (a_cons d_ci a_nil)) trivial)) ?_
    generalize (cellOf ns 0).natAbs = dg at hbig
    -- the formula
    refine q_asgR (r_call2 (enc := fun a : List Int × Nat => [.dat (.list (a.1.map PyData.int)), nI (a.2 : Int)]) (P0 := fun d => ∃ ms : List Nat, d = .list ((ms.map (fun n : Nat => (n : Int)) ++ [(dg : Int)]).map PyData.int) ∧ ms.length ≤ 8 ∧ ∀ m ∈ ms, m < 4096) (s2 := nI ((1 + dg % 8 : Nat) : Int)) (r_imp (r_newR (nr_catL (P0 := fun ds => ∃ ms : List Nat, ds = ms.map encN ∧ GoodN 8 ms) (es := [.int (dg : Int)]) (r_imp (r_call (ns, 1, 8) (a_cons (d_var rfl) (a_cons d_ci (a_cons d_ci a_nil))) ⟨hl, (show 1 ≤ 100 by decide), (show 8 ≤ 100 by decide)⟩) (fun d ⟨ms, e, g⟩ => ⟨ms.map encN, e, ms, rfl, g⟩)) (d_new (n_lst (ds_cons (d_var rfl) ds_nil))) (fun ds ⟨ms, e, g⟩ => by
      rw [e, List.length_map]
      have : ms.length ≤ 8 := g.1
      show ms.length + 1 ≤ 100000
      omega))) (fun d ⟨fs, ⟨ds, ⟨ms, e, g⟩, e2⟩, e3⟩ => ⟨ms, by
      rw [e3, e2, e, List.map_append, List.map_map]
      rfl, g⟩)) (d_isI (d_i0 d_ci (d_iC (d_int (d_var rfl)) d_ci (by decide))) (by omega)) (fun d ⟨ms, e, hms⟩ => ⟨(ms.map (fun n : Nat => (n : Int)) ++ [(dg : Int)], 1 + dg % 8), by rw [e], ⟨by
      show (ms.map (fun n : Nat => (n : Int)) ++ [(dg : Int)]).length ≤ 200
      rw [List.length_append, List.length_map]
      show ms.length + 1 ≤ 200
      have := hms.1
      omega, by show 1 + dg % 8 ≤ 100; omega, fun n hn => by
      rcases List.mem_append.mp hn with z | z
      · obtain ⟨m, hm, rfl⟩ := List.mem_map.mp z
        have := hms.2 m hm
        exact ⟨by omega, big_k (k := 5000) (by omega)⟩
      · rw [List.mem_singleton.mp z]
        exact ⟨by omega, hbig⟩⟩⟩)) fun d hd => ?_
    obtain ⟨⟨as, mo⟩, d0, ⟨ms, e0, hms, _⟩, ea, fs, rfl, hfl, hfs⟩ := hd
    have hlen : fs.length ≤ 8 ∧ fs ≠ [] := by
      rw [e0] at ea
      have e1 := (List.cons.inj ea).1
      have e2 := (List.cons.inj (List.cons.inj ea).2).1
      have h1 : as.map PyData.int = (ms.map (fun n : Nat => (n : Int)) ++ [(dg : Int)]).map PyData.int := PyData.list.inj (Sl.dat.inj e1)
      have h2 : (mo : Int) = ((1 + dg % 8 : Nat) : Int) := PyData.int.inj (Sl.dat.inj e2)
      have h3 := congrArg List.length h1
      rw [List.length_map, List.length_map, List.length_append, List.length_map] at h3
      have h4 : [(dg : Int)].length = 1 := rfl
      have hfl : fs.length = (as.take mo).length := hfl
      rw [List.length_take] at hfl
      exact ⟨by omega, fun z => by
        rw [z] at hfl
        have : ([] : List Form).length = 0 := rfl
        omega⟩
    obtain ⟨hl8, hne⟩ := hlen
    clear ea e0 hfl hms
    have hN0 : 8 ≤ 8 + (dg : Int) / 8 % 90 ∧ 8 + (dg : Int) / 8 % 90 ≤ 4096 := by omega
    have hpick0 : 0 ≤ (dg : Int) / 16384 % 8 ∧ (dg : Int) / 16384 % 8 < 8 := by omega
    have hway0 : 0 ≤ (dg : Int) / 1024 % 9 ∧ (dg : Int) / 1024 % 9 < 9 := by omega
    have hfrm : ∀ f ∈ fs, Frm f := fun f hf => by
      obtain ⟨k, h⟩ := hfs.get hf
      exact frm_of h
    refine sd_env (δ1 := [.sem (scrP K ns), nI (dg : Int), .dat (.tuple (fs.map encF)), .no, .no, .no, .no, .no, .no, .no, .no, .no]) rfl ?_
    -- the lines
    refine q_asgO [_, _, _, .own (linesD [[paperL, Tx.intL (8 + (dg : Int) / 8 % 90)]]), _, _, _, _, _, _, _, _] (n_lst (ds_cons (d_is (s' := .dat (encT (lineL [paperL, Tx.intL (8 + (dg : Int) / 8 % 90)]))) (d_cat (a := [112, 97, 112, 101, 114, 32]) (b := Tx.intL (8 + (dg : Int) / 8 % 90)) (d_cs (x := S [112, 97, 112, 101, 114, 32])) (d_strI (d_i0 d_ci (d_iC (d_iC (d_var rfl) d_ci ⟨by decide, by decide⟩) d_ci (by decide))) (sm_of (k := 100) (by omega) (by decide +kernel))) (by
      have := int_len (i := 8 + (dg : Int) / 8 % 90) (by omega)
      show 6 + (Tx.intL (8 + (dg : Int) / 8 % 90)).length ≤ 100000
      omega)) rfl) ds_nil)) ?_
    generalize 8 + (dg : Int) / 8 % 90 = N at hN0
    have bs : Base N fs := ⟨hN0, hfrm, by omega, hne⟩
    refine q_for (w_nat (n := fs.length) (ds_cons (d_isI (d_lenT (d_var rfl)) (by rw [List.length_map])) ds_nil) (by omega)) (fun k δ => ∃ s4 : Sl, δ = [.sem (scrP K ns), nI (dg : Int), .dat (.tuple (fs.map encF)), .own (linesD ((docOf N fs).take (k + 1))), s4, .no, .no, .no, .no, .no, .no, .no]) ⟨_, rfl⟩ (fun k d δ' hd hq => ?_) (fun δ' hq => ?_)
    · obtain ⟨s4, rfl⟩ := hq
      obtain ⟨hk, rfl⟩ := nats_get hd
      refine ⟨_, _, g_name, ?_⟩
      refine sd_env (δ1 := [.sem (scrP K ns), nI (dg : Int), .dat (.tuple (fs.map encF)), .own (linesD ((docOf N fs).take (k + 1))), nI (k : Int), .no, .no, .no, .no, .no, .no, .no]) rfl ?_
      have hat : atI (fs.map encF) (k : Int) = some (encF fs[k]) := atI_nat (by rw [List.getElem?_map, List.getElem?_eq_getElem hk]; rfl)
      have F1 := hfrm _ (List.getElem_mem hk)
      have hrow := rows_at (N := N) hk
      generalize fs[k] = fk at hat F1 hrow
      obtain ⟨hw20, hw6⟩ := row_words (k := k) F1 (by omega)
      have hjl : (TL.joinL [32] (fk.1 :: fk.2.map Tx.intL)).length ≤ 100 := by
        have h1 := line_len (c := 20) (ws := fk.1 :: fk.2.map Tx.intL) fun w hw => hw20 w (by
          rcases List.mem_cons.mp hw with z | z
          · rw [z]
            exact List.mem_cons_self ..
          · exact List.mem_cons_of_mem _ (List.mem_append_left _ z))
        have h2 : (fk.1 :: fk.2.map Tx.intL).length ≤ 3 := by
          rw [List.length_cons, List.length_map]
          have := F1.few
          omega
        have h3 : (fk.1 :: fk.2.map Tx.intL).length * (20 + 1) ≤ 3 * 21 := Nat.mul_le_mul_right _ h2
        have h4 : (TL.joinL [32] (fk.1 :: fk.2.map Tx.intL)).length ≤ (fk.1 :: fk.2.map Tx.intL).length * (20 + 1) := h1
        omega
      have l3 := int_len (i := (k : Int) - 3) (by omega)
      have l4 := int_len (i := (k : Int)) (by omega)
      have hsm : ∀ j : Int, j.natAbs ≤ 2000 → Sm j.natAbs := fun j h => sm_of h (by decide +kernel)
      refine sd_app rfl (d := encT (lineL (rowOf k fk))) (d_is (d_cat (d_cat (d_cat (d_cat (d_join (a := [32]) (ys := (itemsOf fk).map txtI) (d_cs (x := S [32])) (d_is (d_new (n_lc1 (ix := [5]) (itemsOf fk) encI (fun x => [.sem (scrP K ns), nI (dg : Int), .dat (.tuple (fs.map encF)), .own (linesD ((docOf N fs).take (k + 1))), nI (k : Int), .dat (encI x), .no, .no, .no, .no, .no, .no]) (fun x => encT (txtI x)) (by rw [items_enc]; exact w_tup (d_ixT (d_var rfl) (d_var rfl) hat)) (by decide) (by
          unfold itemsOf
          rw [List.length_cons, List.length_map]
          have := F1.few
          omega) (fun x _ => g_name) fun x hx => ?_)) (by rw [List.map_map]; rfl)) ?_) (d_cs (x := S [32, 58, 32])) ?_) (d_strI (d_i0 (d_var rfl) d_ci) (hsm _ (by omega))) ?_) (d_cs (x := S [32])) ?_) (d_strI (d_var rfl) (hsm _ (by omega))) ?_) ?_) ?_ ?_
      · cases x with
        | inl x => exact d_anyS (d_var rfl)
        | inr i =>
          refine d_anyI (d_var rfl) (hsm i ?_)
          unfold itemsOf at hx
          rcases List.mem_cons.mp hx with z | z
          · cases z
          · obtain ⟨j, hj, e⟩ := List.mem_map.mp z
            cases e
            have := F1.sm i hj
            omega
      · have h := join_sum (c := 32) (fk.1 :: fk.2.map Tx.intL)
        rw [items_txt]
        show _ + _ * 1 ≤ 100000
        omega
      · rw [items_txt]
        show (TL.joinL [32] (fk.1 :: fk.2.map Tx.intL)).length + 3 ≤ 100000
        omega
      · rw [items_txt, List.length_append]
        show (TL.joinL [32] (fk.1 :: fk.2.map Tx.intL)).length + 3 + (Tx.intL ((k : Int) - 3)).length ≤ 100000
        omega
      · rw [items_txt, List.length_append, List.length_append]
        show (TL.joinL [32] (fk.1 :: fk.2.map Tx.intL)).length + 3 + (Tx.intL ((k : Int) - 3)).length + 1 ≤ 100000
        omega
      · rw [items_txt, List.length_append, List.length_append, List.length_append]
        show (TL.joinL [32] (fk.1 :: fk.2.map Tx.intL)).length + 3 + (Tx.intL ((k : Int) - 3)).length + 1 + (Tx.intL (k : Int)).length ≤ 100000
        omega
      · rw [line_row, items_txt]
      · show (linesD ((docOf N fs).take (k + 1))).length < 100000
        unfold linesD
        rw [List.length_map, List.length_map, List.length_take]
        omega
      · refine ⟨nI (k : Int), ?_⟩
        have e : linesD ((docOf N fs).take (k + 1)) ++ [encT (lineL (rowOf k fk))] = linesD ((docOf N fs).take (k + 1 + 1)) := by
          rw [List.take_succ (i := k + 1), hrow]
          unfold linesD
          rw [List.map_append, List.map_append]
          rfl
        rw [← e]
        rfl
    obtain ⟨s4, rfl⟩ := hq
    have eall : (docOf N fs).take ((nats fs.length).length + 1) = docOf N fs := by
      rw [nats_len]
      exact List.take_of_length_le (by rw [doc_length]; exact Nat.le_refl _)
    rw [eall]
    clear eall
    have hgood := bs.good
    have hDl : (docOf N fs).length = fs.length + 1 := doc_length N fs
    have hDne : docOf N fs ≠ [] := fun z => by
      rw [z] at hDl
      cases hDl
    have hsum : (List.map (fun x : List Nat => x.length) (linesOf (docOf N fs))).sum + (docOf N fs).length ≤ 3000 := by
      have h1 := join_sum (c := 10) (linesOf (docOf N fs))
      have h2 : textD (docOf N fs) = TL.joinL [10] (linesOf (docOf N fs)) ++ [10] := join_text _ hDne
      have h3 := bs.len
      rw [h2, List.length_append] at h3
      rw [show (linesOf (docOf N fs)).length = (docOf N fs).length from List.length_map _] at h1
      have h4 : [10].length = 1 := rfl
      omega
    have hok : okD (docOf N fs) = true := doc_ok hN0 hfrm (fun k f h => (hfs k f h).ok) hne (by omega)
    have hjoin : ∀ {δ : List Sl}, δ[3]? = some (Sl.own (linesD (docOf N fs))) → EvS K B H (tM1 (fun x xs H Q => ∃ a p, ∃ ys : List Str, x = .str a ∧ xs = [.ref p] ∧ (SqL K H p (ys.map V.str) ∨ SqT K H p (ys.map V.str)) ∧ (ys.map (·.length)).sum + ys.length * a.length ≤ 16777216 ∧ Q (.str (Txt.join a ys)) H) (tC (.str "\n")) (tVar 3)) δ (nS (S (TL.joinL [10] (linesOf (docOf N fs))))) := fun h => d_joinO (a := [10]) (ys := linesOf (docOf N fs)) (d_cs (x := S [10])) h (by
      show _ + _ * 1 ≤ 100000
      rw [show (linesOf (docOf N fs)).length = (docOf N fs).length from List.length_map _]
      omega)
    -- it is taken
    refine sd_seq (sd_dropX (ex := fun _ => False) (x_of (r_callX (Pap.doc (docOf N fs)) (a_cons (d_is (d_cat (b := [10]) (hjoin rfl) (d_cs (x := S [10])) (by
      have h3 := bs.len
      rw [join_text _ hDne, List.length_append] at h3
      show (TL.joinL [10] (linesOf (docOf N fs))).length + 1 ≤ 100000
      have h4 : [10].length = 1 := rfl
      have h5 : (TL.joinL [10] (linesOf (docOf N fs))).length = (TL.joinL [10] ((docOf N fs).map lineL)).length := rfl
      omega)) (by
      show nS (S (TL.joinL [10] (linesOf (docOf N fs)) ++ [10])) = nS (S (textD (docOf N fs)))
      rw [join_text _ hDne])) a_nil) (show Pap.pre (Pap.doc (docOf N fs)) from ⟨hDne, hgood⟩) (by
      show badO CI (if okD (docOf N fs) = true then some () else none) = none
      rw [if_pos hok]
      rfl))) (fun C z => z.elim) fun _ _ => ?_)
    refine q_asg [_, _, _, _, _, _, nI ((dg : Int) / 1024 % 9), _, _, _, _, _] (d_iC (d_iC (d_var rfl) d_ci ⟨by decide, by decide⟩) d_ci (by decide)) ?_
    refine q_asg [_, _, _, _, _, _, _, nI ((dg : Int) / 16384 % 8), _, _, _, _] (d_iC (d_iC (d_var rfl) d_ci ⟨by decide, by decide⟩) d_ci (by decide)) ?_
    have hfl0 : 0 < fs.length := List.length_pos_iff.mpr hne
    have hj0 : 0 ≤ (dg : Int) / 131072 % (fs.length : Int) ∧ (dg : Int) / 131072 % (fs.length : Int) < (fs.length : Int) := ⟨Int.emod_nonneg _ (by omega), Int.emod_lt_of_pos _ (by omega)⟩
    refine q_asg [_, _, _, _, _, _, _, _, nI (((((dg : Int) / 131072 % (fs.length : Int)).toNat + 1 : Nat)) : Int), _, _, _] (d_isI (i := 1 + (dg : Int) / 131072 % (fs.length : Int)) (j := (((((dg : Int) / 131072 % (fs.length : Int)).toNat + 1 : Nat)) : Int)) (d_i0 d_ci (d_iC (j := (fs.length : Int)) (d_iC (d_var rfl) d_ci ⟨by decide, by decide⟩) (d_isI (d_i0 (d_lenO rfl) d_ci) (by
      unfold linesD
      rw [List.length_map, List.length_map, hDl]
      omega)) (by show (0 : Int) < (fs.length : Int); omega))) (by omega)) ?_
    obtain ⟨j, hj⟩ : ∃ j : Nat, j = ((dg : Int) / 131072 % (fs.length : Int)).toNat := ⟨_, rfl⟩
    have hjl : j < fs.length := by omega
    rw [← hj]
    clear hj0 hj
    generalize (dg : Int) / 1024 % 9 = way at hway0
    generalize (dg : Int) / 16384 % 8 = pick at hpick0
    have hrow := rows_at (N := N) hjl
    obtain ⟨r1, r2, r3, r4, r5⟩ := way_same bs hjl
    have hF := hfrm _ (List.getElem_mem hjl)
    obtain ⟨wsj, hwsj⟩ : ∃ x, x = rowOf j fs[j] := ⟨_, rfl⟩
    rw [← hwsj] at hrow r1 r2 r3 r4 r5
    refine q_asgO [_, _, _, _, _, _, _, _, _, .own (wordsD wsj), _, _] (n_split (c := 32) (parts := wsj) (d_ixOM (f := encT) (xs := (docOf N fs).map lineL) (x := lineL wsj) rfl (d_var rfl) (atI_nat (by rw [List.getElem?_map, hrow]; rfl))) (d_cs (x := S [32])) (by decide) r1.1 (fun w hw => (r1.2 w hw).b) (by
      have : (TL.joinL [32] wsj).length ≤ 30000 := r2
      omega)) ?_
    refine q_asg [_, _, _, _, _, _, _, _, _, _, nS (S longL), _] (d_is (d_cat (a := [49]) (b := List.replicate 2000 48) (d_cs (x := S [49])) (d_zeros (d_cs (x := S [48])) d_ci) (by rw [List.length_replicate]; decide)) rfl) ?_
    have hD1 : (docOf N fs).length = fs.length + 1 := hDl
    have hsl : ∀ {D : List (List Word)}, D.length = fs.length + 1 → (linesD D).length = fs.length + 1 := fun h => by
      unfold linesD
      rw [List.length_map, List.length_map, h]
    have hwl : ∀ ws : List Word, (wordsD ws).length = ws.length := fun ws => List.length_map _
    -- way 0
    refine q_when (b_test (d_eqI (d_var rfl) d_ci)) (fun hb => ?_) (fun hb => ?_)
    · refine sd_ret (d_callF (Pap.cut (TL.joinL [10] (linesOf (docOf N fs)))) (a_cons (hjoin rfl) a_nil) ⟨⟨?_, ?_⟩, rfl⟩) rfl
      · have h3 := bs.len
        have h2 : textD (docOf N fs) = TL.joinL [10] (linesOf (docOf N fs)) ++ [10] := join_text _ hDne
        rw [h2, List.length_append] at h3
        omega
      · obtain ⟨p, c, e, hc⟩ := ends_other (ls := linesOf (docOf N fs)) (fun z => hDne (List.map_eq_nil_iff.mp z)) (fun l hl => by
          obtain ⟨ws, hw, rfl⟩ := List.mem_map.mp hl
          refine ⟨line_ne ?_, line_free (hgood.fr ws hw)⟩
          rcases List.mem_cons.mp hw with z | z
          · rw [z]
            exact Nat.le_refl _
          · obtain ⟨p, _, rfl⟩ := List.mem_map.mp z
            rw [Dd.row_len]
            omega)
        rw [e]
        exact ends_not hc
    have hw0 : ¬ way = 0 := of_decide_eq_false hb
    -- way 1
    refine sd_seqM (M := MW K ns dg fs s4 way pick j N wsj 2) (sd_when (b_test (d_eqI (d_var rfl) d_ci)) (fun hb => ?_) (fun hb => MW.skip (i := 1) hD1 (.inr ⟨by omega, rfl, rfl⟩) rfl hb)) fun δ' hM => ?_
    · obtain ⟨hw, _, _⟩ := MW.here (i := 1) (fs := fs) (N := N) (j := j) (row := wsj) (.inr ⟨by omega, rfl, rfl⟩) hb
      obtain ⟨top, hx, ht⟩ := pick_at (fun ws => encT (lineL ws)) (l := tops) rfl hpick0.1 hpick0.2
      refine sd_put (j := 0) rfl (d := encT (lineL top)) (d_ixL (d_new (n_lst (ds_cons (d_cs (x := S (lineL [paperL]))) (ds_cons (d_cs (x := S (lineL [paperL, [55]]))) (ds_cons (d_cs (x := S (lineL [paperL, [52, 48, 57, 55]]))) (ds_cons (d_cs (x := S (lineL [paperL, [48, 56]]))) (ds_cons (d_cs (x := S (lineL [[80, 97, 112, 101, 114], [57]]))) (ds_cons (d_cs (x := S (lineL [paperL, [45, 57]]))) (ds_cons (d_cs (x := S (lineL [paperL, [], [57]]))) (ds_cons (d_cs (x := S (lineL [paperL, [57], []]))) ds_nil)))))))))) (d_var rfl) hx) d_ci (by rw [hsl hD1]; omega) ?_
      refine ⟨(docOf N fs).set 0 top, wsj, ?_, by rw [List.length_set]; exact hD1, .inl ⟨by omega, ?_⟩⟩
      · rw [lines_set]
        rfl
      · rw [hwsj]
        exact way1 bs hjl ht
    obtain ⟨D, ws, rfl, hDD, hM⟩ := hM
    have hlenO : ∀ {D : List (List Word)} {ws : List Word}, EvS K B H (tCB (fun xs H Q => ∃ x n, xs = [x] ∧ LenV K x H n ∧ Q (.int n) H) (tCons (tVar 9) tNil)) (envL K ns dg fs s4 way pick j D ws) (nI (ws.length : Int)) := fun {D ws} => d_isI (d_lenO rfl) (by rw [hwl])
    have h4l : 4 ≤ wsj.length := by
      rw [hwsj, Dd.row_len]
      omega
    -- way 2
    refine sd_seqM (M := MW K ns dg fs s4 way pick j N wsj 3) (sd_when (b_test (d_eqI (d_var rfl) d_ci)) (fun hb => ?_) (fun hb => MW.skip (i := 2) hDD hM rfl hb)) fun δ' hM => ?_
    · obtain ⟨hw, rfl, rfl⟩ := MW.here hM hb
      obtain ⟨v, hx, hv⟩ := pick_at encT (l := bads) rfl hpick0.1 hpick0.2
      refine sd_put (j := ws.length - 1) rfl (d := encT v) (d_ixL (d_new (n_lst (ds_cons (d_cs (x := S [])) (ds_cons (d_cs (x := S [120])) (ds_cons (d_cs (x := S [48, 49])) (ds_cons (d_cs (x := S [43, 49])) (ds_cons (d_cs (x := S [45, 48])) (ds_cons (d_cs (x := S [49, 46, 48])) (ds_cons (d_cs (x := S [45])) (ds_cons (d_var rfl) ds_nil)))))))))) (d_var rfl) hx) (d_isI (d_i0 hlenO d_ci) (by omega)) (by rw [hwl]; omega) ?_
      refine ⟨docOf N fs, ws.set (ws.length - 1) v, ?_, hD1, .inl ⟨by omega, ?_⟩⟩
      · rw [words_set]
        rfl
      · rw [hwsj]
        exact way2 bs hjl hv
    obtain ⟨D, ws, rfl, hDD, hM⟩ := hM
    -- way 3
    refine sd_seqM (M := MW K ns dg fs s4 way pick j N wsj 4) (sd_when (b_test (d_eqI (d_var rfl) d_ci)) (fun hb => ?_) (fun hb => MW.skip (i := 3) hDD hM rfl hb)) fun δ' hM => ?_
    · obtain ⟨hw, rfl, rfl⟩ := MW.here hM hb
      obtain ⟨v, hx, hv⟩ := pick_at encT (l := Tx.intL ((j : Int) + 1 + 9) :: los) rfl hpick0.1 hpick0.2
      refine sd_put (j := ws.length - 2) rfl (d := encT v) (d_ixL (d_new (n_lst (ds_cons (d_strI (i := (j : Int) + 1 + 9) (d_i0 (d_var rfl) d_ci) (sm_of (k := 2000) (by omega) (by decide +kernel))) (ds_cons (d_cs (x := S [])) (ds_cons (d_cs (x := S [120])) (ds_cons (d_cs (x := S [48, 48])) (ds_cons (d_var rfl) (ds_cons (d_cs (x := S [45, 48, 49])) (ds_cons (d_cs (x := S [49, 101, 49])) (ds_cons (d_cs (x := S [45, 45, 49])) ds_nil)))))))))) (d_var rfl) hx) (d_isI (d_i0 hlenO d_ci) (by omega)) (by rw [hwl]; omega) ?_
      refine ⟨docOf N fs, ws.set (ws.length - 2) v, ?_, hD1, .inl ⟨by omega, ?_⟩⟩
      · rw [words_set]
        rfl
      · rw [hwsj]
        exact way3 bs hjl hv
    obtain ⟨D, ws, rfl, hDD, hM⟩ := hM
    -- way 4
    refine sd_seqM (M := MW K ns dg fs s4 way pick j N wsj 5) (sd_when (b_test (d_eqI (d_var rfl) d_ci)) (fun hb => ?_) (fun hb => MW.skip (i := 4) hDD hM rfl hb)) fun δ' hM => ?_
    · obtain ⟨hw, rfl, rfl⟩ := MW.here hM hb
      have hm0 : 0 ≤ pick % (ws.length : Int) ∧ pick % (ws.length : Int) < (ws.length : Int) := ⟨Int.emod_nonneg _ (by omega), Int.emod_lt_of_pos _ (by omega)⟩
      refine sd_ins (m := (pick % (ws.length : Int)).toNat) rfl (d_isI (i := pick % (ws.length : Int)) (d_iC (d_int (d_var rfl)) hlenO (by show (0 : Int) < (ws.length : Int); omega)) (by omega)) (d_cs (x := S [])) (by rw [hwl]; omega) (by omega) ?_
      refine ⟨docOf N fs, ws.take (pick % (ws.length : Int)).toNat ++ [[]] ++ ws.drop (pick % (ws.length : Int)).toNat, ?_, hD1, .inl ⟨by omega, ?_⟩⟩
      · have e : wordsD (ws.take (pick % (ws.length : Int)).toNat ++ [[]] ++ ws.drop (pick % (ws.length : Int)).toNat) = (wordsD ws).take (pick % (ws.length : Int)).toNat ++ [.str (S [])] ++ (wordsD ws).drop (pick % (ws.length : Int)).toNat := by
          unfold wordsD
          rw [List.map_append, List.map_append, List.map_take, List.map_drop]
          rfl
        rw [← e]
        rfl
      · have hml : (pick % (ws.length : Int)).toNat < ws.length := by omega
        generalize (pick % (ws.length : Int)).toNat = m at hml
        rw [hwsj] at hml ⊢
        exact way4 bs hjl hml
    obtain ⟨D, ws, rfl, hDD, hM⟩ := hM
    -- way 5
    refine sd_seqM (M := MW K ns dg fs s4 way pick j N wsj 6) (sd_when (b_test (d_eqI (d_var rfl) d_ci)) (fun hb => ?_) (fun hb => MW.skip (i := 5) hDD hM rfl hb)) fun δ' hM => ?_
    · obtain ⟨hw, rfl, rfl⟩ := MW.here hM hb
      obtain ⟨v, hx, hv⟩ := pick_at encT (l := offs) rfl hpick0.1 hpick0.2
      refine sd_put (j := 0) rfl (d := encT v) (d_ixL (d_new (n_lst (ds_cons (d_cs (x := S [112, 111, 119, 101, 114])) (ds_cons (d_cs (x := S [65, 100, 100])) (ds_cons (d_cs (x := S [])) (ds_cons (d_cs (x := S [110, 117, 109, 98, 101, 114, 115])) (ds_cons (d_cs (x := S [48])) (ds_cons (d_cs (x := S [58])) (ds_cons (d_cs (x := S [112, 105, 50])) (ds_cons (d_cs (x := S [115, 105, 110])) ds_nil)))))))))) (d_var rfl) hx) d_ci (by rw [hwl]; omega) ?_
      refine ⟨docOf N fs, ws.set 0 v, ?_, hD1, .inl ⟨by omega, ?_⟩⟩
      · rw [words_set]
        rfl
      · rw [hwsj]
        exact way5 bs hjl hv
    obtain ⟨D, ws, rfl, hDD, hM⟩ := hM
    -- way 6
    refine sd_seqM (M := MW K ns dg fs s4 way pick j N wsj 7) (sd_when (b_test (d_eqI (d_var rfl) d_ci)) (fun hb => ?_) (fun hb => MW.skip (i := 6) hDD hM rfl hb)) fun δ' hM => ?_
    · obtain ⟨hw, rfl, rfl⟩ := MW.here hM hb
      have ecut : ws = (fs[j].1 :: fs[j].2.map Tx.intL) ++ [[58]] ++ [Tx.intL ((j : Int) - 3), Tx.intL (j : Int)] := by
        rw [hwsj]
        unfold rowOf
        simp
      have hwlen : ws.length = fs[j].2.length + 4 := by rw [hwsj, Dd.row_len]
      have hfew := hF.few
      refine sd_popAt (ds := wordsD (fs[j].1 :: fs[j].2.map Tx.intL)) (e := encT [58]) (es := wordsD [Tx.intL ((j : Int) - 3), Tx.intL (j : Int)]) (m := fs[j].2.length + 1) (by
        show some (Sl.own (wordsD ws)) = _
        rw [ecut]
        unfold wordsD
        rw [List.map_append, List.map_append]
        rfl) (by rw [hwl, List.length_cons, List.length_map]) (by rw [hwl, hwl, List.length_cons, List.length_map]; show _ + 2 ≤ 100000; omega) (d_isI (d_i0 hlenO d_ci) (by omega)) ?_
      refine ⟨docOf N fs, (fs[j].1 :: fs[j].2.map Tx.intL) ++ [Tx.intL ((j : Int) - 3), Tx.intL (j : Int)], ?_, hD1, .inl ⟨by omega, way6 bs hjl⟩⟩
      have e : wordsD ((fs[j].1 :: fs[j].2.map Tx.intL) ++ [Tx.intL ((j : Int) - 3), Tx.intL (j : Int)]) = wordsD (fs[j].1 :: fs[j].2.map Tx.intL) ++ wordsD [Tx.intL ((j : Int) - 3), Tx.intL (j : Int)] := List.map_append
      rw [← e]
      rfl
    obtain ⟨D, ws, rfl, hDD, hM⟩ := hM
    -- way 7
    refine sd_seqM (M := MW K ns dg fs s4 way pick j N wsj 8) (sd_when (b_test (d_eqI (d_var rfl) d_ci)) (fun hb => ?_) (fun hb => MW.skip (i := 7) hDD hM rfl hb)) fun δ' hM => ?_
    · obtain ⟨hw, rfl, rfl⟩ := MW.here hM hb
      refine sd_app rfl (d_cs (x := S [49])) (by rw [hwl]; omega) ?_
      refine ⟨docOf N fs, ws ++ [[49]], ?_, hD1, .inl ⟨by omega, ?_⟩⟩
      · have e : wordsD (ws ++ [[49]]) = wordsD ws ++ [.str (S [49])] := List.map_append
        rw [← e]
        rfl
      · rw [hwsj]
        exact way7 bs hjl
    obtain ⟨D, ws, rfl, hDD, hM⟩ := hM
    -- the line is put back
    have hfit : (lineL ws).length ≤ 40000 := by
      rcases hM with ⟨_, hR⟩ | ⟨_, _, rfl⟩
      · refine Nat.le_trans (part_le (D := D.set (j + 1) ws) ?_) hR.2.1.len
        have h : (D.set (j + 1) ws)[j + 1]? = some ws := by rw [List.getElem?_set_self (by omega)]
        exact List.mem_of_getElem? h
      · omega
    refine sd_seqM (M := fun δ => δ = envL K ns dg fs s4 way pick j (D.set (j + 1) ws) ws) (sd_put (j := j + 1) rfl (d_joinO (a := [32]) (ys := ws) (d_cs (x := S [32])) rfl (by
      have := join_sum (c := 32) ws
      have h2 : (TL.joinL [32] ws).length ≤ 40000 := hfit
      show _ + _ * 1 ≤ 100000
      omega)) (d_var rfl) (by rw [hsl hDD]; omega) (by
      show _ = envL K ns dg fs s4 way pick j (D.set (j + 1) ws) ws
      unfold envL
      rw [← lines_set]
      rfl)) fun δ' e => ?_
    subst e
    have hM2 : (way < 8 ∧ Rej (D.set (j + 1) ws)) ∨ (way = 8 ∧ D.set (j + 1) ws = docOf N fs) := by
      rcases hM with h | ⟨h1, rfl, rfl⟩
      · exact .inl h
      · exact .inr ⟨by omega, set_same hrow⟩
    generalize D.set (j + 1) ws = D2 at hM2
    refine sd_freeze (n := 3) rfl ?_
    refine sd_env (δ1 := [.sem (scrP K ns), nI (dg : Int), .dat (.tuple (fs.map encF)), .dat (.list (linesD D2)), s4, .no, nI way, nI pick, nI ((j + 1 : Nat) : Int), .own (wordsD ws), nS (S longL), .no]) rfl ?_
    -- way 8
    refine sd_seqM (M := fun δ => ∃ D3, δ = [.sem (scrP K ns), nI (dg : Int), .dat (.tuple (fs.map encF)), .dat (.list (linesD D3)), s4, .no, nI way, nI pick, nI ((j + 1 : Nat) : Int), .own (wordsD ws), nS (S longL), .no] ∧ (D3 = [] ∨ Rej D3)) (sd_when (b_test (d_eqI (d_var rfl) d_ci)) (fun hb => ?_) (fun hb => ?_)) fun δ' hq => ?_
    · have hb := of_decide_eq_true hb
      have e2 : D2 = docOf N fs := by
        rcases hM2 with ⟨h, _⟩ | ⟨_, h⟩
        · omega
        · exact h
      subst e2
      obtain ⟨D3, hx, hD3⟩ := pick_at (fun D => PyData.list (linesD D)) (l := [[], (docOf N fs).take 1, (docOf N fs).drop 1, [paperL, [57]] :: docOf N fs, (docOf N fs).take 1, (docOf N fs).drop 1, [], (docOf N fs).take 1]) rfl hpick0.1 hpick0.2
      have htk : EvS K B H (tSl (rSlL K) (tVar 3) tNoPart (tPart (tC (.int 1)))) [.sem (scrP K ns), nI (dg : Int), .dat (.tuple (fs.map encF)), .dat (.list (linesD (docOf N fs))), s4, .no, nI way, nI pick, nI ((j + 1 : Nat) : Int), .own (wordsD ws), nS (S longL), .no] (.dat (.list (linesD ((docOf N fs).take 1)))) := d_new (n_slF (f := encT) (xs := linesOf (docOf N fs)) (ys := linesOf ((docOf N fs).take 1)) (d_var rfl) o_none (o_some (i := ((1 : Nat) : Int)) d_ci) (by rw [cut_to]; exact List.map_take.symm))
      have hdr : EvS K B H (tSl (rSlL K) (tVar 3) (tPart (tC (.int 1))) tNoPart) [.sem (scrP K ns), nI (dg : Int), .dat (.tuple (fs.map encF)), .dat (.list (linesD (docOf N fs))), s4, .no, nI way, nI pick, nI ((j + 1 : Nat) : Int), .own (wordsD ws), nS (S longL), .no] (.dat (.list (linesD ((docOf N fs).drop 1)))) := d_new (n_slF (f := encT) (xs := linesOf (docOf N fs)) (ys := linesOf ((docOf N fs).drop 1)) (d_var rfl) (o_some (i := ((1 : Nat) : Int)) d_ci) o_none (by rw [cut_from]; exact List.map_drop.symm))
      refine sd_asg (d_ixL (d_new (n_lst (ds_cons (d_new (n_lst ds_nil)) (ds_cons htk (ds_cons hdr (ds_cons (d_new (n_catF (f := encT) (xs := [lineL [paperL, [57]]]) (ys := linesOf (docOf N fs)) (d_new (n_lst (ds_cons (d_cs (x := S (lineL [paperL, [57]]))) ds_nil))) (d_var rfl) (by rw [show (linesOf (docOf N fs)).length = (docOf N fs).length from List.length_map _]; show 1 + _ ≤ 100000; omega))) (ds_cons htk (ds_cons hdr (ds_cons (d_new (n_lst ds_nil)) (ds_cons htk ds_nil)))))))))) (d_var rfl) hx) ?_
      refine ⟨D3, rfl, ?_⟩
      simp only [List.mem_cons, List.not_mem_nil, or_false] at hD3
      rcases hD3 with rfl | rfl | rfl | rfl | rfl | rfl | rfl | rfl
      · exact .inl rfl
      · exact .inr (way8a bs)
      · exact .inr (way8b bs)
      · exact .inr (way8c bs)
      · exact .inr (way8a bs)
      · exact .inr (way8b bs)
      · exact .inl rfl
      · exact .inr (way8a bs)
    · have hb := of_decide_eq_false hb
      rcases hM2 with ⟨_, h⟩ | ⟨h, _⟩
      · exact ⟨D2, rfl, .inr h⟩
      · exact absurd h hb
    obtain ⟨D3, rfl, hD3⟩ := hq
    obtain ⟨e1, e2, e3⟩ := endP_ok hD3
    have h3 : D3.length ≤ 100 ∧ (textD D3).length ≤ 40000 := by
      rcases hD3 with rfl | h
      · exact ⟨by decide, by decide⟩
      · exact ⟨h.2.1.few, h.2.1.len⟩
    refine sd_ret (d_callF (endP D3) (a_cons (d_is (d_join (a := []) (ys := D3.map fun ws => lineL ws ++ [10]) (d_cs (x := S [])) (d_is (d_new (n_lc1 (ix := [11]) D3 (fun ws => encT (lineL ws)) (fun ws' => [.sem (scrP K ns), nI (dg : Int), .dat (.tuple (fs.map encF)), .dat (.list (linesD D3)), s4, .no, nI way, nI pick, nI ((j + 1 : Nat) : Int), .own (wordsD ws), nS (S longL), .dat (encT (lineL ws'))]) (fun ws => encT (lineL ws ++ [10])) (by
      have e : linesD D3 = D3.map fun ws => encT (lineL ws) := by
        unfold linesD
        rw [List.map_map]
        rfl
      rw [← e]
      exact w_list (d_var rfl)) (by decide) (by omega) (fun x _ => g_name) fun ws' hx => d_cat (b := [10]) (d_var rfl) (d_cs (x := S [10])) (by
      have := part_le hx
      show (lineL ws').length + 1 ≤ 100000
      omega))) (by rw [List.map_map]; rfl)) (by
      show _ + _ * 0 ≤ 100000
      have h5 : (textD D3).length = ((D3.map fun ws => lineL ws ++ [10]).map fun x : List Nat => x.length).sum := List.length_flatten
      omega)) (by
      rw [joinL_nil, e1]
      rfl)) a_nil) ⟨e2, e3⟩) rfl
theorem all_mk {l : PySem.W.OpenLaw} {w : World} {K : PySem.W.Frag} {h : Heap} {mg : Str → Option Value} {fa f0 f1 f2 f3 f4 f5 f6 f7 f8 f9 f10 f11 f12 f13 f14 : Addr} (X : K.In h) (G : h.Ns mainGlobals mg) (hfa : mg "law" = some (.ref fa))
    {od0 an0 od1 an1 od2 an2 od3 an3 od4 an4 od5 an5 od6 an6 od7 an7 od8 an8 od9 an9 od10 an10 od11 an11 od12 an12 od13 an13 od14 an14 : Option Addr} {sl0 sl1 sl2 sl3 sl4 sl5 sl6 sl7 sl8 sl9 sl10 sl11 sl12 sl13 sl14 : Array (Option Value)} {oc0 kV0 dc0 pm0 cd0 ct0 oc1 kV1 dc1 pm1 cd1 ct1 oc2 kV2 dc2 pm2 cd2 ct2 oc3 kV3 dc3 pm3 cd3 ct3 oc4 kV4 dc4 pm4 cd4 ct4 oc5 kV5 dc5 pm5 cd5 ct5 oc6 kV6 dc6 pm6 cd6 ct6 oc7 kV7 dc7 pm7 cd7 ct7 oc8 kV8 dc8 pm8 cd8 ct8 oc9 kV9 dc9 pm9 cd9 ct9 oc10 kV10 dc10 pm10 cd10 ct10 oc11 kV11 dc11 pm11 cd11 ct11 oc12 kV12 dc12 pm12 cd12 ct12 oc13 kV13 dc13 pm13 cd13 ct13 oc14 kV14 dc14 pm14 cd14 ct14 : Value}
    (a0 : PySem.W.nsIn K mainGlobals "is_integer" = some (some (.ref f0))) (l0 : K.lookup f0 = some ⟨oc0, od0, .func (PySem.W.fnOf "is_integer" "is_integer" (defArgs s_is_integer) (defBody s_is_integer) (defScope s_is_integer) .none kV0 dc0 pm0 an0 cd0 ct0), sl0⟩) (c0 : PySem.W.codeIn K cd0 "is_integer" = true) (k0 : PySem.W.keepIn K (.ref f0) = true)
    (a1 : PySem.W.nsIn K mainGlobals "are_integers" = some (some (.ref f1))) (l1 : K.lookup f1 = some ⟨oc1, od1, .func (PySem.W.fnOf "are_integers" "are_integers" (defArgs s_are_integers) (defBody s_are_integers) (defScope s_are_integers) .none kV1 dc1 pm1 an1 cd1 ct1), sl1⟩) (c1 : PySem.W.codeIn K cd1 "are_integers" = true) (k1 : PySem.W.keepIn K (.ref f1) = true)
    (a2 : PySem.W.nsIn K mainGlobals "is_formula" = some (some (.ref f2))) (l2 : K.lookup f2 = some ⟨oc2, od2, .func (PySem.W.fnOf "is_formula" "is_formula" (defArgs s_is_formula) (defBody s_is_formula) (defScope s_is_formula) .none kV2 dc2 pm2 an2 cd2 ct2), sl2⟩) (c2 : PySem.W.codeIn K cd2 "is_formula" = true) (k2 : PySem.W.keepIn K (.ref f2) = true)
    (a3 : PySem.W.nsIn K mainGlobals "is_step" = some (some (.ref f3))) (l3 : K.lookup f3 = some ⟨oc3, od3, .func (PySem.W.fnOf "is_step" "is_step" (defArgs s_is_step) (defBody s_is_step) (defScope s_is_step) .none kV3 dc3 pm3 an3 cd3 ct3), sl3⟩) (c3 : PySem.W.codeIn K cd3 "is_step" = true) (k3 : PySem.W.keepIn K (.ref f3) = true)
    (a4 : PySem.W.nsIn K mainGlobals "is_paper" = some (some (.ref f4))) (l4 : K.lookup f4 = some ⟨oc4, od4, .func (PySem.W.fnOf "is_paper" "is_paper" (defArgs s_is_paper) (defBody s_is_paper) (defScope s_is_paper) .none kV4 dc4 pm4 an4 cd4 ct4), sl4⟩) (c4 : PySem.W.codeIn K cd4 "is_paper" = true) (k4 : PySem.W.keepIn K (.ref f4) = true)
    (a5 : PySem.W.nsIn K mainGlobals "is_enclosure" = some (some (.ref f5))) (l5 : K.lookup f5 = some ⟨oc5, od5, .func (PySem.W.fnOf "is_enclosure" "is_enclosure" (defArgs s_is_enclosure) (defBody s_is_enclosure) (defScope s_is_enclosure) .none kV5 dc5 pm5 an5 cd5 ct5), sl5⟩) (c5 : PySem.W.codeIn K cd5 "is_enclosure" = true) (k5 : PySem.W.keepIn K (.ref f5) = true)
    (a6 : PySem.W.nsIn K mainGlobals "read_paper" = some (some (.ref f6))) (l6 : K.lookup f6 = some ⟨oc6, od6, .func (PySem.W.fnOf "read_paper" "read_paper" (defArgs s_read_paper) (defBody s_read_paper) (defScope s_read_paper) .none kV6 dc6 pm6 an6 cd6 ct6), sl6⟩) (c6 : PySem.W.codeIn K cd6 "read_paper" = true) (k6 : PySem.W.keepIn K (.ref f6) = true)
    (a7 : PySem.W.nsIn K mainGlobals "read_head" = some (some (.ref f7))) (l7 : K.lookup f7 = some ⟨oc7, od7, .func (PySem.W.fnOf "read_head" "read_head" (defArgs s_read_head) (defBody s_read_head) (defScope s_read_head) .none kV7 dc7 pm7 an7 cd7 ct7), sl7⟩) (c7 : PySem.W.codeIn K cd7 "read_head" = true) (k7 : PySem.W.keepIn K (.ref f7) = true)
    (a8 : PySem.W.nsIn K mainGlobals "read_row" = some (some (.ref f8))) (l8 : K.lookup f8 = some ⟨oc8, od8, .func (PySem.W.fnOf "read_row" "read_row" (defArgs s_read_row) (defBody s_read_row) (defScope s_read_row) .none kV8 dc8 pm8 an8 cd8 ct8), sl8⟩) (c8 : PySem.W.codeIn K cd8 "read_row" = true) (k8 : PySem.W.keepIn K (.ref f8) = true)
    (a9 : PySem.W.nsIn K mainGlobals "read_number" = some (some (.ref f9))) (l9 : K.lookup f9 = some ⟨oc9, od9, .func (PySem.W.fnOf "read_number" "read_number" (defArgs s_read_number) (defBody s_read_number) (defScope s_read_number) .none kV9 dc9 pm9 an9 cd9 ct9), sl9⟩) (c9 : PySem.W.codeIn K cd9 "read_number" = true) (k9 : PySem.W.keepIn K (.ref f9) = true)
    (a10 : PySem.W.nsIn K mainGlobals "_law_cell" = some (some (.ref f10))) (l10 : K.lookup f10 = some ⟨oc10, od10, .func (PySem.W.fnOf "_law_cell" "_law_cell" (defArgs s_law_cell) (defBody s_law_cell) (defScope s_law_cell) .none kV10 dc10 pm10 an10 cd10 ct10), sl10⟩) (c10 : PySem.W.codeIn K cd10 "_law_cell" = true) (k10 : PySem.W.keepIn K (.ref f10) = true)
    (a11 : PySem.W.nsIn K mainGlobals "_law_numbers" = some (some (.ref f11))) (l11 : K.lookup f11 = some ⟨oc11, od11, .func (PySem.W.fnOf "_law_numbers" "_law_numbers" (defArgs s_law_numbers) (defBody s_law_numbers) (defScope s_law_numbers) .none kV11 dc11 pm11 an11 cd11 ct11), sl11⟩) (c11 : PySem.W.codeIn K cd11 "_law_numbers" = true) (k11 : PySem.W.keepIn K (.ref f11) = true)
    (a12 : PySem.W.nsIn K mainGlobals "_law_formula" = some (some (.ref f12))) (l12 : K.lookup f12 = some ⟨oc12, od12, .func (PySem.W.fnOf "_law_formula" "_law_formula" (defArgs s_law_formula) (defBody s_law_formula) (defScope s_law_formula) .none kV12 dc12 pm12 an12 cd12 ct12), sl12⟩) (c12 : PySem.W.codeIn K cd12 "_law_formula" = true) (k12 : PySem.W.keepIn K (.ref f12) = true)
    (a13 : PySem.W.nsIn K mainGlobals "_law_refused" = some (some (.ref f13))) (l13 : K.lookup f13 = some ⟨oc13, od13, .func (PySem.W.fnOf "_law_refused" "_law_refused" (defArgs s_law_refused) (defBody s_law_refused) (defScope s_law_refused) .none kV13 dc13 pm13 an13 cd13 ct13), sl13⟩) (c13 : PySem.W.codeIn K cd13 "_law_refused" = true) (k13 : PySem.W.keepIn K (.ref f13) = true)
    (a14 : PySem.W.nsIn K mainGlobals "law" = some (some (.ref f14))) (l14 : K.lookup f14 = some ⟨oc14, od14, .func (PySem.W.fnOf "law" "law" (defArgs s_law) (defBody s_law) (defScope s_law) .none kV14 dc14 pm14 an14 cd14 ct14), sl14⟩) (c14 : PySem.W.codeIn K cd14 "law" = true) (k14 : PySem.W.keepIn K (.ref f14) = true)
    (z0 : PySem.W.nsIn K mainGlobals "len" = some none)
    (z1 : PySem.W.nsIn K mainGlobals "abs" = some none)
    (z2 : PySem.W.nsIn K mainGlobals "int" = some none)
    (z3 : PySem.W.nsIn K mainGlobals "bool" = some none)
    (z4 : PySem.W.nsIn K mainGlobals "str" = some none)
    (z5 : PySem.W.nsIn K mainGlobals "isinstance" = some none)
    (z6 : PySem.W.nsIn K mainGlobals "tuple" = some none)
    (z7 : PySem.W.nsIn K mainGlobals "range" = some none)
    (z8 : PySem.W.nsIn K mainGlobals "max" = some none)
    (z9 : PySem.W.nsIn K mainGlobals "enumerate" = some none)
    {dd : Addr} {es : Array DictEntry} {nd : Nat} {t0 t1 t2 t3 t4 t5 t6 t7 t8 t9 t10 t11 t12 t13 : Tok} (zc : PySem.W.nsIn K mainGlobals "COUNTS" = some (some (.ref dd))) (zl : K.lookup dd = some ⟨.type "dict", none, .dict es nd, #[]⟩) (zk : PySem.W.KeysLit w.params es.toList) (zo : (dd == sysModules) = false)
    (y0 : PySem.W.nsIn K dd "number" = some (some (.int 2 t0)))
    (y1 : PySem.W.nsIn K dd "pi" = some (some (.int 0 t1)))
    (y2 : PySem.W.nsIn K dd "add" = some (some (.int 2 t2)))
    (y3 : PySem.W.nsIn K dd "subtract" = some (some (.int 2 t3)))
    (y4 : PySem.W.nsIn K dd "times" = some (some (.int 2 t4)))
    (y5 : PySem.W.nsIn K dd "divide" = some (some (.int 2 t5)))
    (y6 : PySem.W.nsIn K dd "root" = some (some (.int 1 t6)))
    (y7 : PySem.W.nsIn K dd "sine" = some (some (.int 1 t7)))
    (y8 : PySem.W.nsIn K dd "cosine" = some (some (.int 1 t8)))
    (y9 : PySem.W.nsIn K dd "exp" = some (some (.int 1 t9)))
    (y10 : PySem.W.nsIn K dd "log" = some (some (.int 1 t10)))
    (y11 : PySem.W.nsIn K dd "arctan" = some (some (.int 1 t11)))
    (y12 : PySem.W.nsIn K dd "arcsine" = some (some (.int 1 t12)))
    (y13 : PySem.W.nsIn K dd "arccosine" = some (some (.int 1 t13)))
    {ti0 ti1 ti2 : Tok} (u0 : PySem.W.nsIn K mainGlobals "FEWEST_BITS" = some (some (.int 8 ti0))) (u1 : PySem.W.nsIn K mainGlobals "MOST_BITS" = some (some (.int 4096 ti1))) (u2 : PySem.W.nsIn K mainGlobals "MOST_DIGITS" = some (some (.int 2000 ti2)))
    {CP : Addr} (uP : PySem.W.nsIn K mainGlobals "PortolanError" = some (some (.ref CP))) (bP : PySem.W.subIn K (.ref CP) (.type "BaseException") = some true) (tP : PySem.W.typeIn K (.ref CP) = some (.type "type")) (iP : PySem.W.isClsIn K CP = true)
    {CE0 : Addr} (uE0 : PySem.W.nsIn K mainGlobals "InvalidText" = some (some (.ref CE0)))
    (xE0 : PySem.W.excIn K CE0 [.type "ValueError", .type "Exception", .type "BaseException", .type "object"] "ValueError.__new__" = true) (kE0 : PySem.W.keepIn K (.ref CE0) = true) (bE0 : PySem.W.subIn K (.ref CE0) (.type "BaseException") = some true) (tE0 : PySem.W.typeIn K (.ref CE0) = some (.type "type")) (sE0 : PySem.W.subIn K (.ref CE0) (.ref CP) = some true)
    (exa0 : PySem.W.findIn K (.ref CE0) "__getattribute__" = some (some (.builtin "BaseException.__getattribute__"))) (exb0 : PySem.W.findIn K (.ref CE0) "__getattr__" = some none) (exc0 : PySem.W.hasDictIn K CE0 = true) (exd0 : PySem.W.findIn K (.ref CE0) "__class__" = some (some (.builtin "object.__class__")))
    (exe0 : PySem.W.specialIn K (.builtin "object.__class__") "__get__" = some (some (.builtin "getset_descriptor.__get__"))) (exf0 : PySem.W.takesIn K (.builtin "object.__class__") = some true) (exg0 : PySem.W.mroIn K CE0 (.type "object") = some true)
    (v0 : PySem.W.nsIn K dd "power" = some none) (v1 : PySem.W.nsIn K dd "Add" = some none) (v2 : PySem.W.nsIn K dd "" = some none) (v3 : PySem.W.nsIn K dd "numbers" = some none) (v4 : PySem.W.nsIn K dd "0" = some none) (v5 : PySem.W.nsIn K dd ":" = some none) (v6 : PySem.W.nsIn K dd "pi2" = some none) (v7 : PySem.W.nsIn K dd "sin" = some none)
    : ∃ fd : FuncData, (∀ (s : Shared) (v : Value), BindsTo s fd ⟨[v], []⟩ [("script", v)]) ∧ ∀ base : Heap, K.In base → base.Ns mainGlobals mg → FnOk l.prog w K mg base CX0 7 fa fd ["script"] (spLaw K) := by
  have e := hfa.symm.trans (PySem.W.mg_of X G a14)
  cases e
  have F_is_integer := fun_mk (st := s_is_integer) l0 c0 k0
  have F_are_integers := fun_mk (st := s_are_integers) l1 c1 k1
  have F_is_formula := fun_mk (st := s_is_formula) l2 c2 k2
  have F_is_step := fun_mk (st := s_is_step) l3 c3 k3
  have F_is_paper := fun_mk (st := s_is_paper) l4 c4 k4
  have F_is_enclosure := fun_mk (st := s_is_enclosure) l5 c5 k5
  have F_read_paper := fun_mk (st := s_read_paper) l6 c6 k6
  have F_read_head := fun_mk (st := s_read_head) l7 c7 k7
  have F_read_row := fun_mk (st := s_read_row) l8 c8 k8
  have F_read_number := fun_mk (st := s_read_number) l9 c9 k9
  have F_law_cell := fun_mk (st := s_law_cell) l10 c10 k10
  have F_law_numbers := fun_mk (st := s_law_numbers) l11 c11 k11
  have F_law_formula := fun_mk (st := s_law_formula) l12 c12 k12
  have F_law_refused := fun_mk (st := s_law_refused) l13 c13 k13
  have F_law := fun_mk (st := s_law) l14 c14 k14
  have b_is_integer := F_is_integer.binds (ps := ["value"]) fun _ _ _ _ _ _ us hl => match us, hl with | [_], _ => rfl
  have g_is_integer := PySem.W.mg_of X G a0
  have b_are_integers := F_are_integers.binds (ps := ["values"]) fun _ _ _ _ _ _ us hl => match us, hl with | [_], _ => rfl
  have g_are_integers := PySem.W.mg_of X G a1
  have b_is_formula := F_is_formula.binds (ps := ["value"]) fun _ _ _ _ _ _ us hl => match us, hl with | [_], _ => rfl
  have g_is_formula := PySem.W.mg_of X G a2
  have b_is_step := F_is_step.binds (ps := ["step", "place"]) fun _ _ _ _ _ _ us hl => match us, hl with | [_, _], _ => rfl
  have g_is_step := PySem.W.mg_of X G a3
  have b_is_paper := F_is_paper.binds (ps := ["value"]) fun _ _ _ _ _ _ us hl => match us, hl with | [_], _ => rfl
  have g_is_paper := PySem.W.mg_of X G a4
  have b_is_enclosure := F_is_enclosure.binds (ps := ["value"]) fun _ _ _ _ _ _ us hl => match us, hl with | [_], _ => rfl
  have g_is_enclosure := PySem.W.mg_of X G a5
  have b_read_paper := F_read_paper.binds (ps := ["text"]) fun _ _ _ _ _ _ us hl => match us, hl with | [_], _ => rfl
  have g_read_paper := PySem.W.mg_of X G a6
  have b_read_head := F_read_head.binds (ps := ["line"]) fun _ _ _ _ _ _ us hl => match us, hl with | [_], _ => rfl
  have g_read_head := PySem.W.mg_of X G a7
  have b_read_row := F_read_row.binds (ps := ["line"]) fun _ _ _ _ _ _ us hl => match us, hl with | [_], _ => rfl
  have g_read_row := PySem.W.mg_of X G a8
  have b_read_number := F_read_number.binds (ps := ["word"]) fun _ _ _ _ _ _ us hl => match us, hl with | [_], _ => rfl
  have g_read_number := PySem.W.mg_of X G a9
  have b_law_cell := F_law_cell.binds (ps := ["script", "k"]) fun _ _ _ _ _ _ us hl => match us, hl with | [_, _], _ => rfl
  have g_law_cell := PySem.W.mg_of X G a10
  have b_law_numbers := F_law_numbers.binds (ps := ["script", "first", "most"]) fun _ _ _ _ _ _ us hl => match us, hl with | [_, _, _], _ => rfl
  have g_law_numbers := PySem.W.mg_of X G a11
  have b_law_formula := F_law_formula.binds (ps := ["numbers", "most"]) fun _ _ _ _ _ _ us hl => match us, hl with | [_, _], _ => rfl
  have g_law_formula := PySem.W.mg_of X G a12
  have b_law_refused := F_law_refused.binds (ps := ["text"]) fun _ _ _ _ _ _ us hl => match us, hl with | [_], _ => rfl
  have g_law_refused := PySem.W.mg_of X G a13
  have m_len := PySem.W.mg_none_of X G z0
  have m_abs := PySem.W.mg_none_of X G z1
  have m_int := PySem.W.mg_none_of X G z2
  have m_bool := PySem.W.mg_none_of X G z3
  have m_str := PySem.W.mg_none_of X G z4
  have m_isinstance := PySem.W.mg_none_of X G z5
  have m_tuple := PySem.W.mg_none_of X G z6
  have m_range := PySem.W.mg_none_of X G z7
  have m_max := PySem.W.mg_none_of X G z8
  have m_enumerate := PySem.W.mg_none_of X G z9
  have g_COUNTS := PySem.W.mg_of X G zc
  have C : Counts K w dd := counts_mk ⟨zl, zk, zo⟩ y0 y1 y2 y3 y4 y5 y6 y7 y8 y9 y10 y11 y12 y13 v0 v1 v2 v3 v4 v5 v6 v7
  have T0 : Errs K mg "InvalidText" CE0 CP := ⟨PySem.W.mg_of X G uE0, PySem.W.mg_of X G uP, xE0, kE0, bE0, tE0, bP, tP, iP, sE0, ⟨exa0, exb0, bE0, exc0, exd0, exe0, exf0, exg0⟩⟩
  exact ⟨PySem.W.fnOf "law" "law" (defArgs s_law) (defBody s_law) (defScope s_law) .none kV14 dc14 pm14 an14 cd14 ct14, fun s v => .of_eq rfl, fun base _ _ => ok_law F_law T0 F_is_integer F_are_integers F_is_formula F_is_step F_is_paper F_is_enclosure F_read_paper F_read_head F_read_row F_read_number F_law_cell F_law_numbers F_law_formula F_law_refused b_is_integer b_are_integers b_is_formula b_is_step b_is_paper b_is_enclosure b_read_paper b_read_head b_read_row b_read_number b_law_cell b_law_numbers b_law_formula b_law_refused g_is_integer g_are_integers g_is_formula g_is_step g_is_paper g_is_enclosure g_read_paper g_read_head g_read_row g_read_number g_law_cell g_law_numbers g_law_formula g_law_refused (PySem.W.mg_of X G u0) (PySem.W.mg_of X G u1) (PySem.W.mg_of X G u2) g_COUNTS C m_len m_abs m_int m_bool m_str m_isinstance m_tuple m_range m_max m_enumerate⟩
end
end K14
open PySem PySem.W PyProof.Rows
set_option maxHeartbeats 0 in
theorem PySem.Challenge.cw_portolan_k14_faulty_texts_of_papers_holds : PySem.Challenge.rw_portolan_k14_faulty_texts_of_papers.Holds := by
  w_on; o_law; k_head; (case hw => w_witness2)
  k_fill
  refine L2.walk_ofB (l := PySem.Challenge.rw_portolan_k14_faulty_texts_of_papers) (n := 63) (k := 7) (x := "script") (CX := fun _ => L2.CX0) (sp := fun w => K14.spLaw _) rfl (by decide) rfl ⟨rfl, by decide, by decide⟩ (fun w h Y => PySem.W.kIn_of Y) ?F (fun _ _ a ns hl hbits _ hS => ⟨a, ns, rfl, hS, hl, hbits, fun _ => rfl⟩) (fun _ _ _ _ _ h => h)
  case F =>
    intro w mg fa h KX G hmg
    refine' K14.all_mk KX G hmg ?a0 ?l0 ?c0 ?k0 ?a1 ?l1 ?c1 ?k1 ?a2 ?l2 ?c2 ?k2 ?a3 ?l3 ?c3 ?k3 ?a4 ?l4 ?c4 ?k4 ?a5 ?l5 ?c5 ?k5 ?a6 ?l6 ?c6 ?k6 ?a7 ?l7 ?c7 ?k7 ?a8 ?l8 ?c8 ?k8 ?a9 ?l9 ?c9 ?k9 ?a10 ?l10 ?c10 ?k10 ?a11 ?l11 ?c11 ?k11 ?a12 ?l12 ?c12 ?k12 ?a13 ?l13 ?c13 ?k13 ?a14 ?l14 ?c14 ?k14 ?z0 ?z1 ?z2 ?z3 ?z4 ?z5 ?z6 ?z7 ?z8 ?z9 ?zc ?zl ?zk ?zo ?y0 ?y1 ?y2 ?y3 ?y4 ?y5 ?y6 ?y7 ?y8 ?y9 ?y10 ?y11 ?y12 ?y13 ?u0 ?u1 ?u2 ?uP ?bP ?tP ?iP ?uE0 ?xE0 ?kE0 ?bE0 ?tE0 ?sE0 ?exa0 ?exb0 ?exc0 ?exd0 ?exe0 ?exf0 ?exg0 ?v0 ?v1 ?v2 ?v3 ?v4 ?v5 ?v6 ?v7
    (case a0 => k_is); (case l0 => k_is); (case c0 => k_is); (case k0 => k_is); (case a1 => k_is); (case l1 => k_is); (case c1 => k_is); (case k1 => k_is); (case a2 => k_is); (case l2 => k_is); (case c2 => k_is); (case k2 => k_is); (case a3 => k_is); (case l3 => k_is); (case c3 => k_is); (case k3 => k_is); (case a4 => k_is); (case l4 => k_is); (case c4 => k_is); (case k4 => k_is); (case a5 => k_is); (case l5 => k_is); (case c5 => k_is); (case k5 => k_is); (case a6 => k_is); (case l6 => k_is); (case c6 => k_is); (case k6 => k_is); (case a7 => k_is); (case l7 => k_is); (case c7 => k_is); (case k7 => k_is); (case a8 => k_is); (case l8 => k_is); (case c8 => k_is); (case k8 => k_is); (case a9 => k_is); (case l9 => k_is); (case c9 => k_is); (case k9 => k_is); (case a10 => k_is); (case l10 => k_is); (case c10 => k_is); (case k10 => k_is); (case a11 => k_is); (case l11 => k_is); (case c11 => k_is); (case k11 => k_is); (case a12 => k_is); (case l12 => k_is); (case c12 => k_is); (case k12 => k_is); (case a13 => k_is); (case l13 => k_is); (case c13 => k_is); (case k13 => k_is); (case a14 => k_is); (case l14 => k_is); (case c14 => k_is); (case k14 => k_is); (case z0 => k_is); (case z1 => k_is); (case z2 => k_is); (case z3 => k_is); (case z4 => k_is); (case z5 => k_is); (case z6 => k_is); (case z7 => k_is); (case z8 => k_is); (case z9 => k_is); (case zc => k_is); (case zl => k_is); (case zk => k_keys); (case zo => decide); (case y0 => k_is); (case y1 => k_is); (case y2 => k_is); (case y3 => k_is); (case y4 => k_is); (case y5 => k_is); (case y6 => k_is); (case y7 => k_is); (case y8 => k_is); (case y9 => k_is); (case y10 => k_is); (case y11 => k_is); (case y12 => k_is); (case y13 => k_is); (case u0 => k_is); (case u1 => k_is); (case u2 => k_is); (case uP => k_is); (case bP => k_is); (case tP => k_is); (case iP => k_is); (case uE0 => k_is); (case xE0 => k_exc); (case kE0 => k_is); (case bE0 => k_is); (case tE0 => k_is); (case sE0 => k_is); (case exa0 => k_is); (case exb0 => k_is); (case exc0 => k_is); (case exd0 => k_is); (case exe0 => k_is); (case exf0 => k_is); (case exg0 => k_is); (case v0 => k_is); (case v1 => k_is); (case v2 => k_is); (case v3 => k_is); (case v4 => k_is); (case v5 => k_is); (case v6 => k_is); (case v7 => k_is)

