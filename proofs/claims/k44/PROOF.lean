import PyProof.Rows.All
import Wide.All
import OpenK.AllK
import Wide.FinOn
import HandS.ForMost
import HandS.More
import HandS.FStr
import HandS.Evl
import HandS.Wide
import HandS.WideBits
import HandS.Style
import HandS.IsInst
import PyProof.P3Eq
import HandS.Iter
import HandS.MapJoin
import HandS.MapObj
import KE.KRevIter
import PyProof.JoinWalk
import PyProof.CollectWalk
import HandS.Codes
import HandS.StrMore
import HandS.Text
import KE.KxField
import PySem.Challenge.RW_portolan_k44_texts_of_arcs
set_option Elab.async false
set_option linter.all false
set_option maxRecDepth 100000
set_option maxHeartbeats 4000000
/-! Own rules over the layer: what a reading evaluates to, for texts that change nothing. -/
namespace Cm
open PySem PySem.Spec PyProof.Rows L2 Evl

theorem ex_app {H H' : Hp} (e : Ex H H') {p : Addr} {o : HO} (h : H p = some o) : H' p = some o := e p o h
/-- a new tuple comes back -/
def RetU (xs : List V) (H : Hp) (Q : VK) : Prop := ∀ p H2, H p = none → Ex H H2 → H2 p = some (.tup xs) → Q (.ref p) H2
def SpU (sp : Sp) (vs : List V) (H : Hp) (xs : List V) : Prop := ∀ H1, Ex H H1 → ∀ Q : VK, (∀ p H2, H1 p = none → Ex H1 H2 → H2 p = some (.tup xs) → Q (.ref p) H2) → ∀ E : XK, sp vs H1 Q E
section
variable {K : PySem.W.Frag} {σ : L2.St} {H H' : Hp} {ta tb tc te tx : TE} {t u : TT} {x y z v w : V} {r r' : R2} {D : Ends} {tz : TS}
/-- the slots written out anew -/
theorem st_is {σ' : L2.St} {ts : TS} (e : σ = σ') (h : ts D σ' H) : ts D σ H := by
  rw [e]
  exact h
theorem RetU.go {xs : List V} {Q : VK} (k : RetU xs H Q) (e : Ex H H') {p : Addr} {H2 : Hp} (hp : H' p = none) (e2 : Ex H' H2) (h : H2 p = some (.tup xs)) : Q (.ref p) H2 := k p H2 (fresh_back e hp) (e.trans e2) h
theorem eu_call {sp : Sp} {dvs vs xs : List V} {E : XK} {ta : TA} (h : EvA ta σ H vs) (hs : SpU sp (vs ++ dvs) H xs) : EvU (tCall sp dvs E ta) σ H xs := fun H1 e Q q =>
  h H1 e _ fun H2 e2 => hs H2 (e.trans e2) Q (fun p H3 hp e3 h3 => q p H3 (fresh_back e2 hp) (e2.trans e3) h3) E
theorem eu_is {xs ys : List V} (h : EvU te σ H xs) (e : xs = ys) : EvU te σ H ys := by
  rw [← e]
  exact h
/-- a call whose first argument is a new tuple -/
theorem ev_callU {sp : Sp} {dvs vs xs : List V} {E : XK} {tr : TA} (h1 : EvU te σ H xs) (h2 : EvA tr σ H vs) (hs : ∀ p H1, Ex H H1 → H1 p = some (.tup xs) → SpV sp (.ref p :: vs ++ dvs) H1 z) : Ev (tCall sp dvs E (tCons te tr)) σ H z := fun H1 e Q q =>
  h1 H1 e _ fun p H2 np e2 hp => h2 H2 (e.trans e2) _ fun H3 e3 => hs p H3 ((e.trans e2).trans e3) (e3 _ _ hp) H3 (Ex.refl H3) Q (fun H4 e4 => q H4 ((e2.trans e3).trans e4)) E
/-- .. whose second argument is a new tuple -/
theorem ev_callVU {sp : Sp} {dvs vs xs : List V} {E : XK} {tr : TA} (h0 : Ev ta σ H x) (h1 : EvU te σ H xs) (h2 : EvA tr σ H vs) (hs : ∀ p H1, Ex H H1 → H1 p = some (.tup xs) → SpV sp (x :: .ref p :: vs ++ dvs) H1 z) : Ev (tCall sp dvs E (tCons ta (tCons te tr))) σ H z := fun H1 e Q q =>
  h0 H1 e _ fun H2 e2 => h1 H2 (e.trans e2) _ fun p H3 np e3 hp => h2 H3 ((e.trans e2).trans e3) _ fun H4 e4 => hs p H4 (((e.trans e2).trans e3).trans e4) (e4 _ _ hp) H4 (Ex.refl H4) Q (fun H5 e5 => q H5 (((e2.trans e3).trans e4).trans e5)) E
theorem ev_chain {b c : Bool} (ha : Ev ta σ H x) (hb : Ev tb σ H y) (hc : Ev tc σ H w) (h1 : RV r x y H (.bl b)) (h2 : RV r' y w H (.bl c)) : Ev (tChain r r' ta tb tc) σ H (.bl (b && c)) := fun H1 e Q q =>
  ha H1 e _ fun H2 e2 => hb H2 (e.trans e2) _ fun H3 e3 => h1 H3 ((e.trans e2).trans e3) _ fun H4 e4 => ⟨b, rfl, by
    cases b with
    | true =>
      show tc σ H4 _
      exact hc H4 (((e.trans e2).trans e3).trans e4) _ fun H5 e5 => h2 H5 ((((e.trans e2).trans e3).trans e4).trans e5) Q fun H6 e6 => q H6 ((((e2.trans e3).trans e4).trans e5).trans e6)
    | false =>
      show Q (.bl false) H4
      exact q H4 ((e2.trans e3).trans e4)⟩
theorem rv_shl {i : Int} {k : Nat} (h : CShl i (k : Int)) : RV (fun x y H Q => ∃ (i : Int) (k : Nat), x = .int i ∧ y = .int (k : Int) ∧ CShl i (k : Int) ∧ Q (.int (i * 2 ^ k)) H) (.int i) (.int (k : Int)) H (.int (i * 2 ^ k)) :=
  fun H1 _ _ q => ⟨i, k, rfl, rfl, h, q H1 (Ex.refl H1)⟩
theorem rv_shr {i : Int} {k : Nat} : RV (fun x y H Q => ∃ (i : Int) (k : Nat), x = .int i ∧ y = .int (k : Int) ∧ Q (.int (i / 2 ^ k)) H) (.int i) (.int (k : Int)) H (.int (i / 2 ^ k)) :=
  fun H1 _ _ q => ⟨i, k, rfl, rfl, q H1 (Ex.refl H1)⟩
theorem rv_isB {a b : Bool} : RV rIsB (.bl a) (.bl b) H (.bl (decide (a = b))) := fun H1 _ _ q => ⟨a, b, rfl, rfl, q H1 (Ex.refl H1)⟩
theorem rv_notB {a b : Bool} : RV rNotB (.bl a) (.bl b) H (.bl (!decide (a = b))) := fun H1 _ _ q => ⟨a, b, rfl, rfl, q H1 (Ex.refl H1)⟩
theorem rv_isN : RV (fun x y H Q => y = .non ∧ Q (.bl (decide (x = .non))) H) x .non H (.bl (decide (x = .non))) := fun H1 _ _ q => ⟨rfl, q H1 (Ex.refl H1)⟩
theorem rv_notN : RV (fun x y H Q => y = .non ∧ Q (.bl (!decide (x = .non))) H) x .non H (.bl (!decide (x = .non))) := fun H1 _ _ q => ⟨rfl, q H1 (Ex.refl H1)⟩
theorem rc_abs {i : Int} : RC (fun xs H Q => ∃ i, xs = [.int i] ∧ Q (.int (if i < 0 then -i else i)) H) [.int i] H (.int (i.natAbs : Int)) := fun H1 _ Q q => ⟨i, rfl, by
  have e : (if i < 0 then -i else i) = (i.natAbs : Int) := by split <;> omega
  rw [e]
  exact q H1 (Ex.refl H1)⟩
theorem rc_max2 {i j : Int} : RC (fun xs H Q => ∃ i j, xs = [.int i, .int j] ∧ Q (.int (if j > i then j else i)) H) [.int i, .int j] H (.int (max i j)) := fun H1 _ Q q => ⟨i, j, rfl, by
  have e : (if j > i then j else i) = max i j := by split <;> omega
  rw [e]
  exact q H1 (Ex.refl H1)⟩
theorem rc_min2 {i j : Int} : RC (fun xs H Q => ∃ i j, xs = [.int i, .int j] ∧ Q (.int (if j < i then j else i)) H) [.int i, .int j] H (.int (min i j)) := fun H1 _ Q q => ⟨i, j, rfl, by
  have e : (if j < i then j else i) = min i j := by split <;> omega
  rw [e]
  exact q H1 (Ex.refl H1)⟩
theorem rc_intB {k : Bool} : RC (fun xs H Q => (∃ i, xs = [.int i] ∧ Q (.int i) H) ∨ ∃ k, xs = [.bl k] ∧ Q (.int (if k then 1 else 0)) H) [.bl k] H (.int (if k then 1 else 0)) := fun H1 _ Q q => Or.inr ⟨k, rfl, q H1 (Ex.refl H1)⟩
theorem rc_intI {i : Int} : RC (fun xs H Q => (∃ i, xs = [.int i] ∧ Q (.int i) H) ∨ ∃ k, xs = [.bl k] ∧ Q (.int (if k then 1 else 0)) H) [.int i] H (.int i) := fun H1 _ Q q => Or.inl ⟨i, rfl, q H1 (Ex.refl H1)⟩
theorem rc_isiT {p : Addr} {xs : List V} (h : H p = some (.tup xs)) : RC (rIsi K) [.ref p, .ty "tuple"] H (.bl true) := fun H1 e _ q =>
  ⟨.ref p, .ty "tuple", .type "tuple", .type "tuple", true, rfl, .ty _, .base (.tup (e _ _ h)), kit_ty (by decide +kernel), q H1 (Ex.refl H1)⟩
theorem rc_isiS {x : Str} : RC (rIsi K) [.str x, .ty "str"] H (.bl true) := fun H1 e _ q =>
  ⟨.str x, .ty "str", .type "str", .type "str", true, rfl, .ty _, .base (.str x), kit_ty (by decide +kernel), q H1 (Ex.refl H1)⟩
theorem rc_lenL {p : Addr} {xs : List V} (h : SqL K H p xs) : RC (fun xs H Q => ∃ x n, xs = [x] ∧ LenV K x H n ∧ Q (.int n) H) [.ref p] H (.int (xs.length : Int)) := fun H1 e _ q =>
  ⟨.ref p, (xs.length : Nat), rfl, .inl ⟨_, ex_l e h, rfl⟩, q H1 (Ex.refl H1)⟩
/-! ### data -/
mutual
theorem dp_mono (e : Ex H H') : ∀ (d : PyData) (v : V), Dp K H v d → Dp K H' v d
  | _, _, .non => .non
  | _, _, .bl b => .bl b
  | _, _, .int i => .int i
  | _, _, .str x => .str x
  | _, _, .lst h a => .lst (ex_l e h) (dps_mono e _ _ a)
  | _, _, .tup h a => .tup (ex_t e h) (dps_mono e _ _ a)
theorem dps_mono (e : Ex H H') : ∀ (ds : List PyData) (vs : List V), DpAll K H vs ds → DpAll K H' vs ds
  | _, _, .nil => .nil
  | _, _, .cons h t => .cons (dp_mono e _ _ h) (dps_mono e _ _ t)
end
theorem dpInts : ∀ (is : List Int), DpAll K H (is.map V.int) (is.map PyData.int)
  | [] => .nil
  | i :: r => .cons (.int i) (dpInts r)
theorem eqvS {d : PyData} (h : SeqAt.shaped d = true) : PyData.eqv d d = true := by
  unfold SeqAt.shaped at h
  rw [Bool.and_eq_true] at h
  exact PySem.SeqAt.eqv_refl d h.1
/-- the same data on both sides -/
theorem rv_neS {d : PyData} (hx : Dp K H x d) (hy : Dp K H y d) (hs : SeqAt.shaped d = true) : RV (rNeD K) x y H (.bl false) := fun H1 e Q q =>
  ⟨d, d, dp_mono e _ _ hx, dp_mono e _ _ hy, hs, hs, by
    rw [eqvS hs]
    exact q H1 (Ex.refl H1)⟩
theorem rv_eqS {d : PyData} (hx : Dp K H x d) (hy : Dp K H y d) (hs : SeqAt.shaped d = true) : RV (rEqD K) x y H (.bl true) := fun H1 e Q q =>
  ⟨d, d, dp_mono e _ _ hx, dp_mono e _ _ hy, hs, hs, by
    rw [eqvS hs]
    exact q H1 (Ex.refl H1)⟩
/-- a pair of ints -/
theorem dp2 {p : Addr} {i j : Int} (h : SqT K H p [.int i, .int j]) : Dp K H (.ref p) (.tuple [.int i, .int j]) := .tup h (.cons (.int i) (.cons (.int j) .nil))
theorem sh2 {i j : Int} : SeqAt.shaped (.tuple [.int i, .int j]) = true := rfl
end
/-! ### numbers -/
/-- a bound that omega does not look into -/
def Bd (k : Nat) (x : Int) : Prop := x.natAbs < 2 ^ k
theorem pow_pos (n : Nat) : (0 : Int) < 2 ^ n := PySem.W.kbt_pos n
theorem pow_abs (n : Nat) : ((2 : Int) ^ n).natAbs = 2 ^ n := by
  rw [Int.natAbs_pow]
  rfl
theorem ab_mono {x : Int} {a b : Nat} (h : x.natAbs < 2 ^ a) (hab : a ≤ b) : x.natAbs < 2 ^ b := Nat.lt_of_lt_of_le h (Nat.pow_le_pow_right (by decide) hab)
theorem ab_pow {n k : Nat} (h : n < k) : ((2 : Int) ^ n).natAbs < 2 ^ k := by
  rw [pow_abs]
  exact Nat.pow_lt_pow_right (by decide) h
theorem ab_shl {x : Int} {a n : Nat} (h : x.natAbs < 2 ^ a) : (x * 2 ^ n).natAbs < 2 ^ (a + n) := by
  rw [Int.natAbs_mul, pow_abs, Nat.pow_add]
  exact Nat.mul_lt_mul_of_pos_right h (Nat.two_pow_pos n)
theorem ab_mul {x y : Int} {a b : Nat} (hx : x.natAbs < 2 ^ a) (hy : y.natAbs < 2 ^ b) : (x * y).natAbs < 2 ^ (a + b) := wide_lt hx hy
theorem ab_add {x y : Int} {a : Nat} (hx : x.natAbs < 2 ^ a) (hy : y.natAbs < 2 ^ a) : (x + y).natAbs < 2 ^ (a + 1) := by
  have e : 2 ^ (a + 1) = 2 ^ a + 2 ^ a := by rw [Nat.pow_succ]; omega
  omega
theorem ab_neg {x : Int} {a : Nat} (hx : x.natAbs < 2 ^ a) : (-x).natAbs < 2 ^ a := by omega
theorem ab_sm {x : Int} {a c : Nat} (h : x.natAbs ≤ c) (hc : c < 2 ^ a) : x.natAbs < 2 ^ a := Nat.lt_of_le_of_lt h hc
theorem fl_le {s q : Int} (hq : 0 < q) : s / q * q ≤ s := Int.ediv_mul_le s (by omega)
theorem fl_lt {s q : Int} (hq : 0 < q) : s < (s / q + 1) * q := by
  rw [Int.add_mul, Int.one_mul]
  exact Int.lt_ediv_add_one_mul_self s hq |> fun h => by rw [Int.add_mul, Int.one_mul] at h; exact h
theorem cl_ge {s q : Int} (hq : 0 < q) : s ≤ -(-s / q) * q := by
  have h := fl_le (s := -s) hq
  rw [Int.neg_mul]
  omega
theorem cl_lt {s q : Int} (hq : 0 < q) : (-(-s / q) - 1) * q < s := by
  have h := fl_lt (s := -s) hq
  rw [Int.sub_mul, Int.one_mul, Int.neg_mul]
  rw [Int.add_mul, Int.one_mul] at h
  omega
theorem ab_div {x q : Int} {a : Nat} (hq : 0 < q) (h : x.natAbs < 2 ^ a) : (x / q).natAbs < 2 ^ a := by
  have h1 : (x / q).natAbs ≤ x.natAbs := by
    by_cases hx : 0 ≤ x
    · have := Int.ediv_le_self q hx
      have := Int.ediv_nonneg hx (Int.le_of_lt hq)
      omega
    · have h2 : x / q < 0 := Int.ediv_neg_of_neg_of_pos (by omega) hq
      have h3 := fl_lt (s := x) hq
      have h4 : (x / q + 1) * q ≤ (x / q + 1) := by
        have h5 : (x / q + 1) * (q - 1) ≤ 0 := Int.mul_nonpos_of_nonpos_of_nonneg (by omega) (by omega)
        rw [Int.mul_sub, Int.mul_one] at h5
        omega
      omega
  omega
theorem mul_le_r {a b q : Int} (h : a ≤ b) (hq : 0 < q) : a * q ≤ b * q := Int.mul_le_mul_of_nonneg_right h (Int.le_of_lt hq)
/-- the ceiling, by one more where the floor is not exact -/
theorem ceil_eq {s q : Int} (hq : 0 < q) : -(-s / q) = s / q + (if (!decide (s / q * q = s)) = true then 1 else 0) := by
  have a1 := fl_le (s := s) hq
  have a2 := fl_lt (s := s) hq
  have b1 := cl_ge (s := s) hq
  have b2 := cl_lt (s := s) hq
  have lt_of : ∀ {u v : Int}, u * q < v * q → u < v := fun h => Int.lt_of_mul_lt_mul_right h (Int.le_of_lt hq)
  have c1 : -(-s / q) - 1 < s / q + 1 := lt_of (Int.lt_trans b2 a2)
  by_cases e : s / q * q = s
  · rw [decide_eq_true e]
    have c2 : -(-s / q) - 1 < s / q := lt_of (by rw [e]; exact b2)
    have c3 : s / q - 1 < -(-s / q) := lt_of (Int.lt_of_lt_of_le (by rw [Int.sub_mul, Int.one_mul, e]; omega) b1)
    show _ = s / q + 0
    omega
  · rw [decide_eq_false e]
    have c3 : s / q < -(-s / q) := lt_of (by omega)
    show _ = s / q + 1
    omega
end Cm

/-! Own rule: sep.join(reversed(a list of texts)). -/
namespace Jr
open PySem PySem.Spec PyProof.Rows L2
open PySem.Builtin PySem.Builtin.Str PySem.Builtin.Int
abbrev RI : String := "list_reverseiterator"
theorem nolenR : typeLookup (.type "list_reverseiterator") "__len__" = pure none := by rw [typeLookup_type, builtinLookup_eq_fast]; kernel_rfl
theorem hintR : typeLookup (.type "list_reverseiterator") "__length_hint__" = pure (some (.builtin "list_reverseiterator.__length_hint__")) := by rw [typeLookup_type, builtinLookup_eq_fast]; kernel_rfl
section
variable {prog : Program} {w : World} {A : Around} {E : Value → Shared → Prop} {s : Shared} {I : Addr} {fp wr : List Addr} {G : Array GenState → Array GenState → Prop} {n : Nat} {P : Nat → Value → Prop} {St : Nat → Shared → Prop}
theorem hint_rev {Q : Bool → Shared → Prop} (hT : s.TypeIs (.ref I) "list_reverseiterator") (h : Q false s) : wpAny (model prog w) A (Builtin.List.listLengthHint (.ref I)) Q E s := by
  unfold Builtin.List.listLengthHint; refine wpAny_bind (wpAny_specialOf hT nolenR ?_)
  show wpAny _ A (specialOf (Value.ref I) (Str.ofString "__length_hint__") >>= _) _ _ s
  refine wpAny_bind (wpAny_specialOf hT hintR ?_)
  (generalize hid : ("list_reverseiterator.__length_hint__" : String) = id0; wp_delta; rw [show splitId id0 = some ("list_reverseiterator", "__length_hint__") from by subst hid; decide +kernel]; subst hid)
  refine wpAny_bind (wpAny_isInstance (T := "list_reverseiterator") (b := true) hT (by rw [isSubtype_type]; kernel_rfl) ?_)
  exact wpAny_pure h
theorem collect_rev {Q : List Value → Shared → Prop} (W : WalksS prog w A.in1 I fp wr G n P St) (hT : ∀ i s, St i s → s.TypeIs (.ref I) "list_reverseiterator") (st0 : St 0 s) (hfp : ∀ b ∈ fp, b < s.heap.objs.size) (hI : I ∈ fp)
    (hQ : ∀ s' acc, Moved wr G s s' → ItemsOf P acc n → Q acc.toList s') (hn : n ≤ sizeLine) : wpAny (model prog w) A (collect (.ref I)) Q E s := by
  have nf : s.heap.objs.size ∉ fp := fun hm => absurd (hfp _ hm) (Nat.lt_irrefl _)
  have nI : s.heap.objs.size ≠ I := fun e => nf (by rw [e]; exact hI)
  have same : Builtin.List.listSameRef (.ref s.heap.objs.size) (.ref I) = false := by simp [Builtin.List.listSameRef, nI]
  have new := Heap.get?_push_size s.heap (o := { cls := .type "list", data := .seq ([] : List Value).toArray }) rfl
  have st1 := W.frame 0 s (s.heap.push { cls := .type "list", data := .seq ([] : List Value).toArray }) s.toks st0 (Nat.le_refl _) fun b _ o e => Heap.get?_push_of_some _ e
  unfold collect
  refine wpAny_bind (wpAny_runValue (codeAny_builtin F.entry_proto_collect (by
    rw [Around.under_plainId F.plain_proto_collect _]
    show wpAny _ A.in1 (newList [] >>= fun l => again (.builtin "list.__iadd__" ⟨[l, .ref I], []⟩)) _ _ s
    refine wpAny_bind (wpAny_newObj_type (wpAny_pure ⟨plainId_quiet F.plain_list_iadd _, codeAny_builtin F.entry_list_iadd ?_⟩))
    rw [Around.under_plainId F.plain_list_iadd _]
    show wpAny _ A.in1 (Builtin.List.listExtendWith (.ref s.heap.objs.size) (.ref I) (.ref s.heap.objs.size)) _ _ _
    unfold Builtin.List.listExtendWith; refine wpAny_bind (wpAny_typeOf (hT 0 _ st1) ?_)
    rw [if_neg (by rw [same]; decide)]; refine wpAny_bind (W.self 0 _ _ _ st1 (wpAny_bind (wpAny_holding (hint_rev (hT 0 _ st1) ?_))))
    rw [if_neg (by decide)]; refine wpAny_pure ⟨plainId_quiet F.plain_extend_loop _, codeAny_extend_loopS W hn _ nf _ n 0 _ _ _ rfl (Nat.zero_le _) st1 new (ItemsOf.nil P) fun s' acc' c' hm hS' hacc => ?_⟩
    show wpAny _ A (load s.heap.objs.size >>= _) _ _ s'
    exact wpAny_bind (wpAny_load hS' (wpAny_pure (hQ s' acc' (Moved.drop_new (o := { cls := .type "list", data := .seq ([] : List Value).toArray }) (tk := s.toks) hm (Nat.le_refl _)) hacc))))))
theorem join_rev {x : Str} {t : Tok} {ys : List Str} {Q : Value → Shared → Prop} (W : WalksS prog w A.in1.in1 I fp wr G n P St) (hT : ∀ i s, St i s → s.TypeIs (.ref I) "list_reverseiterator") (st0 : St 0 s) (hfp : ∀ b ∈ fp, b < s.heap.objs.size) (hI : I ∈ fp)
    (hP : ∀ acc : Array Value, ItemsOf P acc n → StrsAre acc.toList ys) (hok : (ys.map (·.length)).sum + ys.length * x.length ≤ 16777216) (hq : ∀ s', Moved wr G s s' → ∀ t' k, Q (.str (Txt.join x ys) t') { s' with toks := k }) (hn : n ≤ sizeLine) :
    wpAny (model prog w) A (call (.builtin "str.join") [.str x t, .ref I]) Q E s := by
  have j0 := joinOk_of hok
  unfold JoinOk at j0; rw [Bool.not_eq_true'] at j0
  refine wpAny_call (codeAny_call_builtin F.slot_str_join.plain F.entry_str_join (F.slot_str_join.check _ _ _ _ _ _ _ _ (typeIs_str _ _ _) (F.args_str_join_2 _ _) (by
    rw [join_tree_other]; refine wpAny_bind (wpAny_typeOf (hT 0 s st0) ?_)
    show wpAny _ A.in1 ((pyIter (.ref I)).tryCatch _ >>= fun it => collect it >>= fun items => joinTail x items) _ _ s
    refine wpAny_bind (wpAny_tryCatch (W.of_in1.self 0 s _ _ st0 (wpAny_bind (collect_rev W hT st0 hfp hI (fun s' acc hm hacc => ?_) hn))))
    obtain ⟨l, hl, ht⟩ := strsAre_values (hP acc hacc); subst ht; rw [hl]
    have g : Gives (joinTail x (strValues l)) (joinMade x l) := by rcases l with _ | ⟨p, _ | ⟨q, r⟩⟩ <;> exact gives_joinTail x _ j0
    exact g prog w A (wants Q E) s' (post_join l ⟨joinFit_length j0, hq s' hm⟩))))
end
section
variable {X : Cx}
/-- sep.join(reversed(xs)), xs a list of texts: sep first, then xs -/
def tJoinRev (K : PySem.W.Frag) (to : TE) (ta : TA) : TE := fun σ H Q => to σ H fun x H1 => (∃ a, x = .str a) ∧ ta σ H1 fun vs H2 => ∃ (a : Str) (q : Addr) (ys : List Str),
  x = .str a ∧ vs = [.ref q] ∧ SqL K H2 q (ys.map V.str) ∧ (ys.map (·.length)).sum + ys.length * a.length ≤ 16777216 ∧ Q (.str (Txt.join a ys.reverse)) H2
theorem rev_strs {its : List Value} {ys : List Str} (r : Vals (ys.map V.str) its) {acc : Array Value} (h : ItemsOf (fun i v => its.toArray[its.toArray.size - 1 - i]? = some v) acc its.toArray.size) : StrsAre acc.toList ys.reverse := by
  have e : acc.toList = its.reverse := by
    obtain ⟨h1, h2⟩ := h
    refine List.ext_getElem? fun i => ?_
    by_cases hi : i < its.length
    · have hz : i < acc.size := by rw [h1]; simpa using hi
      have h3 := h2 i acc[i] (Array.getElem?_eq_getElem hz)
      rw [List.getElem?_reverse hi, Array.getElem?_toList, Array.getElem?_eq_getElem hz, ← h3]
      simp
    · rw [List.getElem?_eq_none (by rw [Array.length_toList, h1]; simp; omega), List.getElem?_eq_none (by rw [List.length_reverse]; omega)]
  rw [e]
  have key : ∀ {ys : List Str} {its : List Value}, Vals (ys.map V.str) its → StrsAre its ys := fun {ys its} r => strs_of_vals r
  have r2 : Vals (ys.reverse.map V.str) its.reverse := by
    rw [List.map_reverse]
    exact r.reverse
  exact key r2
theorem pe_joinRev {o e : Expr} {to : TE} {ta : TA} {apos pos p pos2 : Pos} (hc : X.calm = true) (ho : PE X o to) (hg : Gl X "reversed") (hm : X.mg "reversed" = none) (ha : PA X [e] ta)
    (hs1 : starEach [.Call (.Name "reversed" p) [e] [] pos2] X.env = [(false, eval (.Call (.Name "reversed" p) [e] [] pos2) X.env)] := by rfl) (hs : starEach [e] X.env = [(false, eval e X.env)] := by rfl)
    (hbase : attributeBase o "join" X.env (eval o X.env) = eval o X.env := by rfl) (hline : (apos.endLine == pos.line) = true := by rfl) :
    PE X (.Call (.Attribute o "join" apos) [.Call (.Name "reversed" p) [e] [] pos2] [] pos) (tJoinRev X.K to ta) := by
  refine ⟨fun pins s σ H Q I h => PySem.Call_method1 hbase hs1 hline (thn (ho.run pins s σ H _ I h) fun v s1 ⟨x, H1, I1, r1, q1⟩ => ?_)⟩
  obtain ⟨⟨a, rfl⟩, q1⟩ := q1; obtain ⟨t, rfl⟩ := _root_.id r1
  refine ⟨"str", _, F.plainAttrs_str, F.slot_str_join, F.type_str_join, typeIs_str _ _ _, (fun _ e => nomatch e), Calls.callWith_builtin rfl (Calls.evalArgs_plain (Calls.spliced_cons (Call_ (ld_blt I1 hg hm PyProof.Rows.boot_reversed (PyProof.Rows.callWith_type1 (thn (ha.run pos2 pins s1 σ H1 _ I1 q1) fun us s3 ⟨vs, H2, I3, r3, q3⟩ => ?_) hs rfl)))))⟩
  obtain ⟨a', q, ys, ea, rfl, hq, hz, q3⟩ := q3; cases ea
  cases r3 with
  | cons r rr =>
    cases rr; cases r
    obtain ⟨its, rv, pl, hsz⟩ := I3.list hq
    have hlt : q < s3.heap.objs.size := by
      obtain ⟨o, ho, _⟩ := pl.isList
      exact Heap.lt_size ho
    have hh := I3.ok.hd hc
    refine call_reversed_list pl.isList (Calls.spliced_nil ?_)
    have W := (Walks.listRev (prog := X.prog) (w := X.w) (A := X.A.in1.in1) hh s3.heap.objs.size q (Nat.ne_of_lt hlt) its.toArray).toS
    refine join_rev (ys := ys.reverse) W (fun i s' st => st.2.1.typeIs) ⟨Nat.zero_le _, ⟨_, Heap.get?_push_size _ rfl, rfl, by rw [show ((its.toArray.size : Nat) : Int) - 1 - ((0 : Nat) : Int) = ((its.toArray.size : Nat) : Int) - 1 by omega]; rfl⟩, pl.isList.push _⟩ (fun b hb => ?_) (by simp) (fun acc hacc => rev_strs rv hacc) (by
      rw [List.map_reverse, List.sum_reverse, List.length_reverse]
      exact hz) (fun s' hmv t' k => ?_) (by
      have := rv.length
      simp only [List.size_toArray]
      omega)
    · rw [Heap.size_push]
      simp only [List.mem_cons, List.not_mem_nil, or_false] at hb
      rcases hb with rfl | rfl
      · exact Nat.lt_succ_self _
      · exact Nat.lt_succ_of_lt hlt
    · rw [Moved.eq_with hmv]
      exact ⟨.str _, H2, I3.kept (t' := k) fun b o e => hmv.heap b o (fun hmem => absurd (Heap.lt_size e) (by rw [List.mem_singleton.mp hmem]; exact Nat.lt_irrefl _)) (Heap.get?_push_of_some _ e), ⟨t', rfl⟩, q3⟩
end
end Jr

/-! Own data: the digits of a number. -/
namespace Dg
open PySem PySem.Builtin PySem.Builtin.Str SX TL
/-- the last k digits -/
def pad : Nat → Nat → List Nat
  | 0, _ => []
  | k + 1, n => pad k (n / 10) ++ [48 + n % 10]
theorem pad_len : ∀ k n, (pad k n).length = k
  | 0, _ => rfl
  | k + 1, n => by
    show (pad k (n / 10) ++ [48 + n % 10]).length = k + 1
    rw [List.length_append, pad_len k]
    rfl
theorem pow_div (n k : Nat) : n / 10 / 10 ^ k = n / 10 ^ (k + 1) := by
  rw [Nat.div_div_eq_div_mul, Nat.pow_succ, Nat.mul_comm]
theorem lt_pow {n k : Nat} (h : n < 10 ^ (k + 1)) : n / 10 < 10 ^ k := by
  rw [Nat.pow_succ] at h
  exact Nat.div_lt_of_lt_mul (by rw [Nat.mul_comm]; exact h)
theorem num_split : ∀ k n, 10 ^ k ≤ n → numL n = numL (n / 10 ^ k) ++ pad k n
  | 0, n, _ => by
    show numL n = numL (n / 1) ++ []
    rw [Nat.div_one, List.append_nil]
  | k + 1, n, h => by
    have h1 : 10 ^ k * 10 ≤ n := by
      rw [← Nat.pow_succ]
      exact h
    have h0 : 0 < 10 ^ k := Nat.pow_pos (by decide)
    have h2 : 10 ^ k ≤ n / 10 := (Nat.le_div_iff_mul_le (by decide)).mpr h1
    rw [numL_step (by omega), num_split k (n / 10) h2, pow_div, List.append_assoc]
    rfl
theorem pad_zero : ∀ k, pad k 0 = List.replicate k 48
  | 0 => rfl
  | k + 1 => by
    show pad k 0 ++ [48] = _
    rw [pad_zero k, List.replicate_succ']
theorem num_len : ∀ k n, n < 10 ^ (k + 1) → (numL n).length ≤ k + 1
  | 0, n, h => by
    rw [numL_lt (by omega)]
    exact Nat.le_refl _
  | k + 1, n, h => by
    by_cases h1 : n < 10
    · rw [numL_lt h1]
      show 1 ≤ k + 1 + 1
      omega
    · rw [numL_step (by omega), List.length_append]
      have := num_len k (n / 10) (lt_pow h)
      show (numL (n / 10)).length + 1 ≤ k + 1 + 1
      omega
theorem num_pad : ∀ k n, n < 10 ^ (k + 1) → List.replicate (k + 1 - (numL n).length) 48 ++ numL n = pad (k + 1) n
  | 0, n, h => by
    have h1 : n < 10 := by omega
    rw [numL_lt h1]
    show [] ++ [48 + n] = [] ++ [48 + n % 10]
    rw [Nat.mod_eq_of_lt h1]
  | k + 1, n, h => by
    by_cases h1 : n < 10
    · rw [numL_lt h1]
      show List.replicate (k + 1) 48 ++ [48 + n] = pad (k + 1) (n / 10) ++ [48 + n % 10]
      rw [Nat.mod_eq_of_lt h1, Nat.div_eq_of_lt h1, pad_zero]
    · have ih := num_pad k (n / 10) (lt_pow h)
      rw [numL_step (by omega), List.length_append]
      show List.replicate (k + 1 + 1 - ((numL (n / 10)).length + 1)) 48 ++ (numL (n / 10) ++ [48 + n % 10]) = pad (k + 1) (n / 10) ++ [48 + n % 10]
      rw [← ih, ← List.append_assoc, show k + 1 + 1 - ((numL (n / 10)).length + 1) = k + 1 - (numL (n / 10)).length by omega]
theorem pad_cons : ∀ k n, n < 10 ^ k → pad (k + 1) n = 48 :: pad k n
  | 0, n, h => by
    have h1 : n = 0 := by
      have : (10 : Nat) ^ 0 = 1 := rfl
      omega
    subst h1
    rfl
  | k + 1, n, h => by
    show pad (k + 1) (n / 10) ++ [48 + n % 10] = 48 :: (pad k (n / 10) ++ [48 + n % 10])
    rw [pad_cons k (n / 10) (lt_pow h)]
    rfl
theorem pad_front : ∀ k n, pad (k + 1) n = (48 + n / 10 ^ k % 10) :: pad k n
  | 0, n => by
    show [] ++ [48 + n % 10] = [48 + n / 1 % 10]
    rw [Nat.div_one]
    rfl
  | k + 1, n => by
    show pad (k + 1) (n / 10) ++ [48 + n % 10] = _ :: (pad k (n / 10) ++ [48 + n % 10])
    rw [pad_front k (n / 10), pow_div]
    rfl
theorem pad_mod : ∀ k n, pad k (n % 10 ^ k) = pad k n
  | 0, _ => rfl
  | k + 1, n => by
    have e : n % 10 ^ (k + 1) = n % 10 + 10 * (n / 10 % 10 ^ k) := by
      rw [Nat.pow_succ, Nat.mul_comm, Nat.mod_mul]
    show pad k (n % 10 ^ (k + 1) / 10) ++ [48 + n % 10 ^ (k + 1) % 10] = pad k (n / 10) ++ [48 + n % 10]
    rw [e, show (n % 10 + 10 * (n / 10 % 10 ^ k)) / 10 = n / 10 % 10 ^ k by omega, show (n % 10 + 10 * (n / 10 % 10 ^ k)) % 10 = n % 10 by omega, pad_mod k]
theorem num_head (n : Nat) : ∃ c r, numL n = c :: r ∧ 48 ≤ c ∧ c ≤ 57 := by
  cases h : numL n with
  | nil => exact absurd h (numL_ne n)
  | cons c r =>
    have h2 := numL_digits n c (by rw [h]; exact List.mem_cons_self ..)
    exact ⟨c, r, rfl, h2⟩
theorem zfill_long {n m : Nat} (h : m ≤ (numL n).length) : Txt.zfill (S (numL n)) (m : Int) = S (numL n) := by
  unfold Txt.zfill
  rw [S_len, if_pos (by omega)]
theorem zfill_short {n m : Nat} (h : (numL n).length < m) : Txt.zfill (S (numL n)) (m : Int) = S (List.replicate (m - (numL n).length) 48 ++ numL n) := by
  unfold Txt.zfill
  rw [S_len, if_neg (by omega), Int.toNat_natCast]
  obtain ⟨c, r, hc, h1, h2⟩ := num_head n
  refine TL.ext_tl ?_
  have e : (S (numL n)).cps[0]? = some c := by
    show (numL n).toArray[0]? = some c
    rw [hc]
    rfl
  have e2 : zfilled (S (numL n)) (m - (numL n).length) = padded (S (numL n)) (m - (numL n).length) 0 48 := by
    unfold zfilled
    rw [e]
    split
    · rename_i z
      cases Option.some.inj z
      omega
    · rename_i z
      cases Option.some.inj z
      omega
    · rfl
  rw [e2]
  show (padded (S (numL n)) (m - (numL n).length) 0 48).cps.toList = _
  rw [PyProof.Rows.padded_list]
  simp
/-- a number with fewer than m digits, filled -/
theorem zfill_num {n m : Nat} (hm : 1 ≤ m) (h : n < 10 ^ m) : Txt.zfill (S (numL n)) (m : Int) = S (pad m n) := by
  obtain ⟨k, rfl⟩ : ∃ k, m = k + 1 := ⟨m - 1, by omega⟩
  rw [← num_pad k n h]
  by_cases hl : k + 1 ≤ (numL n).length
  · rw [zfill_long hl, show k + 1 - (numL n).length = 0 by omega]
    rfl
  · exact zfill_short (by omega)
/-- .. to one digit more than its places -/
theorem zfill_places (n p : Nat) : Txt.zfill (S (numL n)) ((p + 1 : Nat) : Int) = S (numL (n / 10 ^ p) ++ pad p n) := by
  by_cases h : 10 ^ p ≤ n
  · have e := num_split p n h
    have h1 : p + 1 ≤ (numL n).length := by
      rw [e, List.length_append, pad_len]
      have := List.length_pos_iff.mpr (numL_ne (n / 10 ^ p))
      omega
    rw [zfill_long h1, ← e]
  · have h0 : n < 10 ^ p := by omega
    have h1 : n < 10 ^ (p + 1) := by
      rw [Nat.pow_succ]
      omega
    rw [zfill_num (by omega) h1, pad_cons p n h0, Nat.div_eq_of_lt h0, numL_lt (by decide)]
    rfl
theorem joinL_nil : ∀ ps : List (List Nat), joinL [] ps = ps.flatten
  | [] => rfl
  | [p] => by
    show p = p ++ []
    rw [List.append_nil]
  | p :: q :: r => by
    show p ++ ([] ++ joinL [] (q :: r)) = p ++ (q :: r).flatten
    rw [joinL_nil (q :: r)]
    rfl
theorem join_nil (ps : List (List Nat)) : Txt.join (S []) (ps.map S) = S ps.flatten := by rw [join_S, joinL_nil]
theorem slice_to_neg {a b : List Nat} (h : 0 < b.length) : Txt.slice (S (a ++ b)) none (some (-(b.length : Int))) = S a := by
  have e := beq_iff_eq.mp (PyProof.Rows.slice_closes_to_neg (x := S (a ++ b)) (j := -(b.length : Int)) (k := (a.length : Int)) (by omega) (by rw [S_len, List.length_append]; omega) (by rw [S_len, List.length_append]; omega))
  refine e.trans (TL.ext_tl ?_)
  show ((a ++ b).drop (0 : Int).toNat).take ((a.length : Int) - 0).toNat = a
  rw [show (0 : Int).toNat = 0 from rfl, List.drop_zero, show ((a.length : Int) - 0).toNat = a.length by omega, List.take_left]
theorem slice_from_neg {a b : List Nat} (h : 0 < b.length) : Txt.slice (S (a ++ b)) (some (-(b.length : Int))) none = S b := by
  have e := beq_iff_eq.mp (PyProof.Rows.slice_closes_from_neg (x := S (a ++ b)) (i := -(b.length : Int)) (a := (a.length : Int)) (b := ((a ++ b).length : Int)) (by omega) (by rw [S_len, List.length_append]; omega) (by rw [S_len, List.length_append]; omega) (by rw [S_len]))
  refine e.trans (TL.ext_tl ?_)
  show ((a ++ b).drop (a.length : Int).toNat).take (((a ++ b).length : Int) - (a.length : Int)).toNat = b
  rw [Int.toNat_natCast, List.drop_left, List.take_of_length_le (by rw [List.length_append]; omega)]
end Dg

/-! Own rule: {n:0Wd} in an f-string. -/
namespace Fz
section
open PySem PySem.Calls PySem.W PyProof.Rows Builtin Builtin.Str Builtin.Int Builtin.Float
/-- what a field 0Wd is -/
def zf (W : Nat) : FormatSpec := { fill := 48, align := 61, width := some W, type := some 100 }
theorem run_zf (W : Nat) (sp : PySem.Str) (h1 : (sp.length == 0) = false) (hp : parseFormatSpec sp.cps.toList "int" 62 = .ok (zf W))
    (h2 : ((sp.cps.toList.drop 1).any (· ≥ 128) || (sp.cps.getD 0 0 ≥ 128 && !([60, 62, 61, 94] : List Nat).contains (sp.cps.getD 1 0))) = false) (hW : W ≤ 100000)
    {n : Nat} {t u : Tok} (hd : n.log2 < 1920) {y : PySem.Str} (e : intField' (zf W) false [] ((Nat.toDigits 10 n).map fun c => c.toNat) [] 3 = y) (hy : y.length ≤ sizeLine) :
    Meets («int.__format__» ⟨[.int (n : Int) t, .str sp u], []⟩) (fun _ R s => ∀ t' k, R (.ok (.ret (.str y t'))) { s with toks := k }) := by
  apply KPc.meets_of
  intro _ _ _ _ _ _ hh
  unfold Builtin.«int.__format__»
  refine wpAny_bind (wpAny_of_eq (a := (_, _)) rfl (wpAny_bind (wpAny_of_eq (a := _) rfl ?_)))
  rw [if_neg (show ¬ ((Value.str sp u == Value.none) = true) from fun z => nomatch z)]
  refine wpAny_bind (wpAny_typeNameOf (T := "str") (typeIs_str _ _ _) (by decide) fun _ => wpAny_bind (wpAny_of_eq (a := some _) rfl ?_))
  show wpAny _ _ (if (sp.length == 0) = true then _ else _) _ _ _
  rw [h1, if_neg (by decide)]
  show wpAny _ _ (if _ then _ else _) _ _ _
  rw [h2, if_neg (by decide)]
  refine wpAny_bind (wpAny_typeNameOfCut_int ?_)
  simp only [hp]
  show wpAny _ _ (if ("bcdoxXn".toList.map Char.toNat).contains 100 = true then _ else _) _ _ _
  rw [if_pos (by decide)]
  show wpAny _ _ (do let r ← overDigitLimit? (n : Int); _) _ _ _
  rw [PySem.overDigitLimit_small (show (n : Int).natAbs.log2 < 1920 from hd)]
  refine wpAny_bind (wpAny_pure ?_)
  show wpAny _ _ (if W > 100000 then _ else _) _ _ _
  rw [if_neg (by omega)]
  refine KXf.ret_text (T := y) ?_ ?_ hh
  · rw [show decide ((n : Int) < 0) = false from decide_eq_false (by omega)]
    exact e
  · rw [show decide ((n : Int) < 0) = false from decide_eq_false (by omega)]
    show (intField' (zf W) false [] ((Nat.toDigits 10 n).map fun c => c.toNat) [] 3).length ≤ _
    rw [e]
    exact hy
end
open PySem PySem.Spec PyProof.Rows L2 Evl Dg
open SX (S S_len num_S)
open TL (numL numL_ne)
theorem digits_num (n : Nat) : ((Nat.toDigits 10 n).map fun c => c.toNat) = numL n := by
  have h1 := text_ofNat n
  have h2 : Str.ofString (toString (Int.ofNat n)) = S (numL n) := num_S n
  rw [h2] at h1
  exact (congrArg (fun x : Str => x.cps.toList) h1).symm
theorem zf_text {W n : Nat} (hW : 1 ≤ W) (h : n < 10 ^ W) : intField' (zf W) false [] ((Nat.toDigits 10 n).map fun c => c.toNat) [] 3 = S (pad W n) := by
  rw [digits_num, intField'_zero_nonneg (zf W) (numL n) 3 rfl rfl (by
    cases e : numL n with
    | nil => exact absurd e (numL_ne n)
    | cons _ _ => rfl) rfl rfl]
  obtain ⟨k, rfl⟩ : ∃ k, W = k + 1 := ⟨W - 1, by omega⟩
  rw [← num_pad k n h]
  rfl
section
variable {X : Cx}
/-- {x:0Wd} of an int with at most W digits -/
def tFmtZ (W : Nat) (te : TE) : TE := fun σ H Q => te σ H fun x H1 => ∃ n : Nat, x = .int (n : Int) ∧ n < 10 ^ W ∧ Q (.str (S (pad W n))) H1
theorem pe_fmtZ {W : Nat} {sp : Str} {e : Expr} {te : TE} {pos : Pos} (he : PE X e te) (h0 : 1 ≤ W) (h9 : W ≤ 100) (h1 : (sp.length == 0) = false) (hp : Builtin.Float.parseFormatSpec sp.cps.toList "int" 62 = .ok (zf W))
    (h2 : ((sp.cps.toList.drop 1).any (· ≥ 128) || (sp.cps.getD 0 0 ≥ 128 && !([60, 62, 61, 94] : List Nat).contains (sp.cps.getD 1 0))) = false) (hz : sp.length ≤ sizeLine) {se : Expr} (hs : PE X se (tC (.str sp))) : PE X (.FormattedValue e (-1) (some se) pos) (tFmtZ W te) := by
  refine ⟨fun pins s σ H Q I h => ?_⟩
  refine wpAny_FormattedValue_spec (thn (he.run pins s σ H _ I h) fun v s1 hv => ?_)
  obtain ⟨x, H1, I1, r1, n, rfl, hn, q⟩ := hv
  refine thn (hs.run pins s1 σ H1 (fun y H2 => y = .str sp ∧ Q (.str (S (pad W n))) H2) I1 ⟨rfl, q⟩) fun v2 s2 hv2 => ?_
  obtain ⟨x2, H2, I2, r2, rfl, q⟩ := hv2
  obtain ⟨t, rfl⟩ := r1
  obtain ⟨t2, rfl⟩ := r2
  refine ⟨sp, t2, rfl, ?_⟩
  have hlog : n.log2 < 1920 := by
    by_cases z : n = 0
    · subst z
      decide
    · refine (Nat.log2_lt z).mpr (Nat.lt_of_lt_of_le hn ?_)
      exact Nat.le_trans (Nat.pow_le_pow_right (by decide) h9) (by decide +kernel)
  refine PySem.W.KXf.field_int (y := S (pad W n)) rfl h1 hz (fun u => run_zf W sp h1 hp h2 (by omega) hlog (zf_text h0 hn) ?_) fun t' k => ?_
  · rw [S_len, pad_len]
    exact sz_of (by omega)
  · exact ⟨.str (S (pad W n)), H2, I2.tok _, ⟨_, rfl⟩, q⟩
end
end Fz


namespace K44
open PySem PySem.Spec PyProof.Rows L2 Evl Cm Jr Dg Fz
open SX (S S_cat S_len num_S)
open TL (numL numL_lt)
def topS (i : Nat) : Stmt := PySem.Challenge.pw_portolan_k44_texts_of_arcs.main.body.getD i (.Pass ⟨0, 0, 0, 0⟩)
abbrev s_digits_of : Stmt := topS 3
theorem sc_digits_of : FnScope ["n", "pieces", "rest"] ["n"] (defScope s_digits_of) := ⟨rfl, rfl, rfl, by decide +kernel, rfl, by decide +kernel, by decide +kernel⟩
abbrev s_arc_text : Stmt := topS 7
theorem sc_arc_text : FnScope ["angle", "seconds", "parts", "minutes", "whole"] ["angle"] (defScope s_arc_text) := ⟨rfl, rfl, rfl, by decide +kernel, rfl, by decide +kernel, by decide +kernel⟩
abbrev s_sign_text : Stmt := topS 8
theorem sc_sign_text : FnScope ["n"] ["n"] (defScope s_sign_text) := ⟨rfl, rfl, rfl, by decide +kernel, rfl, by decide +kernel, by decide +kernel⟩
abbrev s_law_is_integer : Stmt := topS 10
theorem sc_law_is_integer : FnScope ["actual"] ["actual"] (defScope s_law_is_integer) := ⟨rfl, rfl, rfl, by decide +kernel, rfl, by decide +kernel, by decide +kernel⟩
abbrev s_law_cell : Stmt := topS 11
theorem sc_law_cell : FnScope ["script", "k"] ["script", "k"] (defScope s_law_cell) := ⟨rfl, rfl, rfl, by decide +kernel, rfl, by decide +kernel, by decide +kernel⟩
abbrev s_law_rich : Stmt := topS 12
theorem sc_law_rich : FnScope ["cell", "mixed"] ["cell"] (defScope s_law_rich) := ⟨rfl, rfl, rfl, by decide +kernel, rfl, by decide +kernel, by decide +kernel⟩
abbrev s_law : Stmt := topS 13
theorem sc_law : FnScope ["script", "head", "angle", "size", "parts", "seconds", "minutes", "text"] ["script"] (defScope s_law) := ⟨rfl, rfl, rfl, by decide +kernel, rfl, by decide +kernel, by decide +kernel⟩
section
variable {P : Program} {w : World} {K : PySem.W.Frag} {mg : Str → Option Value} {base : Heap}
/-! ### texts -/
/-- a bound that nothing looks into -/
def Sm (n : Nat) : Prop := n < 10 ^ 300
theorem sm_le {n m : Nat} (h : Sm n) (hm : m ≤ n) : Sm m := Nat.lt_of_le_of_lt hm h
theorem lg {n k : Nat} (h : n < 2 ^ k) (hk : 0 < k) : n.log2 < k := by
  by_cases h0 : n = 0
  · subst h0
    exact hk
  · exact (Nat.log2_lt h0).mpr h
theorem sm_lg {n : Nat} (h : Sm n) : n.log2 < 1920 := lg (Nat.lt_of_lt_of_le h (by decide +kernel)) (by decide)
theorem sm_len {n : Nat} (h : Sm n) : (numL n).length ≤ 300 := num_len 299 n h
section
variable {σ : L2.St} {H : Hp} {ta tb te to : TE} {x y z : V} {a b : List Nat}
theorem rc_str {n : Nat} (h : Sm n) : RC (fun xs H Q => ∃ i, xs = [.int i] ∧ i.natAbs.log2 < 1920 ∧ Q (.str (toString i)) H) [.int (n : Int)] H (.str (S (numL n))) := fun H1 _ Q q => ⟨(n : Int), rfl, sm_lg h, by
  have e := num_S n
  show Q (.str (Str.ofString (toString (n : Int)))) H1
  rw [e]
  exact q H1 (Ex.refl H1)⟩
theorem rv_cat (h : a.length + b.length ≤ 100000) : RV (fun x y H Q => ∃ i j, x = .str i ∧ y = .str j ∧ i.length + j.length ≤ sizeLine ∧ Q (.str (i ++ j)) H) (.str (S a)) (.str (S b)) H (.str (S (a ++ b))) := fun H1 _ Q q => ⟨S a, S b, rfl, rfl, by
  rw [S_len, S_len]
  exact sz_of h, by
  rw [S_cat]
  exact q H1 (Ex.refl H1)⟩
theorem ev_zfill {n : Int} {w1 : List Nat} (h : Ev to σ H (.str (S a))) (hn : Ev te σ H (.int n)) (hp : PadOk n = true) (e : Txt.zfill (S a) n = S w1) : Ev (tBM K "str" (fun x xs H Q => ∃ (a : Str) (i : Int), x = .str a ∧ xs = [.int i] ∧ PadOk i = true ∧ Q (.str (Txt.zfill a i)) H) to (tCons te tNil)) σ H (.str (S w1)) := fun H1 e1 Q q =>
  h H1 e1 _ fun H2 e2 => ⟨rfl, hn H2 (e1.trans e2) _ fun H3 e3 => ⟨S a, n, rfl, rfl, hp, by
    rw [e]
    exact q H3 (e2.trans e3)⟩⟩
theorem ev_sl {tl th : TO} {lo hi : Option Int} {w1 : List Nat} (h : Ev te σ H (.str (S a))) (h1 : EvO tl σ H lo) (h2 : EvO th σ H hi) (hz : a.length ≤ 100000) (e : Txt.slice (S a) lo hi = S w1) : Ev (tSl C8.rSlX te tl th) σ H (.str (S w1)) := fun H1 e1 Q q =>
  h H1 e1 _ fun H2 e2 => h1 H2 (e1.trans e2) _ fun H3 e3 => h2 H3 ((e1.trans e2).trans e3) _ fun H4 e4 => ⟨S a, rfl, by
    rw [S_len]
    exact sz_of hz, by
    rw [e]
    exact q H4 ((e2.trans e3).trans e4)⟩
/-- {x} of a text -/
theorem ev_fmt (h : Ev te σ H (.str (S a))) (hz : a.length ≤ 100000) : Ev (tFmt te) σ H (.str (S a)) := fun H1 e1 Q q => h H1 e1 _ fun H2 e2 => .inl ⟨S a, rfl, by
  rw [S_len]
  exact sz_of hz, q H2 e2⟩
theorem ev_m1 {g : Str → Str → Bool} {p q : Str} (h : Ev to σ H (.str p)) (h2 : Ev te σ H (.str q)) : Ev (tM1 (fun x xs H Q => ∃ a b, x = .str a ∧ xs = [.str b] ∧ Q (.bl (g a b)) H) to te) σ H (.bl (g p q)) := fun H1 e Q k =>
  h H1 e _ fun H2 e2 => ⟨⟨_, rfl⟩, h2 H2 (e.trans e2) _ fun H3 e3 => ⟨p, q, rfl, rfl, k H3 (e2.trans e3)⟩⟩
theorem ev_m0 {g : Str → Bool} {p : Str} (h : Ev to σ H (.str p)) : Ev (tM0 (fun x xs H Q => ∃ a, x = .str a ∧ xs = [] ∧ True ∧ Q (.bl (g a)) H) to) σ H (.bl (g p)) := fun H1 e Q k =>
  h H1 e _ fun H2 e2 => ⟨⟨_, rfl⟩, p, rfl, rfl, trivial, k H2 e2⟩
theorem rc_lenS {a : List Nat} (h : a.length ≤ 100000) : RC (fun xs H Q => ∃ x n, xs = [x] ∧ LenV K x H n ∧ Q (.int n) H) [.str (S a)] H (.int (a.length : Int)) := fun H2 _ Q2 q2 => ⟨_, (a.length : Nat), rfl, ⟨by rw [S_len]; exact sz_of h, (S_len _).symm⟩, q2 H2 (Ex.refl _)⟩
inductive Js (σ : L2.St) (H : Hp) : List TE → List (List Nat) → Prop
  | nil : Js σ H [] []
  | cons {t : TE} {ts : List TE} {a : List Nat} {as : List (List Nat)} : Ev t σ H (.str (S a)) → Js σ H ts as → Js σ H (t :: ts) (a :: as)
theorem js_run : ∀ {ts : List TE} {as : List (List Nat)}, Js σ H ts as → ∀ (acc : List Nat) (H1 : Hp) (Q : Str → Hp → Prop), Ex H H1 → acc.length + as.flatten.length ≤ 100000 → (∀ H2, Ex H1 H2 → Q (S (acc ++ as.flatten)) H2) → tJs ts (S acc) σ H1 Q
  | _, _, .nil, acc, H1, Q, e, hz, q => by
    have := q H1 (Ex.refl H1)
    rw [List.flatten_nil, List.append_nil] at this
    exact this
  | _, _, .cons (a := a) (as := as) h r, acc, H1, Q, e, hz, q => h H1 e _ fun H2 e2 => ⟨S a, rfl, by
    rw [S_cat, S_len]
    rw [List.flatten_cons, List.length_append] at hz
    exact sz_of (by rw [List.length_append]; omega), by
    rw [S_cat]
    refine js_run r (acc ++ a) H2 Q (e.trans e2) (by rw [List.length_append]; rw [List.flatten_cons, List.length_append] at hz; omega) fun H3 e3 => ?_
    have := q H3 (e2.trans e3)
    rw [List.flatten_cons, ← List.append_assoc] at this
    exact this⟩
theorem ev_js {ts : List TE} {as : List (List Nat)} (h : Js σ H ts as) (hz : as.flatten.length ≤ 100000) : Ev (fun σ H Q => tJs ts Str.empty σ H fun out H1 => Q (.str out) H1) σ H (.str (S as.flatten)) := fun H1 e Q q =>
  js_run h [] H1 _ e (by simpa using hz) fun H2 e2 => q H2 e2
end
/-! ### divmod -/
def rDM : List V → Hp → VK → Prop := fun xs H Q => ∃ i j, xs = [.int i, .int j] ∧ CDivP i j ∧ ∀ p, H p = none → Q (.ref p) (upd H p (.tup [.int (i / j), .int (i % j)]))
/-- a, b = divmod(i, j) -/
theorem q_dm {σ : L2.St} {H : Hp} {ta : TA} {i j : Int} {D : Ends} {tz : TS} {k1 k2 : Nat} (h : EvA ta σ H [.int i, .int j]) (hc : CDivP i j) (k : ∀ H1, Ex H H1 → tz D ((σ.set k1 (some (.int (i / j)))).set k2 (some (.int (i % j)))) H1) :
    tSeq (tAsg (tCB rDM ta) (gTup K 2 (gCons (gName k1) (gCons (gName k2) gNil)))) tz D σ H := h H (Ex.refl H) _ fun H1 e1 => ⟨i, j, rfl, hc, fun p hp =>
  ⟨p, [.int (i / j), .int (i % j)], rfl, .inl (.inl upd_same), rfl, _, _, rfl, _, _, rfl, rfl, k _ (e1.trans (Ex.new hp))⟩⟩
theorem dmp {i j : Int} (h : 0 < j) (hj : j.natAbs.log2 < 1920) (h2 : j.natAbs < 2 ^ 30) : CDivP i j := ⟨h, PyProof.noPylong_of_log2 (Nat.lt_of_lt_of_le hj (by decide +kernel))⟩
def spDigits : Sp := fun vs H Q _ => ∃ n : Nat, vs = [.int (n : Int)] ∧ Sm n ∧ RetV (.str (S (numL n))) H Q
theorem ok_digits {f : Addr} {fd : FuncData} (F : Fun K "digits_of" "digits_of" s_digits_of f fd) {t0 t1 : Tok} (g_PIECE : mg "PIECE" = some (.int 10000000000000000000000000000000000000000000000000000000000000000 t0)) (g_PIECE_DIGITS : mg "PIECE_DIGITS" = some (.int 64 t1)) (m_divmod : mg "divmod" = none) (m_str : mg "str" = none) (m_reversed : mg "reversed" = none) : FnOk P w K mg base CX0 1 f fd ["n"] spDigits := by
  refine F.ok sc_digits_of (fun vs H Q E h => ?_) (fun cdv A outer s H vs Q E hr h => ?_)
  · obtain ⟨n, rfl, _⟩ := h
    rfl
  · obtain ⟨n, rfl, hn, q⟩ := h
    refine ⟨_, (pss_cons (ps_set (i := 1) sc_digits_of.nd rfl (.inl rfl) (pe_lst pa_nil))
        (pss_cons (ps_while PassesOwn.never (pt_cmpR op_ge (pv 0) (pe_glob (by rfl) g_PIECE (show RelV (.int 10000000000000000000000000000000000000000000000000000000000000000) _ from ⟨_, rfl⟩)) (nomark _)) (pss_cons (ps_asg (pe_callB call_divmodW (by rfl) m_divmod (by decide +kernel) (pa_cons (pv 0) (pa_cons (pe_glob (by rfl) g_PIECE (show RelV (.int 10000000000000000000000000000000000000000000000000000000000000000) _ from ⟨_, rfl⟩)) pa_nil))) (pg_tup rfl (pgs_cons (pg_name (i := 0) sc_digits_of.nd rfl (.inl rfl)) (pgs_cons (pg_name (i := 2) sc_digits_of.nd rfl (.inl rfl)) pgs_nil))))
        (pss_one (ps_expr (pe_bm PySem.F.plainAttrs_list PySem.F.slot_list_append PySem.F.type_list_append mt_append (pv 1) (pa_cons (pe_bm PySem.F.plainAttrs_str PySem.F.slot_str_zfill PySem.F.type_str_zfill mt_zfill (pe_callTy call_str_int (by rfl) m_str (by decide +kernel) (pa_cons (pv 2) pa_nil)) (pa_cons (pe_glob (by rfl) g_PIECE_DIGITS (show RelV (.int 64) _ from ⟨_, rfl⟩)) pa_nil)) pa_nil))))))
        (pss_cons (ps_expr (pe_bm PySem.F.plainAttrs_list PySem.F.slot_list_append PySem.F.type_list_append mt_append (pv 1) (pa_cons (pe_callTy call_str_int (by rfl) m_str (by decide +kernel) (pa_cons (pv 0) pa_nil)) pa_nil)))
        (pss_one (ps_ret (pe_joinRev rfl pe_str (by rfl) m_reversed (pa_cons (pv 1) pa_nil))))))), ?_⟩
    refine q_asgL (el_lst ea_nil (show 0 ≤ 100000 by decide)) fun l H1 nl e1 hl1 => ?_
    refine st_is (σ' := [_, _, _]) rfl ?_
    refine q_while (fun m σ' H' => ∃ (x2 : Option V) (ps : List (List Nat)), σ' = [some (.int (m : Int)), some (.ref l), x2] ∧ Ex H H' ∧ H' l = some (.lst ((ps.map S).map V.str)) ∧ numL n = numL m ++ ps.reverse.flatten ∧ ps.length ≤ ps.reverse.flatten.length ∧ m ≤ n) n ⟨_, [], rfl, e1, hl1, (List.append_nil _).symm, Nat.le_refl _, Nat.le_refl _⟩ (fun m σ' H' W => ?_)
    obtain ⟨x2, ps, rfl, e2, hl2, hnum, hps, hmn⟩ := W
    have hlen : (numL m).length + ps.reverse.flatten.length ≤ 300 := by
      have := sm_len hn
      rw [hnum, List.length_append] at this
      exact this
    refine ⟨decide ((10000000000000000000000000000000000000000000000000000000000000000 : Int) ≤ (m : Int)), et_test (ev_op (ev_var rfl) ev_c rv_I0), fun hb H3 e3 => ?_, fun hb H3 e3 => ?_⟩
    · have hb1 := of_decide_eq_true hb
      have hb2 : 10 ^ 64 ≤ m := by
        have e : (10 : Nat) ^ 64 = 10000000000000000000000000000000000000000000000000000000000000000 := by decide +kernel
        rw [e]
        omega
      have hlt : m / 10 ^ 64 < m := Nat.div_lt_self (Nat.lt_of_lt_of_le (Nat.pow_pos (by decide)) hb2) (by decide +kernel)
      refine ⟨fun σ2 H2 => ∃ (x2 : Option V) (ps : List (List Nat)), σ2 = [some (.int ((m / 10 ^ 64 : Nat) : Int)), some (.ref l), x2] ∧ Ex H H2 ∧ H2 l = some (.lst ((ps.map S).map V.str)) ∧ numL n = numL (m / 10 ^ 64) ++ ps.reverse.flatten ∧ ps.length ≤ ps.reverse.flatten.length ∧ m / 10 ^ 64 ≤ n, fun σ2 H2 h => ⟨m / 10 ^ 64, hlt, h⟩, ?_⟩
      have ediv : (m : Int) / 10000000000000000000000000000000000000000000000000000000000000000 = ((m / 10 ^ 64 : Nat) : Int) := by
        rw [show (10000000000000000000000000000000000000000000000000000000000000000 : Int) = ((10 ^ 64 : Nat) : Int) by decide +kernel]
        exact (Int.natCast_ediv m (10 ^ 64)).symm
      have emod : (m : Int) % 10000000000000000000000000000000000000000000000000000000000000000 = ((m % 10 ^ 64 : Nat) : Int) := by
        rw [show (10000000000000000000000000000000000000000000000000000000000000000 : Int) = ((10 ^ 64 : Nat) : Int) by decide +kernel]
        exact (Int.natCast_emod m (10 ^ 64)).symm
      refine ⟨_, rfl, (m : Int), _, rfl, ⟨by decide, PyProof.noPylong_of_log2 (by decide +kernel)⟩, fun p hp => ?_⟩
      rw [ediv, emod]
      refine ⟨p, [.int ((m / 10 ^ 64 : Nat) : Int), .int ((m % 10 ^ 64 : Nat) : Int)], rfl, .inl (.inl upd_same), rfl, _, _, rfl, _, _, rfl, rfl, ?_⟩
      have e4 : Ex H' (upd H3 p (.tup [.int ((m / 10 ^ 64 : Nat) : Int), .int ((m % 10 ^ 64 : Nat) : Int)])) := e3.trans (Ex.new hp)
      generalize upd H3 p (.tup [.int ((m / 10 ^ 64 : Nat) : Int), .int ((m % 10 ^ 64 : Nat) : Int)]) = H4 at e4 ⊢
      refine st_is (σ' := [_, _, _]) rfl ?_
      have hmod : m % 10 ^ 64 < 10 ^ 64 := Nat.mod_lt _ (Nat.pow_pos (by decide))
      have hsm : Sm (m % 10 ^ 64) := sm_le hn (Nat.le_trans (Nat.mod_le _ _) hmn)
      refine s_app (e4 _ _ hl2) (ev_var rfl) (v := .str (S (pad 64 m))) (ev_zfill (ev_cb (ea_cons (ev_var rfl) ea_nil) (rc_str hsm)) ev_c (by decide +kernel) (by
        rw [← pad_mod 64 m]
        exact zfill_num (m := 64) (by decide) hmod)) (by rw [List.length_map, List.length_map]; omega) fun H5 e5 => ?_
      refine ⟨_, ps ++ [pad 64 m], rfl, Ex.mut ((e2.trans e4).trans e5) nl, ?_, ?_, ?_, Nat.le_trans (Nat.le_of_lt hlt) hmn⟩
      · rw [upd_same, List.map_append, List.map_append]
        rfl
      · rw [hnum, num_split 64 m hb2, List.reverse_append, List.append_assoc]
        rfl
      · rw [List.reverse_append, List.length_append]
        show ps.length + 1 ≤ (pad 64 m ++ ps.reverse.flatten).length
        rw [List.length_append, pad_len]
        omega
    · have hsm : Sm m := sm_le hn hmn
      refine q_app (e3 _ _ hl2) (ev_var rfl) (v := .str (S (numL m))) (ev_cb (ea_cons (ev_var rfl) ea_nil) (rc_str hsm)) (by rw [List.length_map, List.length_map]; omega) fun H4 e4 => ?_
      have e5 : Ex H (upd H4 l (.lst (((ps.map S).map V.str) ++ [.str (S (numL m))]))) := Ex.mut ((e2.trans e3).trans e4) nl
      refine ⟨⟨_, rfl⟩, _, rfl, S [], l, (ps ++ [numL m]).map S, rfl, rfl, sq_of (by rw [upd_same, List.map_append, List.map_append]; rfl), ?_, ?_⟩
      · have h0 : (((ps ++ [numL m]).map S).map (·.length)).sum = (ps.reverse.flatten).length + (numL m).length := by
          rw [SX.lens, List.map_append, List.sum_append, List.length_flatten, List.map_reverse, List.sum_reverse]
          rfl
        rw [h0, S_len, List.length_nil, Nat.mul_zero]
        omega
      · have h1 : Txt.join (S []) ((ps ++ [numL m]).map S).reverse = S (numL n) := by
          rw [← List.map_reverse, Dg.join_nil, List.reverse_append, hnum]
          rfl
        rw [h1]
        exact q _ e5
/-! ### the law's cells -/
theorem ok_cell {f : Addr} {fd : FuncData} (F : Fun K "_law_cell" "_law_cell" s_law_cell f fd) (m_len : mg "len" = none) : FnOk P w K mg base CX0 1 f fd ["script", "k"] (spCell K) := by
  refine F.ok sc_law_cell (fun vs H Q E h => ?_) (fun cdv A outer s H vs Q E hr h => ?_)
  · obtain ⟨l, ns, j, rfl, _⟩ := h
    rfl
  · obtain ⟨l, ns, j, rfl, hs, q⟩ := h
    refine ⟨_, (pss_cons (ps_if (pt_cmpR op_lt (pv 1) (pe_callB call_len (by rfl) m_len (by decide +kernel) (pa_cons (pv 0) pa_nil)) (nomark _)) (pss_one (ps_ret (pe_ix ix_list (pv 0) (pv 1) (fun _ _ => rfl)))) pss_nil)
        (pss_one (ps_ret pe_int))), ?_⟩
    refine ⟨_, rfl, _, rfl, .ref l, ((ns.map V.int).length : Nat), rfl, .inl ⟨_, hs, rfl⟩, _, _, rfl, rfl, _, rfl, ite2 (fun e => ?_) (fun e => ?_)⟩
    · have hj : j < ns.length := by
        have := of_decide_eq_true e
        rw [List.length_map] at this
        omega
      exact ⟨_, rfl, _, rfl, l, _, _, _, rfl, rfl, hs, atI_cell hj, q⟩
    · have hj : ¬ j < ns.length := fun z => e (decide_eq_true (by rw [List.length_map]; omega))
      rw [cell_out hj] at q
      exact q
theorem cell_is {H : Hp} {sa : Addr} {ns : List Int} (hS : SqL K H sa (ns.map V.int)) (j : Nat) : SpV (spCell K) [.ref sa, .int (j : Nat)] H (.int (cellOf ns j)) := fun H1 e1 Q1 q1 E1 => ⟨sa, ns, j, rfl, ex_l e1 hS, q1 H1 (Ex.refl H1)⟩
/-- what _law_rich makes of a cell -/
def rich (c : Int) : Int := if (1000000000000000000 : Int) ≤ (c.natAbs : Int) then (c.natAbs : Int) else
  ((c.natAbs : Int) * 48271 + 7) % 2147483647 * 1000003 * 2147483629 + (((c.natAbs : Int) * 48271 + 7) % 2147483647 * 69621 + (c.natAbs : Int)) % 2147483629 * 1000003 + ((c.natAbs : Int) * 48271 + 7) % 2147483647 / 11
theorem rich_nat (c : Int) : ∃ n : Nat, rich c = (n : Int) := by
  unfold rich
  split
  · exact ⟨_, rfl⟩
  · exact ⟨(((c.natAbs : Int) * 48271 + 7) % 2147483647 * 1000003 * 2147483629 + (((c.natAbs : Int) * 48271 + 7) % 2147483647 * 69621 + (c.natAbs : Int)) % 2147483629 * 1000003 + ((c.natAbs : Int) * 48271 + 7) % 2147483647 / 11).toNat, by omega⟩
def spRich : Sp := fun vs H Q _ => ∃ c : Int, vs = [.int c] ∧ RetV (.int (rich c)) H Q
theorem mulc {x : Int} {c : Int} (h : x.natAbs < 2 ^ 100) (hc : c.natAbs < 2 ^ 100) : CMulX x c := mulx_ok (a := 100) (b := 100) h hc (by decide)
theorem ok_rich {f : Addr} {fd : FuncData} (F : Fun K "_law_rich" "_law_rich" s_law_rich f fd) (m_abs : mg "abs" = none) (m_int : mg "int" = none) : FnOk P w K mg base CX0 1 f fd ["cell"] spRich := by
  refine F.ok sc_law_rich (fun vs H Q E h => ?_) (fun cdv A outer s H vs Q E hr h => ?_)
  · obtain ⟨c, rfl, _⟩ := h
    rfl
  · obtain ⟨c, rfl, q⟩ := h
    refine ⟨_, (pss_cons (ps_set (i := 0) sc_law_rich.nd rfl (.inl rfl) (pe_callB call_abs (by rfl) m_abs (by decide +kernel) (pa_cons (pv 0) pa_nil)))
        (pss_cons (ps_if (pt_cmpR op_ge (pv 0) pe_int (nomark _)) (pss_one (ps_ret (pv 0))) pss_nil)
        (pss_cons (ps_set (i := 1) sc_law_rich.nd rfl (.inl rfl) (pe_op op_mod (pe_callTy call_int1 (by rfl) m_int (by decide +kernel) (pa_cons (pe_op op_add (pe_op op_mulX (pv 0) pe_int) pe_int) pa_nil)) pe_int))
        (pss_one (ps_ret (pe_op op_add (pe_op op_add (pe_op op_mulX (pe_op op_mulX (pv 1) pe_int) pe_int) (pe_op op_mulX (pe_op op_mod (pe_callTy call_int1 (by rfl) m_int (by decide +kernel) (pa_cons (pe_op op_add (pe_op op_mulX (pv 1) pe_int) (pv 0)) pa_nil)) pe_int) pe_int)) (pe_op op_fdiv (pv 1) pe_int))))))), ?_⟩
    refine q_asg (ev_cb (ea_cons (ev_var rfl) ea_nil) rc_abs) fun H1 e1 => ?_
    refine st_is (σ' := [_, _]) rfl ?_
    refine q_when (et_test (ev_op (ev_var rfl) ev_c rv_I0)) (fun hb H2 e2 => ?_) (fun hb H2 e2 => ?_)
    · refine s_ret (ev_var rfl) fun H3 e3 => ?_
      have h3 := q H3 (e1.trans (e2.trans e3))
      unfold rich at h3
      rw [if_pos (of_decide_eq_true hb)] at h3
      exact h3
    · have hlt := of_decide_eq_false hb
      unfold rich at q
      rw [if_neg hlt] at q
      generalize c.natAbs = n at *
      have b1 : (n : Int).natAbs < 2 ^ 100 := Nat.lt_of_lt_of_le (show (n : Int).natAbs < 1000000000000000000 by omega) (by decide +kernel)
      refine q_asg (ev_op (ev_cb (ea_cons (ev_op (ev_op (ev_var rfl) ev_c (rv_I (mulc b1 (by decide +kernel)))) ev_c rv_I0) ea_nil) rc_intI) ev_c (rv_I (by decide))) fun H3 e3 => ?_
      refine st_is (σ' := [_, _]) rfl ?_
      have hm : 0 ≤ ((n : Int) * 48271 + 7) % 2147483647 ∧ ((n : Int) * 48271 + 7) % 2147483647 < 2147483647 := ⟨by omega, by omega⟩
      generalize ((n : Int) * 48271 + 7) % 2147483647 = m at *
      have b2 : m.natAbs < 2 ^ 100 := Nat.lt_of_lt_of_le (show m.natAbs < 2147483647 by omega) (by decide +kernel)
      have b3 : (m * 1000003).natAbs < 2 ^ 100 := Nat.lt_of_lt_of_le (show (m * 1000003).natAbs < 2147483647 * 1000003 by omega) (by decide +kernel)
      have b4 : ((m * 69621 + (n : Int)) % 2147483629).natAbs < 2 ^ 100 := Nat.lt_of_lt_of_le (show ((m * 69621 + (n : Int)) % 2147483629).natAbs < 2147483629 by omega) (by decide +kernel)
      exact s_ret (ev_op (ev_op (ev_op (ev_op (ev_var rfl) ev_c (rv_I (mulc b2 (by decide +kernel)))) ev_c (rv_I (mulc b3 (by decide +kernel)))) (ev_op (ev_op (ev_cb (ea_cons (ev_op (ev_op (ev_var rfl) ev_c (rv_I (mulc b2 (by decide +kernel)))) (ev_var rfl) rv_I0) ea_nil) rc_intI) ev_c (rv_I (by decide))) ev_c (rv_I (mulc b4 (by decide +kernel)))) rv_I0) (ev_op (ev_var rfl) ev_c (rv_I ⟨by decide, by decide⟩)) rv_I0) fun H4 e4 => q H4 (e1.trans (e2.trans (e3.trans e4)))
theorem rich_is {H : Hp} {c : Int} {n : Nat} (h : rich c = (n : Int)) : SpV spRich [.int c] H (.int (n : Int)) := fun H1 e1 Q1 q1 E1 => ⟨c, rfl, by
  rw [h]
  exact q1⟩
/-- the sign of a number -/
def sgnL (n : Int) : List Nat := if n < 0 then [45] else []
theorem sgn_len (n : Int) : (sgnL n).length ≤ 1 := by
  unfold sgnL
  split <;> simp
def spSign : Sp := fun vs H Q _ => ∃ n : Int, vs = [.int n] ∧ RetV (.str (S (sgnL n))) H Q
theorem ok_sign {f : Addr} {fd : FuncData} (F : Fun K "sign_text" "sign_text" s_sign_text f fd) : FnOk P w K mg base CX0 1 f fd ["n"] spSign := by
  refine F.ok sc_sign_text (fun vs H Q E h => ?_) (fun cdv A outer s H vs Q E hr h => ?_)
  · obtain ⟨n, rfl, _⟩ := h
    rfl
  · obtain ⟨n, rfl, q⟩ := h
    refine ⟨_, (pss_one (ps_ret (pe_ifExp (pt_cmpR op_lt (pv 0) pe_int (nomark _)) pe_str pe_str))), ?_⟩
    unfold sgnL at q
    by_cases hn : n < 0
    · rw [if_pos hn] at q
      exact s_ret (ev_if (b := true) (et_is (et_test (ev_op (ev_var rfl) ev_c rv_I0)) (decide_eq_true hn)) (fun _ => ev_c) (fun z => nomatch z)) q
    · rw [if_neg hn] at q
      exact s_ret (ev_if (b := false) (et_is (et_test (ev_op (ev_var rfl) ev_c rv_I0)) (decide_eq_false hn)) (fun z => nomatch z) (fun _ => ev_c)) q
theorem sign_is {H : Hp} {n : Int} : SpV spSign [.int n] H (.str (S (sgnL n))) := fun H1 e1 Q1 q1 E1 => ⟨n, rfl, q1⟩
theorem digits_is {H : Hp} {n : Nat} (h : Sm n) : SpV spDigits [.int (n : Int)] H (.str (S (numL n))) := fun H1 e1 Q1 q1 E1 => ⟨n, rfl, h, q1⟩
theorem sm_of {n k : Nat} (h : n ≤ k) (hk : k < 10 ^ 300) : Sm n := Nat.lt_of_le_of_lt h hk
theorem ev_fmtZ {σ : L2.St} {H : Hp} {te : TE} {W n : Nat} (h : Ev te σ H (.int (n : Int))) (hn : n < 10 ^ W) : Ev (tFmtZ W te) σ H (.str (S (pad W n))) := fun H1 e1 Q q => h H1 e1 _ fun H2 e2 => ⟨n, rfl, hn, q H2 e2⟩
theorem pad_one {W r : Nat} (h : r < 10 ^ W) : Txt.slice (S (numL (10 ^ W + r))) (some 1) none = S (pad W r) := by
  have h0 : 0 < 10 ^ W := Nat.pow_pos (by decide)
  rw [num_split W (10 ^ W + r) (by omega), show (10 ^ W + r) / 10 ^ W = 1 by rw [Nat.add_div_left _ h0, Nat.div_eq_of_lt h], numL_lt (by decide), SX.slice_from (by decide)]
  show S (pad W (10 ^ W + r)) = _
  rw [← pad_mod W (10 ^ W + r), Nat.add_mod_left, Nat.mod_eq_of_lt h]
/-- the text of an arc -/
def arcL (a : Int) : List Nat := [sgnL a, numL (a.natAbs * 36 / 100000 / 60 / 60), [100], pad 2 (a.natAbs * 36 / 100000 / 60 % 60), [109], pad 2 (a.natAbs * 36 / 100000 % 60), [46], pad 5 (a.natAbs * 36 % 100000), [115]].flatten
def spArc : Sp := fun vs H Q _ => ∃ a : Int, vs = [.int a] ∧ a.natAbs ≤ 1000000000000 ∧ RetV (.str (S (arcL a))) H Q
theorem ok_arc {f f0 f1 : Addr} {fd fd0 fd1 : FuncData} (F : Fun K "arc_text" "arc_text" s_arc_text f fd)
    (G_digits_of : FnOk P w K mg base CX0 1 f0 fd0 ["n"] spDigits) (F_digits_of : Fun K "digits_of" "digits_of" s_digits_of f0 fd0) (b_digits_of : Binds K fd0 ["n"] []) (g_digits_of : mg "digits_of" = some (.ref f0))
    (F_sign_text : Fun K "sign_text" "sign_text" s_sign_text f1 fd1) (b_sign_text : Binds K fd1 ["n"] []) (g_sign_text : mg "sign_text" = some (.ref f1))
    {t0 t1 : Tok} (g_PARTS_OF_UNIT : mg "PARTS_OF_UNIT" = some (.int 36 t0)) (g_PARTS_OF_SECOND : mg "PARTS_OF_SECOND" = some (.int 100000 t1)) (m_abs : mg "abs" = none) (m_divmod : mg "divmod" = none) : FnOk P w K mg base CX0 2 f fd ["angle"] spArc := by
  have G_sign_text : FnOk P w K mg base CX0 1 f1 fd1 ["n"] spSign := ok_sign F_sign_text
  refine F.ok sc_arc_text (fun vs H Q E h => ?_) (fun cdv A outer s H vs Q E hr h => ?_)
  · obtain ⟨a, rfl, _⟩ := h
    rfl
  · obtain ⟨a, rfl, ha, q⟩ := h
    refine ⟨_, (pss_cons (ps_asg (pe_callB call_divmodW (by rfl) m_divmod (by decide +kernel) (pa_cons (pe_op op_mulX (pe_callB call_abs (by rfl) m_abs (by decide +kernel) (pa_cons (pv 0) pa_nil)) (pe_glob (by rfl) g_PARTS_OF_UNIT (show RelV (.int 36) _ from ⟨_, rfl⟩))) (pa_cons (pe_glob (by rfl) g_PARTS_OF_SECOND (show RelV (.int 100000) _ from ⟨_, rfl⟩)) pa_nil))) (pg_tup rfl (pgs_cons (pg_name (i := 1) sc_arc_text.nd rfl (.inl rfl)) (pgs_cons (pg_name (i := 2) sc_arc_text.nd rfl (.inl rfl)) pgs_nil))))
        (pss_cons (ps_asg (pe_callB call_divmodW (by rfl) m_divmod (by decide +kernel) (pa_cons (pv 1) (pa_cons pe_int pa_nil))) (pg_tup rfl (pgs_cons (pg_name (i := 3) sc_arc_text.nd rfl (.inl rfl)) (pgs_cons (pg_name (i := 1) sc_arc_text.nd rfl (.inl rfl)) pgs_nil))))
        (pss_cons (ps_asg (pe_callB call_divmodW (by rfl) m_divmod (by decide +kernel) (pa_cons (pv 3) (pa_cons pe_int pa_nil))) (pg_tup rfl (pgs_cons (pg_name (i := 4) sc_arc_text.nd rfl (.inl rfl)) (pgs_cons (pg_name (i := 3) sc_arc_text.nd rfl (.inl rfl)) pgs_nil))))
        (pss_one (ps_ret (pe_joined (PJ.cons (pe_fmt (pe_call G_sign_text (hr.mono (by decide)) (by rfl) g_sign_text F_sign_text.kp b_sign_text .nil pass0 (pa_cons (pv 0) pa_nil))) (PJ.cons (pe_fmt (pe_call G_digits_of (hr.mono (by decide)) (by rfl) g_digits_of F_digits_of.kp b_digits_of .nil pass0 (pa_cons (pv 4) pa_nil))) (PJ.cons pe_str (PJ.cons (pe_fmtZ (W := 2) (sp := "02d") (pv 3) (by decide) (by decide) (by decide +kernel) (by rfl) (by decide +kernel) (by decide +kernel) (pe_joined1 pe_str)) (PJ.cons pe_str (PJ.cons (pe_fmtZ (W := 2) (sp := "02d") (pv 1) (by decide) (by decide) (by decide +kernel) (by rfl) (by decide +kernel) (by decide +kernel) (pe_joined1 pe_str)) (PJ.cons pe_str (PJ.cons (pe_fmtZ (W := 5) (sp := "05d") (pv 2) (by decide) (by decide) (by decide +kernel) (by rfl) (by decide +kernel) (by decide +kernel) (pe_joined1 pe_str)) (PJ.cons pe_str PJ.nil))))))))))))))), ?_⟩
    have hb : (a.natAbs : Int).natAbs < 2 ^ 100 := Nat.lt_of_le_of_lt (show (a.natAbs : Int).natAbs ≤ 1000000000000 by omega) (by decide +kernel)
    unfold arcL at q
    have hz := sgn_len a
    refine q_dm (i := ((a.natAbs * 36 : Nat) : Int)) (j := 100000) (ea_cons (ev_is (ev_op (ev_cb (ea_cons (ev_var rfl) ea_nil) rc_abs) ev_c (rv_I (mulc hb (by decide +kernel)))) (congrArg V.int (by omega))) (ea_cons ev_c ea_nil)) ⟨by decide, PyProof.noPylong_of_log2 (by decide +kernel)⟩ fun H1 e1 => ?_
    generalize hu : a.natAbs * 36 = u at *
    refine st_is (σ' := [some (.int a), some (.int ((u / 100000 : Nat) : Int)), some (.int ((u % 100000 : Nat) : Int)), none, none]) rfl ?_
    refine q_dm (i := ((u / 100000 : Nat) : Int)) (j := 60) (ea_cons (ev_var rfl) (ea_cons ev_c ea_nil)) ⟨by decide, PyProof.noPylong_of_log2 (by decide +kernel)⟩ fun H2 e2 => ?_
    refine st_is (σ' := [some (.int a), some (.int ((u / 100000 % 60 : Nat) : Int)), some (.int ((u % 100000 : Nat) : Int)), some (.int ((u / 100000 / 60 : Nat) : Int)), none]) rfl ?_
    refine q_dm (i := ((u / 100000 / 60 : Nat) : Int)) (j := 60) (ea_cons (ev_var rfl) (ea_cons ev_c ea_nil)) ⟨by decide, PyProof.noPylong_of_log2 (by decide +kernel)⟩ fun H3 e3 => ?_
    refine st_is (σ' := [some (.int a), some (.int ((u / 100000 % 60 : Nat) : Int)), some (.int ((u % 100000 : Nat) : Int)), some (.int ((u / 100000 / 60 % 60 : Nat) : Int)), some (.int ((u / 100000 / 60 / 60 : Nat) : Int))]) rfl ?_
    have hs : Sm (u / 100000 / 60 / 60) := sm_of (k := 1000000000000) (by omega) (by decide +kernel)
    have hl := sm_len hs
    have hp2 : ∀ x, (pad 2 x).length = 2 := pad_len 2
    have hp5 : ∀ x, (pad 5 x).length = 5 := pad_len 5
    refine s_ret (ev_js (as := [sgnL a, numL (u / 100000 / 60 / 60), [100], pad 2 (u / 100000 / 60 % 60), [109], pad 2 (u / 100000 % 60), [46], pad 5 (u % 100000), [115]]) (.cons (ev_fmt (ev_call (ea_cons (ev_var rfl) ea_nil) sign_is) (by omega)) (.cons (ev_fmt (ev_call (ea_cons (ev_var rfl) ea_nil) (digits_is hs)) (by omega)) (.cons ev_c (.cons (ev_fmtZ (ev_var rfl) (by omega)) (.cons ev_c (.cons (ev_fmtZ (ev_var rfl) (by omega)) (.cons ev_c (.cons (ev_fmtZ (ev_var rfl) (by omega)) (.cons ev_c .nil))))))))) ?_) fun H4 e4 => q H4 (e1.trans (e2.trans (e3.trans e4)))
    simp only [List.flatten_cons, List.flatten_nil, List.length_append, List.length_nil, List.length_singleton, hp2, hp5]
    omega
/-! ### the law -/
def spLaw (K : PySem.W.Frag) : Sp := fun vs H Q _ => ∃ (a : Addr) (ns : List Int), vs = [.ref a] ∧ SqL K H a (ns.map V.int) ∧ ns.length ≤ 63 ∧ ∀ H', Q (.bl true) H'
theorem ok_law {f f0 f1 f2 f3 f4 f5 : Addr} {fd fd0 fd1 fd2 fd3 fd4 fd5 : FuncData} (F : Fun K "law" "law" s_law f fd)
    (F_digits_of : Fun K "digits_of" "digits_of" s_digits_of f0 fd0) (F_arc_text : Fun K "arc_text" "arc_text" s_arc_text f1 fd1) (F_sign_text : Fun K "sign_text" "sign_text" s_sign_text f2 fd2) (F_law_is_integer : Fun K "_law_is_integer" "_law_is_integer" s_law_is_integer f3 fd3) (F_law_cell : Fun K "_law_cell" "_law_cell" s_law_cell f4 fd4) (F_law_rich : Fun K "_law_rich" "_law_rich" s_law_rich f5 fd5)
    (b_digits_of : Binds K fd0 ["n"] []) (b_arc_text : Binds K fd1 ["angle"] []) (b_sign_text : Binds K fd2 ["n"] []) (b_law_is_integer : Binds K fd3 ["actual"] []) (b_law_cell : Binds K fd4 ["script", "k"] []) (b_law_rich : Binds K fd5 ["cell"] [])
    (g_digits_of : mg "digits_of" = some (.ref f0)) (g_arc_text : mg "arc_text" = some (.ref f1)) (g_sign_text : mg "sign_text" = some (.ref f2)) (g_law_is_integer : mg "_law_is_integer" = some (.ref f3)) (g_law_cell : mg "_law_cell" = some (.ref f4)) (g_law_rich : mg "_law_rich" = some (.ref f5))
    {t0 t1 t2 t3 : Tok} (g_PIECE_DIGITS : mg "PIECE_DIGITS" = some (.int 64 t0)) (g_PIECE : mg "PIECE" = some (.int 10000000000000000000000000000000000000000000000000000000000000000 t1)) (g_PARTS_OF_UNIT : mg "PARTS_OF_UNIT" = some (.int 36 t2)) (g_PARTS_OF_SECOND : mg "PARTS_OF_SECOND" = some (.int 100000 t3))
    (m_len : mg "len" = none) (m_abs : mg "abs" = none) (m_int : mg "int" = none) (m_str : mg "str" = none) (m_divmod : mg "divmod" = none) (m_reversed : mg "reversed" = none) : FnOk P w K mg base CX0 3 f fd ["script"] (spLaw K) := by
  have G_digits_of : FnOk P w K mg base CX0 1 f0 fd0 ["n"] spDigits := ok_digits F_digits_of g_PIECE g_PIECE_DIGITS m_divmod m_str m_reversed
  have G_arc_text : FnOk P w K mg base CX0 2 f1 fd1 ["angle"] spArc := ok_arc F_arc_text G_digits_of F_digits_of b_digits_of g_digits_of F_sign_text b_sign_text g_sign_text g_PARTS_OF_UNIT g_PARTS_OF_SECOND m_abs m_divmod
  have G_law_cell : FnOk P w K mg base CX0 1 f4 fd4 ["script", "k"] (spCell K) := ok_cell F_law_cell m_len
  have G_law_rich : FnOk P w K mg base CX0 1 f5 fd5 ["cell"] spRich := ok_rich F_law_rich m_abs m_int
  refine F.ok sc_law (fun vs H Q E h => ?_) (fun cdv A outer s H vs Q E hr h => ?_)
  · obtain ⟨a, ns, rfl, _⟩ := h
    rfl
  · obtain ⟨sa, ns, rfl, hS, hl, fin⟩ := h
    refine ⟨_, (pss_cons (ps_set (i := 1) sc_law.nd rfl (.inl rfl) (pe_call G_law_rich (hr.mono (by decide)) (by rfl) g_law_rich F_law_rich.kp b_law_rich .nil pass0 (pa_cons (pe_call G_law_cell (hr.mono (by decide)) (by rfl) g_law_cell F_law_cell.kp b_law_cell .nil pass0 (pa_cons (pv 0) (pa_cons pe_int pa_nil))) pa_nil)))
        (pss_cons (ps_set (i := 2) sc_law.nd rfl (.inl rfl) (pe_op op_sub (pe_op op_mod (pe_callTy call_int1 (by rfl) m_int (by decide +kernel) (pa_cons (pe_op op_fdiv (pv 1) pe_int) pa_nil)) pe_int) pe_int))
        (Evl.pss_cut (ps_if (pt_cmpR op_eq (pe_op op_mod (pe_callTy call_int1 (by rfl) m_int (by decide +kernel) (pa_cons (pv 1) pa_nil)) pe_int) pe_int (nomark _)) (pss_one (ps_set (i := 2) sc_law.nd rfl (.inl rfl) (pe_op op_sub (pe_op op_add (pe_op op_fdiv (pe_op op_mulX (pe_op op_sub (pe_op op_mod (pe_callTy call_int1 (by rfl) m_int (by decide +kernel) (pa_cons (pe_op op_fdiv (pv 1) pe_int) pa_nil)) pe_int) pe_int) pe_int) pe_int) (pe_op op_mod (pe_callTy call_int1 (by rfl) m_int (by decide +kernel) (pa_cons (pe_op op_fdiv (pv 1) pe_int) pa_nil)) pe_int)) pe_int))) pss_nil)
        (pss_cons (ps_set (i := 3) sc_law.nd rfl (.inl rfl) (pe_op op_mulX (pe_op op_mulX (pe_callB call_abs (by rfl) m_abs (by decide +kernel) (pa_cons (pv 2) pa_nil)) pe_int) pe_int))
        (pss_cons (ps_set (i := 4) sc_law.nd rfl (.inl rfl) (pe_op op_fdiv (pv 3) pe_int))
        (pss_cons (ps_if (pt_cmpR op_ge (pe_op op_mulX pe_int (pe_op op_sub (pv 3) (pe_op op_mulX (pv 4) pe_int))) pe_int (nomark _)) (pss_one (ps_set (i := 4) sc_law.nd rfl (.inl rfl) (pe_op op_add (pv 4) pe_int))) pss_nil)
        (pss_cons (ps_set (i := 5) sc_law.nd rfl (.inl rfl) (pe_op op_fdiv (pv 4) pe_int))
        (pss_cons (ps_set (i := 6) sc_law.nd rfl (.inl rfl) (pe_op op_fdiv (pv 5) pe_int))
        (pss_cons (ps_set (i := 7) sc_law.nd rfl (.inl rfl) pe_str)
        (Evl.pss_cut (ps_if (pt_cmpR op_lt (pv 2) pe_int (nomark _)) (pss_one (ps_set (i := 7) sc_law.nd rfl (.inl rfl) pe_str)) pss_nil)
        (pss_cons (ps_set (i := 7) sc_law.nd rfl (.inl rfl) (pe_op op_add_str (pe_op op_add_str (pe_op op_add_str (pe_op op_add_str (pv 7) (pe_callTy call_str_int (by rfl) m_str (by decide +kernel) (pa_cons (pe_op op_fdiv (pv 6) pe_int) pa_nil))) pe_str) (pe_slice C8.sl_txt (pe_callTy call_str_int (by rfl) m_str (by decide +kernel) (pa_cons (pe_op op_sub (pe_op op_add pe_int (pv 6)) (pe_op op_mulX (pe_op op_fdiv (pv 6) pe_int) pe_int)) pa_nil)) (po_some pe_int) po_none)) pe_str))
        (pss_cons (ps_set (i := 7) sc_law.nd rfl (.inl rfl) (pe_op op_add_str (pe_op op_add_str (pe_op op_add_str (pe_op op_add_str (pv 7) (pe_slice C8.sl_txt (pe_callTy call_str_int (by rfl) m_str (by decide +kernel) (pa_cons (pe_op op_sub (pe_op op_add pe_int (pv 5)) (pe_op op_mulX (pv 6) pe_int)) pa_nil)) (po_some pe_int) po_none)) pe_str) (pe_slice C8.sl_txt (pe_callTy call_str_int (by rfl) m_str (by decide +kernel) (pa_cons (pe_op op_sub (pe_op op_add pe_int (pv 4)) (pe_op op_mulX (pv 5) pe_int)) pa_nil)) (po_some pe_int) po_none)) pe_str))
        (pss_one (ps_ret (pe_cmpR op_eq (pe_call G_arc_text (hr.mono (by decide)) (by rfl) g_arc_text F_arc_text.kp b_arc_text .nil pass0 (pa_cons (pv 2) pa_nil)) (pv 7) (nomark _)))))))))))))))), ?_⟩
    obtain ⟨n0, hn0⟩ := rich_nat (cellOf ns 0)
    refine q_asg (v := .int (n0 : Int)) (ev_call (ea_cons (ev_call (z := .int (cellOf ns 0)) (ea_cons (ev_var rfl) (ea_cons ev_c ea_nil)) (cell_is hS 0)) ea_nil) (rich_is hn0)) fun H1 e1 => ?_
    refine st_is (σ' := [_, _, _, _, _, _, _, _]) rfl ?_
    clear hn0 hS
    refine q_asg (ev_op (ev_op (ev_cb (ea_cons (ev_op (ev_var rfl) ev_c (rv_I ⟨by decide, by decide⟩)) ea_nil) rc_intI) ev_c (rv_I (by decide))) ev_c rv_I0) fun H2 e2 => ?_
    refine st_is (σ' := [_, _, _, _, _, _, _, _]) rfl ?_
    refine q_cut (M := fun σ' H' => ∃ a : Int, a.natAbs ≤ 8000000000 ∧ σ' = [some (.ref sa), some (.int (n0 : Int)), some (.int a), none, none, none, none, none]) ?_ fun σ' H' M1 => ?_
    · refine s_when (b := decide ((V.int ((n0 : Int) % 3)) = V.int 0)) (et_test (ev_op (ev_op (ev_cb (ea_cons (ev_var rfl) ea_nil) rc_intI) ev_c (rv_I (by decide))) ev_c (rv_eq rfl))) (fun hb H3 e3 => ?_) (fun hb H3 e3 => ?_)
      · have b1 : ((n0 : Int) / 16 % 86401 - 43200).natAbs < 2 ^ 100 := Nat.lt_of_le_of_lt (show _ ≤ 100000 by omega) (by decide +kernel)
        exact s_asg (ev_op (ev_op (ev_op (ev_op (ev_op (ev_op (ev_cb (ea_cons (ev_op (ev_var rfl) ev_c (rv_I ⟨by decide, by decide⟩)) ea_nil) rc_intI) ev_c (rv_I (by decide))) ev_c rv_I0) ev_c (rv_I (mulc b1 (by decide +kernel)))) ev_c (rv_I ⟨by decide, by decide⟩)) (ev_op (ev_cb (ea_cons (ev_op (ev_var rfl) ev_c (rv_I ⟨by decide, by decide⟩)) ea_nil) rc_intI) ev_c (rv_I (by decide))) rv_I0) ev_c rv_I0) fun H4 e4 => ⟨_, by omega, rfl⟩
      · exact ⟨_, by omega, rfl⟩
    obtain ⟨a, ha, rfl⟩ := M1
    -- size, parts
    obtain ⟨n, hn⟩ : ∃ n : Nat, a.natAbs = n := ⟨_, rfl⟩
    have b1 : (n : Int).natAbs < 2 ^ 100 := Nat.lt_of_le_of_lt (show (n : Int).natAbs ≤ 8000000000 by omega) (by decide +kernel)
    have b2 : ((n : Int) * 3600).natAbs < 2 ^ 100 := Nat.lt_of_le_of_lt (show ((n : Int) * 3600).natAbs ≤ 8000000000 * 3600 by omega) (by decide +kernel)
    refine q_asg (ev_op (ev_op (ev_is (ev_cb (ea_cons (ev_var rfl) ea_nil) rc_abs) (congrArg (fun k : Nat => V.int (k : Int)) hn)) ev_c (rv_I (mulc b1 (by decide +kernel)))) ev_c (rv_I (mulc b2 (by decide +kernel)))) fun H3 e3 => ?_
    refine st_is (σ' := [_, _, _, _, _, _, _, _]) rfl ?_
    refine q_asg (ev_is (ev_op (ev_var rfl) ev_c (rv_I ⟨by decide, by decide⟩)) (congrArg V.int (show (n : Int) * 3600 * 100000 / 10000000 = ((n * 36 : Nat) : Int) by omega))) fun H4 e4 => ?_
    refine st_is (σ' := [_, _, _, _, _, _, _, _]) rfl ?_
    obtain ⟨u, hu⟩ : ∃ u : Nat, n * 36 = u := ⟨_, rfl⟩
    rw [hu]
    have b3 : (u : Int).natAbs < 2 ^ 100 := Nat.lt_of_le_of_lt (show (u : Int).natAbs ≤ 8000000000 * 36 by omega) (by decide +kernel)
    have z0 : (n : Int) * 3600 * 100000 - (u : Int) * 10000000 = 0 := by omega
    refine q_when (b := false) (et_is (et_test (ev_op (ev_op ev_c (ev_is (ev_op (ev_var rfl) (ev_op (ev_var rfl) ev_c (rv_I (mulc b3 (by decide +kernel)))) rv_I0) (congrArg V.int z0)) (rv_I (mulc (by decide +kernel) (by decide +kernel)))) ev_c rv_I0)) (by decide)) (fun hb => nomatch hb) fun _ H5 e5 => ?_
    -- seconds, minutes
    refine q_asg (ev_is (ev_op (ev_var rfl) ev_c (rv_I ⟨by decide, by decide⟩)) (congrArg V.int (show (u : Int) / 100000 = ((u / 100000 : Nat) : Int) by omega))) fun H6 e6 => ?_
    refine st_is (σ' := [_, _, _, _, _, _, _, _]) rfl ?_
    refine q_asg (ev_is (ev_op (ev_var rfl) ev_c (rv_I ⟨by decide, by decide⟩)) (congrArg V.int (show ((u / 100000 : Nat) : Int) / 60 = ((u / 100000 / 60 : Nat) : Int) by omega))) fun H7 e7 => ?_
    refine st_is (σ' := [_, _, _, _, _, _, _, _]) rfl ?_
    -- text
    refine q_asg ev_c fun H8 e8 => ?_
    refine st_is (σ' := [_, _, _, _, _, _, _, _]) rfl ?_
    refine q_cut (M := fun σ' H' => σ' = [some (.ref sa), some (.int (n0 : Int)), some (.int a), some (.int ((n : Int) * 3600 * 100000)), some (.int (u : Int)), some (.int ((u / 100000 : Nat) : Int)), some (.int ((u / 100000 / 60 : Nat) : Int)), some (.str (S (sgnL a)))]) ?_ fun σ' H' M2 => ?_
    · refine s_when (b := decide (a < 0)) (et_test (ev_op (ev_var rfl) ev_c rv_I0)) (fun hb H9 e9 => ?_) (fun hb H9 e9 => ?_)
      · refine s_asg ev_c fun H10 e10 => ?_
        unfold sgnL
        rw [if_pos (of_decide_eq_true hb)]
        rfl
      · unfold sgnL
        rw [if_neg (of_decide_eq_false hb)]
        rfl
    subst M2
    have hs : Sm (u / 100000 / 60 / 60) := sm_of (k := 1000000000000) (by omega) (by decide +kernel)
    have hl2 := sm_len hs
    have hz := sgn_len a
    obtain ⟨m, hm⟩ : ∃ m : Nat, u / 100000 / 60 = m := ⟨_, rfl⟩
    have hm1 : m ≤ 1000000000000 := by omega
    have b4 : ((m / 60 : Nat) : Int).natAbs < 2 ^ 100 := Nat.lt_of_le_of_lt (show ((m / 60 : Nat) : Int).natAbs ≤ 1000000000000 by omega) (by decide +kernel)
    have hs1 : ∀ {x : Nat}, x ≤ 1000000 → Sm x := fun h => sm_of h (by decide +kernel)
    rw [hm] at hs hl2 ⊢
    have q2 : ∀ {x : Nat}, x < 60 → Txt.slice (S (numL (100 + x))) (some 1) none = S (pad 2 x) := fun h => pad_one (W := 2) (by omega)
    have q5 : ∀ {x : Nat}, x < 100000 → Txt.slice (S (numL (100000 + x))) (some 1) none = S (pad 5 x) := fun h => pad_one (W := 5) (by omega)
    have hp2 : ∀ x, (pad 2 x).length = 2 := pad_len 2
    have hp5 : ∀ x, (pad 5 x).length = 5 := pad_len 5
    refine q_asg (ev_op (ev_op (ev_op (ev_op (ev_var rfl) (ev_cb (ea_cons (ev_is (ev_op (ev_var rfl) ev_c (rv_I ⟨by decide, by decide⟩)) (congrArg V.int (show (m : Int) / 60 = ((m / 60 : Nat) : Int) by omega))) ea_nil) (rc_str hs)) (rv_cat (by omega))) ev_c (rv_cat (b := [100]) (by rw [List.length_append, List.length_singleton]; omega)))
      (ev_sl (a := numL (100 + m % 60)) (w1 := pad 2 (m % 60)) (ev_cb (ea_cons (ev_is (ev_op (ev_op ev_c (ev_var rfl) rv_I0) (ev_op (ev_is (ev_op (ev_var rfl) ev_c (rv_I ⟨by decide, by decide⟩)) (congrArg V.int (show (m : Int) / 60 = ((m / 60 : Nat) : Int) by omega))) ev_c (rv_I (mulc b4 (by decide +kernel)))) rv_I0) (congrArg V.int (show (100 : Int) + m - ((m / 60 : Nat) : Int) * 60 = ((100 + m % 60 : Nat) : Int) by omega))) ea_nil) (rc_str (hs1 (by omega)))) (eo_some ev_c) eo_none (by have := sm_len (hs1 (x := 100 + m % 60) (by omega)); omega) (q2 (by omega)))
      (rv_cat (by rw [List.length_append, List.length_append, hp2, List.length_singleton]; omega))) ev_c (rv_cat (b := [109]) (by rw [List.length_append, List.length_append, List.length_append, hp2, List.length_singleton, List.length_singleton]; omega))) fun H9 e9 => ?_
    refine st_is (σ' := [_, _, _, _, _, _, _, _]) rfl ?_
    obtain ⟨t1, ht1⟩ : ∃ t1 : List Nat, sgnL a ++ numL (m / 60) ++ [100] ++ pad 2 (m % 60) ++ [109] = t1 := ⟨_, rfl⟩
    have hz1 : t1.length ≤ 400 := by
      rw [← ht1, List.length_append, List.length_append, List.length_append, List.length_append, hp2, List.length_singleton, List.length_singleton]
      omega
    rw [ht1]
    obtain ⟨sc, hsc⟩ : ∃ sc : Nat, u / 100000 = sc := ⟨_, rfl⟩
    rw [hsc]
    have b5 : (m : Int).natAbs < 2 ^ 100 := Nat.lt_of_le_of_lt (show (m : Int).natAbs ≤ 1000000000000 by omega) (by decide +kernel)
    have b6 : (sc : Int).natAbs < 2 ^ 100 := Nat.lt_of_le_of_lt (show (sc : Int).natAbs ≤ 1000000000000 by omega) (by decide +kernel)
    refine q_asg (ev_op (ev_op (ev_op (ev_op (ev_var rfl) (ev_sl (a := numL (100 + sc % 60)) (w1 := pad 2 (sc % 60)) (ev_cb (ea_cons (ev_is (ev_op (ev_op ev_c (ev_var rfl) rv_I0) (ev_op (ev_var rfl) ev_c (rv_I (mulc b5 (by decide +kernel)))) rv_I0) (congrArg V.int (show (100 : Int) + sc - (m : Int) * 60 = ((100 + sc % 60 : Nat) : Int) by omega))) ea_nil) (rc_str (hs1 (by omega)))) (eo_some ev_c) eo_none (by have := sm_len (hs1 (x := 100 + sc % 60) (by omega)); omega) (q2 (by omega))) (rv_cat (by rw [hp2]; omega))) ev_c (rv_cat (b := [46]) (by rw [List.length_append, hp2, List.length_singleton]; omega)))
      (ev_sl (a := numL (100000 + u % 100000)) (w1 := pad 5 (u % 100000)) (ev_cb (ea_cons (ev_is (ev_op (ev_op ev_c (ev_var rfl) rv_I0) (ev_op (ev_var rfl) ev_c (rv_I (mulc b6 (by decide +kernel)))) rv_I0) (congrArg V.int (show (100000 : Int) + u - (sc : Int) * 100000 = ((100000 + u % 100000 : Nat) : Int) by omega))) ea_nil) (rc_str (hs1 (by omega)))) (eo_some ev_c) eo_none (by have := sm_len (hs1 (x := 100000 + u % 100000) (by omega)); omega) (q5 (by omega)))
      (rv_cat (by rw [List.length_append, List.length_append, hp2, hp5, List.length_singleton]; omega))) ev_c (rv_cat (b := [115]) (by rw [List.length_append, List.length_append, List.length_append, hp2, hp5, List.length_singleton, List.length_singleton]; omega))) fun H10 e10 => ?_
    refine st_is (σ' := [_, _, _, _, _, _, _, _]) rfl ?_
    have heq : arcL a = t1 ++ pad 2 (sc % 60) ++ [46] ++ pad 5 (u % 100000) ++ [115] := by
      unfold arcL
      rw [hn, hu, hsc, show sc / 60 = m by omega, ← ht1]
      simp only [List.flatten_cons, List.flatten_nil, List.append_assoc, List.append_nil]
    refine s_ret (v := .bl true) (ev_is (ev_op (ev_call (z := .str (S (arcL a))) (ea_cons (ev_var rfl) ea_nil) (fun H11 e11 Q11 q11 E11 => ⟨a, rfl, by omega, q11⟩)) (ev_var rfl) (rv_eq rfl)) (congrArg V.bl (by rw [heq, decide_eq_true rfl]))) fun H12 _ => fin H12
theorem all_mk {l : PySem.W.OpenLaw} {w : World} {K : PySem.W.Frag} {h : Heap} {mg : Str → Option Value} {fa f0 f1 f2 f3 f4 f5 f6 : Addr} (X : K.In h) (G : h.Ns mainGlobals mg) (hfa : mg "law" = some (.ref fa))
    {od0 an0 od1 an1 od2 an2 od3 an3 od4 an4 od5 an5 od6 an6 : Option Addr} {sl0 sl1 sl2 sl3 sl4 sl5 sl6 : Array (Option Value)} {oc0 kV0 dc0 pm0 cd0 ct0 oc1 kV1 dc1 pm1 cd1 ct1 oc2 kV2 dc2 pm2 cd2 ct2 oc3 kV3 dc3 pm3 cd3 ct3 oc4 kV4 dc4 pm4 cd4 ct4 oc5 kV5 dc5 pm5 cd5 ct5 oc6 kV6 dc6 pm6 cd6 ct6 : Value}
    (a0 : PySem.W.nsIn K mainGlobals "digits_of" = some (some (.ref f0))) (l0 : K.lookup f0 = some ⟨oc0, od0, .func (PySem.W.fnOf "digits_of" "digits_of" (defArgs s_digits_of) (defBody s_digits_of) (defScope s_digits_of) .none kV0 dc0 pm0 an0 cd0 ct0), sl0⟩) (c0 : PySem.W.codeIn K cd0 "digits_of" = true) (k0 : PySem.W.keepIn K (.ref f0) = true)
    (a1 : PySem.W.nsIn K mainGlobals "arc_text" = some (some (.ref f1))) (l1 : K.lookup f1 = some ⟨oc1, od1, .func (PySem.W.fnOf "arc_text" "arc_text" (defArgs s_arc_text) (defBody s_arc_text) (defScope s_arc_text) .none kV1 dc1 pm1 an1 cd1 ct1), sl1⟩) (c1 : PySem.W.codeIn K cd1 "arc_text" = true) (k1 : PySem.W.keepIn K (.ref f1) = true)
    (a2 : PySem.W.nsIn K mainGlobals "sign_text" = some (some (.ref f2))) (l2 : K.lookup f2 = some ⟨oc2, od2, .func (PySem.W.fnOf "sign_text" "sign_text" (defArgs s_sign_text) (defBody s_sign_text) (defScope s_sign_text) .none kV2 dc2 pm2 an2 cd2 ct2), sl2⟩) (c2 : PySem.W.codeIn K cd2 "sign_text" = true) (k2 : PySem.W.keepIn K (.ref f2) = true)
    (a3 : PySem.W.nsIn K mainGlobals "_law_is_integer" = some (some (.ref f3))) (l3 : K.lookup f3 = some ⟨oc3, od3, .func (PySem.W.fnOf "_law_is_integer" "_law_is_integer" (defArgs s_law_is_integer) (defBody s_law_is_integer) (defScope s_law_is_integer) .none kV3 dc3 pm3 an3 cd3 ct3), sl3⟩) (c3 : PySem.W.codeIn K cd3 "_law_is_integer" = true) (k3 : PySem.W.keepIn K (.ref f3) = true)
    (a4 : PySem.W.nsIn K mainGlobals "_law_cell" = some (some (.ref f4))) (l4 : K.lookup f4 = some ⟨oc4, od4, .func (PySem.W.fnOf "_law_cell" "_law_cell" (defArgs s_law_cell) (defBody s_law_cell) (defScope s_law_cell) .none kV4 dc4 pm4 an4 cd4 ct4), sl4⟩) (c4 : PySem.W.codeIn K cd4 "_law_cell" = true) (k4 : PySem.W.keepIn K (.ref f4) = true)
    (a5 : PySem.W.nsIn K mainGlobals "_law_rich" = some (some (.ref f5))) (l5 : K.lookup f5 = some ⟨oc5, od5, .func (PySem.W.fnOf "_law_rich" "_law_rich" (defArgs s_law_rich) (defBody s_law_rich) (defScope s_law_rich) .none kV5 dc5 pm5 an5 cd5 ct5), sl5⟩) (c5 : PySem.W.codeIn K cd5 "_law_rich" = true) (k5 : PySem.W.keepIn K (.ref f5) = true)
    (a6 : PySem.W.nsIn K mainGlobals "law" = some (some (.ref f6))) (l6 : K.lookup f6 = some ⟨oc6, od6, .func (PySem.W.fnOf "law" "law" (defArgs s_law) (defBody s_law) (defScope s_law) .none kV6 dc6 pm6 an6 cd6 ct6), sl6⟩) (c6 : PySem.W.codeIn K cd6 "law" = true) (k6 : PySem.W.keepIn K (.ref f6) = true)
    (z0 : PySem.W.nsIn K mainGlobals "len" = some none)
    (z1 : PySem.W.nsIn K mainGlobals "abs" = some none)
    (z2 : PySem.W.nsIn K mainGlobals "int" = some none)
    (z3 : PySem.W.nsIn K mainGlobals "str" = some none)
    (z4 : PySem.W.nsIn K mainGlobals "divmod" = some none)
    (z5 : PySem.W.nsIn K mainGlobals "reversed" = some none)
    {ti0 ti1 ti2 ti3 : Tok} (u0 : PySem.W.nsIn K mainGlobals "PIECE_DIGITS" = some (some (.int 64 ti0))) (u1 : PySem.W.nsIn K mainGlobals "PIECE" = some (some (.int 10000000000000000000000000000000000000000000000000000000000000000 ti1))) (u2 : PySem.W.nsIn K mainGlobals "PARTS_OF_UNIT" = some (some (.int 36 ti2))) (u3 : PySem.W.nsIn K mainGlobals "PARTS_OF_SECOND" = some (some (.int 100000 ti3)))
    : ∃ fd : FuncData, (∀ (s : Shared) (v : Value), BindsTo s fd ⟨[v], []⟩ [("script", v)]) ∧ ∀ base : Heap, K.In base → base.Ns mainGlobals mg → FnOk l.prog w K mg base CX0 3 fa fd ["script"] (spLaw K) := by
  have e := hfa.symm.trans (PySem.W.mg_of X G a6)
  cases e
  have F_digits_of := fun_mk (st := s_digits_of) l0 c0 k0
  have F_arc_text := fun_mk (st := s_arc_text) l1 c1 k1
  have F_sign_text := fun_mk (st := s_sign_text) l2 c2 k2
  have F_law_is_integer := fun_mk (st := s_law_is_integer) l3 c3 k3
  have F_law_cell := fun_mk (st := s_law_cell) l4 c4 k4
  have F_law_rich := fun_mk (st := s_law_rich) l5 c5 k5
  have F_law := fun_mk (st := s_law) l6 c6 k6
  have b_digits_of := F_digits_of.binds (ps := ["n"]) fun _ _ _ _ _ _ us hl => match us, hl with | [_], _ => rfl
  have g_digits_of := PySem.W.mg_of X G a0
  have b_arc_text := F_arc_text.binds (ps := ["angle"]) fun _ _ _ _ _ _ us hl => match us, hl with | [_], _ => rfl
  have g_arc_text := PySem.W.mg_of X G a1
  have b_sign_text := F_sign_text.binds (ps := ["n"]) fun _ _ _ _ _ _ us hl => match us, hl with | [_], _ => rfl
  have g_sign_text := PySem.W.mg_of X G a2
  have b_law_is_integer := F_law_is_integer.binds (ps := ["actual"]) fun _ _ _ _ _ _ us hl => match us, hl with | [_], _ => rfl
  have g_law_is_integer := PySem.W.mg_of X G a3
  have b_law_cell := F_law_cell.binds (ps := ["script", "k"]) fun _ _ _ _ _ _ us hl => match us, hl with | [_, _], _ => rfl
  have g_law_cell := PySem.W.mg_of X G a4
  have b_law_rich := F_law_rich.binds (ps := ["cell"]) fun _ _ _ _ _ _ us hl => match us, hl with | [_], _ => rfl
  have g_law_rich := PySem.W.mg_of X G a5
  have m_len := PySem.W.mg_none_of X G z0
  have m_abs := PySem.W.mg_none_of X G z1
  have m_int := PySem.W.mg_none_of X G z2
  have m_str := PySem.W.mg_none_of X G z3
  have m_divmod := PySem.W.mg_none_of X G z4
  have m_reversed := PySem.W.mg_none_of X G z5
  exact ⟨PySem.W.fnOf "law" "law" (defArgs s_law) (defBody s_law) (defScope s_law) .none kV6 dc6 pm6 an6 cd6 ct6, fun s v => .of_eq rfl, fun base _ _ => ok_law F_law F_digits_of F_arc_text F_sign_text F_law_is_integer F_law_cell F_law_rich b_digits_of b_arc_text b_sign_text b_law_is_integer b_law_cell b_law_rich g_digits_of g_arc_text g_sign_text g_law_is_integer g_law_cell g_law_rich (PySem.W.mg_of X G u0) (PySem.W.mg_of X G u1) (PySem.W.mg_of X G u2) (PySem.W.mg_of X G u3) m_len m_abs m_int m_str m_divmod m_reversed⟩
end
end K44
open PySem PySem.W PyProof.Rows
set_option maxHeartbeats 0 in
theorem PySem.Challenge.cw_portolan_k44_texts_of_arcs_holds : PySem.Challenge.rw_portolan_k44_texts_of_arcs.Holds := by
  w_on; o_law; k_head; (case hw => w_witness2)
  k_fill
  refine L2.walk_of (l := PySem.Challenge.rw_portolan_k44_texts_of_arcs) (n := 63) (k := 3) (x := "script") (CX := fun _ => L2.CX0) (sp := fun w => K44.spLaw _) rfl (by decide) rfl ⟨rfl, by decide, by decide⟩ (fun w h Y => PySem.W.kIn_of Y) ?F (fun _ _ a ns hl _ hS => ⟨a, ns, rfl, hS, hl, fun _ => rfl⟩) (fun _ _ _ _ _ h => h)
  case F =>
    intro w mg fa h KX G hmg
    refine' K44.all_mk KX G hmg ?a0 ?l0 ?c0 ?k0 ?a1 ?l1 ?c1 ?k1 ?a2 ?l2 ?c2 ?k2 ?a3 ?l3 ?c3 ?k3 ?a4 ?l4 ?c4 ?k4 ?a5 ?l5 ?c5 ?k5 ?a6 ?l6 ?c6 ?k6 ?z0 ?z1 ?z2 ?z3 ?z4 ?z5 ?u0 ?u1 ?u2 ?u3
    (case a0 => k_is); (case l0 => k_is); (case c0 => k_is); (case k0 => k_is); (case a1 => k_is); (case l1 => k_is); (case c1 => k_is); (case k1 => k_is); (case a2 => k_is); (case l2 => k_is); (case c2 => k_is); (case k2 => k_is); (case a3 => k_is); (case l3 => k_is); (case c3 => k_is); (case k3 => k_is); (case a4 => k_is); (case l4 => k_is); (case c4 => k_is); (case k4 => k_is); (case a5 => k_is); (case l5 => k_is); (case c5 => k_is); (case k5 => k_is); (case a6 => k_is); (case l6 => k_is); (case c6 => k_is); (case k6 => k_is); (case z0 => k_is); (case z1 => k_is); (case z2 => k_is); (case z3 => k_is); (case z4 => k_is); (case z5 => k_is); (case u0 => k_is); (case u1 => k_is); (case u2 => k_is); (case u3 => k_is)

