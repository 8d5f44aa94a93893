import PyProof.Rows.All
import Wide.All
import OpenK.AllK
import Wide.FinOn
import HandS.ForMost
import HandS.More
import HandS.FStr
import HandS.RaiseMore
import HandS.ForExc
import HandS.ExcIs
import HandS.Walk
import PyProof.ExcBaseAll.ValueError
import KE.IntTextText
import HandS.Evl
import HandS.Wide
import HandS.WideBits
import HandS.Style
import HandS.IsInst
import PyProof.P3Eq
import HandS.Iter
import HandS.MapJoin
import HandS.MapObj
import KE.KRevIter
import PyProof.JoinWalk
import PyProof.CollectWalk
import HandS.Codes
import HandS.StrMore
import HandS.Text
import KE.IntTextLaws
import PyProof.Rows.StrAscii
import PyProof.Rows.StrPadFill
import PyProof.Rows.StrPadWhole
import PySem.Challenge.RW_portolan_k43_faulty_texts_of_angles
set_option Elab.async false
set_option linter.all false
set_option maxRecDepth 100000
set_option maxHeartbeats 4000000
/-! Own rules over the layer: what a reading evaluates to, for texts that change nothing. -/
namespace Cm
open PySem PySem.Spec PyProof.Rows L2 Evl

theorem ex_app {H H' : Hp} (e : Ex H H') {p : Addr} {o : HO} (h : H p = some o) : H' p = some o := e p o h
/-- a new tuple comes back -/
def RetU (xs : List V) (H : Hp) (Q : VK) : Prop := ∀ p H2, H p = none → Ex H H2 → H2 p = some (.tup xs) → Q (.ref p) H2
def SpU (sp : Sp) (vs : List V) (H : Hp) (xs : List V) : Prop := ∀ H1, Ex H H1 → ∀ Q : VK, (∀ p H2, H1 p = none → Ex H1 H2 → H2 p = some (.tup xs) → Q (.ref p) H2) → ∀ E : XK, sp vs H1 Q E
section
variable {K : PySem.W.Frag} {σ : L2.St} {H H' : Hp} {ta tb tc te tx : TE} {t u : TT} {x y z v w : V} {r r' : R2} {D : Ends} {tz : TS}
/-- the slots written out anew -/
theorem st_is {σ' : L2.St} {ts : TS} (e : σ = σ') (h : ts D σ' H) : ts D σ H := by
  rw [e]
  exact h
theorem RetU.go {xs : List V} {Q : VK} (k : RetU xs H Q) (e : Ex H H') {p : Addr} {H2 : Hp} (hp : H' p = none) (e2 : Ex H' H2) (h : H2 p = some (.tup xs)) : Q (.ref p) H2 := k p H2 (fresh_back e hp) (e.trans e2) h
theorem eu_call {sp : Sp} {dvs vs xs : List V} {E : XK} {ta : TA} (h : EvA ta σ H vs) (hs : SpU sp (vs ++ dvs) H xs) : EvU (tCall sp dvs E ta) σ H xs := fun H1 e Q q =>
  h H1 e _ fun H2 e2 => hs H2 (e.trans e2) Q (fun p H3 hp e3 h3 => q p H3 (fresh_back e2 hp) (e2.trans e3) h3) E
theorem eu_is {xs ys : List V} (h : EvU te σ H xs) (e : xs = ys) : EvU te σ H ys := by
  rw [← e]
  exact h
/-- a call whose first argument is a new tuple -/
theorem ev_callU {sp : Sp} {dvs vs xs : List V} {E : XK} {tr : TA} (h1 : EvU te σ H xs) (h2 : EvA tr σ H vs) (hs : ∀ p H1, Ex H H1 → H1 p = some (.tup xs) → SpV sp (.ref p :: vs ++ dvs) H1 z) : Ev (tCall sp dvs E (tCons te tr)) σ H z := fun H1 e Q q =>
  h1 H1 e _ fun p H2 np e2 hp => h2 H2 (e.trans e2) _ fun H3 e3 => hs p H3 ((e.trans e2).trans e3) (e3 _ _ hp) H3 (Ex.refl H3) Q (fun H4 e4 => q H4 ((e2.trans e3).trans e4)) E
/-- .. whose second argument is a new tuple -/
theorem ev_callVU {sp : Sp} {dvs vs xs : List V} {E : XK} {tr : TA} (h0 : Ev ta σ H x) (h1 : EvU te σ H xs) (h2 : EvA tr σ H vs) (hs : ∀ p H1, Ex H H1 → H1 p = some (.tup xs) → SpV sp (x :: .ref p :: vs ++ dvs) H1 z) : Ev (tCall sp dvs E (tCons ta (tCons te tr))) σ H z := fun H1 e Q q =>
  h0 H1 e _ fun H2 e2 => h1 H2 (e.trans e2) _ fun p H3 np e3 hp => h2 H3 ((e.trans e2).trans e3) _ fun H4 e4 => hs p H4 (((e.trans e2).trans e3).trans e4) (e4 _ _ hp) H4 (Ex.refl H4) Q (fun H5 e5 => q H5 (((e2.trans e3).trans e4).trans e5)) E
theorem ev_chain {b c : Bool} (ha : Ev ta σ H x) (hb : Ev tb σ H y) (hc : Ev tc σ H w) (h1 : RV r x y H (.bl b)) (h2 : RV r' y w H (.bl c)) : Ev (tChain r r' ta tb tc) σ H (.bl (b && c)) := fun H1 e Q q =>
  ha H1 e _ fun H2 e2 => hb H2 (e.trans e2) _ fun H3 e3 => h1 H3 ((e.trans e2).trans e3) _ fun H4 e4 => ⟨b, rfl, by
    cases b with
    | true =>
      show tc σ H4 _
      exact hc H4 (((e.trans e2).trans e3).trans e4) _ fun H5 e5 => h2 H5 ((((e.trans e2).trans e3).trans e4).trans e5) Q fun H6 e6 => q H6 ((((e2.trans e3).trans e4).trans e5).trans e6)
    | false =>
      show Q (.bl false) H4
      exact q H4 ((e2.trans e3).trans e4)⟩
theorem rv_shl {i : Int} {k : Nat} (h : CShl i (k : Int)) : RV (fun x y H Q => ∃ (i : Int) (k : Nat), x = .int i ∧ y = .int (k : Int) ∧ CShl i (k : Int) ∧ Q (.int (i * 2 ^ k)) H) (.int i) (.int (k : Int)) H (.int (i * 2 ^ k)) :=
  fun H1 _ _ q => ⟨i, k, rfl, rfl, h, q H1 (Ex.refl H1)⟩
theorem rv_shr {i : Int} {k : Nat} : RV (fun x y H Q => ∃ (i : Int) (k : Nat), x = .int i ∧ y = .int (k : Int) ∧ Q (.int (i / 2 ^ k)) H) (.int i) (.int (k : Int)) H (.int (i / 2 ^ k)) :=
  fun H1 _ _ q => ⟨i, k, rfl, rfl, q H1 (Ex.refl H1)⟩
theorem rv_isB {a b : Bool} : RV rIsB (.bl a) (.bl b) H (.bl (decide (a = b))) := fun H1 _ _ q => ⟨a, b, rfl, rfl, q H1 (Ex.refl H1)⟩
theorem rv_notB {a b : Bool} : RV rNotB (.bl a) (.bl b) H (.bl (!decide (a = b))) := fun H1 _ _ q => ⟨a, b, rfl, rfl, q H1 (Ex.refl H1)⟩
theorem rv_isN : RV (fun x y H Q => y = .non ∧ Q (.bl (decide (x = .non))) H) x .non H (.bl (decide (x = .non))) := fun H1 _ _ q => ⟨rfl, q H1 (Ex.refl H1)⟩
theorem rv_notN : RV (fun x y H Q => y = .non ∧ Q (.bl (!decide (x = .non))) H) x .non H (.bl (!decide (x = .non))) := fun H1 _ _ q => ⟨rfl, q H1 (Ex.refl H1)⟩
theorem rc_abs {i : Int} : RC (fun xs H Q => ∃ i, xs = [.int i] ∧ Q (.int (if i < 0 then -i else i)) H) [.int i] H (.int (i.natAbs : Int)) := fun H1 _ Q q => ⟨i, rfl, by
  have e : (if i < 0 then -i else i) = (i.natAbs : Int) := by split <;> omega
  rw [e]
  exact q H1 (Ex.refl H1)⟩
theorem rc_max2 {i j : Int} : RC (fun xs H Q => ∃ i j, xs = [.int i, .int j] ∧ Q (.int (if j > i then j else i)) H) [.int i, .int j] H (.int (max i j)) := fun H1 _ Q q => ⟨i, j, rfl, by
  have e : (if j > i then j else i) = max i j := by split <;> omega
  rw [e]
  exact q H1 (Ex.refl H1)⟩
theorem rc_min2 {i j : Int} : RC (fun xs H Q => ∃ i j, xs = [.int i, .int j] ∧ Q (.int (if j < i then j else i)) H) [.int i, .int j] H (.int (min i j)) := fun H1 _ Q q => ⟨i, j, rfl, by
  have e : (if j < i then j else i) = min i j := by split <;> omega
  rw [e]
  exact q H1 (Ex.refl H1)⟩
theorem rc_intB {k : Bool} : RC (fun xs H Q => (∃ i, xs = [.int i] ∧ Q (.int i) H) ∨ ∃ k, xs = [.bl k] ∧ Q (.int (if k then 1 else 0)) H) [.bl k] H (.int (if k then 1 else 0)) := fun H1 _ Q q => Or.inr ⟨k, rfl, q H1 (Ex.refl H1)⟩
theorem rc_intI {i : Int} : RC (fun xs H Q => (∃ i, xs = [.int i] ∧ Q (.int i) H) ∨ ∃ k, xs = [.bl k] ∧ Q (.int (if k then 1 else 0)) H) [.int i] H (.int i) := fun H1 _ Q q => Or.inl ⟨i, rfl, q H1 (Ex.refl H1)⟩
theorem rc_isiT {p : Addr} {xs : List V} (h : H p = some (.tup xs)) : RC (rIsi K) [.ref p, .ty "tuple"] H (.bl true) := fun H1 e _ q =>
  ⟨.ref p, .ty "tuple", .type "tuple", .type "tuple", true, rfl, .ty _, .base (.tup (e _ _ h)), kit_ty (by decide +kernel), q H1 (Ex.refl H1)⟩
theorem rc_isiS {x : Str} : RC (rIsi K) [.str x, .ty "str"] H (.bl true) := fun H1 e _ q =>
  ⟨.str x, .ty "str", .type "str", .type "str", true, rfl, .ty _, .base (.str x), kit_ty (by decide +kernel), q H1 (Ex.refl H1)⟩
theorem rc_lenL {p : Addr} {xs : List V} (h : SqL K H p xs) : RC (fun xs H Q => ∃ x n, xs = [x] ∧ LenV K x H n ∧ Q (.int n) H) [.ref p] H (.int (xs.length : Int)) := fun H1 e _ q =>
  ⟨.ref p, (xs.length : Nat), rfl, .inl ⟨_, ex_l e h, rfl⟩, q H1 (Ex.refl H1)⟩
/-! ### data -/
mutual
theorem dp_mono (e : Ex H H') : ∀ (d : PyData) (v : V), Dp K H v d → Dp K H' v d
  | _, _, .non => .non
  | _, _, .bl b => .bl b
  | _, _, .int i => .int i
  | _, _, .str x => .str x
  | _, _, .lst h a => .lst (ex_l e h) (dps_mono e _ _ a)
  | _, _, .tup h a => .tup (ex_t e h) (dps_mono e _ _ a)
theorem dps_mono (e : Ex H H') : ∀ (ds : List PyData) (vs : List V), DpAll K H vs ds → DpAll K H' vs ds
  | _, _, .nil => .nil
  | _, _, .cons h t => .cons (dp_mono e _ _ h) (dps_mono e _ _ t)
end
theorem dpInts : ∀ (is : List Int), DpAll K H (is.map V.int) (is.map PyData.int)
  | [] => .nil
  | i :: r => .cons (.int i) (dpInts r)
theorem eqvS {d : PyData} (h : SeqAt.shaped d = true) : PyData.eqv d d = true := by
  unfold SeqAt.shaped at h
  rw [Bool.and_eq_true] at h
  exact PySem.SeqAt.eqv_refl d h.1
/-- the same data on both sides -/
theorem rv_neS {d : PyData} (hx : Dp K H x d) (hy : Dp K H y d) (hs : SeqAt.shaped d = true) : RV (rNeD K) x y H (.bl false) := fun H1 e Q q =>
  ⟨d, d, dp_mono e _ _ hx, dp_mono e _ _ hy, hs, hs, by
    rw [eqvS hs]
    exact q H1 (Ex.refl H1)⟩
theorem rv_eqS {d : PyData} (hx : Dp K H x d) (hy : Dp K H y d) (hs : SeqAt.shaped d = true) : RV (rEqD K) x y H (.bl true) := fun H1 e Q q =>
  ⟨d, d, dp_mono e _ _ hx, dp_mono e _ _ hy, hs, hs, by
    rw [eqvS hs]
    exact q H1 (Ex.refl H1)⟩
/-- a pair of ints -/
theorem dp2 {p : Addr} {i j : Int} (h : SqT K H p [.int i, .int j]) : Dp K H (.ref p) (.tuple [.int i, .int j]) := .tup h (.cons (.int i) (.cons (.int j) .nil))
theorem sh2 {i j : Int} : SeqAt.shaped (.tuple [.int i, .int j]) = true := rfl
end
/-! ### numbers -/
/-- a bound that omega does not look into -/
def Bd (k : Nat) (x : Int) : Prop := x.natAbs < 2 ^ k
theorem pow_pos (n : Nat) : (0 : Int) < 2 ^ n := PySem.W.kbt_pos n
theorem pow_abs (n : Nat) : ((2 : Int) ^ n).natAbs = 2 ^ n := by
  rw [Int.natAbs_pow]
  rfl
theorem ab_mono {x : Int} {a b : Nat} (h : x.natAbs < 2 ^ a) (hab : a ≤ b) : x.natAbs < 2 ^ b := Nat.lt_of_lt_of_le h (Nat.pow_le_pow_right (by decide) hab)
theorem ab_pow {n k : Nat} (h : n < k) : ((2 : Int) ^ n).natAbs < 2 ^ k := by
  rw [pow_abs]
  exact Nat.pow_lt_pow_right (by decide) h
theorem ab_shl {x : Int} {a n : Nat} (h : x.natAbs < 2 ^ a) : (x * 2 ^ n).natAbs < 2 ^ (a + n) := by
  rw [Int.natAbs_mul, pow_abs, Nat.pow_add]
  exact Nat.mul_lt_mul_of_pos_right h (Nat.two_pow_pos n)
theorem ab_mul {x y : Int} {a b : Nat} (hx : x.natAbs < 2 ^ a) (hy : y.natAbs < 2 ^ b) : (x * y).natAbs < 2 ^ (a + b) := wide_lt hx hy
theorem ab_add {x y : Int} {a : Nat} (hx : x.natAbs < 2 ^ a) (hy : y.natAbs < 2 ^ a) : (x + y).natAbs < 2 ^ (a + 1) := by
  have e : 2 ^ (a + 1) = 2 ^ a + 2 ^ a := by rw [Nat.pow_succ]; omega
  omega
theorem ab_neg {x : Int} {a : Nat} (hx : x.natAbs < 2 ^ a) : (-x).natAbs < 2 ^ a := by omega
theorem ab_sm {x : Int} {a c : Nat} (h : x.natAbs ≤ c) (hc : c < 2 ^ a) : x.natAbs < 2 ^ a := Nat.lt_of_le_of_lt h hc
theorem fl_le {s q : Int} (hq : 0 < q) : s / q * q ≤ s := Int.ediv_mul_le s (by omega)
theorem fl_lt {s q : Int} (hq : 0 < q) : s < (s / q + 1) * q := by
  rw [Int.add_mul, Int.one_mul]
  exact Int.lt_ediv_add_one_mul_self s hq |> fun h => by rw [Int.add_mul, Int.one_mul] at h; exact h
theorem cl_ge {s q : Int} (hq : 0 < q) : s ≤ -(-s / q) * q := by
  have h := fl_le (s := -s) hq
  rw [Int.neg_mul]
  omega
theorem cl_lt {s q : Int} (hq : 0 < q) : (-(-s / q) - 1) * q < s := by
  have h := fl_lt (s := -s) hq
  rw [Int.sub_mul, Int.one_mul, Int.neg_mul]
  rw [Int.add_mul, Int.one_mul] at h
  omega
theorem ab_div {x q : Int} {a : Nat} (hq : 0 < q) (h : x.natAbs < 2 ^ a) : (x / q).natAbs < 2 ^ a := by
  have h1 : (x / q).natAbs ≤ x.natAbs := by
    by_cases hx : 0 ≤ x
    · have := Int.ediv_le_self q hx
      have := Int.ediv_nonneg hx (Int.le_of_lt hq)
      omega
    · have h2 : x / q < 0 := Int.ediv_neg_of_neg_of_pos (by omega) hq
      have h3 := fl_lt (s := x) hq
      have h4 : (x / q + 1) * q ≤ (x / q + 1) := by
        have h5 : (x / q + 1) * (q - 1) ≤ 0 := Int.mul_nonpos_of_nonpos_of_nonneg (by omega) (by omega)
        rw [Int.mul_sub, Int.mul_one] at h5
        omega
      omega
  omega
theorem mul_le_r {a b q : Int} (h : a ≤ b) (hq : 0 < q) : a * q ≤ b * q := Int.mul_le_mul_of_nonneg_right h (Int.le_of_lt hq)
/-- the ceiling, by one more where the floor is not exact -/
theorem ceil_eq {s q : Int} (hq : 0 < q) : -(-s / q) = s / q + (if (!decide (s / q * q = s)) = true then 1 else 0) := by
  have a1 := fl_le (s := s) hq
  have a2 := fl_lt (s := s) hq
  have b1 := cl_ge (s := s) hq
  have b2 := cl_lt (s := s) hq
  have lt_of : ∀ {u v : Int}, u * q < v * q → u < v := fun h => Int.lt_of_mul_lt_mul_right h (Int.le_of_lt hq)
  have c1 : -(-s / q) - 1 < s / q + 1 := lt_of (Int.lt_trans b2 a2)
  by_cases e : s / q * q = s
  · rw [decide_eq_true e]
    have c2 : -(-s / q) - 1 < s / q := lt_of (by rw [e]; exact b2)
    have c3 : s / q - 1 < -(-s / q) := lt_of (Int.lt_of_lt_of_le (by rw [Int.sub_mul, Int.one_mul, e]; omega) b1)
    show _ = s / q + 0
    omega
  · rw [decide_eq_false e]
    have c3 : s / q < -(-s / q) := lt_of (by omega)
    show _ = s / q + 1
    omega
end Cm

/-! Own rule: sep.join(reversed(a list of texts)). -/
namespace Jr
open PySem PySem.Spec PyProof.Rows L2
open PySem.Builtin PySem.Builtin.Str PySem.Builtin.Int
abbrev RI : String := "list_reverseiterator"
theorem nolenR : typeLookup (.type "list_reverseiterator") "__len__" = pure none := by rw [typeLookup_type, builtinLookup_eq_fast]; kernel_rfl
theorem hintR : typeLookup (.type "list_reverseiterator") "__length_hint__" = pure (some (.builtin "list_reverseiterator.__length_hint__")) := by rw [typeLookup_type, builtinLookup_eq_fast]; kernel_rfl
section
variable {prog : Program} {w : World} {A : Around} {E : Value → Shared → Prop} {s : Shared} {I : Addr} {fp wr : List Addr} {G : Array GenState → Array GenState → Prop} {n : Nat} {P : Nat → Value → Prop} {St : Nat → Shared → Prop}
theorem hint_rev {Q : Bool → Shared → Prop} (hT : s.TypeIs (.ref I) "list_reverseiterator") (h : Q false s) : wpAny (model prog w) A (Builtin.List.listLengthHint (.ref I)) Q E s := by
  unfold Builtin.List.listLengthHint; refine wpAny_bind (wpAny_specialOf hT nolenR ?_)
  show wpAny _ A (specialOf (Value.ref I) (Str.ofString "__length_hint__") >>= _) _ _ s
  refine wpAny_bind (wpAny_specialOf hT hintR ?_)
  (generalize hid : ("list_reverseiterator.__length_hint__" : String) = id0; wp_delta; rw [show splitId id0 = some ("list_reverseiterator", "__length_hint__") from by subst hid; decide +kernel]; subst hid)
  refine wpAny_bind (wpAny_isInstance (T := "list_reverseiterator") (b := true) hT (by rw [isSubtype_type]; kernel_rfl) ?_)
  exact wpAny_pure h
theorem collect_rev {Q : List Value → Shared → Prop} (W : WalksS prog w A.in1 I fp wr G n P St) (hT : ∀ i s, St i s → s.TypeIs (.ref I) "list_reverseiterator") (st0 : St 0 s) (hfp : ∀ b ∈ fp, b < s.heap.objs.size) (hI : I ∈ fp)
    (hQ : ∀ s' acc, Moved wr G s s' → ItemsOf P acc n → Q acc.toList s') (hn : n ≤ sizeLine) : wpAny (model prog w) A (collect (.ref I)) Q E s := by
  have nf : s.heap.objs.size ∉ fp := fun hm => absurd (hfp _ hm) (Nat.lt_irrefl _)
  have nI : s.heap.objs.size ≠ I := fun e => nf (by rw [e]; exact hI)
  have same : Builtin.List.listSameRef (.ref s.heap.objs.size) (.ref I) = false := by simp [Builtin.List.listSameRef, nI]
  have new := Heap.get?_push_size s.heap (o := { cls := .type "list", data := .seq ([] : List Value).toArray }) rfl
  have st1 := W.frame 0 s (s.heap.push { cls := .type "list", data := .seq ([] : List Value).toArray }) s.toks st0 (Nat.le_refl _) fun b _ o e => Heap.get?_push_of_some _ e
  unfold collect
  refine wpAny_bind (wpAny_runValue (codeAny_builtin F.entry_proto_collect (by
    rw [Around.under_plainId F.plain_proto_collect _]
    show wpAny _ A.in1 (newList [] >>= fun l => again (.builtin "list.__iadd__" ⟨[l, .ref I], []⟩)) _ _ s
    refine wpAny_bind (wpAny_newObj_type (wpAny_pure ⟨plainId_quiet F.plain_list_iadd _, codeAny_builtin F.entry_list_iadd ?_⟩))
    rw [Around.under_plainId F.plain_list_iadd _]
    show wpAny _ A.in1 (Builtin.List.listExtendWith (.ref s.heap.objs.size) (.ref I) (.ref s.heap.objs.size)) _ _ _
    unfold Builtin.List.listExtendWith; refine wpAny_bind (wpAny_typeOf (hT 0 _ st1) ?_)
    rw [if_neg (by rw [same]; decide)]; refine wpAny_bind (W.self 0 _ _ _ st1 (wpAny_bind (wpAny_holding (hint_rev (hT 0 _ st1) ?_))))
    rw [if_neg (by decide)]; refine wpAny_pure ⟨plainId_quiet F.plain_extend_loop _, codeAny_extend_loopS W hn _ nf _ n 0 _ _ _ rfl (Nat.zero_le _) st1 new (ItemsOf.nil P) fun s' acc' c' hm hS' hacc => ?_⟩
    show wpAny _ A (load s.heap.objs.size >>= _) _ _ s'
    exact wpAny_bind (wpAny_load hS' (wpAny_pure (hQ s' acc' (Moved.drop_new (o := { cls := .type "list", data := .seq ([] : List Value).toArray }) (tk := s.toks) hm (Nat.le_refl _)) hacc))))))
theorem join_rev {x : Str} {t : Tok} {ys : List Str} {Q : Value → Shared → Prop} (W : WalksS prog w A.in1.in1 I fp wr G n P St) (hT : ∀ i s, St i s → s.TypeIs (.ref I) "list_reverseiterator") (st0 : St 0 s) (hfp : ∀ b ∈ fp, b < s.heap.objs.size) (hI : I ∈ fp)
    (hP : ∀ acc : Array Value, ItemsOf P acc n → StrsAre acc.toList ys) (hok : (ys.map (·.length)).sum + ys.length * x.length ≤ 16777216) (hq : ∀ s', Moved wr G s s' → ∀ t' k, Q (.str (Txt.join x ys) t') { s' with toks := k }) (hn : n ≤ sizeLine) :
    wpAny (model prog w) A (call (.builtin "str.join") [.str x t, .ref I]) Q E s := by
  have j0 := joinOk_of hok
  unfold JoinOk at j0; rw [Bool.not_eq_true'] at j0
  refine wpAny_call (codeAny_call_builtin F.slot_str_join.plain F.entry_str_join (F.slot_str_join.check _ _ _ _ _ _ _ _ (typeIs_str _ _ _) (F.args_str_join_2 _ _) (by
    rw [join_tree_other]; refine wpAny_bind (wpAny_typeOf (hT 0 s st0) ?_)
    show wpAny _ A.in1 ((pyIter (.ref I)).tryCatch _ >>= fun it => collect it >>= fun items => joinTail x items) _ _ s
    refine wpAny_bind (wpAny_tryCatch (W.of_in1.self 0 s _ _ st0 (wpAny_bind (collect_rev W hT st0 hfp hI (fun s' acc hm hacc => ?_) hn))))
    obtain ⟨l, hl, ht⟩ := strsAre_values (hP acc hacc); subst ht; rw [hl]
    have g : Gives (joinTail x (strValues l)) (joinMade x l) := by rcases l with _ | ⟨p, _ | ⟨q, r⟩⟩ <;> exact gives_joinTail x _ j0
    exact g prog w A (wants Q E) s' (post_join l ⟨joinFit_length j0, hq s' hm⟩))))
end
section
variable {X : Cx}
/-- sep.join(reversed(xs)), xs a list of texts: sep first, then xs -/
def tJoinRev (K : PySem.W.Frag) (to : TE) (ta : TA) : TE := fun σ H Q => to σ H fun x H1 => (∃ a, x = .str a) ∧ ta σ H1 fun vs H2 => ∃ (a : Str) (q : Addr) (ys : List Str),
  x = .str a ∧ vs = [.ref q] ∧ SqL K H2 q (ys.map V.str) ∧ (ys.map (·.length)).sum + ys.length * a.length ≤ 16777216 ∧ Q (.str (Txt.join a ys.reverse)) H2
theorem rev_strs {its : List Value} {ys : List Str} (r : Vals (ys.map V.str) its) {acc : Array Value} (h : ItemsOf (fun i v => its.toArray[its.toArray.size - 1 - i]? = some v) acc its.toArray.size) : StrsAre acc.toList ys.reverse := by
  have e : acc.toList = its.reverse := by
    obtain ⟨h1, h2⟩ := h
    refine List.ext_getElem? fun i => ?_
    by_cases hi : i < its.length
    · have hz : i < acc.size := by rw [h1]; simpa using hi
      have h3 := h2 i acc[i] (Array.getElem?_eq_getElem hz)
      rw [List.getElem?_reverse hi, Array.getElem?_toList, Array.getElem?_eq_getElem hz, ← h3]
      simp
    · rw [List.getElem?_eq_none (by rw [Array.length_toList, h1]; simp; omega), List.getElem?_eq_none (by rw [List.length_reverse]; omega)]
  rw [e]
  have key : ∀ {ys : List Str} {its : List Value}, Vals (ys.map V.str) its → StrsAre its ys := fun {ys its} r => strs_of_vals r
  have r2 : Vals (ys.reverse.map V.str) its.reverse := by
    rw [List.map_reverse]
    exact r.reverse
  exact key r2
theorem pe_joinRev {o e : Expr} {to : TE} {ta : TA} {apos pos p pos2 : Pos} (hc : X.calm = true) (ho : PE X o to) (hg : Gl X "reversed") (hm : X.mg "reversed" = none) (ha : PA X [e] ta)
    (hs1 : starEach [.Call (.Name "reversed" p) [e] [] pos2] X.env = [(false, eval (.Call (.Name "reversed" p) [e] [] pos2) X.env)] := by rfl) (hs : starEach [e] X.env = [(false, eval e X.env)] := by rfl)
    (hbase : attributeBase o "join" X.env (eval o X.env) = eval o X.env := by rfl) (hline : (apos.endLine == pos.line) = true := by rfl) :
    PE X (.Call (.Attribute o "join" apos) [.Call (.Name "reversed" p) [e] [] pos2] [] pos) (tJoinRev X.K to ta) := by
  refine ⟨fun pins s σ H Q I h => PySem.Call_method1 hbase hs1 hline (thn (ho.run pins s σ H _ I h) fun v s1 ⟨x, H1, I1, r1, q1⟩ => ?_)⟩
  obtain ⟨⟨a, rfl⟩, q1⟩ := q1; obtain ⟨t, rfl⟩ := _root_.id r1
  refine ⟨"str", _, F.plainAttrs_str, F.slot_str_join, F.type_str_join, typeIs_str _ _ _, (fun _ e => nomatch e), Calls.callWith_builtin rfl (Calls.evalArgs_plain (Calls.spliced_cons (Call_ (ld_blt I1 hg hm PyProof.Rows.boot_reversed (PyProof.Rows.callWith_type1 (thn (ha.run pos2 pins s1 σ H1 _ I1 q1) fun us s3 ⟨vs, H2, I3, r3, q3⟩ => ?_) hs rfl)))))⟩
  obtain ⟨a', q, ys, ea, rfl, hq, hz, q3⟩ := q3; cases ea
  cases r3 with
  | cons r rr =>
    cases rr; cases r
    obtain ⟨its, rv, pl, hsz⟩ := I3.list hq
    have hlt : q < s3.heap.objs.size := by
      obtain ⟨o, ho, _⟩ := pl.isList
      exact Heap.lt_size ho
    have hh := I3.ok.hd hc
    refine call_reversed_list pl.isList (Calls.spliced_nil ?_)
    have W := (Walks.listRev (prog := X.prog) (w := X.w) (A := X.A.in1.in1) hh s3.heap.objs.size q (Nat.ne_of_lt hlt) its.toArray).toS
    refine join_rev (ys := ys.reverse) W (fun i s' st => st.2.1.typeIs) ⟨Nat.zero_le _, ⟨_, Heap.get?_push_size _ rfl, rfl, by rw [show ((its.toArray.size : Nat) : Int) - 1 - ((0 : Nat) : Int) = ((its.toArray.size : Nat) : Int) - 1 by omega]; rfl⟩, pl.isList.push _⟩ (fun b hb => ?_) (by simp) (fun acc hacc => rev_strs rv hacc) (by
      rw [List.map_reverse, List.sum_reverse, List.length_reverse]
      exact hz) (fun s' hmv t' k => ?_) (by
      have := rv.length
      simp only [List.size_toArray]
      omega)
    · rw [Heap.size_push]
      simp only [List.mem_cons, List.not_mem_nil, or_false] at hb
      rcases hb with rfl | rfl
      · exact Nat.lt_succ_self _
      · exact Nat.lt_succ_of_lt hlt
    · rw [Moved.eq_with hmv]
      exact ⟨.str _, H2, I3.kept (t' := k) fun b o e => hmv.heap b o (fun hmem => absurd (Heap.lt_size e) (by rw [List.mem_singleton.mp hmem]; exact Nat.lt_irrefl _)) (Heap.get?_push_of_some _ e), ⟨t', rfl⟩, q3⟩
end
end Jr

/-! Own data: the digits of a number. -/
namespace Dg
open PySem PySem.Builtin PySem.Builtin.Str SX TL
/-- the last k digits -/
def pad : Nat → Nat → List Nat
  | 0, _ => []
  | k + 1, n => pad k (n / 10) ++ [48 + n % 10]
theorem pad_len : ∀ k n, (pad k n).length = k
  | 0, _ => rfl
  | k + 1, n => by
    show (pad k (n / 10) ++ [48 + n % 10]).length = k + 1
    rw [List.length_append, pad_len k]
    rfl
theorem pow_div (n k : Nat) : n / 10 / 10 ^ k = n / 10 ^ (k + 1) := by
  rw [Nat.div_div_eq_div_mul, Nat.pow_succ, Nat.mul_comm]
theorem lt_pow {n k : Nat} (h : n < 10 ^ (k + 1)) : n / 10 < 10 ^ k := by
  rw [Nat.pow_succ] at h
  exact Nat.div_lt_of_lt_mul (by rw [Nat.mul_comm]; exact h)
theorem num_split : ∀ k n, 10 ^ k ≤ n → numL n = numL (n / 10 ^ k) ++ pad k n
  | 0, n, _ => by
    show numL n = numL (n / 1) ++ []
    rw [Nat.div_one, List.append_nil]
  | k + 1, n, h => by
    have h1 : 10 ^ k * 10 ≤ n := by
      rw [← Nat.pow_succ]
      exact h
    have h0 : 0 < 10 ^ k := Nat.pow_pos (by decide)
    have h2 : 10 ^ k ≤ n / 10 := (Nat.le_div_iff_mul_le (by decide)).mpr h1
    rw [numL_step (by omega), num_split k (n / 10) h2, pow_div, List.append_assoc]
    rfl
theorem pad_zero : ∀ k, pad k 0 = List.replicate k 48
  | 0 => rfl
  | k + 1 => by
    show pad k 0 ++ [48] = _
    rw [pad_zero k, List.replicate_succ']
theorem num_len : ∀ k n, n < 10 ^ (k + 1) → (numL n).length ≤ k + 1
  | 0, n, h => by
    rw [numL_lt (by omega)]
    exact Nat.le_refl _
  | k + 1, n, h => by
    by_cases h1 : n < 10
    · rw [numL_lt h1]
      show 1 ≤ k + 1 + 1
      omega
    · rw [numL_step (by omega), List.length_append]
      have := num_len k (n / 10) (lt_pow h)
      show (numL (n / 10)).length + 1 ≤ k + 1 + 1
      omega
theorem num_pad : ∀ k n, n < 10 ^ (k + 1) → List.replicate (k + 1 - (numL n).length) 48 ++ numL n = pad (k + 1) n
  | 0, n, h => by
    have h1 : n < 10 := by omega
    rw [numL_lt h1]
    show [] ++ [48 + n] = [] ++ [48 + n % 10]
    rw [Nat.mod_eq_of_lt h1]
  | k + 1, n, h => by
    by_cases h1 : n < 10
    · rw [numL_lt h1]
      show List.replicate (k + 1) 48 ++ [48 + n] = pad (k + 1) (n / 10) ++ [48 + n % 10]
      rw [Nat.mod_eq_of_lt h1, Nat.div_eq_of_lt h1, pad_zero]
    · have ih := num_pad k (n / 10) (lt_pow h)
      rw [numL_step (by omega), List.length_append]
      show List.replicate (k + 1 + 1 - ((numL (n / 10)).length + 1)) 48 ++ (numL (n / 10) ++ [48 + n % 10]) = pad (k + 1) (n / 10) ++ [48 + n % 10]
      rw [← ih, ← List.append_assoc, show k + 1 + 1 - ((numL (n / 10)).length + 1) = k + 1 - (numL (n / 10)).length by omega]
theorem pad_cons : ∀ k n, n < 10 ^ k → pad (k + 1) n = 48 :: pad k n
  | 0, n, h => by
    have h1 : n = 0 := by
      have : (10 : Nat) ^ 0 = 1 := rfl
      omega
    subst h1
    rfl
  | k + 1, n, h => by
    show pad (k + 1) (n / 10) ++ [48 + n % 10] = 48 :: (pad k (n / 10) ++ [48 + n % 10])
    rw [pad_cons k (n / 10) (lt_pow h)]
    rfl
theorem pad_front : ∀ k n, pad (k + 1) n = (48 + n / 10 ^ k % 10) :: pad k n
  | 0, n => by
    show [] ++ [48 + n % 10] = [48 + n / 1 % 10]
    rw [Nat.div_one]
    rfl
  | k + 1, n => by
    show pad (k + 1) (n / 10) ++ [48 + n % 10] = _ :: (pad k (n / 10) ++ [48 + n % 10])
    rw [pad_front k (n / 10), pow_div]
    rfl
theorem pad_mod : ∀ k n, pad k (n % 10 ^ k) = pad k n
  | 0, _ => rfl
  | k + 1, n => by
    have e : n % 10 ^ (k + 1) = n % 10 + 10 * (n / 10 % 10 ^ k) := by
      rw [Nat.pow_succ, Nat.mul_comm, Nat.mod_mul]
    show pad k (n % 10 ^ (k + 1) / 10) ++ [48 + n % 10 ^ (k + 1) % 10] = pad k (n / 10) ++ [48 + n % 10]
    rw [e, show (n % 10 + 10 * (n / 10 % 10 ^ k)) / 10 = n / 10 % 10 ^ k by omega, show (n % 10 + 10 * (n / 10 % 10 ^ k)) % 10 = n % 10 by omega, pad_mod k]
theorem num_head (n : Nat) : ∃ c r, numL n = c :: r ∧ 48 ≤ c ∧ c ≤ 57 := by
  cases h : numL n with
  | nil => exact absurd h (numL_ne n)
  | cons c r =>
    have h2 := numL_digits n c (by rw [h]; exact List.mem_cons_self ..)
    exact ⟨c, r, rfl, h2⟩
theorem zfill_long {n m : Nat} (h : m ≤ (numL n).length) : Txt.zfill (S (numL n)) (m : Int) = S (numL n) := by
  unfold Txt.zfill
  rw [S_len, if_pos (by omega)]
theorem zfill_short {n m : Nat} (h : (numL n).length < m) : Txt.zfill (S (numL n)) (m : Int) = S (List.replicate (m - (numL n).length) 48 ++ numL n) := by
  unfold Txt.zfill
  rw [S_len, if_neg (by omega), Int.toNat_natCast]
  obtain ⟨c, r, hc, h1, h2⟩ := num_head n
  refine TL.ext_tl ?_
  have e : (S (numL n)).cps[0]? = some c := by
    show (numL n).toArray[0]? = some c
    rw [hc]
    rfl
  have e2 : zfilled (S (numL n)) (m - (numL n).length) = padded (S (numL n)) (m - (numL n).length) 0 48 := by
    unfold zfilled
    rw [e]
    split
    · rename_i z
      cases Option.some.inj z
      omega
    · rename_i z
      cases Option.some.inj z
      omega
    · rfl
  rw [e2]
  show (padded (S (numL n)) (m - (numL n).length) 0 48).cps.toList = _
  rw [PyProof.Rows.padded_list]
  simp
/-- a number with fewer than m digits, filled -/
theorem zfill_num {n m : Nat} (hm : 1 ≤ m) (h : n < 10 ^ m) : Txt.zfill (S (numL n)) (m : Int) = S (pad m n) := by
  obtain ⟨k, rfl⟩ : ∃ k, m = k + 1 := ⟨m - 1, by omega⟩
  rw [← num_pad k n h]
  by_cases hl : k + 1 ≤ (numL n).length
  · rw [zfill_long hl, show k + 1 - (numL n).length = 0 by omega]
    rfl
  · exact zfill_short (by omega)
/-- .. to one digit more than its places -/
theorem zfill_places (n p : Nat) : Txt.zfill (S (numL n)) ((p + 1 : Nat) : Int) = S (numL (n / 10 ^ p) ++ pad p n) := by
  by_cases h : 10 ^ p ≤ n
  · have e := num_split p n h
    have h1 : p + 1 ≤ (numL n).length := by
      rw [e, List.length_append, pad_len]
      have := List.length_pos_iff.mpr (numL_ne (n / 10 ^ p))
      omega
    rw [zfill_long h1, ← e]
  · have h0 : n < 10 ^ p := by omega
    have h1 : n < 10 ^ (p + 1) := by
      rw [Nat.pow_succ]
      omega
    rw [zfill_num (by omega) h1, pad_cons p n h0, Nat.div_eq_of_lt h0, numL_lt (by decide)]
    rfl
theorem joinL_nil : ∀ ps : List (List Nat), joinL [] ps = ps.flatten
  | [] => rfl
  | [p] => by
    show p = p ++ []
    rw [List.append_nil]
  | p :: q :: r => by
    show p ++ ([] ++ joinL [] (q :: r)) = p ++ (q :: r).flatten
    rw [joinL_nil (q :: r)]
    rfl
theorem join_nil (ps : List (List Nat)) : Txt.join (S []) (ps.map S) = S ps.flatten := by rw [join_S, joinL_nil]
theorem slice_to_neg {a b : List Nat} (h : 0 < b.length) : Txt.slice (S (a ++ b)) none (some (-(b.length : Int))) = S a := by
  have e := beq_iff_eq.mp (PyProof.Rows.slice_closes_to_neg (x := S (a ++ b)) (j := -(b.length : Int)) (k := (a.length : Int)) (by omega) (by rw [S_len, List.length_append]; omega) (by rw [S_len, List.length_append]; omega))
  refine e.trans (TL.ext_tl ?_)
  show ((a ++ b).drop (0 : Int).toNat).take ((a.length : Int) - 0).toNat = a
  rw [show (0 : Int).toNat = 0 from rfl, List.drop_zero, show ((a.length : Int) - 0).toNat = a.length by omega, List.take_left]
theorem slice_from_neg {a b : List Nat} (h : 0 < b.length) : Txt.slice (S (a ++ b)) (some (-(b.length : Int))) none = S b := by
  have e := beq_iff_eq.mp (PyProof.Rows.slice_closes_from_neg (x := S (a ++ b)) (i := -(b.length : Int)) (a := (a.length : Int)) (b := ((a ++ b).length : Int)) (by omega) (by rw [S_len, List.length_append]; omega) (by rw [S_len, List.length_append]; omega) (by rw [S_len]))
  refine e.trans (TL.ext_tl ?_)
  show ((a ++ b).drop (a.length : Int).toNat).take (((a ++ b).length : Int) - (a.length : Int)).toNat = b
  rw [Int.toNat_natCast, List.drop_left, List.take_of_length_le (by rw [List.length_append]; omega)]
end Dg

/-! Own data: whole numbers as texts, there and back. -/
namespace Tx
open PySem PySem.Builtin PySem.Builtin.Str SX TL Dg
/-- a whole number's signs -/
def intL (i : Int) : List Nat := if i < 0 then 45 :: numL i.natAbs else numL i.natAbs
theorem intL_neg (n : Nat) : intL (-((n + 1 : Nat) : Int)) = 45 :: numL (n + 1) := by
  unfold intL
  rw [if_pos (by omega), Int.natAbs_neg, Int.natAbs_natCast]
theorem intL_nat (n : Nat) : intL (n : Int) = numL n := by
  unfold intL
  rw [if_neg (by omega), Int.natAbs_natCast]
theorem str_cons (s : String) : Str.ofString ("-" ++ s) = S (45 :: (Str.ofString s).cps.toList) := by
  refine TL.ext_tl ?_
  show (Str.ofString ("-" ++ s)).cps.toList = _
  simp [Str.ofString_eq_toList]
theorem int_text (i : Int) : Str.ofString (toString i) = S (intL i) := by
  cases i with
  | ofNat n =>
    rw [show (Int.ofNat n) = (n : Int) from rfl, intL_nat]
    exact num_S n
  | negSucc n =>
    have h := num_S (n + 1)
    rw [show (Int.negSucc n) = -((n + 1 : Nat) : Int) from rfl, intL_neg]
    show Str.ofString ("-" ++ Nat.repr (n + 1)) = _
    rw [str_cons]
    have e : (Str.ofString (Nat.repr (n + 1))).cps.toList = numL (n + 1) := congrArg (fun x : Str => x.cps.toList) h
    rw [e]
theorem num_all (n : Nat) : ∀ c ∈ numL n, 48 ≤ c ∧ c ≤ 57 := numL_digits n
theorem ascii_num (n : Nat) : Txt.isascii (S (numL n)) = true := by
  show (numL n).toArray.all (· < 128) = true
  rw [← Array.all_toList]
  exact List.all_eq_true.mpr fun c hc => decide_eq_true (by have := num_all n c hc; omega)
theorem digit_num (n : Nat) : Txt.isdigit (S (numL n)) = true := by
  show (decide ((S (numL n)).length > 0) && (numL n).toArray.all Unicode.isDigit) = true
  rw [S_len, decide_eq_true (List.length_pos_iff.mpr (numL_ne n)), Bool.true_and, ← Array.all_toList]
  refine List.all_eq_true.mpr fun c hc => ?_
  have h := num_all n c hc
  have : ∀ c, c < 58 → 48 ≤ c → Unicode.isDigit c = true := by decide +kernel
  exact this c (by omega) h.1
theorem starts1 (c : Nat) (a : List Nat) (d : Nat) : Txt.startswith (S (d :: a)) (S [c]) = decide (d = c) := by
  unfold Txt.startswith
  rw [S_len, S_len, decide_eq_true (by simp), Bool.true_and]
  simp [subAt, S_len]
  exact Bool.eq_iff_iff.mpr (by simp)
theorem head_ge (n : Nat) (h : 0 < n) : ∃ d q, numL n = (49 + d) :: q := by
  induction n using Nat.strongRecOn with
  | ind n ih =>
    by_cases h10 : n < 10
    · exact ⟨n - 1, [], by rw [numL_lt h10]; exact congrArg (fun z => [z]) (by omega)⟩
    · obtain ⟨d, q, e⟩ := ih (n / 10) (by omega) (by omega)
      exact ⟨d, q ++ [48 + n % 10], by rw [numL_step (by omega), e]; rfl⟩
theorem head0 {n : Nat} {r : List Nat} {c : Nat} (h : numL n = c :: r) (h0 : c = 48) : n = 0 := by
  by_cases hn : 0 < n
  · obtain ⟨d, q, e⟩ := head_ge n hn
    rw [e] at h
    have := (List.cons.inj h).1
    omega
  · omega
/-- read back -/
theorem int_back {i : Int} (h : (intL i).length ≤ 4300) : intText? (S (intL i)) = some i := by
  by_cases hi : i < 0
  · have e : intL i = 45 :: numL i.natAbs := by
      unfold intL
      rw [if_pos hi]
    rw [e] at h ⊢
    have h2 := PySem.intText_neg (x := S (45 :: numL i.natAbs)) (cs := numL i.natAbs) rfl (numL_digits _) (numL_ne _) (by rw [S_len]; exact h)
    rw [h2]
    have h3 : NumText.digitsVal (numL i.natAbs) = i.natAbs := PySem.W.KIN.val_back i.natAbs
    rw [h3]
    exact congrArg some (by omega)
  · obtain ⟨n, rfl⟩ := Int.eq_ofNat_of_zero_le (show 0 ≤ i by omega)
    rw [intL_nat] at h ⊢
    rw [← num_S]
    exact int_num h
end Tx

/-! Own data: what a text of an angle says. -/
namespace Ra
open PySem PySem.Builtin PySem.Builtin.Str SX TL Dg Tx
/-- the sign of a text, and what stands behind it -/
def neg : List Nat → Bool
  | [] => false
  | c :: _ => decide (c = 45)
def body : List Nat → List Nat
  | [] => []
  | c :: r => if c = 45 then r else c :: r
theorem body_len (a : List Nat) : (body a).length ≤ a.length := by
  cases a with
  | nil => exact Nat.le_refl _
  | cons c r =>
    show (if c = 45 then r else c :: r).length ≤ _
    split
    · rw [List.length_cons]
      omega
    · exact Nat.le_refl _
def dig (c : Nat) : Bool := decide (48 ≤ c) && decide (c ≤ 57)
def hasD (a : List Nat) (m : Nat) : Bool := (decide (1 ≤ a.length) && decide (a.length ≤ m)) && a.all dig
/-- whole degrees: no needless zero -/
def whole (p : List Nat) : Bool := hasD p 4 && !(neg0 p && !decide (p = [48]))
where neg0 : List Nat → Bool
  | [] => false
  | c :: _ => decide (c = 48)
def val (p : List Nat) : Int := ((NumText.digitsVal p : Nat) : Int)
def fill (q : List Nat) : List Nat := q ++ List.replicate (7 - q.length) 48
/-- what the parts say -/
def says (p : List Nat) (o : Option (List Nat)) : Option Int :=
  if whole p = true then match o with
    | none => some (val p * 10000000)
    | some q => if hasD q 7 = true then some (val p * 10000000 + val (fill q)) else none
  else none
def parts (a : List Nat) : List Nat × Option (List Nat) := match par [46] [] a with
  | none => (a, none)
  | some (p, q) => (p, some q)
def sg (b : Bool) (v : Int) : Int := if b = true then -v else v
/-- what a text says -/
def rdA (a : List Nat) : Option Int := (says (parts (body a)).1 (parts (body a)).2).map (sg (neg a))
theorem first_dot (s : Nat) : ∀ a : List Nat, s ∉ a ∨ ∃ p q, a = p ++ ([s] ++ q) ∧ s ∉ p
  | [] => .inl (by simp)
  | c :: r => by
    by_cases h : c = s
    · exact .inr ⟨[], r, by rw [h]; rfl, by simp⟩
    · rcases first_dot s r with h2 | ⟨p, q, e, hp⟩
      · exact .inl fun hm => by
          rcases List.mem_cons.mp hm with z | z
          · exact h z.symm
          · exact h2 z
      · refine .inr ⟨c :: p, q, by rw [e]; rfl, fun hm => ?_⟩
        rcases List.mem_cons.mp hm with z | z
        · exact h z.symm
        · exact hp z
theorem parts_none {a : List Nat} (h : 46 ∉ a) : parts a = (a, none) := by
  unfold parts
  rw [par_head_none h]
theorem parts_some {p q : List Nat} (h : 46 ∉ p) : parts (p ++ ([46] ++ q)) = (p, some q) := by
  unfold parts
  rw [show p ++ ([46] ++ q) = p ++ ([46] ++ q) from rfl, SX.par_head q h]
theorem part_none {a : List Nat} (h : 46 ∉ a) : Txt.partition (S a) (S [46]) = (S a, S [], S []) := partition_none (by simp) (par_head_none h)
theorem part_some {p q : List Nat} (h : 46 ∉ p) : Txt.partition (S (p ++ ([46] ++ q))) (S [46]) = (S p, S [46], S q) := partition_some (by simp) (SX.par_head q h)
theorem dot_split {a : List Nat} (h : 46 ∉ a) : spl [46] 0 [] a = [a] := by
  have e := TL.spl_last1 (s := 46) (S := []) (p := a) (acc := []) h
  simpa using e
theorem dot_split2 {p q : List Nat} (h : 46 ∉ p) : spl [46] 0 [] (p ++ ([46] ++ q)) = p :: spl [46] 0 [] q := by
  have e := TL.spl_part1 (s := 46) (S := []) (p := p) (rest := q) (acc := []) h
  simpa using e
theorem spl_one (s : Nat) : ∀ (a acc : List Nat), ∃ x r, spl [s] 0 acc a = x :: r
  | [], acc => ⟨acc, [], spl_nil _ _ _⟩
  | c :: r, acc => by
    by_cases h : pre [s] (c :: r) = true
    · exact ⟨acc, _, spl_hit h⟩
    · have h' : pre [s] (c :: r) = false := by simpa using h
      rw [spl_miss h']
      exact spl_one s r _
theorem neg_is (a : List Nat) : Txt.startswith (S a) (S [45]) = neg a := by
  cases a with
  | nil => decide +kernel
  | cons c r => exact starts1 45 r c
theorem zero_is (a : List Nat) : Txt.startswith (S a) (S [48]) = whole.neg0 a := by
  cases a with
  | nil => decide +kernel
  | cons c r => exact starts1 48 r c
theorem isdigit_ascii : ∀ c, c < 128 → Unicode.isDigit c = dig c := by decide +kernel
theorem dig_both (c : Nat) : (decide (c < 128) && Unicode.isDigit c) = dig c := by
  by_cases hc : c < 128
  · rw [decide_eq_true hc, Bool.true_and, isdigit_ascii c hc]
  · rw [decide_eq_false hc, Bool.false_and]
    unfold dig
    rw [decide_eq_false (show ¬ c ≤ 57 by omega), Bool.and_false]
theorem all_both : ∀ a : List Nat, (a.all (fun c => decide (c < 128)) && a.all Unicode.isDigit) = a.all dig
  | [] => rfl
  | c :: r => by
    rw [List.all_cons, List.all_cons, List.all_cons, ← dig_both c, ← all_both r]
    cases decide (c < 128) <;> cases Unicode.isDigit c <;> simp
theorem digits_is (a : List Nat) (h : a ≠ []) : (Txt.isascii (S a) && Txt.isdigit (S a)) = a.all dig := by
  have e1 : Txt.isascii (S a) = a.all (fun c => decide (c < 128)) := by
    show a.toArray.all (· < 128) = _
    rw [← Array.all_toList]
  have e2 : Txt.isdigit (S a) = a.all Unicode.isDigit := by
    show (decide ((S a).length > 0) && a.toArray.all Unicode.isDigit) = _
    rw [S_len, decide_eq_true (List.length_pos_iff.mpr h), Bool.true_and, ← Array.all_toList]
  rw [e1, e2, all_both]
theorem int_dig {a : List Nat} (h : a.all dig = true) (hne : a ≠ []) (hl : a.length ≤ 4300) : intText? (S a) = some (val a) := int_S h hne hl
theorem fill_dig {q : List Nat} (h : q.all dig = true) : (fill q).all dig = true := by
  unfold fill
  rw [List.all_append, h, Bool.true_and]
  exact List.all_eq_true.mpr fun c hc => by
    rw [(List.mem_replicate.mp hc).2]
    rfl
theorem fill_ne {q : List Nat} (h : q.length ≤ 7) : fill q ≠ [] ∧ (fill q).length = 7 := by
  have e : (fill q).length = 7 := by
    unfold fill
    rw [List.length_append, List.length_replicate]
    omega
  exact ⟨fun z => by rw [z] at e; exact absurd e (by decide), e⟩
theorem hasD_of {a : List Nat} {m : Nat} (h : hasD a m = true) : a ≠ [] ∧ a.length ≤ m ∧ a.all dig = true := by
  unfold hasD at h
  rw [Bool.and_eq_true, Bool.and_eq_true] at h
  exact ⟨fun z => by rw [z] at h; exact absurd (of_decide_eq_true h.1.1) (by decide), of_decide_eq_true h.1.2, h.2⟩
theorem hasD_is {a : List Nat} {m : Nat} (h : a ≠ []) : ((decide ((1 : Int) ≤ (a.length : Int)) && decide ((a.length : Int) ≤ (m : Int))) && (Txt.isascii (S a) && Txt.isdigit (S a))) = hasD a m := by
  rw [digits_is a h]
  unfold hasD
  congr 1
  congr 1 <;> exact decide_eq_decide.mpr (by omega)
theorem ljust_is {q : List Nat} : PySem.Txt.ljustF (S q) 7 48 = S (fill q) := by
  refine TL.ext_tl ?_
  show (Txt.ljustF (S q) 7 48).cps.toList = _
  rw [PyProof.Rows.ljustF_list, S_len]
  rfl
theorem tw_len (p : Nat → Bool) (l : List Nat) : l.length - (l.takeWhile p).length = (l.dropWhile p).length := by
  have := congrArg List.length (List.takeWhile_append_dropWhile (p := p) (l := l))
  rw [List.length_append] at this
  omega
def strip0 (a : List Nat) : List Nat := (a.reverse.dropWhile (· == 48)).reverse
theorem strip_take (a : List Nat) : a.take (a.length - (a.reverse.takeWhile (· == 48)).length) = strip0 a := by
  have h := List.takeWhile_append_dropWhile (p := (· == 48)) (l := a.reverse)
  have h2 : a = (a.reverse.dropWhile (· == 48)).reverse ++ (a.reverse.takeWhile (· == 48)).reverse := by
    rw [← List.reverse_append, h, List.reverse_reverse]
  have h3 : a.length - (a.reverse.takeWhile (· == 48)).length = (a.reverse.dropWhile (· == 48)).reverse.length := by
    rw [← List.length_reverse (as := a), tw_len, List.length_reverse]
  rw [h3]
  unfold strip0
  conv => lhs; rw [h2]
  rw [show (List.dropWhile (fun x => x == 48) ((List.dropWhile (fun x => x == 48) a.reverse).reverse ++ (List.takeWhile (fun x => x == 48) a.reverse).reverse).reverse).reverse.length = (List.dropWhile (fun x => x == 48) a.reverse).reverse.length by rw [← h2]]
  exact List.take_left
theorem strip_is (a : List Nat) : PySem.Txt.rstripChars (S a) (S [48]) = S (strip0 a) := by
  show PySem.Txt.stripBy _ _ _ _ = _
  rw [PyProof.Rows.stripBy_eq]
  rw [PyProof.Rows.strSub_mk, ← strip_take]
  have hc : (S [48]).cps.contains = fun c => c == 48 := by
    funext c
    show ([48] : List Nat).toArray.contains c = (c == 48)
    rw [List.contains_toArray, List.contains_cons, List.contains_nil, Bool.or_false]
  refine TL.ext_tl ?_
  show (a.drop 0).take ((S a).length - ((a.drop 0).reverse.takeWhile (S [48]).cps.contains).length - 0) = _
  rw [hc, S_len, List.drop_zero, Nat.sub_zero]
theorem strip_sub (a : List Nat) : (strip0 a).length ≤ a.length ∧ ∀ c ∈ strip0 a, c ∈ a := by
  rw [← strip_take]
  exact ⟨by rw [List.length_take]; omega, fun c hc => List.mem_of_mem_take hc⟩
/-- the text of an angle -/
def tailL (r : Nat) : List Nat := if r = 0 then [] else [46] ++ strip0 (pad 7 r)
theorem tail_len (r : Nat) : (tailL r).length ≤ 8 := by
  unfold tailL
  split
  · simp
  · have := (strip_sub (pad 7 r)).1
    rw [pad_len] at this
    rw [List.length_append, List.length_singleton]
    omega
theorem pad_code : ∀ k n, ∀ c ∈ pad k n, 48 ≤ c ∧ c ≤ 57
  | 0, _, c, hc => absurd hc (by simp [pad])
  | k + 1, n, c, hc => by
    rcases List.mem_append.mp hc with h | h
    · exact pad_code k _ c h
    · rw [List.mem_singleton] at h
      omega
theorem tail_code (r : Nat) : ∀ c ∈ tailL r, c < 128 := by
  intro c hc
  unfold tailL at hc
  split at hc
  · exact absurd hc (by simp)
  · rcases List.mem_append.mp hc with h | h
    · rw [List.mem_singleton] at h
      omega
    · have := pad_code 7 r c ((strip_sub _).2 c h)
      omega
section
open PySem.Spec PyProof.Rows L2
theorem mt_ljustF {X : Cx} : MtR X "str.ljust" (fun x xs H Q => ∃ (a f : Str) (i : Int), x = .str a ∧ xs = [.int i, .str f] ∧ PadOk i = true ∧ f.length = 1 ∧ Q (.str (Txt.ljustF a i (f.cps.getD 0 0))) H) := by
  intro pins s σ H x xs v us Q I rx rs h
  obtain ⟨a, f, i, rfl, rfl, hp, hf, h⟩ := h
  obtain ⟨t, rfl⟩ := rx
  cases rs with
  | cons r1 rs =>
    cases rs with
    | cons r2 rs =>
      cases rs
      obtain ⟨u, rfl⟩ := r1
      obtain ⟨v, rfl⟩ := r2
      exact ljust_fill hp hf fun t' k => ⟨.str (Txt.ljustF a i (f.cps.getD 0 0)), H, I.tok k, ⟨t', rfl⟩, h⟩
end
end Ra


namespace K43
open PySem PySem.Spec PyProof.Rows L2 Evl Cm Jr Dg Ra
open SX (S S_cat S_len num_S)
open TL (numL numL_lt)
def topS (i : Nat) : Stmt := PySem.Challenge.pw_portolan_k43_faulty_texts_of_angles.main.body.getD i (.Pass ⟨0, 0, 0, 0⟩)
abbrev s_digits_of : Stmt := topS 6
theorem sc_digits_of : FnScope ["n", "pieces", "rest"] ["n"] (defScope s_digits_of) := ⟨rfl, rfl, rfl, by decide +kernel, rfl, by decide +kernel, by decide +kernel⟩
abbrev s_is_point : Stmt := topS 11
theorem sc_is_point : FnScope ["value", "lat", "lon"] ["value"] (defScope s_is_point) := ⟨rfl, rfl, rfl, by decide +kernel, rfl, by decide +kernel, by decide +kernel⟩
abbrev s_is_latitude : Stmt := topS 12
theorem sc_is_latitude : FnScope ["angle"] ["angle"] (defScope s_is_latitude) := ⟨rfl, rfl, rfl, by decide +kernel, rfl, by decide +kernel, by decide +kernel⟩
abbrev s_is_longitude : Stmt := topS 13
theorem sc_is_longitude : FnScope ["angle"] ["angle"] (defScope s_is_longitude) := ⟨rfl, rfl, rfl, by decide +kernel, rfl, by decide +kernel, by decide +kernel⟩
abbrev s_angle_text : Stmt := topS 17
theorem sc_angle_text : FnScope ["angle", "whole", "rest", "text", "places"] ["angle"] (defScope s_angle_text) := ⟨rfl, rfl, rfl, by decide +kernel, rfl, by decide +kernel, by decide +kernel⟩
abbrev s_read_angle : Stmt := topS 18
theorem sc_read_angle : FnScope ["text", "digits", "whole", "point", "places", "angle"] ["text"] (defScope s_read_angle) := ⟨rfl, rfl, rfl, by decide +kernel, rfl, by decide +kernel, by decide +kernel⟩
abbrev s_read_point : Stmt := topS 19
theorem sc_read_point : FnScope ["text", "words", "point"] ["text"] (defScope s_read_point) := ⟨rfl, rfl, rfl, by decide +kernel, rfl, by decide +kernel, by decide +kernel⟩
abbrev s_sign_text : Stmt := topS 20
theorem sc_sign_text : FnScope ["n"] ["n"] (defScope s_sign_text) := ⟨rfl, rfl, rfl, by decide +kernel, rfl, by decide +kernel, by decide +kernel⟩
abbrev s_has_digits : Stmt := topS 21
theorem sc_has_digits : FnScope ["text", "most"] ["text", "most"] (defScope s_has_digits) := ⟨rfl, rfl, rfl, by decide +kernel, rfl, by decide +kernel, by decide +kernel⟩
abbrev s_law_is_integer : Stmt := topS 23
theorem sc_law_is_integer : FnScope ["actual"] ["actual"] (defScope s_law_is_integer) := ⟨rfl, rfl, rfl, by decide +kernel, rfl, by decide +kernel, by decide +kernel⟩
abbrev s_law_cell : Stmt := topS 24
theorem sc_law_cell : FnScope ["script", "k"] ["script", "k"] (defScope s_law_cell) := ⟨rfl, rfl, rfl, by decide +kernel, rfl, by decide +kernel, by decide +kernel⟩
abbrev s_law_rich : Stmt := topS 25
theorem sc_law_rich : FnScope ["cell", "mixed"] ["cell"] (defScope s_law_rich) := ⟨rfl, rfl, rfl, by decide +kernel, rfl, by decide +kernel, by decide +kernel⟩
abbrev s_law_digits : Stmt := topS 26
theorem sc_law_digits : FnScope ["text", "most", "char"] ["text", "most"] (defScope s_law_digits) := ⟨rfl, rfl, rfl, by decide +kernel, rfl, by decide +kernel, by decide +kernel⟩
abbrev s_law_value : Stmt := topS 27
theorem sc_law_value : FnScope ["text", "size", "parts", "value"] ["text"] (defScope s_law_value) := ⟨rfl, rfl, rfl, by decide +kernel, rfl, by decide +kernel, by decide +kernel⟩
abbrev s_law_near : Stmt := topS 28
theorem sc_law_near : FnScope ["number", "chars", "text", "k", "place", "char", "way"] ["number"] (defScope s_law_near) := ⟨rfl, rfl, rfl, by decide +kernel, rfl, by decide +kernel, by decide +kernel⟩
abbrev s_law : Stmt := topS 29
theorem sc_law : FnScope ["script", "first", "second", "values", "text", "due", "e", "between", "words", "pair"] ["script"] (defScope s_law) := ⟨rfl, rfl, rfl, by decide +kernel, rfl, by decide +kernel, by decide +kernel⟩
section
variable {P : Program} {w : World} {K : PySem.W.Frag} {mg : Str → Option Value} {base : Heap}
/-! ### errors -/
/-- what the top says of an error class CU below CP -/
structure Errs (K : PySem.W.Frag) (mg : Str → Option Value) (nU : Str) (CU CP : Addr) : Prop where
  gU : mg nU = some (.ref CU)
  gP : mg "PortolanError" = some (.ref CP)
  xU : PySem.W.excIn K CU [.type "ValueError", .type "Exception", .type "BaseException", .type "object"] "ValueError.__new__" = true
  kU : PySem.W.keepIn K (.ref CU) = true
  bU : PySem.W.subIn K (.ref CU) (.type "BaseException") = some true
  tU : PySem.W.typeIn K (.ref CU) = some (.type "type")
  bP : PySem.W.subIn K (.ref CP) (.type "BaseException") = some true
  tP : PySem.W.typeIn K (.ref CP) = some (.type "type")
  iP : PySem.W.isClsIn K CP = true
  sUP : PySem.W.subIn K (.ref CU) (.ref CP) = some true
  ec : ExcC K CU
theorem Errs.caught {nU : Str} {CU CP : Addr} (T : Errs K mg nU CU CP) : PySem.W.exmOne K (.ref CU) (.ref CP) = some true := by
  have e1 : (PySem.W.subIn K (.ref CP) (.type "BaseException") == some true) = true := by rw [T.bP] <;> rfl
  have e2 : ((PySem.W.clsIn K CP).isSome && PySem.W.typeIn K (.ref CP) == some (.type "type")) = true := by
    have h2' : (PySem.W.clsIn K CP).isSome = true := T.iP
    rw [h2', T.tP] <;> rfl
  show (if (PySem.W.subIn K (.ref CP) (.type "BaseException") == some true) = true then (if ((PySem.W.clsIn K CP).isSome && PySem.W.typeIn K (.ref CP) == some (.type "type")) = true then PySem.W.subIn K (.ref CU) (.ref CP) else none) else none) = some true
  rw [if_pos e1, if_pos e2]
  exact T.sUP
/-- a statement whose reading says one thing more -/
theorem pss_if {X : Cx} {φ : Prop} {ss : List Stmt} {t : TS} (h : φ → PSs X ss t) : PSs X ss (fun D σ H => φ ∧ t D σ H) := ⟨fun pins s σ H D I q => (h q.1).run pins s σ H D I q.2⟩
theorem kit_self {CU : Addr} : PySem.W.kitOne K (.ref CU) (.ref CU) = some true := by
  unfold PySem.W.kitOne
  rw [if_pos (beq_self_eq_true _)]
theorem ev_isE {CU a : Addr} {σ : L2.St} {H : Hp} {i : Nat} (h : σ[i]? = some (some (.ref a))) : Ev (tCB (rIsE K CU a) (tCons (tVar i) (tCons (tC (.ref CU)) tNil))) σ H (.bl true) :=
  ev_cb (ea_cons (ev_var h) (ea_cons ev_c ea_nil)) fun H1 e1 Q q => ⟨.ref CU, .ref CU, true, rfl, fun u hu => hu, kit_self, q H1 (Ex.refl _)⟩
theorem q_asgP {σ : L2.St} {H : Hp} {te : TE} {D : Ends} {tz : TS} {i : Nat} (P : V → Hp → Prop) (h : ∀ Q : VK, (∀ v H1, Ex H H1 → P v H1 → Q v H1) → te σ H Q) (k : ∀ v H1, Ex H H1 → P v H1 → tz D (σ.set i (some v)) H1) : tSeq (tAsg te (gName i)) tz D σ H := h _ k
theorem ev_opUV {σ : L2.St} {H : Hp} {ta tb : TE} {r : R2} {xs : List V} {y z : V} (ha : EvU ta σ H xs) (hb : Ev tb σ H y) (hr : ∀ p H1, H1 p = some (.tup xs) → Ex H H1 → RV r (.ref p) y H1 z) : Ev (tOp r ta tb) σ H z := fun H1 e Q q =>
  ha H1 e _ fun p H2 np e2 hp => hb H2 (e.trans e2) _ fun H3 e3 => hr p H3 (e3 _ _ hp) ((e.trans e2).trans e3) H3 (Ex.refl H3) Q fun H4 e4 => q H4 ((e2.trans e3).trans e4)
/-! ### texts -/
/-- a bound that nothing looks into -/
def Sm (n : Nat) : Prop := n < 10 ^ 300
theorem sm_le {n m : Nat} (h : Sm n) (hm : m ≤ n) : Sm m := Nat.lt_of_le_of_lt hm h
theorem lg {n k : Nat} (h : n < 2 ^ k) (hk : 0 < k) : n.log2 < k := by
  by_cases h0 : n = 0
  · subst h0
    exact hk
  · exact (Nat.log2_lt h0).mpr h
theorem sm_lg {n : Nat} (h : Sm n) : n.log2 < 1920 := lg (Nat.lt_of_lt_of_le h (by decide +kernel)) (by decide)
theorem sm_len {n : Nat} (h : Sm n) : (numL n).length ≤ 300 := num_len 299 n h
section
variable {σ : L2.St} {H : Hp} {ta tb te to : TE} {x y z : V} {a b : List Nat}
theorem rc_str {n : Nat} (h : Sm n) : RC (fun xs H Q => ∃ i, xs = [.int i] ∧ i.natAbs.log2 < 1920 ∧ Q (.str (toString i)) H) [.int (n : Int)] H (.str (S (numL n))) := fun H1 _ Q q => ⟨(n : Int), rfl, sm_lg h, by
  have e := num_S n
  show Q (.str (Str.ofString (toString (n : Int)))) H1
  rw [e]
  exact q H1 (Ex.refl H1)⟩
theorem rv_cat (h : a.length + b.length ≤ 100000) : RV (fun x y H Q => ∃ i j, x = .str i ∧ y = .str j ∧ i.length + j.length ≤ sizeLine ∧ Q (.str (i ++ j)) H) (.str (S a)) (.str (S b)) H (.str (S (a ++ b))) := fun H1 _ Q q => ⟨S a, S b, rfl, rfl, by
  rw [S_len, S_len]
  exact sz_of h, by
  rw [S_cat]
  exact q H1 (Ex.refl H1)⟩
theorem ev_zfill {n : Int} {w1 : List Nat} (h : Ev to σ H (.str (S a))) (hn : Ev te σ H (.int n)) (hp : PadOk n = true) (e : Txt.zfill (S a) n = S w1) : Ev (tBM K "str" (fun x xs H Q => ∃ (a : Str) (i : Int), x = .str a ∧ xs = [.int i] ∧ PadOk i = true ∧ Q (.str (Txt.zfill a i)) H) to (tCons te tNil)) σ H (.str (S w1)) := fun H1 e1 Q q =>
  h H1 e1 _ fun H2 e2 => ⟨rfl, hn H2 (e1.trans e2) _ fun H3 e3 => ⟨S a, n, rfl, rfl, hp, by
    rw [e]
    exact q H3 (e2.trans e3)⟩⟩
theorem ev_sl {tl th : TO} {lo hi : Option Int} {w1 : List Nat} (h : Ev te σ H (.str (S a))) (h1 : EvO tl σ H lo) (h2 : EvO th σ H hi) (hz : a.length ≤ 100000) (e : Txt.slice (S a) lo hi = S w1) : Ev (tSl C8.rSlX te tl th) σ H (.str (S w1)) := fun H1 e1 Q q =>
  h H1 e1 _ fun H2 e2 => h1 H2 (e1.trans e2) _ fun H3 e3 => h2 H3 ((e1.trans e2).trans e3) _ fun H4 e4 => ⟨S a, rfl, by
    rw [S_len]
    exact sz_of hz, by
    rw [e]
    exact q H4 ((e2.trans e3).trans e4)⟩
/-- {x} of a text -/
theorem ev_fmt (h : Ev te σ H (.str (S a))) (hz : a.length ≤ 100000) : Ev (tFmt te) σ H (.str (S a)) := fun H1 e1 Q q => h H1 e1 _ fun H2 e2 => .inl ⟨S a, rfl, by
  rw [S_len]
  exact sz_of hz, q H2 e2⟩
theorem ev_m1 {g : Str → Str → Bool} {p q : Str} (h : Ev to σ H (.str p)) (h2 : Ev te σ H (.str q)) : Ev (tM1 (fun x xs H Q => ∃ a b, x = .str a ∧ xs = [.str b] ∧ Q (.bl (g a b)) H) to te) σ H (.bl (g p q)) := fun H1 e Q k =>
  h H1 e _ fun H2 e2 => ⟨⟨_, rfl⟩, h2 H2 (e.trans e2) _ fun H3 e3 => ⟨p, q, rfl, rfl, k H3 (e2.trans e3)⟩⟩
theorem ev_m0 {g : Str → Bool} {p : Str} (h : Ev to σ H (.str p)) : Ev (tM0 (fun x xs H Q => ∃ a, x = .str a ∧ xs = [] ∧ True ∧ Q (.bl (g a)) H) to) σ H (.bl (g p)) := fun H1 e Q k =>
  h H1 e _ fun H2 e2 => ⟨⟨_, rfl⟩, p, rfl, rfl, trivial, k H2 e2⟩
theorem rc_lenS {a : List Nat} (h : a.length ≤ 100000) : RC (fun xs H Q => ∃ x n, xs = [x] ∧ LenV K x H n ∧ Q (.int n) H) [.str (S a)] H (.int (a.length : Int)) := fun H2 _ Q2 q2 => ⟨_, (a.length : Nat), rfl, ⟨by rw [S_len]; exact sz_of h, (S_len _).symm⟩, q2 H2 (Ex.refl _)⟩
inductive Js (σ : L2.St) (H : Hp) : List TE → List (List Nat) → Prop
  | nil : Js σ H [] []
  | cons {t : TE} {ts : List TE} {a : List Nat} {as : List (List Nat)} : Ev t σ H (.str (S a)) → Js σ H ts as → Js σ H (t :: ts) (a :: as)
theorem js_run : ∀ {ts : List TE} {as : List (List Nat)}, Js σ H ts as → ∀ (acc : List Nat) (H1 : Hp) (Q : Str → Hp → Prop), Ex H H1 → acc.length + as.flatten.length ≤ 100000 → (∀ H2, Ex H1 H2 → Q (S (acc ++ as.flatten)) H2) → tJs ts (S acc) σ H1 Q
  | _, _, .nil, acc, H1, Q, e, hz, q => by
    have := q H1 (Ex.refl H1)
    rw [List.flatten_nil, List.append_nil] at this
    exact this
  | _, _, .cons (a := a) (as := as) h r, acc, H1, Q, e, hz, q => h H1 e _ fun H2 e2 => ⟨S a, rfl, by
    rw [S_cat, S_len]
    rw [List.flatten_cons, List.length_append] at hz
    exact sz_of (by rw [List.length_append]; omega), by
    rw [S_cat]
    refine js_run r (acc ++ a) H2 Q (e.trans e2) (by rw [List.length_append]; rw [List.flatten_cons, List.length_append] at hz; omega) fun H3 e3 => ?_
    have := q H3 (e2.trans e3)
    rw [List.flatten_cons, ← List.append_assoc] at this
    exact this⟩
theorem ev_js {ts : List TE} {as : List (List Nat)} (h : Js σ H ts as) (hz : as.flatten.length ≤ 100000) : Ev (fun σ H Q => tJs ts Str.empty σ H fun out H1 => Q (.str out) H1) σ H (.str (S as.flatten)) := fun H1 e Q q =>
  js_run h [] H1 _ e (by simpa using hz) fun H2 e2 => q H2 e2
end
/-! ### the law's cells -/
theorem ok_cell {f : Addr} {fd : FuncData} (F : Fun K "_law_cell" "_law_cell" s_law_cell f fd) (m_len : mg "len" = none) : FnOk P w K mg base CX0 1 f fd ["script", "k"] (spCell K) := by
  refine F.ok sc_law_cell (fun vs H Q E h => ?_) (fun cdv A outer s H vs Q E hr h => ?_)
  · obtain ⟨l, ns, j, rfl, _⟩ := h
    rfl
  · obtain ⟨l, ns, j, rfl, hs, q⟩ := h
    refine ⟨_, (pss_cons (ps_if (pt_cmpR op_lt (pv 1) (pe_callB call_len (by rfl) m_len (by decide +kernel) (pa_cons (pv 0) pa_nil)) (nomark _)) (pss_one (ps_ret (pe_ix ix_list (pv 0) (pv 1) (fun _ _ => rfl)))) pss_nil)
        (pss_one (ps_ret pe_int))), ?_⟩
    refine ⟨_, rfl, _, rfl, .ref l, ((ns.map V.int).length : Nat), rfl, .inl ⟨_, hs, rfl⟩, _, _, rfl, rfl, _, rfl, ite2 (fun e => ?_) (fun e => ?_)⟩
    · have hj : j < ns.length := by
        have := of_decide_eq_true e
        rw [List.length_map] at this
        omega
      exact ⟨_, rfl, _, rfl, l, _, _, _, rfl, rfl, hs, atI_cell hj, q⟩
    · have hj : ¬ j < ns.length := fun z => e (decide_eq_true (by rw [List.length_map]; omega))
      rw [cell_out hj] at q
      exact q
theorem cell_is {H : Hp} {sa : Addr} {ns : List Int} (hS : SqL K H sa (ns.map V.int)) (j : Nat) : SpV (spCell K) [.ref sa, .int (j : Nat)] H (.int (cellOf ns j)) := fun H1 e1 Q1 q1 E1 => ⟨sa, ns, j, rfl, ex_l e1 hS, q1 H1 (Ex.refl H1)⟩
/-- what _law_rich makes of a cell -/
def rich (c : Int) : Int := if (1000000000000000000 : Int) ≤ (c.natAbs : Int) then (c.natAbs : Int) else
  ((c.natAbs : Int) * 48271 + 7) % 2147483647 * 1000003 * 2147483629 + (((c.natAbs : Int) * 48271 + 7) % 2147483647 * 69621 + (c.natAbs : Int)) % 2147483629 * 1000003 + ((c.natAbs : Int) * 48271 + 7) % 2147483647 / 11
theorem rich_nat (c : Int) : ∃ n : Nat, rich c = (n : Int) := by
  unfold rich
  split
  · exact ⟨_, rfl⟩
  · exact ⟨(((c.natAbs : Int) * 48271 + 7) % 2147483647 * 1000003 * 2147483629 + (((c.natAbs : Int) * 48271 + 7) % 2147483647 * 69621 + (c.natAbs : Int)) % 2147483629 * 1000003 + ((c.natAbs : Int) * 48271 + 7) % 2147483647 / 11).toNat, by omega⟩
def spRich : Sp := fun vs H Q _ => ∃ c : Int, vs = [.int c] ∧ RetV (.int (rich c)) H Q
theorem mulc {x : Int} {c : Int} (h : x.natAbs < 2 ^ 100) (hc : c.natAbs < 2 ^ 100) : CMulX x c := mulx_ok (a := 100) (b := 100) h hc (by decide)
theorem ok_rich {f : Addr} {fd : FuncData} (F : Fun K "_law_rich" "_law_rich" s_law_rich f fd) (m_abs : mg "abs" = none) (m_int : mg "int" = none) : FnOk P w K mg base CX0 1 f fd ["cell"] spRich := by
  refine F.ok sc_law_rich (fun vs H Q E h => ?_) (fun cdv A outer s H vs Q E hr h => ?_)
  · obtain ⟨c, rfl, _⟩ := h
    rfl
  · obtain ⟨c, rfl, q⟩ := h
    refine ⟨_, (pss_cons (ps_set (i := 0) sc_law_rich.nd rfl (.inl rfl) (pe_callB call_abs (by rfl) m_abs (by decide +kernel) (pa_cons (pv 0) pa_nil)))
        (pss_cons (ps_if (pt_cmpR op_ge (pv 0) pe_int (nomark _)) (pss_one (ps_ret (pv 0))) pss_nil)
        (pss_cons (ps_set (i := 1) sc_law_rich.nd rfl (.inl rfl) (pe_op op_mod (pe_callTy call_int1 (by rfl) m_int (by decide +kernel) (pa_cons (pe_op op_add (pe_op op_mulX (pv 0) pe_int) pe_int) pa_nil)) pe_int))
        (pss_one (ps_ret (pe_op op_add (pe_op op_add (pe_op op_mulX (pe_op op_mulX (pv 1) pe_int) pe_int) (pe_op op_mulX (pe_op op_mod (pe_callTy call_int1 (by rfl) m_int (by decide +kernel) (pa_cons (pe_op op_add (pe_op op_mulX (pv 1) pe_int) (pv 0)) pa_nil)) pe_int) pe_int)) (pe_op op_fdiv (pv 1) pe_int))))))), ?_⟩
    refine q_asg (ev_cb (ea_cons (ev_var rfl) ea_nil) rc_abs) fun H1 e1 => ?_
    refine st_is (σ' := [_, _]) rfl ?_
    refine q_when (et_test (ev_op (ev_var rfl) ev_c rv_I0)) (fun hb H2 e2 => ?_) (fun hb H2 e2 => ?_)
    · refine s_ret (ev_var rfl) fun H3 e3 => ?_
      have h3 := q H3 (e1.trans (e2.trans e3))
      unfold rich at h3
      rw [if_pos (of_decide_eq_true hb)] at h3
      exact h3
    · have hlt := of_decide_eq_false hb
      unfold rich at q
      rw [if_neg hlt] at q
      generalize c.natAbs = n at *
      have b1 : (n : Int).natAbs < 2 ^ 100 := Nat.lt_of_lt_of_le (show (n : Int).natAbs < 1000000000000000000 by omega) (by decide +kernel)
      refine q_asg (ev_op (ev_cb (ea_cons (ev_op (ev_op (ev_var rfl) ev_c (rv_I (mulc b1 (by decide +kernel)))) ev_c rv_I0) ea_nil) rc_intI) ev_c (rv_I (by decide))) fun H3 e3 => ?_
      refine st_is (σ' := [_, _]) rfl ?_
      have hm : 0 ≤ ((n : Int) * 48271 + 7) % 2147483647 ∧ ((n : Int) * 48271 + 7) % 2147483647 < 2147483647 := ⟨by omega, by omega⟩
      generalize ((n : Int) * 48271 + 7) % 2147483647 = m at *
      have b2 : m.natAbs < 2 ^ 100 := Nat.lt_of_lt_of_le (show m.natAbs < 2147483647 by omega) (by decide +kernel)
      have b3 : (m * 1000003).natAbs < 2 ^ 100 := Nat.lt_of_lt_of_le (show (m * 1000003).natAbs < 2147483647 * 1000003 by omega) (by decide +kernel)
      have b4 : ((m * 69621 + (n : Int)) % 2147483629).natAbs < 2 ^ 100 := Nat.lt_of_lt_of_le (show ((m * 69621 + (n : Int)) % 2147483629).natAbs < 2147483629 by omega) (by decide +kernel)
      exact s_ret (ev_op (ev_op (ev_op (ev_op (ev_var rfl) ev_c (rv_I (mulc b2 (by decide +kernel)))) ev_c (rv_I (mulc b3 (by decide +kernel)))) (ev_op (ev_op (ev_cb (ea_cons (ev_op (ev_op (ev_var rfl) ev_c (rv_I (mulc b2 (by decide +kernel)))) (ev_var rfl) rv_I0) ea_nil) rc_intI) ev_c (rv_I (by decide))) ev_c (rv_I (mulc b4 (by decide +kernel)))) rv_I0) (ev_op (ev_var rfl) ev_c (rv_I ⟨by decide, by decide⟩)) rv_I0) fun H4 e4 => q H4 (e1.trans (e2.trans (e3.trans e4)))
theorem rich_is {H : Hp} {c : Int} {n : Nat} (h : rich c = (n : Int)) : SpV spRich [.int c] H (.int (n : Int)) := fun H1 e1 Q1 q1 E1 => ⟨c, rfl, by
  rw [h]
  exact q1⟩
/-! ### divmod -/
def rDM : List V → Hp → VK → Prop := fun xs H Q => ∃ i j, xs = [.int i, .int j] ∧ CDivP i j ∧ ∀ p, H p = none → Q (.ref p) (upd H p (.tup [.int (i / j), .int (i % j)]))
/-- a, b = divmod(i, j) -/
theorem q_dm {σ : L2.St} {H : Hp} {ta : TA} {i j : Int} {D : Ends} {tz : TS} {k1 k2 : Nat} (h : EvA ta σ H [.int i, .int j]) (hc : CDivP i j) (k : ∀ H1, Ex H H1 → tz D ((σ.set k1 (some (.int (i / j)))).set k2 (some (.int (i % j)))) H1) :
    tSeq (tAsg (tCB rDM ta) (gTup K 2 (gCons (gName k1) (gCons (gName k2) gNil)))) tz D σ H := h H (Ex.refl H) _ fun H1 e1 => ⟨i, j, rfl, hc, fun p hp =>
  ⟨p, [.int (i / j), .int (i % j)], rfl, .inl (.inl upd_same), rfl, _, _, rfl, _, _, rfl, rfl, k _ (e1.trans (Ex.new hp))⟩⟩
theorem dmp {i j : Int} (h : 0 < j) (hj : j.natAbs.log2 < 1920) (h2 : j.natAbs < 2 ^ 30) : CDivP i j := ⟨h, PyProof.noPylong_of_log2 (Nat.lt_of_lt_of_le hj (by decide +kernel))⟩
def spDigits : Sp := fun vs H Q _ => ∃ n : Nat, vs = [.int (n : Int)] ∧ Sm n ∧ RetV (.str (S (numL n))) H Q
theorem ok_digits {f : Addr} {fd : FuncData} (F : Fun K "digits_of" "digits_of" s_digits_of f fd) {t0 t1 : Tok} (g_PIECE : mg "PIECE" = some (.int 10000000000000000000000000000000000000000000000000000000000000000 t0)) (g_PIECE_DIGITS : mg "PIECE_DIGITS" = some (.int 64 t1)) (m_divmod : mg "divmod" = none) (m_str : mg "str" = none) (m_reversed : mg "reversed" = none) : FnOk P w K mg base CX0 1 f fd ["n"] spDigits := by
  refine F.ok sc_digits_of (fun vs H Q E h => ?_) (fun cdv A outer s H vs Q E hr h => ?_)
  · obtain ⟨n, rfl, _⟩ := h
    rfl
  · obtain ⟨n, rfl, hn, q⟩ := h
    refine ⟨_, (pss_cons (ps_set (i := 1) sc_digits_of.nd rfl (.inl rfl) (pe_lst pa_nil))
        (pss_cons (ps_while PassesOwn.never (pt_cmpR op_ge (pv 0) (pe_glob (by rfl) g_PIECE (show RelV (.int 10000000000000000000000000000000000000000000000000000000000000000) _ from ⟨_, rfl⟩)) (nomark _)) (pss_cons (ps_asg (pe_callB call_divmodW (by rfl) m_divmod (by decide +kernel) (pa_cons (pv 0) (pa_cons (pe_glob (by rfl) g_PIECE (show RelV (.int 10000000000000000000000000000000000000000000000000000000000000000) _ from ⟨_, rfl⟩)) pa_nil))) (pg_tup rfl (pgs_cons (pg_name (i := 0) sc_digits_of.nd rfl (.inl rfl)) (pgs_cons (pg_name (i := 2) sc_digits_of.nd rfl (.inl rfl)) pgs_nil))))
        (pss_one (ps_expr (pe_bm PySem.F.plainAttrs_list PySem.F.slot_list_append PySem.F.type_list_append mt_append (pv 1) (pa_cons (pe_bm PySem.F.plainAttrs_str PySem.F.slot_str_zfill PySem.F.type_str_zfill mt_zfill (pe_callTy call_str_int (by rfl) m_str (by decide +kernel) (pa_cons (pv 2) pa_nil)) (pa_cons (pe_glob (by rfl) g_PIECE_DIGITS (show RelV (.int 64) _ from ⟨_, rfl⟩)) pa_nil)) pa_nil))))))
        (pss_cons (ps_expr (pe_bm PySem.F.plainAttrs_list PySem.F.slot_list_append PySem.F.type_list_append mt_append (pv 1) (pa_cons (pe_callTy call_str_int (by rfl) m_str (by decide +kernel) (pa_cons (pv 0) pa_nil)) pa_nil)))
        (pss_one (ps_ret (pe_joinRev rfl pe_str (by rfl) m_reversed (pa_cons (pv 1) pa_nil))))))), ?_⟩
    refine q_asgL (el_lst ea_nil (show 0 ≤ 100000 by decide)) fun l H1 nl e1 hl1 => ?_
    refine st_is (σ' := [_, _, _]) rfl ?_
    refine q_while (fun m σ' H' => ∃ (x2 : Option V) (ps : List (List Nat)), σ' = [some (.int (m : Int)), some (.ref l), x2] ∧ Ex H H' ∧ H' l = some (.lst ((ps.map S).map V.str)) ∧ numL n = numL m ++ ps.reverse.flatten ∧ ps.length ≤ ps.reverse.flatten.length ∧ m ≤ n) n ⟨_, [], rfl, e1, hl1, (List.append_nil _).symm, Nat.le_refl _, Nat.le_refl _⟩ (fun m σ' H' W => ?_)
    obtain ⟨x2, ps, rfl, e2, hl2, hnum, hps, hmn⟩ := W
    have hlen : (numL m).length + ps.reverse.flatten.length ≤ 300 := by
      have := sm_len hn
      rw [hnum, List.length_append] at this
      exact this
    refine ⟨decide ((10000000000000000000000000000000000000000000000000000000000000000 : Int) ≤ (m : Int)), et_test (ev_op (ev_var rfl) ev_c rv_I0), fun hb H3 e3 => ?_, fun hb H3 e3 => ?_⟩
    · have hb1 := of_decide_eq_true hb
      have hb2 : 10 ^ 64 ≤ m := by
        have e : (10 : Nat) ^ 64 = 10000000000000000000000000000000000000000000000000000000000000000 := by decide +kernel
        rw [e]
        omega
      have hlt : m / 10 ^ 64 < m := Nat.div_lt_self (Nat.lt_of_lt_of_le (Nat.pow_pos (by decide)) hb2) (by decide +kernel)
      refine ⟨fun σ2 H2 => ∃ (x2 : Option V) (ps : List (List Nat)), σ2 = [some (.int ((m / 10 ^ 64 : Nat) : Int)), some (.ref l), x2] ∧ Ex H H2 ∧ H2 l = some (.lst ((ps.map S).map V.str)) ∧ numL n = numL (m / 10 ^ 64) ++ ps.reverse.flatten ∧ ps.length ≤ ps.reverse.flatten.length ∧ m / 10 ^ 64 ≤ n, fun σ2 H2 h => ⟨m / 10 ^ 64, hlt, h⟩, ?_⟩
      have ediv : (m : Int) / 10000000000000000000000000000000000000000000000000000000000000000 = ((m / 10 ^ 64 : Nat) : Int) := by
        rw [show (10000000000000000000000000000000000000000000000000000000000000000 : Int) = ((10 ^ 64 : Nat) : Int) by decide +kernel]
        exact (Int.natCast_ediv m (10 ^ 64)).symm
      have emod : (m : Int) % 10000000000000000000000000000000000000000000000000000000000000000 = ((m % 10 ^ 64 : Nat) : Int) := by
        rw [show (10000000000000000000000000000000000000000000000000000000000000000 : Int) = ((10 ^ 64 : Nat) : Int) by decide +kernel]
        exact (Int.natCast_emod m (10 ^ 64)).symm
      refine ⟨_, rfl, (m : Int), _, rfl, ⟨by decide, PyProof.noPylong_of_log2 (by decide +kernel)⟩, fun p hp => ?_⟩
      rw [ediv, emod]
      refine ⟨p, [.int ((m / 10 ^ 64 : Nat) : Int), .int ((m % 10 ^ 64 : Nat) : Int)], rfl, .inl (.inl upd_same), rfl, _, _, rfl, _, _, rfl, rfl, ?_⟩
      have e4 : Ex H' (upd H3 p (.tup [.int ((m / 10 ^ 64 : Nat) : Int), .int ((m % 10 ^ 64 : Nat) : Int)])) := e3.trans (Ex.new hp)
      generalize upd H3 p (.tup [.int ((m / 10 ^ 64 : Nat) : Int), .int ((m % 10 ^ 64 : Nat) : Int)]) = H4 at e4 ⊢
      refine st_is (σ' := [_, _, _]) rfl ?_
      have hmod : m % 10 ^ 64 < 10 ^ 64 := Nat.mod_lt _ (Nat.pow_pos (by decide))
      have hsm : Sm (m % 10 ^ 64) := sm_le hn (Nat.le_trans (Nat.mod_le _ _) hmn)
      refine s_app (e4 _ _ hl2) (ev_var rfl) (v := .str (S (pad 64 m))) (ev_zfill (ev_cb (ea_cons (ev_var rfl) ea_nil) (rc_str hsm)) ev_c (by decide +kernel) (by
        rw [← pad_mod 64 m]
        exact zfill_num (m := 64) (by decide) hmod)) (by rw [List.length_map, List.length_map]; omega) fun H5 e5 => ?_
      refine ⟨_, ps ++ [pad 64 m], rfl, Ex.mut ((e2.trans e4).trans e5) nl, ?_, ?_, ?_, Nat.le_trans (Nat.le_of_lt hlt) hmn⟩
      · rw [upd_same, List.map_append, List.map_append]
        rfl
      · rw [hnum, num_split 64 m hb2, List.reverse_append, List.append_assoc]
        rfl
      · rw [List.reverse_append, List.length_append]
        show ps.length + 1 ≤ (pad 64 m ++ ps.reverse.flatten).length
        rw [List.length_append, pad_len]
        omega
    · have hsm : Sm m := sm_le hn hmn
      refine q_app (e3 _ _ hl2) (ev_var rfl) (v := .str (S (numL m))) (ev_cb (ea_cons (ev_var rfl) ea_nil) (rc_str hsm)) (by rw [List.length_map, List.length_map]; omega) fun H4 e4 => ?_
      have e5 : Ex H (upd H4 l (.lst (((ps.map S).map V.str) ++ [.str (S (numL m))]))) := Ex.mut ((e2.trans e3).trans e4) nl
      refine ⟨⟨_, rfl⟩, _, rfl, S [], l, (ps ++ [numL m]).map S, rfl, rfl, sq_of (by rw [upd_same, List.map_append, List.map_append]; rfl), ?_, ?_⟩
      · have h0 : (((ps ++ [numL m]).map S).map (·.length)).sum = (ps.reverse.flatten).length + (numL m).length := by
          rw [SX.lens, List.map_append, List.sum_append, List.length_flatten, List.map_reverse, List.sum_reverse]
          rfl
        rw [h0, S_len, List.length_nil, Nat.mul_zero]
        omega
      · have h1 : Txt.join (S []) ((ps ++ [numL m]).map S).reverse = S (numL n) := by
          rw [← List.map_reverse, Dg.join_nil, List.reverse_append, hnum]
          rfl
        rw [h1]
        exact q _ e5
/-- the sign of a number -/
def sgnL (n : Int) : List Nat := if n < 0 then [45] else []
theorem sgn_len (n : Int) : (sgnL n).length ≤ 1 := by
  unfold sgnL
  split <;> simp
def spSign : Sp := fun vs H Q _ => ∃ n : Int, vs = [.int n] ∧ RetV (.str (S (sgnL n))) H Q
theorem ok_sign {f : Addr} {fd : FuncData} (F : Fun K "sign_text" "sign_text" s_sign_text f fd) : FnOk P w K mg base CX0 1 f fd ["n"] spSign := by
  refine F.ok sc_sign_text (fun vs H Q E h => ?_) (fun cdv A outer s H vs Q E hr h => ?_)
  · obtain ⟨n, rfl, _⟩ := h
    rfl
  · obtain ⟨n, rfl, q⟩ := h
    refine ⟨_, (pss_one (ps_ret (pe_ifExp (pt_cmpR op_lt (pv 0) pe_int (nomark _)) pe_str pe_str))), ?_⟩
    unfold sgnL at q
    by_cases hn : n < 0
    · rw [if_pos hn] at q
      exact s_ret (ev_if (b := true) (et_is (et_test (ev_op (ev_var rfl) ev_c rv_I0)) (decide_eq_true hn)) (fun _ => ev_c) (fun z => nomatch z)) q
    · rw [if_neg hn] at q
      exact s_ret (ev_if (b := false) (et_is (et_test (ev_op (ev_var rfl) ev_c rv_I0)) (decide_eq_false hn)) (fun z => nomatch z) (fun _ => ev_c)) q
theorem sign_is {H : Hp} {n : Int} : SpV spSign [.int n] H (.str (S (sgnL n))) := fun H1 e1 Q1 q1 E1 => ⟨n, rfl, q1⟩
theorem digits_is {H : Hp} {n : Nat} (h : Sm n) : SpV spDigits [.int (n : Int)] H (.str (S (numL n))) := fun H1 e1 Q1 q1 E1 => ⟨n, rfl, h, q1⟩
theorem sm_of {n k : Nat} (h : n ≤ k) (hk : k < 10 ^ 300) : Sm n := Nat.lt_of_le_of_lt h hk
/-! ### points -/
def latOk (a : Int) : Bool := decide (-900000000 ≤ a) && decide (a ≤ 900000000)
def lonOk (a : Int) : Bool := decide (-1800000000 ≤ a) && decide (a < 1800000000)
def wrapI (a : Int) : Int := (a + 1800000000) % 3600000000 - 1800000000
def spLat : Sp := fun vs H Q _ => ∃ a : Int, vs = [.int a] ∧ RetV (.bl (latOk a)) H Q
def spLon : Sp := fun vs H Q _ => ∃ a : Int, vs = [.int a] ∧ RetV (.bl (lonOk a)) H Q
theorem ok_lat {f : Addr} {fd : FuncData} (F : Fun K "is_latitude" "is_latitude" s_is_latitude f fd) {t0 : Tok} (g_RIGHT_ANGLE : mg "RIGHT_ANGLE" = some (.int 900000000 t0)) : FnOk P w K mg base CX0 1 f fd ["angle"] spLat := by
  refine F.ok sc_is_latitude (fun vs H Q E h => ?_) (fun cdv A outer s H vs Q E hr h => ?_)
  · obtain ⟨c, rfl, _⟩ := h
    rfl
  · obtain ⟨c, rfl, q⟩ := h
    refine ⟨_, (pss_one (ps_ret (pe_chain op_le op_le (pe_un un_neg (pe_glob (by rfl) g_RIGHT_ANGLE (show RelV (.int 900000000) _ from ⟨_, rfl⟩))) (pv 0) (pe_glob (by rfl) g_RIGHT_ANGLE (show RelV (.int 900000000) _ from ⟨_, rfl⟩))))), ?_⟩
    exact s_ret (ev_chain (ev_un ev_c ru_neg) (ev_var rfl) ev_c rv_I0 rv_I0) q
theorem ok_lon {f : Addr} {fd : FuncData} (F : Fun K "is_longitude" "is_longitude" s_is_longitude f fd) {t0 : Tok} (g_HALF_TURN : mg "HALF_TURN" = some (.int 1800000000 t0)) : FnOk P w K mg base CX0 1 f fd ["angle"] spLon := by
  refine F.ok sc_is_longitude (fun vs H Q E h => ?_) (fun cdv A outer s H vs Q E hr h => ?_)
  · obtain ⟨c, rfl, _⟩ := h
    rfl
  · obtain ⟨c, rfl, q⟩ := h
    refine ⟨_, (pss_one (ps_ret (pe_chain op_le op_lt (pe_un un_neg (pe_glob (by rfl) g_HALF_TURN (show RelV (.int 1800000000) _ from ⟨_, rfl⟩))) (pv 0) (pe_glob (by rfl) g_HALF_TURN (show RelV (.int 1800000000) _ from ⟨_, rfl⟩))))), ?_⟩
    exact s_ret (ev_chain (ev_un ev_c ru_neg) (ev_var rfl) ev_c rv_I0 rv_I0) q
theorem lat_is {H : Hp} {a : Int} : SpV spLat [.int a] H (.bl (latOk a)) := fun H1 e1 Q1 q1 E1 => ⟨a, rfl, q1⟩
theorem lon_is {H : Hp} {a : Int} : SpV spLon [.int a] H (.bl (lonOk a)) := fun H1 e1 Q1 q1 E1 => ⟨a, rfl, q1⟩
def spPoint (K : PySem.W.Frag) : Sp := fun vs H Q _ => ∃ (p : Addr) (a b : Int), vs = [.ref p] ∧ SqT K H p [.int a, .int b] ∧ RetV (.bl (latOk a && lonOk b)) H Q
theorem ok_point {f f0 f1 : Addr} {fd fd0 fd1 : FuncData} (F : Fun K "is_point" "is_point" s_is_point f fd)
    (F_is_latitude : Fun K "is_latitude" "is_latitude" s_is_latitude f0 fd0) (b_is_latitude : Binds K fd0 ["angle"] []) (g_is_latitude : mg "is_latitude" = some (.ref f0))
    (F_is_longitude : Fun K "is_longitude" "is_longitude" s_is_longitude f1 fd1) (b_is_longitude : Binds K fd1 ["angle"] []) (g_is_longitude : mg "is_longitude" = some (.ref f1))
    {t0 t1 : Tok} (g_RIGHT_ANGLE : mg "RIGHT_ANGLE" = some (.int 900000000 t0)) (g_HALF_TURN : mg "HALF_TURN" = some (.int 1800000000 t1)) : FnOk P w K mg base CX0 2 f fd ["value"] (spPoint K) := by
  have G_is_latitude : FnOk P w K mg base CX0 1 f0 fd0 _ spLat := ok_lat F_is_latitude g_RIGHT_ANGLE
  have G_is_longitude : FnOk P w K mg base CX0 1 f1 fd1 _ spLon := ok_lon F_is_longitude g_HALF_TURN
  refine F.ok sc_is_point (fun vs H Q E h => ?_) (fun cdv A outer s H vs Q E hr h => ?_)
  · obtain ⟨p, a, b, rfl, _⟩ := h
    rfl
  · obtain ⟨p, a, b, rfl, t_v, q⟩ := h
    refine ⟨_, (pss_cons (ps_asg (pv 0) (pg_tup rfl (pgs_cons (pg_name (i := 1) sc_is_point.nd rfl (.inl rfl)) (pgs_cons (pg_name (i := 2) sc_is_point.nd rfl (.inl rfl)) pgs_nil))))
        (pss_one (ps_ret (pe_and (pe_call G_is_latitude (hr.mono (by decide)) (by rfl) g_is_latitude F_is_latitude.kp b_is_latitude .nil pass0 (pa_cons (pv 1) pa_nil)) (pe_one (pe_call G_is_longitude (hr.mono (by decide)) (by rfl) g_is_longitude F_is_longitude.kp b_is_longitude .nil pass0 (pa_cons (pv 2) pa_nil))))))), ?_⟩
    refine ⟨_, rfl, p, _, rfl, t_v, rfl, _, _, rfl, _, _, rfl, rfl, ?_⟩
    refine st_is (σ' := [some (.ref p), some (.int a), some (.int b)]) rfl ?_
    exact s_ret (ev_andV (ev_call (ea_cons (ev_var rfl) ea_nil) lat_is) fun _ => ev_call (ea_cons (ev_var rfl) ea_nil) lon_is) q
/-! ### reading angles and points -/
def rPart : V → List V → Hp → VK → Prop := fun x xs H Q => ∃ a b, x = .str a ∧ xs = [.str b] ∧ (b.length == 0) = false ∧ a.length ≤ sizeLine ∧ ∀ p, H p = none → Q (.ref p) (upd H p (.tup [.str (Txt.partition a b).1, .str (Txt.partition a b).2.1, .str (Txt.partition a b).2.2]))
theorem q_part {σ : L2.St} {H : Hp} {to te : TE} {a b : List Nat} {x y z : Str} {D : Ends} {tz : TS} {k1 k2 k3 : Nat} (h : Ev to σ H (.str (S a))) (h2 : Ev te σ H (.str (S b))) (hb : ((S b).length == 0) = false) (hz : a.length ≤ 100000) (e : Txt.partition (S a) (S b) = (x, y, z))
    (k : ∀ H1, Ex H H1 → tz D (((σ.set k1 (some (.str x))).set k2 (some (.str y))).set k3 (some (.str z))) H1) :
    tSeq (tAsg (tM1 rPart to te) (gTup K 3 (gCons (gName k1) (gCons (gName k2) (gCons (gName k3) gNil))))) tz D σ H := h H (Ex.refl H) _ fun H1 e1 => ⟨⟨_, rfl⟩, h2 H1 e1 _ fun H2 e2 => ⟨S a, S b, rfl, rfl, hb, by
    rw [S_len]
    exact sz_of hz, fun p hp => by
    rw [e]
    exact ⟨p, [.str x, .str y, .str z], rfl, .inl (.inl upd_same), rfl, _, _, rfl, _, _, rfl, _, _, rfl, rfl, k _ ((e1.trans e2).trans (Ex.new hp))⟩⟩⟩
theorem el_split {σ : L2.St} {H : Hp} {to te : TE} {c : Nat} {a : List Nat} (h : Ev to σ H (.str (S a))) (h2 : Ev te σ H (.str (S [c]))) (hc : c < 256) (hz : a.length ≤ 50000) :
    EvL (tM1 (fun x xs H Q => ∃ a b, x = .str a ∧ xs = [.str b] ∧ (b.length == 0) = false ∧ a.length + 2 ≤ sizeLine ∧ rNewStrs (Txt.split a b) H Q) to te) σ H (((TL.spl [c] 0 [] a).map S).map V.str) := fun H1 e Q q =>
  h H1 e _ fun H2 e2 => ⟨⟨_, rfl⟩, h2 H2 (e.trans e2) _ fun H3 e3 => ⟨_, _, rfl, rfl, rfl, by rw [S_len]; exact sz_of (by omega), fun p hp => by
    have e4 : Txt.split (S a) (S [c]) = (TL.spl [c] 0 [] a).map S := SX.split_S (by simp) (by simpa using hc)
    rw [e4]
    exact q p _ (fresh_back (e2.trans e3) hp) ((e2.trans e3).trans (Ex.new hp)) upd_same⟩⟩
theorem str_eq {a b : List Nat} : decide (V.str (S a) = V.str (S b)) = decide (a = b) := decide_eq_decide.mpr ⟨fun z => SX.S_inj (V.str.inj z), fun z => by rw [z]⟩
def spHasD : Sp := fun vs H Q _ => ∃ (a : List Nat) (m : Nat), vs = [.str (S a), .int (m : Int)] ∧ a.length ≤ 1000 ∧ RetV (.bl (hasD a m)) H Q
theorem ok_hasd {f : Addr} {fd : FuncData} (F : Fun K "has_digits" "has_digits" s_has_digits f fd) (m_len : mg "len" = none) : FnOk P w K mg base CX0 1 f fd ["text", "most"] spHasD := by
  refine F.ok sc_has_digits (fun vs H Q E h => ?_) (fun cdv A outer s H vs Q E hr h => ?_)
  · obtain ⟨a, m, rfl, _⟩ := h
    rfl
  · obtain ⟨a, m, rfl, hz, q⟩ := h
    refine ⟨_, (pss_one (ps_ret (pe_and (pe_chain op_le op_le pe_int (pe_callB call_len (by rfl) m_len (by decide +kernel) (pa_cons (pv 0) pa_nil)) (pv 1)) (pe_and (pe_m0 PySem.F.slot_str_isascii PySem.F.type_str_isascii mt_isascii (pv 0)) (pe_one (pe_m0 PySem.F.slot_str_isdigit PySem.F.type_str_isdigit mt_isdigit (pv 0))))))), ?_⟩
    refine s_ret (ev_is (ev_andV (ev_chain ev_c (ev_cb (ea_cons (ev_var rfl) ea_nil) (rc_lenS (by omega))) (ev_var rfl) rv_I0 rv_I0) fun _ => (ev_andV (ev_m0 (ev_var rfl)) fun _ => (ev_m0 (ev_var rfl)))) (congrArg V.bl ?_)) q
    by_cases h : a = []
    · subst h
      show ((decide ((1 : Int) ≤ ((0 : Nat) : Int)) && _) && _) = _
      rw [decide_eq_false (by decide), Bool.false_and, Bool.false_and]
      rfl
    · exact hasD_is h
theorem hasd_is {H : Hp} {a : List Nat} {m : Nat} (h : a.length ≤ 1000) : SpV spHasD [.str (S a), .int (m : Int)] H (.bl (hasD a m)) := fun H1 e1 Q1 q1 E1 => ⟨a, m, rfl, h, q1⟩
def spRead (CI : Addr) : Sp := fun vs H Q E => ∃ a : List Nat, vs = [.str (S a)] ∧ a.length ≤ 1000 ∧ (∀ v, rdA a = some v → RetV (.int v) H Q) ∧ (rdA a = none → ∀ H', Ex H H' → E (.ref CI) none H')
theorem parts_of (b : List Nat) (hb : b.length ≤ 1000) : ∃ p y z : List Nat, Txt.partition (S b) (S [46]) = (S p, S y, S z) ∧ p.length ≤ 1000 ∧ z.length ≤ 1000 ∧ ((y = [] ∧ z = [] ∧ parts b = (p, none)) ∨ (y = [46] ∧ parts b = (p, some z))) := by
  rcases first_dot 46 b with h | ⟨p, q, e, hp⟩
  · exact ⟨b, [], [], part_none h, hb, by simp, .inl ⟨rfl, rfl, parts_none h⟩⟩
  · have hl : p.length + (1 + q.length) = b.length := by
      rw [e]
      simp
      omega
    exact ⟨p, [46], q, by rw [e]; exact part_some hp, by omega, by omega, .inr ⟨rfl, by rw [e]; exact parts_some hp⟩⟩
theorem val_lt {a : List Nat} (h : a.all dig = true) : NumText.digitsVal a < 10 ^ a.length := by
  have key : ∀ n (a : List Nat), a.length = n → a.all dig = true → NumText.digitsVal a < 10 ^ n := by
    intro n
    induction n with
    | zero =>
      intro a hl _
      rw [List.length_eq_zero_iff.mp hl]
      decide
    | succ n ih =>
      intro a hl ha
      have hne : a ≠ [] := fun z => by rw [z] at hl; exact absurd hl (by simp)
      have e := List.dropLast_concat_getLast hne
      have hd : a.dropLast.length = n := by rw [List.length_dropLast]; omega
      rw [← e] at ha ⊢
      rw [List.all_append, Bool.and_eq_true] at ha
      have h1 := ih a.dropLast hd ha.1
      have h2 : dig (a.getLast hne) = true := by simpa using ha.2
      unfold dig at h2
      rw [Bool.and_eq_true] at h2
      have h3 := of_decide_eq_true h2.2
      rw [NumText.digitsVal_snoc, Nat.pow_succ]
      omega
  exact key _ a rfl h
theorem val_small {a : List Nat} (h : a.all dig = true) (hl : a.length ≤ 7) : 0 ≤ val a ∧ val a < 10000000 := by
  have h1 := val_lt h
  have h2 : (10 : Nat) ^ a.length ≤ 10 ^ 7 := Nat.pow_le_pow_right (by decide) hl
  have e : (10 : Nat) ^ 7 = 10000000 := by decide
  unfold val
  omega
theorem ev_ljust {σ : L2.St} {H : Hp} {to te tf : TE} {q : List Nat} (h : Ev to σ H (.str (S q))) (h2 : Ev te σ H (.int 7)) (h3 : Ev tf σ H (.str (S [48]))) : Ev (tBM K "str" (fun x xs H Q => ∃ (a f : Str) (i : Int), x = .str a ∧ xs = [.int i, .str f] ∧ PadOk i = true ∧ f.length = 1 ∧ Q (.str (Txt.ljustF a i (f.cps.getD 0 0))) H) to (tCons te (tCons tf tNil))) σ H (.str (S (fill q))) := fun H1 e1 Q k =>
  h H1 e1 _ fun H2 e2 => ⟨rfl, h2 H2 (e1.trans e2) _ fun H3 e3 => h3 H3 ((e1.trans e2).trans e3) _ fun H4 e4 => ⟨S q, S [48], 7, rfl, rfl, by decide, rfl, by
    show Q (.str (Txt.ljustF (S q) 7 48)) H4
    rw [ljust_is]
    exact k H4 ((e2.trans e3).trans e4)⟩⟩
theorem rc_int {H : Hp} {a : List Nat} (h : a.all dig = true) (hne : a ≠ []) (hl : a.length ≤ 640) : RC (fun xs H Q => ∃ a n, xs = [.str a] ∧ PySem.intText? a = some n ∧ a.length ≤ 640 ∧ Q (.int n) H) [.str (S a)] H (.int (val a)) := fun H1 _ Q q => ⟨S a, val a, rfl, int_dig h hne (by omega), by rw [S_len]; exact hl, q H1 (Ex.refl _)⟩
theorem ok_read {f f0 CI CP : Addr} {fd fd0 : FuncData} (F : Fun K "read_angle" "read_angle" s_read_angle f fd) (T : Errs K mg "InvalidText" CI CP) (F_has_digits : Fun K "has_digits" "has_digits" s_has_digits f0 fd0) (b_has_digits : Binds K fd0 ["text", "most"] []) (g_has_digits : mg "has_digits" = some (.ref f0))
    {t0 t1 t2 : Tok} (g_DEGREE : mg "DEGREE" = some (.int 10000000 t0)) (g_PLACES : mg "PLACES" = some (.int 7 t1)) (g_MOST_WHOLE_DIGITS : mg "MOST_WHOLE_DIGITS" = some (.int 4 t2)) (m_len : mg "len" = none) (m_int : mg "int" = none) : FnOk P w K mg base (L2.CX P w) 2 f fd ["text"] (spRead CI) := by
  obtain ⟨g_InvalidText, _, x_InvalidText, k_InvalidText, b_InvalidText, t_InvalidText, _, _, _, _, _⟩ := id T
  have G_has_digits : FnOk P w K mg base CX0 1 f0 fd0 ["text", "most"] spHasD := ok_hasd F_has_digits m_len
  refine F.okX sc_read_angle (fun vs H Q E h => ?_) (fun cdv A outer s H vs Q E hr h => ?_)
  · obtain ⟨a, rfl, _⟩ := h
    rfl
  · obtain ⟨a, rfl, hz, q, hE⟩ := h
    refine ⟨_, (pss_cons (ps_set (i := 1) sc_read_angle.nd rfl (.inl rfl) (pe_ifExp (pt_val (pe_m1 PySem.F.slot_str_startswith PySem.F.type_str_startswith mt_startswith (pv 0) pe_str)) (pe_slice C8.sl_txt (pv 0) (po_some pe_int) po_none) (pv 0)))
        (pss_cons (ps_asg (pe_partition (pv 1) pe_str) (pg_tup rfl (pgs_cons (pg_name (i := 2) sc_read_angle.nd rfl (.inl rfl)) (pgs_cons (pg_name (i := 3) sc_read_angle.nd rfl (.inl rfl)) (pgs_cons (pg_name (i := 4) sc_read_angle.nd rfl (.inl rfl)) pgs_nil)))))
        (pss_cons (ps_if (PW.pt (pw_or (pt_not (pt_val (pe_call G_has_digits (hr.mono (by decide)) (by rfl) g_has_digits F_has_digits.kp b_has_digits .nil pass0 (pa_cons (pv 2) (pa_cons (pe_glob (by rfl) g_MOST_WHOLE_DIGITS (show RelV (.int 4) _ from ⟨_, rfl⟩)) pa_nil))))) (pw_or1 (PW.pt (pw_and (pt_val (pe_m1 PySem.F.slot_str_startswith PySem.F.type_str_startswith mt_startswith (pv 2) pe_str)) (pw_and1 (pt_cmpR op_ne (pv 2) pe_str (nomark _)))))))) (pss_one (ps_raise rfl (takes_of rfl rfl rfl rfl) (pmk_own PySem.F.excBase_ValueError x_InvalidText g_InvalidText k_InvalidText (raises_own b_InvalidText t_InvalidText) (by rfl)))) pss_nil)
        (pss_cons (ps_if (PW.pt (pw_and (pt_cmpR op_eq (pv 3) pe_str (nomark _)) (pw_and1 (pt_not (pt_val (pe_call G_has_digits (hr.mono (by decide)) (by rfl) g_has_digits F_has_digits.kp b_has_digits .nil pass0 (pa_cons (pv 4) (pa_cons (pe_glob (by rfl) g_PLACES (show RelV (.int 7) _ from ⟨_, rfl⟩)) pa_nil)))))))) (pss_one (ps_raise rfl (takes_of rfl rfl rfl rfl) (pmk_own PySem.F.excBase_ValueError x_InvalidText g_InvalidText k_InvalidText (raises_own b_InvalidText t_InvalidText) (by rfl)))) pss_nil)
        (pss_cons (ps_set (i := 5) sc_read_angle.nd rfl (.inl rfl) (pe_op op_add (pe_op op_mulX (pe_callTy call_int_str (by rfl) m_int (by decide +kernel) (pa_cons (pv 2) pa_nil)) (pe_glob (by rfl) g_DEGREE (show RelV (.int 10000000) _ from ⟨_, rfl⟩))) (pe_callTy call_int_str (by rfl) m_int (by decide +kernel) (pa_cons (pe_bm PySem.F.plainAttrs_str PySem.F.slot_str_ljust PySem.F.type_str_ljust mt_ljustF (pv 4) (pa_cons (pe_glob (by rfl) g_PLACES (show RelV (.int 7) _ from ⟨_, rfl⟩)) (pa_cons pe_str pa_nil))) pa_nil))))
        (pss_one (ps_ret (pe_ifExp (pt_val (pe_m1 PySem.F.slot_str_startswith PySem.F.type_str_startswith mt_startswith (pv 0) pe_str)) (pe_un un_neg (pv 5)) (pv 5))))))))), ?_⟩
    have hbl := body_len a
    refine q_asg (v := .str (S (body a))) (ev_if (b := neg a) (et_is (et_B (ev_m1 (ev_var rfl) ev_c)) (neg_is a)) (fun hn => ?_) (fun hn => ?_)) fun H1 e1 => ?_
    · refine ev_sl (ev_var rfl) (eo_some ev_c) eo_none (by omega) ?_
      rw [SX.slice_from (by decide)]
      cases a with
      | nil => exact absurd hn (by decide)
      | cons c r =>
        show S r = S (if c = 45 then r else c :: r)
        rw [if_pos (of_decide_eq_true hn)]
    · have e : body a = a := by
        cases a with
        | nil => rfl
        | cons c r =>
          show (if c = 45 then r else c :: r) = _
          rw [if_neg (of_decide_eq_false hn)]
      rw [e]
      exact ev_var rfl
    refine st_is (σ' := [_, _, _, _, _, _]) rfl ?_
    obtain ⟨p, y, z, hpart, hp, hzl, hcase⟩ := parts_of (body a) (by omega)
    refine q_part (ev_var rfl) ev_c rfl (by omega) hpart fun H2 e2 => ?_
    refine st_is (σ' := [_, _, _, _, _, _]) rfl ?_
    unfold rdA at q hE
    refine q_when (b := !whole p) (et_is (et_or (et_not (et_B (ev_call (ea_cons (ev_var rfl) (ea_cons ev_c ea_nil)) (hasd_is (m := 4) hp)))) fun _ => (et_and (et_B (ev_m1 (ev_var rfl) ev_c)) fun _ => (et_test (ev_op (ev_var rfl) ev_c (rv_ne rfl))))) ?_) (fun hb H3 e3 => ?_) (fun hb H3 e3 => ?_)
    · rw [show (Txt.startswith (S p) "0") = whole.neg0 p from zero_is p, show decide (V.str (S p) = V.str "0") = decide (p = [48]) from str_eq]
      unfold whole
      cases hasD p 4 <;> simp
    · refine hE ?_ H3 ((e1.trans e2).trans e3)
      have hw : whole p = false := by simpa using hb
      rcases hcase with ⟨_, _, e⟩ | ⟨_, e⟩ <;> (rw [e]; unfold says; rw [hw]; rfl)
    have hw : whole p = true := by simpa using hb
    have hw2 : hasD p 4 = true := by
      unfold whole at hw
      rw [Bool.and_eq_true] at hw
      exact hw.1
    obtain ⟨pne, pl, pd⟩ := hasD_of hw2
    have pv := val_small pd (by omega)
    refine q_when (b := decide (y = [46]) && !hasD z 7) (et_is (et_and (et_test (ev_op (ev_var rfl) ev_c (rv_eq rfl))) fun _ => (et_not (et_B (ev_call (ea_cons (ev_var rfl) (ea_cons ev_c ea_nil)) (hasd_is (m := 7) hzl))))) ?_) (fun hb2 H4 e4 => ?_) (fun hb2 H4 e4 => ?_)
    · rw [show decide (V.str (S y) = V.str ".") = decide (y = [46]) from str_eq]
    · rw [Bool.and_eq_true] at hb2
      refine hE ?_ H4 (((e1.trans e2).trans e3).trans e4)
      rcases hcase with ⟨e0, _, _⟩ | ⟨_, e⟩
      · rw [e0] at hb2
        exact absurd (of_decide_eq_true hb2.1) (by decide)
      · rw [e]
        unfold says
        rw [if_pos hw]
        show Option.map _ (if hasD z 7 = true then _ else none) = none
        rw [if_neg (by simpa using hb2.2)]
        rfl
    have hz7 : z.all dig = true ∧ z.length ≤ 7 ∧ says (parts (body a)).1 (parts (body a)).2 = some (val p * 10000000 + val (fill z)) := by
      rcases hcase with ⟨_, e0, e⟩ | ⟨e0, e⟩
      · subst e0
        refine ⟨rfl, by simp, ?_⟩
        rw [e]
        unfold says
        rw [if_pos hw]
        exact congrArg some (show val p * 10000000 = val p * 10000000 + val (fill []) from by
          rw [show val (fill []) = 0 by decide +kernel]
          omega)
      · rw [e0] at hb2
        have hh : hasD z 7 = true := by simpa using hb2
        obtain ⟨_, zl, zd⟩ := hasD_of hh
        refine ⟨zd, zl, ?_⟩
        rw [e]
        unfold says
        rw [if_pos hw]
        show (if hasD z 7 = true then _ else none) = _
        rw [if_pos hh]
    obtain ⟨zd, zl, hsay⟩ := hz7
    rw [hsay] at q
    have fl := fill_ne zl
    refine q_asg (ev_op (ev_op (ev_cb (ea_cons (ev_var rfl) ea_nil) (rc_int pd pne (by omega))) ev_c (rv_I (mulc (Nat.lt_of_le_of_lt (show (val p).natAbs ≤ 10000000 by omega) (by decide +kernel)) (by decide +kernel)))) (ev_cb (ea_cons (ev_ljust (K := K) (ev_var rfl) ev_c ev_c) ea_nil) (rc_int (fill_dig zd) fl.1 (by omega))) rv_I0) fun H5 e5 => ?_
    refine st_is (σ' := [_, _, _, _, _, _]) rfl ?_
    have hq := q _ rfl
    unfold sg at hq
    by_cases hn : neg a = true
    · rw [if_pos hn] at hq
      exact s_ret (ev_if (b := true) (et_is (et_B (ev_m1 (ev_var rfl) ev_c)) ((neg_is a).trans hn)) (fun _ => ev_un (ev_var rfl) ru_neg) (fun z => nomatch z)) fun H6 e6 => hq H6 (((((e1.trans e2).trans e3).trans e4).trans e5).trans e6)
    · rw [if_neg hn] at hq
      exact s_ret (ev_if (b := false) (et_is (et_B (ev_m1 (ev_var rfl) ev_c)) ((neg_is a).trans (by simpa using hn))) (fun z => nomatch z) (fun _ => ev_var rfl)) fun H6 e6 => hq H6 (((((e1.trans e2).trans e3).trans e4).trans e5).trans e6)
theorem cs_run {sp : Sp} {E : L2.St → XK} {t : TA} {σ : L2.St} {H : Hp} {vs : List V} {Q : VK} (h : EvA t σ H vs) (k : ∀ H1, Ex H H1 → sp vs H1 Q (E σ)) : tCallS sp E t σ H Q := h H (Ex.refl H) _ k
theorem q_tup2 {ta tb : TE} {σ : L2.St} {H : Hp} {D : Ends} {tz : TS} {k : Nat} (h : ta σ H (fun v H1 => tb σ H1 (fun w H2 => 2 ≤ sizeLine ∧ ∀ p, H2 p = none → tz D (σ.set k (some (.ref p))) (upd H2 p (.tup [v, w]))))) : tSeq (tAsg (tTup (tCons ta (tCons tb tNil))) (gName k)) tz D σ H := h
theorem spl_len (s : Nat) : ∀ (a acc : List Nat), ∀ p ∈ TL.spl [s] 0 acc a, p.length ≤ acc.length + a.length
  | [], acc, p, hp => by
    rw [TL.spl_nil, List.mem_singleton] at hp
    rw [hp]
    simp
  | c :: r, acc, p, hp => by
    rw [List.length_cons]
    by_cases h : TL.pre [s] (c :: r) = true
    · rw [TL.spl_hit h] at hp
      rcases List.mem_cons.mp hp with z | z
      · rw [z]
        omega
      · have := spl_len s r [] p z
        simp at this
        omega
    · have h' : TL.pre [s] (c :: r) = false := by simpa using h
      rw [TL.spl_miss h'] at hp
      have := spl_len s r _ p hp
      rw [List.length_append, List.length_singleton] at this
      omega
def rdTwo (u v : List Nat) : Option (Int × Int) := match rdA u, rdA v with
  | some x, some y => if (latOk x && lonOk y) = true then some (x, y) else none
  | _, _ => none
def rdPt (a : List Nat) : Option (Int × Int) := match TL.spl [32] 0 [] a with
  | [u, v] => rdTwo u v
  | _ => none
theorem rdPt_two {a u v : List Nat} (h : TL.spl [32] 0 [] a = [u, v]) : rdPt a = rdTwo u v := by
  unfold rdPt
  rw [h]
theorem rdPt_not {a : List Nat} (h : (TL.spl [32] 0 [] a).length ≠ 2) : rdPt a = none := by
  unfold rdPt
  split
  · rename_i e
    rw [e] at h
    exact absurd rfl h
  · rfl
def spReadPt (CI : Addr) : Sp := fun vs H Q E => ∃ a : List Nat, vs = [.str (S a)] ∧ a.length ≤ 900 ∧ (∀ x y, rdPt a = some (x, y) → RetU [.int x, .int y] H Q) ∧ (rdPt a = none → ∀ H', Ex H H' → E (.ref CI) none H')
theorem ok_readpt {f f0 f1 f2 f3 f4 CI CP : Addr} {fd fd0 fd1 fd2 fd3 fd4 : FuncData} (F : Fun K "read_point" "read_point" s_read_point f fd) (T : Errs K mg "InvalidText" CI CP) (F_has_digits : Fun K "has_digits" "has_digits" s_has_digits f0 fd0) (b_has_digits : Binds K fd0 ["text", "most"] []) (g_has_digits : mg "has_digits" = some (.ref f0))
    (F_read_angle : Fun K "read_angle" "read_angle" s_read_angle f1 fd1) (b_read_angle : Binds K fd1 ["text"] []) (g_read_angle : mg "read_angle" = some (.ref f1)) (F_is_point : Fun K "is_point" "is_point" s_is_point f2 fd2) (b_is_point : Binds K fd2 ["value"] []) (g_is_point : mg "is_point" = some (.ref f2))
    (F_is_latitude : Fun K "is_latitude" "is_latitude" s_is_latitude f3 fd3) (b_is_latitude : Binds K fd3 ["angle"] []) (g_is_latitude : mg "is_latitude" = some (.ref f3))
    (F_is_longitude : Fun K "is_longitude" "is_longitude" s_is_longitude f4 fd4) (b_is_longitude : Binds K fd4 ["angle"] []) (g_is_longitude : mg "is_longitude" = some (.ref f4))
    {t0 t1 t2 t3 t4 : Tok} (g_DEGREE : mg "DEGREE" = some (.int 10000000 t0)) (g_PLACES : mg "PLACES" = some (.int 7 t1)) (g_MOST_WHOLE_DIGITS : mg "MOST_WHOLE_DIGITS" = some (.int 4 t2)) (g_RIGHT_ANGLE : mg "RIGHT_ANGLE" = some (.int 900000000 t3)) (g_HALF_TURN : mg "HALF_TURN" = some (.int 1800000000 t4))
    (m_len : mg "len" = none) (m_int : mg "int" = none) : FnOk P w K mg base (L2.CX P w) 3 f fd ["text"] (spReadPt CI) := by
  obtain ⟨g_InvalidText, _, x_InvalidText, k_InvalidText, b_InvalidText, t_InvalidText, _, _, _, _, _⟩ := id T
  have G_read_angle : FnOk P w K mg base (L2.CX P w) 2 f1 fd1 ["text"] (spRead CI) := ok_read F_read_angle T F_has_digits b_has_digits g_has_digits g_DEGREE g_PLACES g_MOST_WHOLE_DIGITS m_len m_int
  have G_is_point : FnOk P w K mg base CX0 2 f2 fd2 ["value"] (spPoint K) := ok_point F_is_point F_is_latitude b_is_latitude g_is_latitude F_is_longitude b_is_longitude g_is_longitude g_RIGHT_ANGLE g_HALF_TURN
  refine F.okX sc_read_point (fun vs H Q E h => ?_) (fun cdv A outer s H vs Q E hr h => ?_)
  · obtain ⟨a, rfl, _⟩ := h
    rfl
  · obtain ⟨a, rfl, hz, q, hE⟩ := h
    refine ⟨_, (pss_cons (ps_set (i := 1) sc_read_point.nd rfl (.inl rfl) (pe_split (pv 0) pe_str))
        (pss_cons (ps_if (pt_cmpR op_ne (pe_callB call_len (by rfl) m_len (by decide +kernel) (pa_cons (pv 1) pa_nil)) pe_int (nomark _)) (pss_one (ps_raise rfl (takes_of rfl rfl rfl rfl) (pmk_own PySem.F.excBase_ValueError x_InvalidText g_InvalidText k_InvalidText (raises_own b_InvalidText t_InvalidText) (by rfl)))) pss_nil)
        (pss_cons (ps_set (i := 2) sc_read_point.nd rfl (.inl rfl) (pe_tup (pa_cons (pe_callS G_read_angle (hr.mono (by decide)) (by rfl) g_read_angle F_read_angle.kp b_read_angle (fun σ => passAt (takes_of rfl rfl rfl rfl) σ) (pa_cons (pe_ix ix_list (pv 1) pe_int (fun _ _ => rfl)) pa_nil)) (pa_cons (pe_callS G_read_angle (hr.mono (by decide)) (by rfl) g_read_angle F_read_angle.kp b_read_angle (fun σ => passAt (takes_of rfl rfl rfl rfl) σ) (pa_cons (pe_ix ix_list (pv 1) pe_int (fun _ _ => rfl)) pa_nil)) pa_nil))))
        (pss_cons (ps_if (pt_not (pt_val (pe_call G_is_point (hr.mono (by decide)) (by rfl) g_is_point F_is_point.kp b_is_point .nil pass0 (pa_cons (pv 2) pa_nil)))) (pss_one (ps_raise rfl (takes_of rfl rfl rfl rfl) (pmk_own PySem.F.excBase_ValueError x_InvalidText g_InvalidText k_InvalidText (raises_own b_InvalidText t_InvalidText) (by rfl)))) pss_nil)
        (pss_one (ps_ret (pv 2))))))), ?_⟩
    refine q_asgL (el_split (c := 32) (ev_var rfl) ev_c (by decide) (by omega)) fun l H1 nl e1 hl => ?_
    refine st_is (σ' := [_, _, _]) rfl ?_
    have hw := spl_len 32 a []
    obtain ⟨ws, hws⟩ : ∃ ws, TL.spl [32] 0 [] a = ws := ⟨_, rfl⟩
    rw [hws] at hl hw
    have tl : SqL K H1 l ((ws.map S).map V.str) := sq_of hl
    refine q_when (et_test (ev_op (ev_is (ev_cb (ea_cons (ev_var rfl) ea_nil) (rc_lenL tl)) (congrArg (fun n : Nat => V.int (n : Int)) (show ((ws.map S).map V.str).length = ws.length by rw [List.length_map, List.length_map]))) ev_c (rv_ne rfl))) (fun hb H2 e2 => hE (rdPt_not (by
      rw [hws]
      intro z
      rw [z] at hb
      exact absurd hb (by decide))) H2 (e1.trans e2)) (fun hb H2 e2 => ?_)
    have h2 : ws.length = 2 := by
      simp only [Bool.not_eq_false', decide_eq_true_eq, V.int.injEq] at hb
      omega
    obtain ⟨u, v, rfl⟩ : ∃ u v, ws = [u, v] := by
      match ws, h2 with
      | [u, v], _ => exact ⟨u, v, rfl⟩
    have hu := hw u (by simp)
    have hv := hw v (by simp)
    simp only [List.length_nil, Nat.zero_add] at hu hv
    rw [rdPt_two hws] at q hE
    replace tl := ex_l e2 tl
    have e12 := e1.trans e2
    refine q_tup2 (cs_run (ea_cons (ev_op (ev_var rfl) ev_c (rv_ixL tl rfl)) ea_nil) fun H3 e3 => ⟨u, rfl, by omega, fun x hx H4 e4 => cs_run (ea_cons (ev_op (ev_var rfl) ev_c (rv_ixL (ex_l (e3.trans e4) tl) rfl)) ea_nil) fun H5 e5 => ⟨v, rfl, by omega, fun y hy H6 e6 => ⟨by show 2 ≤ sizeLine; decide, fun p hp => ?_⟩, fun hn H6 e6 => hE (by
      unfold rdTwo
      rw [hn]
      cases rdA u <;> rfl) H6 (((((e12.trans e3).trans e4).trans e5)).trans e6)⟩, fun hn H4 e4 => hE (by
      unfold rdTwo
      rw [hn]) H4 ((e12.trans e3).trans e4)⟩)
    refine st_is (σ' := [_, _, _]) rfl ?_
    have e6' : Ex H (upd H6 p (.tup [.int x, .int y])) := ((((e12.trans e3).trans e4).trans e5).trans e6).trans (Ex.new hp)
    have np : H p = none := fresh_back ((((e12.trans e3).trans e4).trans e5).trans e6) hp
    have hp2 : upd H6 p (.tup [.int x, .int y]) p = some (.tup [.int x, .int y]) := upd_same
    generalize upd H6 p (.tup [.int x, .int y]) = H7 at e6' hp2 ⊢
    have er : rdTwo u v = if (latOk x && lonOk y) = true then some (x, y) else none := by
      unfold rdTwo
      rw [hx, hy]
    rw [er] at q hE
    refine q_when (et_not (et_B (ev_call (z := .bl (latOk x && lonOk y)) (ea_cons (ev_var rfl) ea_nil) (fun H8 e8 Q8 q8 E8 => ⟨p, x, y, rfl, ex_t e8 (st_of hp2), q8⟩)))) (fun hb H8 e8 => hE (if_neg (by rw [Bool.not_eq_true'] at hb; rw [hb]; decide)) H8 (e6'.trans e8)) (fun hb H8 e8 => ?_)
    have hb2 : (latOk x && lonOk y) = true := by simpa using hb
    exact s_ret (ev_var rfl) fun H9 e9 => q x y (if_pos hb2) p H9 np ((e6'.trans e8).trans e9) (e9 _ _ (e8 _ _ hp2))
theorem spl_mem (s : Nat) : ∀ (a acc : List Nat), ∀ p ∈ TL.spl [s] 0 acc a, ∀ c ∈ p, c ∈ acc ++ a
  | [], acc, p, hp => by
    rw [TL.spl_nil, List.mem_singleton] at hp
    rw [hp]
    intro c hc
    simpa using hc
  | d :: r, acc, p, hp => by
    intro c hc
    by_cases h : TL.pre [s] (d :: r) = true
    · rw [TL.spl_hit h] at hp
      rcases List.mem_cons.mp hp with z | z
      · rw [z] at hc
        exact List.mem_append_left _ hc
      · have := spl_mem s r [] p z c hc
        exact List.mem_append_right _ (List.mem_cons_of_mem _ (by simpa using this))
    · have h' : TL.pre [s] (d :: r) = false := by simpa using h
      rw [TL.spl_miss h'] at hp
      have := spl_mem s r _ p hp c hc
      simpa using this
/-! ### texts of angles -/
def angL (a : Int) : List Nat := (sgnL a ++ numL (a.natAbs / 10000000)) ++ tailL (a.natAbs % 10000000)
def spATxt : Sp := fun vs H Q _ => ∃ a : Int, vs = [.int a] ∧ a.natAbs ≤ 1000000000000 ∧ RetV (.str (S (angL a))) H Q
theorem ev_rstrip {σ : L2.St} {H : Hp} {to te : TE} {a : List Nat} (h : Ev to σ H (.str (S a))) (h2 : Ev te σ H (.str (S [48]))) (hz : a.length ≤ 100000) : Ev (tM1 (fun x xs H Q => ∃ a b, x = .str a ∧ xs = [.str b] ∧ a.length ≤ sizeLine ∧ Q (.str (Txt.rstripChars a b)) H) to te) σ H (.str (S (strip0 a))) := fun H1 e1 Q q =>
  h H1 e1 _ fun H2 e2 => ⟨⟨_, rfl⟩, h2 H2 (e1.trans e2) _ fun H3 e3 => ⟨S a, S [48], rfl, rfl, by
    rw [S_len]
    exact sz_of hz, by
    rw [strip_is]
    exact q H3 (e2.trans e3)⟩⟩
theorem ok_atext {f f0 f1 : Addr} {fd fd0 fd1 : FuncData} (F : Fun K "angle_text" "angle_text" s_angle_text f fd)
    (G_digits_of : FnOk P w K mg base CX0 1 f0 fd0 ["n"] spDigits) (F_digits_of : Fun K "digits_of" "digits_of" s_digits_of f0 fd0) (b_digits_of : Binds K fd0 ["n"] []) (g_digits_of : mg "digits_of" = some (.ref f0))
    (F_sign_text : Fun K "sign_text" "sign_text" s_sign_text f1 fd1) (b_sign_text : Binds K fd1 ["n"] []) (g_sign_text : mg "sign_text" = some (.ref f1))
    {t0 t1 : Tok} (g_DEGREE : mg "DEGREE" = some (.int 10000000 t0)) (g_PLACES : mg "PLACES" = some (.int 7 t1)) (m_abs : mg "abs" = none) (m_str : mg "str" = none) (m_divmod : mg "divmod" = none) : FnOk P w K mg base CX0 2 f fd ["angle"] spATxt := by
  have G_sign_text : FnOk P w K mg base CX0 1 f1 fd1 ["n"] spSign := ok_sign F_sign_text
  refine F.ok sc_angle_text (fun vs H Q E h => ?_) (fun cdv A outer s H vs Q E hr h => ?_)
  · obtain ⟨a, rfl, _⟩ := h
    rfl
  · obtain ⟨a, rfl, ha, q⟩ := h
    refine ⟨_, (pss_cons (ps_asg (pe_callB call_divmodW (by rfl) m_divmod (by decide +kernel) (pa_cons (pe_callB call_abs (by rfl) m_abs (by decide +kernel) (pa_cons (pv 0) pa_nil)) (pa_cons (pe_glob (by rfl) g_DEGREE (show RelV (.int 10000000) _ from ⟨_, rfl⟩)) pa_nil))) (pg_tup rfl (pgs_cons (pg_name (i := 1) sc_angle_text.nd rfl (.inl rfl)) (pgs_cons (pg_name (i := 2) sc_angle_text.nd rfl (.inl rfl)) pgs_nil))))
        (pss_cons (ps_set (i := 3) sc_angle_text.nd rfl (.inl rfl) (pe_op op_add_str (pe_call G_sign_text (hr.mono (by decide)) (by rfl) g_sign_text F_sign_text.kp b_sign_text .nil pass0 (pa_cons (pv 0) pa_nil)) (pe_call G_digits_of (hr.mono (by decide)) (by rfl) g_digits_of F_digits_of.kp b_digits_of .nil pass0 (pa_cons (pv 1) pa_nil))))
        (pss_cons (ps_if (pt_cmpR op_eq (pv 2) pe_int (nomark _)) (pss_one (ps_ret (pv 3))) pss_nil)
        (pss_cons (ps_set (i := 4) sc_angle_text.nd rfl (.inl rfl) (pe_m1 PySem.F.slot_str_rstrip PySem.F.type_str_rstrip mt_rstripChars (pe_bm PySem.F.plainAttrs_str PySem.F.slot_str_zfill PySem.F.type_str_zfill mt_zfill (pe_callTy call_str_int (by rfl) m_str (by decide +kernel) (pa_cons (pv 2) pa_nil)) (pa_cons (pe_glob (by rfl) g_PLACES (show RelV (.int 7) _ from ⟨_, rfl⟩)) pa_nil)) pe_str))
        (pss_one (ps_ret (pe_joined (PJ.cons (pe_fmt (pv 3)) (PJ.cons pe_str (PJ.cons (pe_fmt (pv 4)) PJ.nil)))))))))), ?_⟩
    unfold angL at q
    have hz := sgn_len a
    refine q_dm (i := ((a.natAbs : Nat) : Int)) (j := 10000000) (ea_cons (ev_cb (ea_cons (ev_var rfl) ea_nil) rc_abs) (ea_cons ev_c ea_nil)) ⟨by decide, PyProof.noPylong_of_log2 (by decide +kernel)⟩ fun H1 e1 => ?_
    generalize hu : a.natAbs = u at *
    refine st_is (σ' := [some (.int a), some (.int ((u / 10000000 : Nat) : Int)), some (.int ((u % 10000000 : Nat) : Int)), none, none]) rfl ?_
    have hs : Sm (u / 10000000) := sm_of (k := 1000000000000) (by omega) (by decide +kernel)
    have hl := sm_len hs
    have hr10 : u % 10000000 < 10000000 := Nat.mod_lt _ (by decide)
    generalize u % 10000000 = r at *
    refine q_asg (ev_op (ev_call (ea_cons (ev_var rfl) ea_nil) sign_is) (ev_call (ea_cons (ev_var rfl) ea_nil) (digits_is hs)) (rv_cat (by omega))) fun H2 e2 => ?_
    refine st_is (σ' := [_, _, _, _, _]) rfl ?_
    by_cases hr0 : r = 0
    · subst hr0
      refine q_when (b := true) (et_is (et_test (ev_op (ev_var rfl) ev_c (rv_eq rfl))) (decide_eq_true rfl)) (fun _ H3 e3 => ?_) (fun z => nomatch z)
      refine s_ret (ev_var rfl) fun H4 e4 => ?_
      have h4 := q H4 (e1.trans (e2.trans (e3.trans e4)))
      unfold tailL at h4
      rw [if_pos rfl, List.append_nil] at h4
      exact h4
    · refine q_when (b := false) (et_is (et_test (ev_op (ev_var rfl) ev_c (rv_eq rfl))) (decide_eq_false fun z => hr0 (by have := V.int.inj z; omega))) (fun z => nomatch z) (fun _ H3 e3 => ?_)
      have hsr : Sm r := sm_of (k := 1000000000000) (by omega) (by decide +kernel)
      have hst := (strip_sub (pad 7 r)).1
      rw [pad_len] at hst
      refine q_asg (ev_rstrip (ev_zfill (K := K) (n := 7) (ev_cb (ea_cons (ev_var rfl) ea_nil) (rc_str hsr)) ev_c (by decide) (zfill_num (m := 7) (by decide) (by omega))) ev_c (by rw [pad_len]; omega)) fun H4 e4 => ?_
      refine st_is (σ' := [_, _, _, _, _]) rfl ?_
      have h4 := fun H5 e5 => q H5 (e1.trans (e2.trans (e3.trans (e4.trans e5))))
      unfold tailL at h4
      rw [if_neg hr0] at h4
      refine s_ret (ev_is (ev_js (as := [sgnL a ++ numL (u / 10000000), [46], strip0 (pad 7 r)]) (.cons (ev_fmt (ev_var rfl) (by rw [List.length_append]; omega)) (.cons ev_c (.cons (ev_fmt (ev_var rfl) (by omega)) .nil))) (by
        simp only [List.flatten_cons, List.flatten_nil, List.length_append, List.length_nil, List.length_singleton]
        omega)) (congrArg (fun a => V.str (S a)) ?_)) fun H5 e5 => h4 H5 e5
      simp only [List.flatten_cons, List.flatten_nil, List.append_nil]
theorem angL_len {a : Int} (h : a.natAbs ≤ 1000000000000) : (angL a).length ≤ 400 := by
  have h1 := sgn_len a
  have h2 := sm_len (sm_of (n := a.natAbs / 10000000) (k := 1000000000000) (by omega) (by decide +kernel))
  have h3 := tail_len (a.natAbs % 10000000)
  unfold angL
  rw [List.length_append, List.length_append]
  omega
theorem angL_code {a : Int} : ∀ c ∈ angL a, c < 128 := by
  intro c hc
  unfold angL at hc
  rcases List.mem_append.mp hc with h | h
  · rcases List.mem_append.mp h with h | h
    · unfold sgnL at h
      split at h
      · rw [List.mem_singleton] at h
        omega
      · exact absurd h (by simp)
    · have := Tx.num_all _ c h
      omega
  · exact tail_code _ c h
/-! ### a loop over a new tuple -/
section
variable {σ : L2.St} {H : Hp} {tl : TE} {tu tz : TS} {D : Ends} {g : TG}
theorem s_forNT {xs : List V} (h : EvU tl σ H xs) (Pv : Addr → Nat → L2.St → Hp → Prop) (h0 : ∀ p H1, H p = none → Ex H H1 → H1 p = some (.tup xs) → Pv p 0 σ H1) (hl : ∀ p i σ' H', i ≤ xs.length → Pv p i σ' H' → SqT K H' p xs)
    (hs : ∀ p i x σ' H', xs[i]? = some x → Pv p i σ' H' → g x σ' H' fun σ2 H2 => tu { D with nx := Pv p (i + 1), ct := Pv p (i + 1), bk := D.nx } σ2 H2) (hd : ∀ p σ' H', Pv p xs.length σ' H' → D.nx σ' H') : tFor (iTup K tl) g tu D σ H :=
  h H (Ex.refl H) _ fun p H1 hp e h1 => ⟨p, rfl, ⟨xs, st_of h1⟩, for_tup (Pv p) (h0 p H1 hp e h1) (hl p) (hs p) (hd p)⟩
theorem q_forNT {xs : List V} (h : EvU tl σ H xs) (Pv : Addr → Nat → L2.St → Hp → Prop) (h0 : ∀ p H1, H p = none → Ex H H1 → H1 p = some (.tup xs) → Pv p 0 σ H1) (hl : ∀ p i σ' H', i ≤ xs.length → Pv p i σ' H' → SqT K H' p xs)
    (hs : ∀ p i x σ' H', xs[i]? = some x → Pv p i σ' H' → g x σ' H' fun σ2 H2 => tu { D with nx := Pv p (i + 1), ct := Pv p (i + 1), bk := tz D } σ2 H2) (hd : ∀ p σ' H', Pv p xs.length σ' H' → tz D σ' H') : tSeq (tFor (iTup K tl) g tu) tz D σ H :=
  s_forNT (D := { D with nx := tz D }) h Pv h0 hl hs hd
end
/-! ### the law's own defs -/
theorem rv_leS {H : Hp} {a b : List Nat} : RV (fun x y H Q => ∃ i j, x = .str i ∧ y = .str j ∧ Q (.bl (!decide (j.cps.toList < i.cps.toList))) H) (.str (S a)) (.str (S b)) H (.bl (!decide (b < a))) := fun H1 _ _ q => ⟨S a, S b, rfl, rfl, q H1 (Ex.refl _)⟩
theorem one_lt {a b : Nat} : decide ([a] < [b]) = decide (a < b) := decide_eq_decide.mpr ⟨fun h => by
  rcases List.cons_lt_cons_iff.mp h with z | z
  · exact z
  · exact absurd z.2 (by simp), fun h => List.cons_lt_cons_iff.mpr (.inl h)⟩
theorem given_filter (p : Nat → Bool) (g : Nat → V) : ∀ (n : Nat) (a : List Nat), a.length = n → given n (fun i => p (a.getD i 0)) (fun i => g (a.getD i 0)) = (a.filter p).map g := by
  intro n
  induction n with
  | zero =>
    intro a hl
    rw [List.length_eq_zero_iff.mp hl]
    rfl
  | succ n ih =>
    intro a hl
    have hne : a ≠ [] := fun z => by rw [z] at hl; exact absurd hl (by simp)
    have e := List.dropLast_concat_getLast hne
    have hd : a.dropLast.length = n := by rw [List.length_dropLast]; omega
    have h1 := ih a.dropLast hd
    have g1 : ∀ i, i < n → a.dropLast.getD i 0 = a.getD i 0 := fun i hi => by
      rw [← e]
      simp [List.getD, List.getElem?_append, hd, hi]
    have g2 : a.getD n 0 = a.getLast hne := by
      rw [List.getD_eq_getElem?_getD, List.getElem?_eq_getElem (show n < a.length by omega), Option.getD_some, List.getLast_eq_getElem]
      congr 1
      omega
    have h2 : given n (fun i => p (a.getD i 0)) (fun i => g (a.getD i 0)) = (a.dropLast.filter p).map g := by
      rw [← h1]
      unfold given
      rw [show (List.range n).filter (fun i => p (a.getD i 0)) = (List.range n).filter (fun i => p (a.dropLast.getD i 0)) from List.filter_congr fun i hi => by rw [g1 i (List.mem_range.mp hi)]]
      exact List.map_congr_left fun i hi => by rw [g1 i (List.mem_range.mp (List.mem_filter.mp hi).1)]
    conv => rhs; rw [← e, List.filter_append, List.map_append]
    by_cases hp : p (a.getLast hne) = true
    · rw [given_yes (by rw [g2]; exact hp), h2, g2]
      congr 1
      simp [hp]
    · rw [given_no (by rw [g2]; simpa using hp), h2]
      simp [hp]
theorem el_lcS {σ : L2.St} {H : Hp} {a : List Nat} {tl te : TE} {t : TT} {j : Nat} {vs : List Nat} (f : Nat → Bool) (v : Nat → V) (h : Ev tl σ H (.str (S a))) (hz : a.length ≤ 40000) (hw : ∀ x, wipe ((wipe σ vs).set j (some x)) vs = wipe σ vs)
    (ht : ∀ (i c : Nat) H1, Ex H H1 → a[i]? = some c → EvT t ((wipe σ vs).set j (some (.str (S [c])))) H1 (f i)) (he : ∀ (i c : Nat) H1, Ex H H1 → a[i]? = some c → f i = true → Ev te ((wipe σ vs).set j (some (.str (S [c])))) H1 (v i)) :
    EvL (tLc (iStr tl) (gName j) t te vs) σ H (given a.length f v) := fun H0 e Q q => h H0 e _ fun H1 e1 => ⟨S a, rfl, fun Dl hD =>
  lc_it (walk_str (z := S a)) (Cw H1 f v Dl) ⟨hD, Ex.new hD, upd_same⟩ (fun _ _ _ _ => trivial) (fun i x H' H'' hi p y => by
    obtain ⟨rfl, c, hc, rfl⟩ := y
    have hc' : a[i]? = some c := by
      have := hc
      simpa using this
    exact ⟨hw _, cw_turn p (by have := (List.getElem?_eq_some_iff.mp hc').1; omega) (ht i c H1 (e.trans e1) hc') (fun hf => he i c H1 (e.trans e1) hc' hf)⟩) (fun H' p => q Dl H' (fresh_back e1 p.1) (e1.trans p.2.1) p.2.2)⟩
theorem dpStrs {H : Hp} : ∀ xs : List (List Nat), DpAll K H (xs.map fun a => V.str (S a)) (xs.map fun a => PyData.str (S a))
  | [] => .nil
  | a :: r => .cons (.str (S a)) (dpStrs r)
theorem sh_one (xs : List Nat) (h : ∀ c ∈ xs, c < 200) : SeqAt.shaped (.list (xs.map fun c => PyData.str (S [c]))) = true := by
  have h1 : ∀ xs : List Nat, (∀ c ∈ xs, c < 200) → PyData.canLayAll0 (xs.map fun c => PyData.str (S [c])) = true := by
    intro xs
    induction xs with
    | nil => intro _; rfl
    | cons c r ih =>
      intro h
      show (PyData.strOk (S [c]) && PyData.canLayAll0 (r.map fun c => PyData.str (S [c]))) = true
      rw [ih fun d hd => h d (List.mem_cons_of_mem _ hd), Bool.and_true]
      show ([c] : List Nat).toArray.all (· < 0x110000) = true
      rw [← Array.all_toList]
      have := h c (List.mem_cons_self ..)
      simp
      omega
  have h2 : ∀ xs : List Nat, PyData.depthAll (xs.map fun c => PyData.str (S [c])) = 0 := by
    intro xs
    induction xs with
    | nil => rfl
    | cons c r ih =>
      show max 0 (PyData.depthAll (r.map fun c => PyData.str (S [c]))) = 0
      rw [ih]
      rfl
  unfold SeqAt.shaped
  rw [Bool.and_eq_true]
  refine ⟨h1 xs h, decide_eq_true ?_⟩
  show PyData.depthAll (xs.map fun c => PyData.str (S [c])) + 1 ≤ 64
  rw [h2]
  decide
def spLDig : Sp := fun vs H Q _ => ∃ (a : List Nat) (m : Nat), vs = [.str (S a), .int (m : Int)] ∧ a.length ≤ 1000 ∧ (∀ c ∈ a, c < 200) ∧ RetV (.bl (hasD a m)) H Q
theorem ok_ldigits {f : Addr} {fd : FuncData} (F : Fun K "_law_digits" "_law_digits" s_law_digits f fd) (m_len : mg "len" = none) : FnOk P w K mg base CX0 1 f fd ["text", "most"] spLDig := by
  refine F.ok sc_law_digits (fun vs H Q E h => ?_) (fun cdv A outer s H vs Q E hr h => ?_)
  · obtain ⟨a, m, rfl, _⟩ := h
    rfl
  · obtain ⟨a, m, rfl, hz, hc, q⟩ := h
    refine ⟨_, (pss_cons (ps_if (pt_not (pt_chain op_le op_le pe_int (pe_callB call_len (by rfl) m_len (by decide +kernel) (pa_cons (pv 0) pa_nil)) (pv 1))) (pss_one (ps_ret pe_bl)) pss_nil)
        (pss_one (ps_ret (pe_cmpR (op_eqD hr.units) (pe_lc (own := [("char", 2)]) (g := gName 2) rfl sc_law_digits.nd (pi_str (pv 0)) (blkOk_by (own := [("char", 2)]) (N := ["text", "most", "char"]) (sc := defScope s_law_digits) (by decide +kernel)) (fun _ _ _ _ _ => (pg_name (i := 2) sc_law_digits.nd rfl (.inl rfl))) (fun _ _ _ _ _ => pts_one (pt_not (pt_chain op_le_str op_le_str pe_str (pv 2) pe_str))) (fun _ _ _ _ _ => (pv 2))) (pe_lst pa_nil) (nomark _))))), ?_⟩
    refine q_when (et_not (et_B (ev_chain ev_c (ev_cb (ea_cons (ev_var rfl) ea_nil) (rc_lenS (by omega))) (ev_var rfl) rv_I0 rv_I0))) (fun hb H1 e1 => ?_) (fun hb H1 e1 => ?_)
    · refine s_ret ev_c fun H2 e2 => ?_
      have h2 := q H2 (e1.trans e2)
      have e : hasD a m = false := by
        unfold hasD
        have : (decide (1 ≤ a.length) && decide (a.length ≤ m)) = false := by
          rw [Bool.not_eq_true'] at hb
          rw [← hb]
          congr 1 <;> exact decide_eq_decide.mpr (by omega)
        rw [this, Bool.false_and]
      rw [e] at h2
      exact h2
    · have e : hasD a m = a.all dig := by
        unfold hasD
        have : (decide (1 ≤ a.length) && decide (a.length ≤ m)) = true := by
          rw [Bool.not_eq_false'] at hb
          rw [← hb]
          congr 1 <;> exact decide_eq_decide.mpr (by omega)
        rw [this, Bool.true_and]
      have eg := given_filter (fun c => !dig c) (fun c => V.str (S [c])) a.length a rfl
      have eg2 : (a.filter fun c => !dig c).map (fun c => V.str (S [c])) = ((a.filter fun c => !dig c).map fun c => [c]).map fun b => V.str (S b) := by rw [List.map_map]; rfl
      have ed2 : (a.filter fun c => !dig c).map (fun c => PyData.str (S [c])) = ((a.filter fun c => !dig c).map fun c => [c]).map fun b => PyData.str (S b) := by rw [List.map_map]; rfl
      refine s_ret (v := .bl (a.all dig)) (ev_opLL (xs := (a.filter fun c => !dig c).map fun c => V.str (S [c])) ?_ (el_lst ea_nil (show 0 ≤ 100000 by decide)) (fun p r H2 hp hr e2 H3 e3 Q3 q3 => ⟨.list ((a.filter fun c => !dig c).map fun c => PyData.str (S [c])), .list [], .lst (sq_of (e3 _ _ hp)) (by rw [eg2, ed2]; exact dpStrs _), .lst (sq_of (e3 _ _ hr)) .nil, sh_one _ fun c hm => hc c (List.mem_filter.mp hm).1, rfl, ?_⟩)) fun H2 e2 => by
        have h2 := q H2 (e1.trans e2)
        rw [e] at h2
        exact h2
      · rw [← eg]
        refine el_lcS (fun i => !dig (a.getD i 0)) (fun i => V.str (S [a.getD i 0])) (ev_var rfl) (by omega) (fun x => rfl) (fun i c H2 e2 hi => ?_) (fun i c H2 e2 hi hf => ?_)
        · have eg : a.getD i 0 = c := by
            rw [List.getD_eq_getElem?_getD, hi]
            rfl
          rw [eg]
          refine et_is (et_not (et_B (ev_chain ev_c (ev_var rfl) ev_c (rv_leS (a := [48]) (b := [c])) (rv_leS (a := [c]) (b := [57]))))) ?_
          rw [one_lt, one_lt]
          unfold dig
          congr 1
          congr 1 <;> (rw [← decide_not]; exact decide_eq_decide.mpr (by omega))
        · have eg : a.getD i 0 = c := by
            rw [List.getD_eq_getElem?_getD, hi]
            rfl
          rw [eg]
          exact ev_var rfl
      · have hv : PyData.eqv (.list ((a.filter fun c => !dig c).map fun c => PyData.str (S [c]))) (.list []) = a.all dig := by
          cases hf : a.filter fun c => !dig c with
          | nil =>
            have : a.all dig = true := List.all_eq_true.mpr fun c hm => by
              by_cases hd : dig c = true
              · exact hd
              · have : c ∈ a.filter fun c => !dig c := List.mem_filter.mpr ⟨hm, by simpa using hd⟩
                rw [hf] at this
                exact absurd this (by simp)
            rw [this]
            rfl
          | cons c r =>
            have hm : c ∈ a.filter fun c => !dig c := by
              rw [hf]
              exact List.mem_cons_self ..
            have h1 := List.mem_filter.mp hm
            have : a.all dig = false := List.all_eq_false.mpr ⟨c, h1.1, by simpa using h1.2⟩
            rw [this]
            rfl
        rw [hv]
        exact q3 H3 (Ex.refl _)
theorem atI_zero {α : Type} {x : α} {r : List α} : atI (x :: r) 0 = some x := by
  have h : ixN (x :: r).length 0 = some 0 := by
    unfold ixN
    rw [List.length_cons, if_pos (by decide), if_pos (by omega)]
    rfl
  unfold atI
  rw [h]
  rfl
def optV : Option Int → V
  | none => .non
  | some v => .int v
theorem ws_of (b : List Nat) : ∃ p rest, TL.spl [46] 0 [] b = p :: rest ∧ p.length ≤ b.length ∧ (∀ c ∈ p, c ∈ b) ∧ (∀ q ∈ rest, q.length ≤ b.length) ∧
    ((rest = [] ∧ parts b = (p, none)) ∨ (∃ q, rest = [q] ∧ parts b = (p, some q) ∧ ∀ c ∈ q, c ∈ b) ∨ (2 ≤ rest.length ∧ ∃ q, parts b = (p, some q) ∧ hasD q 7 = false)) := by
  have hlen := spl_len 46 b []
  rcases first_dot 46 b with h | ⟨p, q, e, hp⟩
  · exact ⟨b, [], dot_split h, Nat.le_refl _, fun c hc => hc, fun q hq => absurd hq (by simp), .inl ⟨rfl, parts_none h⟩⟩
  · have e2 : TL.spl [46] 0 [] b = p :: TL.spl [46] 0 [] q := by rw [e, dot_split2 hp]
    rw [e2] at hlen
    have hl : ∀ x ∈ p :: TL.spl [46] 0 [] q, x.length ≤ b.length := fun x hx => by
      have := hlen x hx
      simpa using this
    refine ⟨p, TL.spl [46] 0 [] q, e2, hl p (List.mem_cons_self ..), fun c hc => by rw [e]; exact List.mem_append_left _ hc, fun x hx => hl x (List.mem_cons_of_mem _ hx), .inr ?_⟩
    have hpar : parts b = (p, some q) := by rw [e]; exact parts_some hp
    by_cases hq : 46 ∈ q
    · refine .inr ⟨?_, q, hpar, ?_⟩
      · rcases first_dot 46 q with h | ⟨p2, q2, e3, hp2⟩
        · exact absurd hq h
        · rw [e3, dot_split2 hp2]
          obtain ⟨x, r, e4⟩ := spl_one 46 q2 []
          rw [e4]
          simp
      · have : q.all dig = false := List.all_eq_false.mpr ⟨46, hq, by decide⟩
        unfold hasD
        rw [this, Bool.and_false]
    · exact .inl ⟨q, dot_split hq, hpar, fun c hc => by rw [e]; exact List.mem_append_right _ (List.mem_append_right _ hc)⟩
theorem body_mem {a : List Nat} : ∀ c ∈ body a, c ∈ a := by
  intro c hc
  cases a with
  | nil => exact absurd hc (by simp [body])
  | cons d r =>
    have h2 : c ∈ (if d = 45 then r else d :: r) := hc
    split at h2
    · exact List.mem_cons_of_mem _ h2
    · exact h2
theorem take_neg (a : List Nat) : decide (V.str (S (a.take 1)) = V.str (S [45])) = neg a := by
  rw [str_eq]
  cases a with
  | nil => rfl
  | cons c r =>
    show decide ([c] = [45]) = decide (c = 45)
    exact decide_eq_decide.mpr (by simp)
theorem fill_take {q : List Nat} (h : q.length ≤ 7) : (q ++ [48, 48, 48, 48, 48, 48, 48]).take 7 = Ra.fill q := by
  unfold Ra.fill
  rw [List.take_append, List.take_of_length_le h]
  congr 1
  show (List.replicate 7 48).take (7 - q.length) = _
  rw [List.take_replicate]
  congr 1
  omega
theorem rv_ixS {H : Hp} {c : Nat} {r : List Nat} (hz : (c :: r).length ≤ 100000) : RV rIxS (.str (S (c :: r))) (.int 0) H (.str (S [c])) := fun H1 _ Q q => ⟨S (c :: r), 0, c, rfl, rfl, by
  rw [S_len]
  exact sz_of hz, atI_zero, q H1 (Ex.refl _)⟩
def spValue : Sp := fun vs H Q _ => ∃ a : List Nat, vs = [.str (S a)] ∧ a.length ≤ 900 ∧ (∀ c ∈ a, c < 200) ∧ RetV (optV (rdA a)) H Q
theorem ldig_is {H : Hp} {a : List Nat} {m : Nat} (h : a.length ≤ 1000) (hc : ∀ c ∈ a, c < 200) : SpV spLDig [.str (S a), .int (m : Int)] H (.bl (hasD a m)) := fun H1 e1 Q1 q1 E1 => ⟨a, m, rfl, h, hc, q1⟩
theorem ok_lvalue {f f0 : Addr} {fd fd0 : FuncData} (F : Fun K "_law_value" "_law_value" s_law_value f fd) (F_law_digits : Fun K "_law_digits" "_law_digits" s_law_digits f0 fd0) (b_law_digits : Binds K fd0 ["text", "most"] []) (g_law_digits : mg "_law_digits" = some (.ref f0)) (m_len : mg "len" = none) (m_int : mg "int" = none) : FnOk P w K mg base CX0 2 f fd ["text"] spValue := by
  have G_law_digits : FnOk P w K mg base CX0 1 f0 fd0 ["text", "most"] spLDig := ok_ldigits F_law_digits m_len
  refine F.ok sc_law_value (fun vs H Q E h => ?_) (fun cdv A outer s H vs Q E hr h => ?_)
  · obtain ⟨a, rfl, _⟩ := h
    rfl
  · obtain ⟨a, rfl, hz, hc, q⟩ := h
    refine ⟨_, (pss_cons (ps_set (i := 1) sc_law_value.nd rfl (.inl rfl) (pv 0))
        (Evl.pss_cut (ps_if (pt_cmpR op_eq (pe_slice C8.sl_txt (pv 0) po_none (po_some pe_int)) pe_str (nomark _)) (pss_one (ps_set (i := 1) sc_law_value.nd rfl (.inl rfl) (pe_slice C8.sl_txt (pv 0) (po_some pe_int) po_none))) pss_nil)
        (pss_cons (ps_set (i := 2) sc_law_value.nd rfl (.inl rfl) (pe_split (pv 1) pe_str))
        (pss_cons (ps_if (PW.pt (pw_or (pt_cmpR op_gt (pe_callB call_len (by rfl) m_len (by decide +kernel) (pa_cons (pv 2) pa_nil)) pe_int (nomark _)) (pw_or (pt_not (pt_val (pe_call G_law_digits (hr.mono (by decide)) (by rfl) g_law_digits F_law_digits.kp b_law_digits .nil pass0 (pa_cons (pe_ix ix_list (pv 2) pe_int (fun _ _ => rfl)) (pa_cons pe_int pa_nil))))) (pw_or1 (PW.pt (pw_and (pt_cmpR op_gt (pe_callB call_len (by rfl) m_len (by decide +kernel) (pa_cons (pe_ix ix_list (pv 2) pe_int (fun _ _ => rfl)) pa_nil)) pe_int (nomark _)) (pw_and1 (pt_cmpR op_eq (pe_ix ix_str (pe_ix ix_list (pv 2) pe_int (fun _ _ => rfl)) pe_int (fun _ _ => rfl)) pe_str (nomark _))))))))) (pss_one (ps_ret pe_non)) pss_nil)
        (pss_cons (ps_set (i := 3) sc_law_value.nd rfl (.inl rfl) (pe_op op_mulX (pe_callTy call_int_str (by rfl) m_int (by decide +kernel) (pa_cons (pe_ix ix_list (pv 2) pe_int (fun _ _ => rfl)) pa_nil)) pe_int))
        (Evl.pss_cut (ps_if (pt_cmpR op_eq (pe_callB call_len (by rfl) m_len (by decide +kernel) (pa_cons (pv 2) pa_nil)) pe_int (nomark _)) (pss_cons (ps_if (pt_not (pt_val (pe_call G_law_digits (hr.mono (by decide)) (by rfl) g_law_digits F_law_digits.kp b_law_digits .nil pass0 (pa_cons (pe_ix ix_list (pv 2) pe_int (fun _ _ => rfl)) (pa_cons pe_int pa_nil))))) (pss_one (ps_ret pe_non)) pss_nil)
        (pss_one (ps_set (i := 3) sc_law_value.nd rfl (.inl rfl) (pe_op op_add (pv 3) (pe_callTy call_int_str (by rfl) m_int (by decide +kernel) (pa_cons (pe_slice C8.sl_txt (pe_op op_add_str (pe_ix ix_list (pv 2) pe_int (fun _ _ => rfl)) pe_str) po_none (po_some pe_int)) pa_nil)))))) pss_nil)
        (Evl.pss_cut (ps_if (pt_cmpR op_eq (pe_slice C8.sl_txt (pv 0) po_none (po_some pe_int)) pe_str (nomark _)) (pss_one (ps_set (i := 3) sc_law_value.nd rfl (.inl rfl) (pe_op op_sub pe_int (pv 3)))) pss_nil)
        (pss_one (ps_ret (pv 3)))))))))), ?_⟩
    have hbl := body_len a
    refine q_asg (ev_var rfl) fun H1 e1 => ?_
    refine st_is (σ' := [_, _, _, _]) rfl ?_
    have evT : ∀ {σ : L2.St} {Hh : Hp}, σ[0]? = some (some (.str (S a))) → EvT (tTest (tOp rEq (tSl C8.rSlX (tVar 0) tNoPart (tPart (tC (.int 1)))) (tC (.str "-")))) σ Hh (neg a) := fun h0 => et_is (et_test (ev_op (ev_sl (w1 := a.take 1) (ev_var h0) eo_none (eo_some ev_c) (by omega) (SX.slice_to (by decide))) ev_c (rv_eq rfl))) (take_neg a)
    refine q_cut (M := fun σ' H' => σ' = [some (.str (S a)), some (.str (S (body a))), none, none] ∧ Ex H H') ?_ fun σ' H' M1 => ?_
    · refine s_when (b := neg a) (evT rfl) (fun hb H2 e2 => ?_) (fun hb H2 e2 => ?_)
      · refine s_asg (ev_sl (w1 := body a) (ev_var rfl) (eo_some ev_c) eo_none (by omega) ?_) fun H3 e3 => ⟨rfl, e1.trans (e2.trans e3)⟩
        rw [SX.slice_from (by decide)]
        cases a with
        | nil => exact absurd hb (by decide)
        | cons c r =>
          show S r = S (if c = 45 then r else c :: r)
          rw [if_pos (of_decide_eq_true hb)]
      · have e : body a = a := by
          cases a with
          | nil => rfl
          | cons c r =>
            show (if c = 45 then r else c :: r) = _
            rw [if_neg (of_decide_eq_false hb)]
        rw [e]
        exact ⟨rfl, e1.trans e2⟩
    obtain ⟨rfl, eM1⟩ := M1
    obtain ⟨p, rest, hws, hpl, hpc, hrl, hcase⟩ := ws_of (body a)
    refine q_asgL (el_split (c := 46) (ev_var rfl) ev_c (by decide) (by omega)) fun l H3 nl e3 hl => ?_
    refine st_is (σ' := [_, _, _, _]) rfl ?_
    rw [hws] at hl
    have tl : SqL K H3 l (V.str (S p) :: (rest.map S).map V.str) := sq_of hl
    have e13 := eM1.trans e3
    unfold rdA at q
    have lenIs : ∀ {Hh : Hp}, Ex H3 Hh → RC (fun xs H Q => ∃ x n, xs = [x] ∧ LenV K x H n ∧ Q (.int n) H) [.ref l] Hh (.int ((rest.length + 1 : Nat) : Int)) := fun eh => by
      have := rc_lenL (K := K) (ex_l eh tl)
      rw [show (V.str (S p) :: (rest.map S).map V.str).length = rest.length + 1 by rw [List.length_cons, List.length_map, List.length_map]] at this
      exact this
    have hp2 : ∀ c ∈ p, c < 200 := fun c hm => hc c (body_mem c (hpc c hm))
    refine q_when (b := decide (2 < ((rest.length + 1 : Nat) : Int)) || !whole p) (et_is (et_or (et_test (ev_op (ev_cb (ea_cons (ev_var rfl) ea_nil) (lenIs (Ex.refl _))) ev_c rv_I0)) fun _ => (et_or (b := decide (p.length > 1) && whole.neg0 p) (et_not (et_B (ev_call (ea_cons (ev_op (ev_var rfl) ev_c (rv_ixL tl atI_zero)) (ea_cons ev_c ea_nil)) (ldig_is (m := 4) (by omega) hp2)))) fun h2 => ?_)) ?_) (fun hb H4 e4 => ?_) (fun hb H4 e4 => ?_)
    · have h3 : hasD p 4 = true := by simpa using h2
      obtain ⟨pne, pl, pd⟩ := hasD_of h3
      obtain ⟨c, r, rfl⟩ : ∃ c r, p = c :: r := by
        cases p with
        | nil => exact absurd rfl pne
        | cons c r => exact ⟨c, r, rfl⟩
      refine et_is (et_and (a := decide ((c :: r).length > 1)) (b := decide (c = 48)) (et_is (et_test (ev_op (ev_cb (ea_cons (ev_op (ev_var rfl) ev_c (rv_ixL tl atI_zero)) ea_nil) (rc_lenS (by omega))) ev_c rv_I0)) (decide_eq_decide.mpr (by omega))) fun _ => (et_is (et_test (ev_op (ev_op (ev_op (ev_var rfl) ev_c (rv_ixL tl atI_zero)) ev_c (rv_ixS (by omega))) ev_c (rv_eq rfl))) ?_)) rfl
      rw [show decide (V.str (S [c]) = V.str "0") = decide ([c] = [48]) from str_eq]
      exact decide_eq_decide.mpr (by simp)
    · congr 1
      unfold whole
      cases hh : hasD p 4 with
      | false => rfl
      | true =>
        obtain ⟨pne, pl, pd⟩ := hasD_of hh
        cases p with
        | nil => exact absurd rfl pne
        | cons c r =>
          show (!true || (decide ((c :: r).length > 1) && decide (c = 48))) = !(true && !(decide (c = 48) && !decide (c :: r = [48])))
          by_cases h48 : c = 48
          · subst h48
            cases r with
            | nil => rfl
            | cons d r => simp
          · rw [decide_eq_false h48, Bool.and_false]
            rfl
    · refine s_ret ev_c fun H5 e5 => ?_
      have h5 := q H5 (e13.trans (e4.trans e5))
      have e : says (parts (body a)).1 (parts (body a)).2 = none := by
        rw [Bool.or_eq_true] at hb
        rcases hb with hb | hb
        · have hb2 := of_decide_eq_true hb
          rcases hcase with ⟨hr, _⟩ | ⟨q2, hr, _⟩ | ⟨_, q2, hpar, hd⟩
          · rw [hr] at hb2
            exact absurd hb2 (by simp)
          · rw [hr] at hb2
            exact absurd hb2 (by simp)
          · rw [hpar]
            unfold says
            split
            · show (if hasD q2 7 = true then _ else none) = none
              rw [hd]
              rfl
            · rfl
        · have hw : whole p = false := by simpa using hb
          have e2 : (parts (body a)).1 = p := by
            rcases hcase with ⟨_, e⟩ | ⟨_, _, e, _⟩ | ⟨_, _, e, _⟩ <;> rw [e]
          rw [e2]
          unfold says
          rw [hw]
          rfl
      rw [e] at h5
      exact h5
    rw [Bool.or_eq_false_iff] at hb
    have hw : whole p = true := by simpa using hb.2
    have hl2 := of_decide_eq_false hb.1
    have hw2 : hasD p 4 = true := by
      unfold whole at hw
      rw [Bool.and_eq_true] at hw
      exact hw.1
    obtain ⟨pne, pl, pd⟩ := hasD_of hw2
    have pv := val_small pd (by omega)
    replace tl := ex_l e4 tl
    have e14 := e13.trans e4
    refine q_asg (ev_op (ev_cb (ea_cons (ev_op (ev_var rfl) ev_c (rv_ixL tl atI_zero)) ea_nil) (rc_int pd pne (by omega))) ev_c (rv_I (mulc (Nat.lt_of_le_of_lt (show (val p).natAbs ≤ 10000000 by omega) (by decide +kernel)) (by decide +kernel)))) fun H5 e5 => ?_
    refine st_is (σ' := [_, _, _, _]) rfl ?_
    replace tl := ex_l e5 tl
    have e15 := e14.trans e5
    refine q_cut (M := fun σ' H' => ∃ v : Int, σ' = [some (.str (S a)), some (.str (S (body a))), some (.ref l), some (.int v)] ∧ Ex H H' ∧ says (parts (body a)).1 (parts (body a)).2 = some v) ?_ fun σ' H' M2 => ?_
    · rcases hcase with ⟨hr, hpar⟩ | ⟨q2, hr, hpar, hqc⟩ | ⟨hr, _⟩
      · refine s_when (b := false) (et_is (et_test (ev_op (ev_cb (ea_cons (ev_var rfl) ea_nil) (lenIs (e4.trans e5))) ev_c (rv_eq rfl))) (by rw [hr]; rfl)) (fun z => nomatch z) (fun _ H6 e6 => ⟨_, rfl, e15.trans e6, ?_⟩)
        rw [hpar]
        unfold says
        rw [if_pos hw]
      · refine s_when (b := true) (et_is (et_test (ev_op (ev_cb (ea_cons (ev_var rfl) ea_nil) (lenIs (e4.trans e5))) ev_c (rv_eq rfl))) (by rw [hr]; rfl)) (fun _ H6 e6 => ?_) (fun z => nomatch z)
        subst hr
        replace tl := ex_l e6 tl
        have hq2 := hrl q2 (by simp)
        refine q_when (et_not (et_B (ev_call (ea_cons (ev_op (ev_var rfl) ev_c (rv_ixL tl rfl)) (ea_cons ev_c ea_nil)) (ldig_is (m := 7) (by omega) (fun c hm => hc c (body_mem c (hqc c hm))))))) (fun hb7 H7 e7 => ?_) (fun hb7 H7 e7 => ?_)
        · refine s_ret ev_c fun H8 e8 => ?_
          have h8 := q H8 (e15.trans (e6.trans (e7.trans e8)))
          have e : says (parts (body a)).1 (parts (body a)).2 = none := by
            rw [hpar]
            unfold says
            rw [if_pos hw]
            show (if hasD q2 7 = true then _ else none) = none
            rw [if_neg (by simpa using hb7)]
          rw [e] at h8
          exact h8
        · have hh : hasD q2 7 = true := by simpa using hb7
          obtain ⟨_, zl, zd⟩ := hasD_of hh
          have fl := fill_ne zl
          refine s_asg (ev_op (ev_var rfl) (ev_cb (ea_cons (ev_sl (w1 := Ra.fill q2) (ev_op (ev_op (ev_var rfl) ev_c (rv_ixL (ex_l e7 tl) rfl)) ev_c (rv_cat (b := [48, 48, 48, 48, 48, 48, 48]) (by simp; omega))) eo_none (eo_some ev_c) (by simp; omega) (by
            rw [SX.slice_to (by decide)]
            exact congrArg S (fill_take zl))) ea_nil) (rc_int (fill_dig zd) fl.1 (by omega))) rv_I0) fun H8 e8 => ⟨_, rfl, e15.trans (e6.trans (e7.trans e8)), ?_⟩
          rw [hpar]
          unfold says
          rw [if_pos hw]
          show (if hasD q2 7 = true then _ else none) = _
          rw [if_pos hh]
      · exact absurd hl2 (by
          intro z
          exact z (by omega))
    obtain ⟨v, rfl, eM2, hsay⟩ := M2
    rw [hsay] at q
    refine q_cut (M := fun σ' H' => σ' = [some (.str (S a)), some (.str (S (body a))), some (.ref l), some (.int (sg (neg a) v))] ∧ Ex H H') ?_ fun σ' H' M3 => ?_
    · refine s_when (b := neg a) (evT rfl) (fun hb H6 e6 => ?_) (fun hb H6 e6 => ?_)
      · refine s_asg (ev_is (ev_op ev_c (ev_var rfl) rv_I0) (w := .int (sg (neg a) v)) (congrArg V.int (by
          unfold sg
          rw [if_pos hb]
          omega))) fun H7 e7 => ⟨rfl, eM2.trans (e6.trans e7)⟩
      · refine ⟨?_, eM2.trans e6⟩
        unfold sg
        rw [if_neg (by rw [hb]; decide)]
    obtain ⟨rfl, eM3⟩ := M3
    exact s_ret (ev_var rfl) fun H8 e8 => q H8 (eM3.trans e8)
def charsL : List Nat := [48, 49, 50, 51, 52, 53, 54, 55, 56, 57, 46, 45, 32, 43, 101]
theorem item15 {i : Int} (h : 0 ≤ i ∧ i < 15) : ∃ c : Nat, atI charsL i = some c ∧ c < 200 := by
  obtain ⟨j, rfl⟩ := Int.eq_ofNat_of_zero_le h.1
  have key : ∀ j : Nat, j < 15 → (match atI charsL (j : Int) with | some c => decide (c < 200) | none => false) = true := by decide +kernel
  have h1 := key j (by omega)
  cases e : atI charsL (j : Int) with
  | none =>
    rw [e] at h1
    exact absurd h1 (by simp)
  | some c =>
    rw [e] at h1
    exact ⟨c, rfl, of_decide_eq_true h1⟩
theorem rv_ixC {H : Hp} {i : Int} {c : Nat} (h : atI charsL i = some c) : RV rIxS (.str "0123456789.- +e") (.int i) H (.str (S [c])) := fun H1 _ Q q => ⟨"0123456789.- +e", i, c, rfl, rfl, by decide +kernel, h, q H1 (Ex.refl _)⟩
def spNear : Sp := fun vs H Q _ => ∃ n : Nat, vs = [.int (n : Int)] ∧ ∀ a : List Nat, a.length ≤ 410 → (∀ c ∈ a, c < 200) → RetV (.str (S a)) H Q
theorem ok_near {f f0 : Addr} {fd fd0 : FuncData} (F : Fun K "_law_near" "_law_near" s_law_near f fd) (G_angle_text : FnOk P w K mg base CX0 2 f0 fd0 ["angle"] spATxt) (F_angle_text : Fun K "angle_text" "angle_text" s_angle_text f0 fd0) (b_angle_text : Binds K fd0 ["angle"] []) (g_angle_text : mg "angle_text" = some (.ref f0))
    (m_len : mg "len" = none) (m_int : mg "int" = none) (m_range : mg "range" = none) : FnOk P w K mg base CX0 3 f fd ["number"] spNear := by
  refine F.ok sc_law_near (fun vs H Q E h => ?_) (fun cdv A outer s H vs Q E hr h => ?_)
  · obtain ⟨n, rfl, _⟩ := h
    rfl
  · obtain ⟨n, rfl, q⟩ := h
    refine ⟨_, (pss_cons (ps_set (i := 1) sc_law_near.nd rfl (.inl rfl) pe_str)
        (pss_cons (ps_if (pt_cmpR op_eq (pe_op op_mod (pe_callTy call_int1 (by rfl) m_int (by decide +kernel) (pa_cons (pv 0) pa_nil)) pe_int) pe_int (nomark _)) (pss_cons (ps_set (i := 2) sc_law_near.nd rfl (.inl rfl) pe_str)
        (pss_cons (ps_for PassesOwn.never rfl (pi_range1 (by rfl) m_range (pa_cons (pe_op op_mod (pe_callTy call_int1 (by rfl) m_int (by decide +kernel) (pa_cons (pe_op op_fdiv (pv 0) pe_int) pa_nil)) pe_int) pa_nil)) (pg_name (i := 3) sc_law_near.nd rfl (.inl rfl)) (pss_one (ps_set (i := 2) sc_law_near.nd rfl (.inl rfl) (pe_op op_add_str (pv 2) (pe_ix ix_str (pv 1) (pe_op op_mod (pe_callTy call_int1 (by rfl) m_int (by decide +kernel) (pa_cons (pe_op op_fdiv (pv 0) (pe_op op_add pe_int (pe_op op_mulX (pv 3) pe_int))) pa_nil)) pe_int) (fun _ _ => rfl))))))
        (pss_one (ps_ret (pv 2))))) pss_nil)
        (pss_cons (ps_set (i := 2) sc_law_near.nd rfl (.inl rfl) (pe_call G_angle_text (hr.mono (by decide)) (by rfl) g_angle_text F_angle_text.kp b_angle_text .nil pass0 (pa_cons (pe_op op_sub (pe_op op_mod (pe_callTy call_int1 (by rfl) m_int (by decide +kernel) (pa_cons (pe_op op_fdiv (pv 0) pe_int) pa_nil)) pe_int) pe_int) pa_nil)))
        (pss_cons (ps_set (i := 4) sc_law_near.nd rfl (.inl rfl) (pe_op op_mod (pe_callTy call_int1 (by rfl) m_int (by decide +kernel) (pa_cons (pe_op op_fdiv (pv 0) pe_int) pa_nil)) (pe_op op_add (pe_callB call_len (by rfl) m_len (by decide +kernel) (pa_cons (pv 2) pa_nil)) pe_int)))
        (pss_cons (ps_set (i := 5) sc_law_near.nd rfl (.inl rfl) (pe_ix ix_str (pv 1) (pe_op op_mod (pe_callTy call_int1 (by rfl) m_int (by decide +kernel) (pa_cons (pe_op op_fdiv (pv 0) pe_int) pa_nil)) pe_int) (fun _ _ => rfl)))
        (pss_cons (ps_set (i := 6) sc_law_near.nd rfl (.inl rfl) (pe_op op_mod (pe_callTy call_int1 (by rfl) m_int (by decide +kernel) (pa_cons (pv 0) pa_nil)) pe_int))
        (pss_cons (ps_if (pt_cmpR op_eq (pv 6) pe_int (nomark _)) (pss_one (ps_ret (pe_op op_add_str (pe_slice C8.sl_txt (pv 2) po_none (po_some (pv 4))) (pe_slice C8.sl_txt (pv 2) (po_some (pe_op op_add (pv 4) pe_int)) po_none)))) pss_nil)
        (pss_cons (ps_if (pt_cmpR op_eq (pv 6) pe_int (nomark _)) (pss_one (ps_ret (pe_op op_add_str (pe_op op_add_str (pe_slice C8.sl_txt (pv 2) po_none (po_some (pv 4))) (pv 5)) (pe_slice C8.sl_txt (pv 2) (po_some (pv 4)) po_none)))) pss_nil)
        (pss_one (ps_ret (pv 2))))))))))), ?_⟩
    refine q_asg ev_c fun H1 e1 => ?_
    refine st_is (σ' := [_, _, _, _, _, _, _]) rfl ?_
    refine q_when (et_test (ev_op (ev_op (ev_cb (ea_cons (ev_var rfl) ea_nil) rc_intI) ev_c (rv_I (by decide))) ev_c (rv_eq rfl))) (fun hb H2 e2 => ?_) (fun hb H2 e2 => ?_)
    · refine q_asg ev_c fun H3 e3 => ?_
      refine st_is (σ' := [_, _, _, _, _, _, _]) rfl ?_
      refine q_forR1 (n := (n : Int) / 4 % 7) (ea_cons (ev_op (ev_cb (ea_cons (ev_op (ev_var rfl) ev_c (rv_I ⟨by decide, by decide⟩)) ea_nil) rc_intI) ev_c (rv_I (by decide))) ea_nil) ⟨by omega, by omega⟩
        (fun i σ' H' => ∃ (x3 : Option V) (a : List Nat), σ' = [some (.int (n : Int)), some (.str "0123456789.- +e"), some (.str (S a)), x3, none, none, none] ∧ a.length ≤ i ∧ (∀ c ∈ a, c < 200) ∧ Ex H H') (fun H4 e4 => ⟨none, [], rfl, Nat.le_refl _, fun c hc => absurd hc (by simp), e1.trans (e2.trans (e3.trans e4))⟩) (fun i σ' H' hi pp => ?_) (fun σ' H' pp => ?_)
      · obtain ⟨x3, a, rfl, hal, hac, eH⟩ := pp
        refine st_is (σ' := [_, _, _, _, _, _, _]) rfl ?_
        have hd : (0 : Int) < 64 + (i : Int) * 31 ∧ 64 + (i : Int) * 31 < 10000 := by omega
        obtain ⟨c, hc, hc2⟩ := item15 (i := (n : Int) / (64 + (i : Int) * 31) % 15) ⟨Int.emod_nonneg _ (by decide), Int.emod_lt_of_pos _ (by decide)⟩
        refine s_asg (ev_op (ev_var rfl) (ev_op (ev_var rfl) (ev_op (ev_cb (ea_cons (ev_op (ev_var rfl) (ev_op ev_c (ev_op (ev_var rfl) ev_c (rv_I (mulc (Nat.lt_of_le_of_lt (show (i : Int).natAbs ≤ 10 by omega) (by decide +kernel)) (by decide +kernel)))) rv_I0) (rv_I ⟨hd.1, Int.lt_trans hd.2 (by decide)⟩)) ea_nil) rc_intI) ev_c (rv_I (by decide))) (rv_ixC hc)) (rv_cat (b := [c]) (by simp; omega))) fun H4 e4 => ⟨_, a ++ [c], rfl, by simp; omega, fun d hd => ?_, eH.trans e4⟩
        rcases List.mem_append.mp hd with h | h
        · exact hac d h
        · rw [List.mem_singleton] at h
          omega
      · obtain ⟨x3, a, rfl, hal, hac, eH⟩ := pp
        exact s_ret (ev_var rfl) fun H4 e4 => q a (by omega) hac H4 (eH.trans e4)
    · obtain ⟨z, hz, hz2⟩ : ∃ z : Int, (n : Int) / 64 % 3600000001 - 1800000000 = z ∧ z.natAbs ≤ 1000000000000 := ⟨_, rfl, by omega⟩
      refine q_asg (ev_call (z := .str (S (angL z))) (ea_cons (ev_is (ev_op (ev_op (ev_cb (ea_cons (ev_op (ev_var rfl) ev_c (rv_I ⟨by decide, by decide⟩)) ea_nil) rc_intI) ev_c (rv_I (by decide))) ev_c rv_I0) (congrArg V.int hz)) ea_nil) (fun H3 e3 Q3 q3 E3 => ⟨z, rfl, hz2, q3⟩)) fun H3 e3 => ?_
      refine st_is (σ' := [_, _, _, _, _, _, _]) rfl ?_
      have hal := angL_len hz2
      have hac : ∀ c ∈ angL z, c < 200 := fun c hc => Nat.lt_trans (angL_code c hc) (by decide)
      generalize angL z = a at *
      obtain ⟨pl, hpl, hpl2⟩ : ∃ pl : Nat, (n : Int) / 16 % ((a.length : Int) + 1) = (pl : Int) ∧ pl ≤ a.length := by
        have h1 := Int.emod_nonneg ((n : Int) / 16) (show (a.length : Int) + 1 ≠ 0 by omega)
        have h2 := Int.emod_lt_of_pos ((n : Int) / 16) (show (0 : Int) < (a.length : Int) + 1 by omega)
        exact ⟨((n : Int) / 16 % ((a.length : Int) + 1)).toNat, by omega, by omega⟩
      refine q_asg (ev_is (ev_op (ev_cb (ea_cons (ev_op (ev_var rfl) ev_c (rv_I ⟨by decide, by decide⟩)) ea_nil) rc_intI) (ev_op (ev_cb (ea_cons (ev_var rfl) ea_nil) (rc_lenS (by omega))) ev_c rv_I0) (rv_I (by show (0 : Int) < (a.length : Int) + 1; omega))) (congrArg V.int hpl)) fun H4 e4 => ?_
      refine st_is (σ' := [_, _, _, _, _, _, _]) rfl ?_
      obtain ⟨c, hc, hc2⟩ := item15 (i := (n : Int) / 1024 % 15) ⟨Int.emod_nonneg _ (by decide), Int.emod_lt_of_pos _ (by decide)⟩
      refine q_asg (ev_op (ev_var rfl) (ev_op (ev_cb (ea_cons (ev_op (ev_var rfl) ev_c (rv_I ⟨by decide, by decide⟩)) ea_nil) rc_intI) ev_c (rv_I (by decide))) (rv_ixC hc)) fun H5 e5 => ?_
      refine st_is (σ' := [_, _, _, _, _, _, _]) rfl ?_
      refine q_asg (ev_op (ev_cb (ea_cons (ev_var rfl) ea_nil) rc_intI) ev_c (rv_I (by decide))) fun H6 e6 => ?_
      refine st_is (σ' := [_, _, _, _, _, _, _]) rfl ?_
      have e06 := e1.trans (e2.trans (e3.trans (e4.trans (e5.trans e6))))
      have ht : (a.take pl).length ≤ 400 := by rw [List.length_take]; omega
      have hd1 : (a.drop (pl + 1)).length ≤ 400 := by rw [List.length_drop]; omega
      have hd2 : (a.drop pl).length ≤ 400 := by rw [List.length_drop]; omega
      have evTo : ∀ {σ : L2.St} {Hh : Hp}, σ[2]? = some (some (.str (S a))) → σ[4]? = some (some (.int (pl : Int))) → Ev (tSl C8.rSlX (tVar 2) tNoPart (tPart (tVar 4))) σ Hh (.str (S (a.take pl))) := fun h2 h4 => ev_sl (ev_var h2) eo_none (eo_some (ev_var h4)) (by omega) (SX.slice_to (by omega))
      refine q_when (et_test (ev_op (ev_var rfl) ev_c (rv_eq rfl))) (fun hb7 H7 e7 => ?_) (fun hb7 H7 e7 => ?_)
      · exact s_ret (ev_op (evTo rfl rfl) (ev_sl (w1 := a.drop (pl + 1)) (ev_var rfl) (eo_some (ev_op (ev_var rfl) ev_c rv_I0)) eo_none (by omega) (by
          rw [SX.slice_from (by omega)]
          rfl)) (rv_cat (by omega))) fun H8 e8 => q _ (by rw [List.length_append, List.length_take, List.length_drop]; omega) (fun d hd => by
          rcases List.mem_append.mp hd with h | h
          · exact hac d (List.mem_of_mem_take h)
          · exact hac d (List.mem_of_mem_drop h)) H8 (e06.trans (e7.trans e8))
      refine q_when (et_test (ev_op (ev_var rfl) ev_c (rv_eq rfl))) (fun hb8 H8 e8 => ?_) (fun hb8 H8 e8 => ?_)
      · exact s_ret (ev_op (ev_op (evTo rfl rfl) (ev_var rfl) (rv_cat (by simp; omega))) (ev_sl (w1 := a.drop pl) (ev_var rfl) (eo_some (ev_var rfl)) eo_none (by omega) (by
          rw [SX.slice_from (by omega)]
          rfl)) (rv_cat (by simp; omega))) fun H9 e9 => q _ (by rw [List.length_append, List.length_append, List.length_take, List.length_drop, List.length_singleton]; omega) (fun d hd => by
          rcases List.mem_append.mp hd with h | h
          · rcases List.mem_append.mp h with h | h
            · exact hac d (List.mem_of_mem_take h)
            · rw [List.mem_singleton] at h
              omega
          · exact hac d (List.mem_of_mem_drop h)) H9 (e06.trans (e7.trans (e8.trans e9)))
      exact s_ret (ev_var rfl) fun H9 e9 => q a (by omega) hac H9 (e06.trans (e7.trans (e8.trans e9)))
/-! ### the law -/
def spLaw (K : PySem.W.Frag) : Sp := fun vs H Q _ => ∃ (a : Addr) (ns : List Int), vs = [.ref a] ∧ SqL K H a (ns.map V.int) ∧ ns.length ≤ 63 ∧ ∀ H', Q (.bl true) H'
theorem nes {x : V} : (!decide (x = x)) = false := by
  rw [decide_eq_true rfl]
  rfl
theorem item7 {i : Int} (h : 0 ≤ i ∧ i < 7) : ∃ b : List Nat, atI [V.str " ", V.str " ", V.str " ", V.str "", V.str "  ", V.str ",", V.str " 0 "] i = some (.str (S b)) ∧ b.length ≤ 3 ∧ ∀ c ∈ b, c < 200 := by
  have h3 : i = 0 ∨ i = 1 ∨ i = 2 ∨ i = 3 ∨ i = 4 ∨ i = 5 ∨ i = 6 := by omega
  rcases h3 with rfl | rfl | rfl | rfl | rfl | rfl | rfl
  · exact ⟨[32], rfl, by decide, by decide⟩
  · exact ⟨[32], rfl, by decide, by decide⟩
  · exact ⟨[32], rfl, by decide, by decide⟩
  · exact ⟨[], rfl, by decide, by decide⟩
  · exact ⟨[32, 32], rfl, by decide, by decide⟩
  · exact ⟨[44], rfl, by decide, by decide⟩
  · exact ⟨[32, 48, 32], rfl, by decide, by decide⟩
theorem flat_opt (o : Option Int) : flatV (optV o) = true := by cases o <;> rfl
theorem nin_opt (o1 o2 : Option Int) : (!inV .non [optV o1, optV o2]) = (o1.isSome && o2.isSome) := by cases o1 <;> cases o2 <;> rfl
theorem rv_nin {H : Hp} {p : Addr} {o1 o2 : Option Int} (h : SqT K H p [optV o1, optV o2]) : RV (rIn K true) .non (.ref p) H (.bl (o1.isSome && o2.isSome)) := fun H1 e Q q => ⟨p, _, rfl, .inr (ex_t e h), rfl, by
  show (flatV (optV o1) && (flatV (optV o2) && true)) = true
  rw [flat_opt, flat_opt]
  rfl, by
  rw [if_pos rfl, nin_opt]
  exact q H1 (Ex.refl _)⟩
theorem ret_cmp {sp : Sp} {E : L2.St → XK} {t : TA} {tb tc : TE} {r : R2} {σ : L2.St} {H : Hp} {D : Ends} (h : tCallS sp E t σ H (fun x H1 => tb σ H1 fun y H2 => r x y H2 fun v H3 => ∃ c, v = .bl c ∧ if c = true then tc σ H3 D.rt else D.rt (.bl false) H3)) : tRet (tAndV (tOp r (tCallS sp E t) tb) tc) D σ H := h
theorem value_is {H : Hp} {a : List Nat} (h : a.length ≤ 900) (hc : ∀ c ∈ a, c < 200) : SpV spValue [.str (S a)] H (optV (rdA a)) := fun H1 e1 Q1 q1 E1 => ⟨a, rfl, h, hc, q1⟩
theorem ok_law {f f0 f1 f2 f3 f4 f5 f6 f7 f8 f10 f11 f12 f13 f14 CI CP : Addr} {fd fd0 fd1 fd2 fd3 fd4 fd5 fd6 fd7 fd8 fd10 fd11 fd12 fd13 fd14 : FuncData} (F : Fun K "law" "law" s_law f fd) (T : Errs K mg "InvalidText" CI CP)
    (F_digits_of : Fun K "digits_of" "digits_of" s_digits_of f0 fd0) (F_is_point : Fun K "is_point" "is_point" s_is_point f1 fd1) (F_is_latitude : Fun K "is_latitude" "is_latitude" s_is_latitude f2 fd2) (F_is_longitude : Fun K "is_longitude" "is_longitude" s_is_longitude f3 fd3) (F_angle_text : Fun K "angle_text" "angle_text" s_angle_text f4 fd4) (F_read_angle : Fun K "read_angle" "read_angle" s_read_angle f5 fd5) (F_read_point : Fun K "read_point" "read_point" s_read_point f6 fd6) (F_sign_text : Fun K "sign_text" "sign_text" s_sign_text f7 fd7) (F_has_digits : Fun K "has_digits" "has_digits" s_has_digits f8 fd8) (F_law_cell : Fun K "_law_cell" "_law_cell" s_law_cell f10 fd10) (F_law_rich : Fun K "_law_rich" "_law_rich" s_law_rich f11 fd11) (F_law_digits : Fun K "_law_digits" "_law_digits" s_law_digits f12 fd12) (F_law_value : Fun K "_law_value" "_law_value" s_law_value f13 fd13) (F_law_near : Fun K "_law_near" "_law_near" s_law_near f14 fd14)
    (b_digits_of : Binds K fd0 ["n"] []) (b_is_point : Binds K fd1 ["value"] []) (b_is_latitude : Binds K fd2 ["angle"] []) (b_is_longitude : Binds K fd3 ["angle"] []) (b_angle_text : Binds K fd4 ["angle"] []) (b_read_angle : Binds K fd5 ["text"] []) (b_read_point : Binds K fd6 ["text"] []) (b_sign_text : Binds K fd7 ["n"] []) (b_has_digits : Binds K fd8 ["text", "most"] []) (b_law_cell : Binds K fd10 ["script", "k"] []) (b_law_rich : Binds K fd11 ["cell"] []) (b_law_digits : Binds K fd12 ["text", "most"] []) (b_law_value : Binds K fd13 ["text"] []) (b_law_near : Binds K fd14 ["number"] [])
    (g_digits_of : mg "digits_of" = some (.ref f0)) (g_is_point : mg "is_point" = some (.ref f1)) (g_is_latitude : mg "is_latitude" = some (.ref f2)) (g_is_longitude : mg "is_longitude" = some (.ref f3)) (g_angle_text : mg "angle_text" = some (.ref f4)) (g_read_angle : mg "read_angle" = some (.ref f5)) (g_read_point : mg "read_point" = some (.ref f6)) (g_sign_text : mg "sign_text" = some (.ref f7)) (g_has_digits : mg "has_digits" = some (.ref f8)) (g_law_cell : mg "_law_cell" = some (.ref f10)) (g_law_rich : mg "_law_rich" = some (.ref f11)) (g_law_digits : mg "_law_digits" = some (.ref f12)) (g_law_value : mg "_law_value" = some (.ref f13)) (g_law_near : mg "_law_near" = some (.ref f14))
    {t0 t1 t2 t3 t4 t5 t6 : Tok} (g_PIECE_DIGITS : mg "PIECE_DIGITS" = some (.int 64 t0)) (g_PIECE : mg "PIECE" = some (.int 10000000000000000000000000000000000000000000000000000000000000000 t1)) (g_DEGREE : mg "DEGREE" = some (.int 10000000 t2)) (g_RIGHT_ANGLE : mg "RIGHT_ANGLE" = some (.int 900000000 t3)) (g_HALF_TURN : mg "HALF_TURN" = some (.int 1800000000 t4)) (g_PLACES : mg "PLACES" = some (.int 7 t5)) (g_MOST_WHOLE_DIGITS : mg "MOST_WHOLE_DIGITS" = some (.int 4 t6))
    (m_len : mg "len" = none) (m_abs : mg "abs" = none) (m_int : mg "int" = none) (m_str : mg "str" = none) (m_divmod : mg "divmod" = none) (m_reversed : mg "reversed" = none) (m_range : mg "range" = none) (m_isinstance : mg "isinstance" = none) : FnOk P w K mg base CX0 4 f fd ["script"] (spLaw K) := by
  have G_digits_of : FnOk P w K mg base CX0 1 f0 fd0 ["n"] spDigits := ok_digits F_digits_of g_PIECE g_PIECE_DIGITS m_divmod m_str m_reversed
  have G_angle_text : FnOk P w K mg base CX0 2 f4 fd4 ["angle"] spATxt := ok_atext F_angle_text G_digits_of F_digits_of b_digits_of g_digits_of F_sign_text b_sign_text g_sign_text g_DEGREE g_PLACES m_abs m_str m_divmod
  have G_read_angle : FnOk P w K mg base (L2.CX P w) 2 f5 fd5 ["text"] (spRead CI) := ok_read F_read_angle T F_has_digits b_has_digits g_has_digits g_DEGREE g_PLACES g_MOST_WHOLE_DIGITS m_len m_int
  have G_read_point : FnOk P w K mg base (L2.CX P w) 3 f6 fd6 ["text"] (spReadPt CI) := ok_readpt F_read_point T F_has_digits b_has_digits g_has_digits F_read_angle b_read_angle g_read_angle F_is_point b_is_point g_is_point F_is_latitude b_is_latitude g_is_latitude F_is_longitude b_is_longitude g_is_longitude g_DEGREE g_PLACES g_MOST_WHOLE_DIGITS g_RIGHT_ANGLE g_HALF_TURN m_len m_int
  have G_law_cell : FnOk P w K mg base CX0 1 f10 fd10 ["script", "k"] (spCell K) := ok_cell F_law_cell m_len
  have G_law_rich : FnOk P w K mg base CX0 1 f11 fd11 ["cell"] spRich := ok_rich F_law_rich m_abs m_int
  have G_law_value : FnOk P w K mg base CX0 2 f13 fd13 ["text"] spValue := ok_lvalue F_law_value F_law_digits b_law_digits g_law_digits m_len m_int
  have G_law_near : FnOk P w K mg base CX0 3 f14 fd14 ["number"] spNear := ok_near F_law_near G_angle_text F_angle_text b_angle_text g_angle_text m_len m_int m_range
  refine F.ok sc_law (fun vs H Q E h => ?_) (fun cdv A outer s H vs Q E hr h => ?_)
  · obtain ⟨a, ns, rfl, _⟩ := h
    rfl
  · obtain ⟨sa, ns, rfl, hS, hl, fin⟩ := h
    refine ⟨_, (pss_cons (ps_set (i := 1) sc_law.nd rfl (.inl rfl) (pe_call G_law_near (hr.mono (by decide)) (by rfl) g_law_near F_law_near.kp b_law_near .nil pass0 (pa_cons (pe_call G_law_rich (hr.mono (by decide)) (by rfl) g_law_rich F_law_rich.kp b_law_rich .nil pass0 (pa_cons (pe_call G_law_cell (hr.mono (by decide)) (by rfl) g_law_cell F_law_cell.kp b_law_cell .nil pass0 (pa_cons (pv 0) (pa_cons pe_int pa_nil))) pa_nil)) pa_nil)))
        (pss_cons (ps_set (i := 2) sc_law.nd rfl (.inl rfl) (pe_call G_law_near (hr.mono (by decide)) (by rfl) g_law_near F_law_near.kp b_law_near .nil pass0 (pa_cons (pe_call G_law_rich (hr.mono (by decide)) (by rfl) g_law_rich F_law_rich.kp b_law_rich .nil pass0 (pa_cons (pe_call G_law_cell (hr.mono (by decide)) (by rfl) g_law_cell F_law_cell.kp b_law_cell .nil pass0 (pa_cons (pv 0) (pa_cons pe_int pa_nil))) pa_nil)) pa_nil)))
        (pss_cons (ps_set (i := 3) sc_law.nd rfl (.inl rfl) (pe_lst pa_nil))
        (pss_cons (ps_for PassesOwn.never rfl (pi_tup (pe_tup (pa_cons (pv 1) (pa_cons (pv 2) pa_nil)))) (pg_name (i := 4) sc_law.nd rfl (.inl rfl)) (pss_cons (ps_set (i := 5) sc_law.nd rfl (.inl rfl) (pe_call G_law_value (hr.mono (by decide)) (by rfl) g_law_value F_law_value.kp b_law_value .nil pass0 (pa_cons (pv 4) pa_nil)))
        (pss_cons (ps_expr (pe_bm PySem.F.plainAttrs_list PySem.F.slot_list_append PySem.F.type_list_append mt_append (pv 3) (pa_cons (pv 5) pa_nil)))
        (pss_one (ps_try_as (i := 6) (tb := fun W => tIfS (tOr (tTest (tOp rNe (tCallS (spRead CI) (WE W) (tCons (tVar 4) tNil)) (tVar 5))) (tTest (tOp (fun x y H Q => y = .non ∧ Q (.bl (decide (x = .non))) H) (tVar 5) (tC .non)))) (tRet (tC (.bl false))) tNext)
          (ts := fun a cls d => fun D σ H => (cls = .ref CI ∧ d = none) ∧ tIfS (tOr (tNot (tB (tCB (rIsE K CI a) (tCons (tVar 6) (tCons (tC (.ref CI)) tNil))))) (tTest (tOp (fun x y H Q => y = .non ∧ Q (.bl (!decide (x = .non))) H) (tVar 5) (tC .non)))) (tRet (tC (.bl false))) tNext D σ H)
          (Wout := fun _ _ _ _ => False) rfl rfl sc_law.nd rfl rfl ⟨rfl, by decide, Or.inl T.gP⟩ takes0
          (fun W pn xe tk _ => pss_one (ps_if (PW.pt (pw_or (pt_cmpR op_ne (pe_callS G_read_angle (hr.mono (by decide)) (by rfl) g_read_angle F_read_angle.kp b_read_angle (fun σ => passAt tk σ) (pa_cons (pv 4) pa_nil)) (pv 5) (nomark _)) (pw_or1 (pt_cmpR op_isN (pv 5) pe_non (nomark _))))) (pss_one (ps_ret pe_bl)) pss_nil))
          (fun a oe cls d pn hz hf => pss_if fun hcls => by
            obtain ⟨rfl, rfl⟩ := hcls
            exact pss_one (ps_if (PW.pt (pw_or (pt_not (pt_val (pe_callB (call_isE T.ec hz hf) (by rfl) m_isinstance (by decide +kernel) (pa_cons (pv 6) (pa_cons (pe_glob (by rfl) T.gU (show RelV (.ref CI) _ from rfl)) pa_nil))))) (pw_or1 (pt_cmpR op_notN (pv 5) pe_non (nomark _))))) (pss_one (ps_ret pe_bl)) pss_nil)))))))
        (pss_cons (ps_set (i := 7) sc_law.nd rfl (.inl rfl) (pe_ix ix_list (pe_lst (pa_cons pe_str (pa_cons pe_str (pa_cons pe_str (pa_cons pe_str (pa_cons pe_str (pa_cons pe_str (pa_cons pe_str pa_nil)))))))) (pe_op op_mod (pe_callTy call_int1 (by rfl) m_int (by decide +kernel) (pa_cons (pe_call G_law_rich (hr.mono (by decide)) (by rfl) g_law_rich F_law_rich.kp b_law_rich .nil pass0 (pa_cons (pe_call G_law_cell (hr.mono (by decide)) (by rfl) g_law_cell F_law_cell.kp b_law_cell .nil pass0 (pa_cons (pv 0) (pa_cons pe_int pa_nil))) pa_nil)) pa_nil)) pe_int) (fun _ _ => rfl)))
        (pss_cons (ps_set (i := 8) sc_law.nd rfl (.inl rfl) (pe_split (pe_op op_add_str (pe_op op_add_str (pv 1) (pv 7)) (pv 2)) pe_str))
        (pss_cons (ps_set (i := 5) sc_law.nd rfl (.inl rfl) pe_non)
        (Evl.pss_cut (ps_if (pt_cmpR op_eq (pe_callB call_len (by rfl) m_len (by decide +kernel) (pa_cons (pv 8) pa_nil)) pe_int (nomark _)) (pss_cons (ps_set (i := 9) sc_law.nd rfl (.inl rfl) (pe_tup (pa_cons (pe_call G_law_value (hr.mono (by decide)) (by rfl) g_law_value F_law_value.kp b_law_value .nil pass0 (pa_cons (pe_ix ix_list (pv 8) pe_int (fun _ _ => rfl)) pa_nil)) (pa_cons (pe_call G_law_value (hr.mono (by decide)) (by rfl) g_law_value F_law_value.kp b_law_value .nil pass0 (pa_cons (pe_ix ix_list (pv 8) pe_int (fun _ _ => rfl)) pa_nil)) pa_nil))))
        (pss_one (ps_if (PW.pt (pw_and (pt_cmpR op_notIn_seq pe_non (pv 9) (by rfl)) (pw_and (pt_cmpR op_le (pe_callB call_abs (by rfl) m_abs (by decide +kernel) (pa_cons (pe_ix ix_tup (pv 9) pe_int (fun _ _ => rfl)) pa_nil)) pe_int (nomark _)) (pw_and1 (pt_chain op_le op_lt (pe_un un_neg pe_int) (pe_ix ix_tup (pv 9) pe_int (fun _ _ => rfl)) pe_int))))) (pss_one (ps_set (i := 5) sc_law.nd rfl (.inl rfl) (pv 9))) pss_nil))) pss_nil)
        (pss_one (ps_try_as (i := 6) (tb := fun W => tRet (tAndV (tOp (rEqD K) (tCallS (spReadPt CI) (WE W) (tCons (tOp (fun x y H Q => ∃ i j, x = .str i ∧ y = .str j ∧ i.length + j.length ≤ sizeLine ∧ Q (.str (i ++ j)) H) (tOp (fun x y H Q => ∃ i j, x = .str i ∧ y = .str j ∧ i.length + j.length ≤ sizeLine ∧ Q (.str (i ++ j)) H) (tVar 1) (tVar 7)) (tVar 2)) tNil)) (tVar 5)) (tOp (fun x y H Q => y = .non ∧ Q (.bl (!decide (x = .non))) H) (tVar 5) (tC .non))))
          (ts := fun a cls d => fun D σ H => (cls = .ref CI ∧ d = none) ∧ tRet (tAndV (tCB (rIsE K CI a) (tCons (tVar 6) (tCons (tC (.ref CI)) tNil))) (tOp (fun x y H Q => y = .non ∧ Q (.bl (decide (x = .non))) H) (tVar 5) (tC .non))) D σ H)
          (Wout := fun _ _ _ _ => False) rfl rfl sc_law.nd rfl rfl ⟨rfl, by decide, Or.inl T.gP⟩ takes0
          (fun W pn xe tk _ => pss_one (ps_ret (pe_and (pe_cmpR (op_eqD hr.units) (pe_callS G_read_point (hr.mono (by decide)) (by rfl) g_read_point F_read_point.kp b_read_point (fun σ => passAt tk σ) (pa_cons (pe_op op_add_str (pe_op op_add_str (pv 1) (pv 7)) (pv 2)) pa_nil)) (pv 5) (nomark _)) (pe_one (pe_cmpR op_notN (pv 5) pe_non (nomark _))))))
          (fun a oe cls d pn hz hf => pss_if fun hcls => by
            obtain ⟨rfl, rfl⟩ := hcls
            exact pss_one (ps_ret (pe_and (pe_callB (call_isE T.ec hz hf) (by rfl) m_isinstance (by decide +kernel) (pa_cons (pv 6) (pa_cons (pe_glob (by rfl) T.gU (show RelV (.ref CI) _ from rfl)) pa_nil))) (pe_one (pe_cmpR op_isN (pv 5) pe_non (nomark _)))))))))))))))), ?_⟩
    obtain ⟨n0, hn0⟩ := rich_nat (cellOf ns 0)
    obtain ⟨n1, hn1⟩ := rich_nat (cellOf ns 1)
    obtain ⟨n2, hn2⟩ := rich_nat (cellOf ns 2)
    let Txt2 : V → Hp → Prop := fun v _ => ∃ a : List Nat, v = .str (S a) ∧ a.length ≤ 410 ∧ ∀ c ∈ a, c < 200
    -- first, second
    refine q_asgP Txt2 (fun Q1 k1 => ea_cons (ev_call (z := .int (n0 : Int)) (ea_cons (ev_call (z := .int (cellOf ns 0)) (ea_cons (ev_var rfl) (ea_cons ev_c ea_nil)) (cell_is hS 0)) ea_nil) (rich_is hn0)) ea_nil _ (Ex.refl _) _ fun H1 e1 => ⟨_, rfl, fun a h1 h2 H2 e2 => k1 _ _ (e1.trans e2) ⟨a, rfl, h1, h2⟩⟩) fun v H1 e1 hv => ?_
    obtain ⟨u, rfl, hu, huc⟩ := hv
    refine st_is (σ' := [_, _, _, _, _, _, _, _, _, _]) rfl ?_
    refine q_asgP Txt2 (fun Q1 k1 => ea_cons (ev_call (z := .int (n1 : Int)) (ea_cons (ev_call (z := .int (cellOf ns 1)) (ea_cons (ev_var rfl) (ea_cons ev_c ea_nil)) (cell_is (ex_l e1 hS) 1)) ea_nil) (rich_is hn1)) ea_nil _ (Ex.refl _) _ fun H2 e2 => ⟨_, rfl, fun a h1 h2 H3 e3 => k1 _ _ (e2.trans e3) ⟨a, rfl, h1, h2⟩⟩) fun v H2 e2 hv => ?_
    obtain ⟨w1, rfl, hw, hwc⟩ := hv
    refine st_is (σ' := [_, _, _, _, _, _, _, _, _, _]) rfl ?_
    clear_value Txt2
    have e02 := e1.trans e2
    -- values
    refine q_asgL (el_lst ea_nil (show 0 ≤ 100000 by decide)) fun l H3 nl e3 hl3 => ?_
    refine st_is (σ' := [_, _, _, _, _, _, _, _, _, _]) rfl ?_
    have e03 := e02.trans e3
    have nl0 : H l = none := fresh_back e02 nl
    refine q_forNT (xs := [.str (S u), .str (S w1)]) (eu_tup (ea_cons (ev_var rfl) (ea_cons (ev_var rfl) ea_nil)) (show 2 ≤ 100000 by decide))
      (fun p i σ' H' => p ≠ l ∧ ∃ (x4 x5 : Option V) (vs : List V), σ' = [some (.ref sa), some (.str (S u)), some (.str (S w1)), some (.ref l), x4, x5, none, none, none, none] ∧ Ex H H' ∧ H' l = some (.lst vs) ∧ vs.length ≤ i ∧ H' p = some (.tup [.str (S u), .str (S w1)]))
      (fun p H4 np e4 h4 => ⟨fun z => by
        rw [z, hl3] at np
        exact absurd np (by simp), none, none, [], rfl, e03.trans e4, e4 _ _ hl3, Nat.le_refl _, h4⟩) (fun p i σ' H' _ pp => ?_) (fun p i x σ' H' hx pp => ?_) (fun p σ' H' pp => ?_)
    · obtain ⟨_, x4, x5, vs, rfl, _, _, _, h4⟩ := pp
      exact st_of h4
    · obtain ⟨hpl, x4, x5, vs, rfl, eH, hlv, hvl, hp4⟩ := pp
      have hi2 : i < 2 := (List.getElem?_eq_some_iff.mp hx).1
      obtain ⟨t, rfl, ht, htc⟩ : ∃ t : List Nat, x = .str (S t) ∧ t.length ≤ 410 ∧ ∀ c ∈ t, c < 200 := by
        match i, hi2, hx with
        | 0, _, hx => exact ⟨u, (Option.some.inj hx).symm, hu, huc⟩
        | 1, _, hx => exact ⟨w1, (Option.some.inj hx).symm, hw, hwc⟩
      show tSeq _ _ _ [some (.ref sa), some (.str (S u)), some (.str (S w1)), some (.ref l), some (.str (S t)), x5, none, none, none, none] H'
      refine q_asg (ev_call (ea_cons (ev_var rfl) ea_nil) (value_is (by omega) htc)) fun H5 e5 => ?_
      refine st_is (σ' := [some (.ref sa), some (.str (S u)), some (.str (S w1)), some (.ref l), some (.str (S t)), some (optV (rdA t)), none, none, none, none]) rfl ?_
      refine q_app (e5 _ _ hlv) (ev_var rfl) (ev_var rfl) (by omega) fun H6 e6 => ?_
      have eH6 : Ex H (upd H6 l (.lst (vs ++ [optV (rdA t)]))) := Ex.mut ((eH.trans e5).trans e6) nl0
      have hl6 : (upd H6 l (.lst (vs ++ [optV (rdA t)]))) l = some (.lst (vs ++ [optV (rdA t)])) := upd_same
      have hp6 : (upd H6 l (.lst (vs ++ [optV (rdA t)]))) p = some (.tup [.str (S u), .str (S w1)]) := by
        rw [upd_ne hpl]
        exact (e5.trans e6) _ _ hp4
      generalize upd H6 l (.lst (vs ++ [optV (rdA t)])) = H7 at eH6 hl6 hp6 ⊢
      cases hrd : rdA t with
      | none =>
        refine ⟨_, rfl, t, rfl, by omega, fun v hv => absurd (hrd.symm.trans hv) (by simp), fun _ H8 e8 => ⟨true, T.caught, fun _ a0 _ => ⟨⟨rfl, rfl⟩, ?_⟩, fun q => nomatch q⟩⟩
        refine s_when (b := false) (et_is (et_or (a := false) (b := false) (et_is (et_not (et_B (ev_isE (K := K) (CU := CI) rfl))) rfl) fun _ => (et_is (et_test (ev_op (ev_var rfl) ev_c rv_notN)) rfl)) rfl) (fun z => nomatch z) (fun _ H9 e9 => ?_)
        exact ⟨hpl, _, _, _, rfl, eH6.trans (e8.trans e9), (e8.trans e9) _ _ hl6, by rw [List.length_append, List.length_singleton]; omega, (e8.trans e9) _ _ hp6⟩
      | some v0 =>
        refine ⟨_, rfl, t, rfl, by omega, fun v hv H8 e8 => ?_, fun hn => absurd (hrd.symm.trans hn) (by simp)⟩
        have hvv : v0 = v := Option.some.inj (hrd.symm.trans hv)
        subst hvv
        refine ⟨_, rfl, rfl, _, rfl, ?_⟩
        rw [show (!decide (V.int v0 = optV (some v0))) = false from nes]
        refine ⟨_, rfl, rfl, _, rfl, ?_⟩
        rw [show decide (optV (some v0) = V.non) = false from decide_eq_false fun z => nomatch z]
        exact ⟨hpl, _, _, _, rfl, eH6.trans e8, e8 _ _ hl6, by rw [List.length_append, List.length_singleton]; omega, e8 _ _ hp6⟩
    · obtain ⟨_, x4, x5, vs, rfl, eH, _, _, _⟩ := pp
      replace hS := ex_l eH hS
      -- between, words
      obtain ⟨bt, hbt, hbl, hbc⟩ := item7 (i := (n2 : Int) % 7) ⟨Int.emod_nonneg _ (by decide), Int.emod_lt_of_pos _ (by decide)⟩
      refine q_asg (ev_opL1 (el_lst (ea_cons ev_c (ea_cons ev_c (ea_cons ev_c (ea_cons ev_c (ea_cons ev_c (ea_cons ev_c (ea_cons ev_c ea_nil))))))) (show 7 ≤ 100000 by decide)) (fun H5 e5 => (ev_op (ev_cb (ea_cons (ev_call (z := .int (n2 : Int)) (ea_cons (ev_call (z := .int (cellOf ns 2)) (ea_cons (ev_var rfl) (ea_cons ev_c ea_nil)) (cell_is (ex_l e5 hS) 2)) ea_nil) (rich_is hn2)) ea_nil) rc_intI) ev_c (rv_I (by decide)))) (fun _ _ hp _ => rv_ixL (sq_of hp) hbt)) fun H5 e5 => ?_
      refine st_is (σ' := [_, _, _, _, _, _, _, _, _, _]) rfl ?_
      have evA : ∀ {σ : L2.St} {Hh : Hp}, σ[1]? = some (some (.str (S u))) → σ[7]? = some (some (.str (S bt))) → σ[2]? = some (some (.str (S w1))) → Ev (tOp (fun x y H Q => ∃ i j, x = .str i ∧ y = .str j ∧ i.length + j.length ≤ sizeLine ∧ Q (.str (i ++ j)) H) (tOp (fun x y H Q => ∃ i j, x = .str i ∧ y = .str j ∧ i.length + j.length ≤ sizeLine ∧ Q (.str (i ++ j)) H) (tVar 1) (tVar 7)) (tVar 2)) σ Hh (.str (S (u ++ bt ++ w1))) := fun h1 h7 h2 => ev_op (ev_op (ev_var h1) (ev_var h7) (rv_cat (by omega))) (ev_var h2) (rv_cat (by rw [List.length_append]; omega))
      have hal : (u ++ bt ++ w1).length ≤ 900 := by
        rw [List.length_append, List.length_append]
        omega
      have hac : ∀ c ∈ u ++ bt ++ w1, c < 200 := fun c hc => by
        rcases List.mem_append.mp hc with h | h
        · rcases List.mem_append.mp h with h | h
          · exact huc c h
          · exact hbc c h
        · exact hwc c h
      generalize u ++ bt ++ w1 = a at *
      refine q_asgL (el_split (c := 32) (evA rfl rfl rfl) ev_c (by decide) (by omega)) fun wl H6 nwl e6 hwl => ?_
      refine st_is (σ' := [_, _, _, _, _, _, _, _, _, _]) rfl ?_
      refine q_asg ev_c fun H7 e7 => ?_
      refine st_is (σ' := [_, _, _, _, _, _, _, _, _, _]) rfl ?_
      have hlen := spl_len 32 a []
      have hmem := spl_mem 32 a []
      obtain ⟨ws, hws⟩ : ∃ ws, TL.spl [32] 0 [] a = ws := ⟨_, rfl⟩
      rw [hws] at hwl hlen hmem
      have tl : SqL K H7 wl ((ws.map S).map V.str) := sq_of (e7 _ _ hwl)
      -- due
      refine q_cut (M := fun σ' H' => ∃ (due : V) (x9 : Option V), σ' = [some (.ref sa), some (.str (S u)), some (.str (S w1)), some (.ref l), x4, some due, none, some (.str (S bt)), some (.ref wl), x9] ∧ ((rdPt a = none ∧ due = .non) ∨ (∃ x y pr, rdPt a = some (x, y) ∧ due = .ref pr ∧ H' pr = some (.tup [.int x, .int y])))) ?_ fun σ' H' M => ?_
      · by_cases h2 : ws.length = 2
        · refine s_if (b := true) (et_is (et_test (ev_op (ev_cb (ea_cons (ev_var rfl) ea_nil) (rc_lenL tl)) ev_c (rv_eq rfl))) (decide_eq_true (congrArg V.int (by rw [List.length_map, List.length_map, h2]; rfl)))) (fun _ H8 e8 => ?_) (fun z => nomatch z)
          obtain ⟨g1, g2, rfl⟩ : ∃ u v, ws = [u, v] := by
            match ws, h2 with
            | [u, v], _ => exact ⟨u, v, rfl⟩
          have l1 := hlen g1 (by simp)
          have l2 := hlen g2 (by simp)
          simp only [List.length_nil, Nat.zero_add] at l1 l2
          have c1 : ∀ c ∈ g1, c < 200 := fun c hc => hac c (by simpa using hmem g1 (by simp) c hc)
          have c2 : ∀ c ∈ g2, c < 200 := fun c hc => hac c (by simpa using hmem g2 (by simp) c hc)
          replace tl := ex_l e8 tl
          refine q_asgU (eu_tup (ea_cons (ev_call (ea_cons (ev_op (ev_var rfl) ev_c (rv_ixL tl rfl)) ea_nil) (value_is (by omega) c1)) (ea_cons (ev_call (ea_cons (ev_op (ev_var rfl) ev_c (rv_ixL tl rfl)) ea_nil) (value_is (by omega) c2)) ea_nil)) (show 2 ≤ 100000 by decide)) fun pr H9 npr e9 hpr => ?_
          refine st_is (σ' := [_, _, _, _, _, _, _, _, _, _]) rfl ?_
          have tp : SqT K H9 pr [optV (rdA g1), optV (rdA g2)] := st_of hpr
          have hpt := rdPt_two hws
          cases r1 : rdA g1 with
          | none =>
            rw [r1] at tp
            refine s_when (b := false) (et_is (et_and (a := false) (b := false) (et_is (et_test (ev_op ev_c (ev_var rfl) (rv_nin tp))) rfl) (fun z => nomatch z)) rfl) (fun z => nomatch z) (fun _ H10 e10 => ⟨_, _, rfl, .inl ⟨?_, rfl⟩⟩)
            rw [hpt]
            unfold rdTwo
            rw [r1]
          | some x =>
            cases r2 : rdA g2 with
            | none =>
              rw [r1, r2] at tp
              refine s_when (b := false) (et_is (et_and (a := false) (b := false) (et_is (et_test (ev_op ev_c (ev_var rfl) (rv_nin tp))) rfl) (fun z => nomatch z)) rfl) (fun z => nomatch z) (fun _ H10 e10 => ⟨_, _, rfl, .inl ⟨?_, rfl⟩⟩)
              rw [hpt]
              unfold rdTwo
              rw [r1, r2]
            | some y =>
              rw [r1, r2] at tp hpr
              have ep : rdPt a = if (latOk x && lonOk y) = true then some (x, y) else none := by
                rw [hpt]
                unfold rdTwo
                rw [r1, r2]
              refine s_when (b := latOk x && lonOk y) (et_is (et_and (a := true) (b := latOk x && lonOk y) (et_is (et_test (ev_op ev_c (ev_var rfl) (rv_nin tp))) rfl) fun _ => (et_and (a := latOk x) (b := lonOk y) (et_is (et_test (ev_op (ev_cb (ea_cons (ev_op (ev_var rfl) ev_c (rv_ixT tp rfl)) ea_nil) rc_abs) ev_c rv_I0)) ?_) fun _ => (et_B (ev_chain (ev_un ev_c ru_neg) (ev_op (ev_var rfl) ev_c (rv_ixT tp rfl)) ev_c rv_I0 rv_I0)))) (Bool.true_and _)) (fun hb H10 e10 => ?_) (fun hb H10 e10 => ⟨_, _, rfl, .inl ⟨?_, rfl⟩⟩)
              · unfold latOk
                rw [← Bool.decide_and]
                exact decide_eq_decide.mpr (by omega)
              · refine s_asg (ev_var rfl) fun H11 e11 => ⟨_, _, rfl, .inr ⟨x, y, pr, ?_, rfl, (e10.trans e11) _ _ hpr⟩⟩
                rw [ep, if_pos hb]
              · rw [ep, if_neg (by rw [hb]; decide)]
        · refine s_if (b := false) (et_is (et_test (ev_op (ev_cb (ea_cons (ev_var rfl) ea_nil) (rc_lenL tl)) ev_c (rv_eq rfl))) (decide_eq_false fun z => h2 (by
            have := V.int.inj z
            rw [List.length_map, List.length_map] at this
            omega))) (fun z => nomatch z) (fun _ H8 e8 => ⟨_, _, rfl, .inl ⟨rdPt_not (by rw [hws]; exact h2), rfl⟩⟩)
      · obtain ⟨due, x9, rfl, hcase⟩ := M
        rcases hcase with ⟨hno, rfl⟩ | ⟨x, y, pr, hyes, rfl, hpr⟩
        · refine ret_cmp (cs_run (ea_cons (evA rfl rfl rfl) ea_nil) fun H8 e8 => ⟨a, rfl, hal, fun x y hxy => absurd (hno.symm.trans hxy) (by simp), fun _ H9 e9 => ⟨true, T.caught, fun _ a0 _ => ⟨⟨rfl, rfl⟩, ?_⟩, fun q => nomatch q⟩⟩)
          exact s_ret (v := .bl true) (ev_andV (ev_isE (K := K) (CU := CI) rfl) fun _ => (ev_op (ev_var rfl) ev_c rv_isN)) fun H10 e10 => fin H10
        · refine ret_cmp (cs_run (ea_cons (evA rfl rfl rfl) ea_nil) fun H8 e8 => ⟨a, rfl, hal, fun x2 y2 hxy p2 H9 np2 e9 hp2 => ?_, fun hn => absurd (hyes.symm.trans hn) (by simp)⟩)
          have hxy2 := Option.some.inj (hyes.symm.trans hxy)
          cases hxy2
          refine ⟨_, rfl, .tuple [.int x, .int y], .tuple [.int x, .int y], dp2 (st_of hp2), dp2 (st_of ((e8.trans e9) _ _ hpr)), sh2, sh2, _, rfl, ?_⟩
          rw [eqvS sh2]
          refine ⟨_, rfl, rfl, ?_⟩
          exact fin _
theorem all_mk {l : PySem.W.OpenLaw} {w : World} {K : PySem.W.Frag} {h : Heap} {mg : Str → Option Value} {fa f0 f1 f2 f3 f4 f5 f6 f7 f8 f9 f10 f11 f12 f13 f14 : Addr} (X : K.In h) (G : h.Ns mainGlobals mg) (hfa : mg "law" = some (.ref fa))
    {od0 an0 od1 an1 od2 an2 od3 an3 od4 an4 od5 an5 od6 an6 od7 an7 od8 an8 od9 an9 od10 an10 od11 an11 od12 an12 od13 an13 od14 an14 : Option Addr} {sl0 sl1 sl2 sl3 sl4 sl5 sl6 sl7 sl8 sl9 sl10 sl11 sl12 sl13 sl14 : Array (Option Value)} {oc0 kV0 dc0 pm0 cd0 ct0 oc1 kV1 dc1 pm1 cd1 ct1 oc2 kV2 dc2 pm2 cd2 ct2 oc3 kV3 dc3 pm3 cd3 ct3 oc4 kV4 dc4 pm4 cd4 ct4 oc5 kV5 dc5 pm5 cd5 ct5 oc6 kV6 dc6 pm6 cd6 ct6 oc7 kV7 dc7 pm7 cd7 ct7 oc8 kV8 dc8 pm8 cd8 ct8 oc9 kV9 dc9 pm9 cd9 ct9 oc10 kV10 dc10 pm10 cd10 ct10 oc11 kV11 dc11 pm11 cd11 ct11 oc12 kV12 dc12 pm12 cd12 ct12 oc13 kV13 dc13 pm13 cd13 ct13 oc14 kV14 dc14 pm14 cd14 ct14 : Value}
    (a0 : PySem.W.nsIn K mainGlobals "digits_of" = some (some (.ref f0))) (l0 : K.lookup f0 = some ⟨oc0, od0, .func (PySem.W.fnOf "digits_of" "digits_of" (defArgs s_digits_of) (defBody s_digits_of) (defScope s_digits_of) .none kV0 dc0 pm0 an0 cd0 ct0), sl0⟩) (c0 : PySem.W.codeIn K cd0 "digits_of" = true) (k0 : PySem.W.keepIn K (.ref f0) = true)
    (a1 : PySem.W.nsIn K mainGlobals "is_point" = some (some (.ref f1))) (l1 : K.lookup f1 = some ⟨oc1, od1, .func (PySem.W.fnOf "is_point" "is_point" (defArgs s_is_point) (defBody s_is_point) (defScope s_is_point) .none kV1 dc1 pm1 an1 cd1 ct1), sl1⟩) (c1 : PySem.W.codeIn K cd1 "is_point" = true) (k1 : PySem.W.keepIn K (.ref f1) = true)
    (a2 : PySem.W.nsIn K mainGlobals "is_latitude" = some (some (.ref f2))) (l2 : K.lookup f2 = some ⟨oc2, od2, .func (PySem.W.fnOf "is_latitude" "is_latitude" (defArgs s_is_latitude) (defBody s_is_latitude) (defScope s_is_latitude) .none kV2 dc2 pm2 an2 cd2 ct2), sl2⟩) (c2 : PySem.W.codeIn K cd2 "is_latitude" = true) (k2 : PySem.W.keepIn K (.ref f2) = true)
    (a3 : PySem.W.nsIn K mainGlobals "is_longitude" = some (some (.ref f3))) (l3 : K.lookup f3 = some ⟨oc3, od3, .func (PySem.W.fnOf "is_longitude" "is_longitude" (defArgs s_is_longitude) (defBody s_is_longitude) (defScope s_is_longitude) .none kV3 dc3 pm3 an3 cd3 ct3), sl3⟩) (c3 : PySem.W.codeIn K cd3 "is_longitude" = true) (k3 : PySem.W.keepIn K (.ref f3) = true)
    (a4 : PySem.W.nsIn K mainGlobals "angle_text" = some (some (.ref f4))) (l4 : K.lookup f4 = some ⟨oc4, od4, .func (PySem.W.fnOf "angle_text" "angle_text" (defArgs s_angle_text) (defBody s_angle_text) (defScope s_angle_text) .none kV4 dc4 pm4 an4 cd4 ct4), sl4⟩) (c4 : PySem.W.codeIn K cd4 "angle_text" = true) (k4 : PySem.W.keepIn K (.ref f4) = true)
    (a5 : PySem.W.nsIn K mainGlobals "read_angle" = some (some (.ref f5))) (l5 : K.lookup f5 = some ⟨oc5, od5, .func (PySem.W.fnOf "read_angle" "read_angle" (defArgs s_read_angle) (defBody s_read_angle) (defScope s_read_angle) .none kV5 dc5 pm5 an5 cd5 ct5), sl5⟩) (c5 : PySem.W.codeIn K cd5 "read_angle" = true) (k5 : PySem.W.keepIn K (.ref f5) = true)
    (a6 : PySem.W.nsIn K mainGlobals "read_point" = some (some (.ref f6))) (l6 : K.lookup f6 = some ⟨oc6, od6, .func (PySem.W.fnOf "read_point" "read_point" (defArgs s_read_point) (defBody s_read_point) (defScope s_read_point) .none kV6 dc6 pm6 an6 cd6 ct6), sl6⟩) (c6 : PySem.W.codeIn K cd6 "read_point" = true) (k6 : PySem.W.keepIn K (.ref f6) = true)
    (a7 : PySem.W.nsIn K mainGlobals "sign_text" = some (some (.ref f7))) (l7 : K.lookup f7 = some ⟨oc7, od7, .func (PySem.W.fnOf "sign_text" "sign_text" (defArgs s_sign_text) (defBody s_sign_text) (defScope s_sign_text) .none kV7 dc7 pm7 an7 cd7 ct7), sl7⟩) (c7 : PySem.W.codeIn K cd7 "sign_text" = true) (k7 : PySem.W.keepIn K (.ref f7) = true)
    (a8 : PySem.W.nsIn K mainGlobals "has_digits" = some (some (.ref f8))) (l8 : K.lookup f8 = some ⟨oc8, od8, .func (PySem.W.fnOf "has_digits" "has_digits" (defArgs s_has_digits) (defBody s_has_digits) (defScope s_has_digits) .none kV8 dc8 pm8 an8 cd8 ct8), sl8⟩) (c8 : PySem.W.codeIn K cd8 "has_digits" = true) (k8 : PySem.W.keepIn K (.ref f8) = true)
    (a9 : PySem.W.nsIn K mainGlobals "_law_cell" = some (some (.ref f9))) (l9 : K.lookup f9 = some ⟨oc9, od9, .func (PySem.W.fnOf "_law_cell" "_law_cell" (defArgs s_law_cell) (defBody s_law_cell) (defScope s_law_cell) .none kV9 dc9 pm9 an9 cd9 ct9), sl9⟩) (c9 : PySem.W.codeIn K cd9 "_law_cell" = true) (k9 : PySem.W.keepIn K (.ref f9) = true)
    (a10 : PySem.W.nsIn K mainGlobals "_law_rich" = some (some (.ref f10))) (l10 : K.lookup f10 = some ⟨oc10, od10, .func (PySem.W.fnOf "_law_rich" "_law_rich" (defArgs s_law_rich) (defBody s_law_rich) (defScope s_law_rich) .none kV10 dc10 pm10 an10 cd10 ct10), sl10⟩) (c10 : PySem.W.codeIn K cd10 "_law_rich" = true) (k10 : PySem.W.keepIn K (.ref f10) = true)
    (a11 : PySem.W.nsIn K mainGlobals "_law_digits" = some (some (.ref f11))) (l11 : K.lookup f11 = some ⟨oc11, od11, .func (PySem.W.fnOf "_law_digits" "_law_digits" (defArgs s_law_digits) (defBody s_law_digits) (defScope s_law_digits) .none kV11 dc11 pm11 an11 cd11 ct11), sl11⟩) (c11 : PySem.W.codeIn K cd11 "_law_digits" = true) (k11 : PySem.W.keepIn K (.ref f11) = true)
    (a12 : PySem.W.nsIn K mainGlobals "_law_value" = some (some (.ref f12))) (l12 : K.lookup f12 = some ⟨oc12, od12, .func (PySem.W.fnOf "_law_value" "_law_value" (defArgs s_law_value) (defBody s_law_value) (defScope s_law_value) .none kV12 dc12 pm12 an12 cd12 ct12), sl12⟩) (c12 : PySem.W.codeIn K cd12 "_law_value" = true) (k12 : PySem.W.keepIn K (.ref f12) = true)
    (a13 : PySem.W.nsIn K mainGlobals "_law_near" = some (some (.ref f13))) (l13 : K.lookup f13 = some ⟨oc13, od13, .func (PySem.W.fnOf "_law_near" "_law_near" (defArgs s_law_near) (defBody s_law_near) (defScope s_law_near) .none kV13 dc13 pm13 an13 cd13 ct13), sl13⟩) (c13 : PySem.W.codeIn K cd13 "_law_near" = true) (k13 : PySem.W.keepIn K (.ref f13) = true)
    (a14 : PySem.W.nsIn K mainGlobals "law" = some (some (.ref f14))) (l14 : K.lookup f14 = some ⟨oc14, od14, .func (PySem.W.fnOf "law" "law" (defArgs s_law) (defBody s_law) (defScope s_law) .none kV14 dc14 pm14 an14 cd14 ct14), sl14⟩) (c14 : PySem.W.codeIn K cd14 "law" = true) (k14 : PySem.W.keepIn K (.ref f14) = true)
    (z0 : PySem.W.nsIn K mainGlobals "len" = some none)
    (z1 : PySem.W.nsIn K mainGlobals "abs" = some none)
    (z2 : PySem.W.nsIn K mainGlobals "int" = some none)
    (z3 : PySem.W.nsIn K mainGlobals "str" = some none)
    (z4 : PySem.W.nsIn K mainGlobals "divmod" = some none)
    (z5 : PySem.W.nsIn K mainGlobals "reversed" = some none)
    (z6 : PySem.W.nsIn K mainGlobals "range" = some none)
    (z7 : PySem.W.nsIn K mainGlobals "isinstance" = some none)
    {ti0 ti1 ti2 ti3 ti4 ti5 ti6 : Tok} (u0 : PySem.W.nsIn K mainGlobals "PIECE_DIGITS" = some (some (.int 64 ti0))) (u1 : PySem.W.nsIn K mainGlobals "PIECE" = some (some (.int 10000000000000000000000000000000000000000000000000000000000000000 ti1))) (u2 : PySem.W.nsIn K mainGlobals "DEGREE" = some (some (.int 10000000 ti2))) (u3 : PySem.W.nsIn K mainGlobals "RIGHT_ANGLE" = some (some (.int 900000000 ti3))) (u4 : PySem.W.nsIn K mainGlobals "HALF_TURN" = some (some (.int 1800000000 ti4))) (u5 : PySem.W.nsIn K mainGlobals "PLACES" = some (some (.int 7 ti5))) (u6 : PySem.W.nsIn K mainGlobals "MOST_WHOLE_DIGITS" = some (some (.int 4 ti6)))
    {CP : Addr} (uP : PySem.W.nsIn K mainGlobals "PortolanError" = some (some (.ref CP))) (bP : PySem.W.subIn K (.ref CP) (.type "BaseException") = some true) (tP : PySem.W.typeIn K (.ref CP) = some (.type "type")) (iP : PySem.W.isClsIn K CP = true)
    {CE0 : Addr} (uE0 : PySem.W.nsIn K mainGlobals "InvalidText" = some (some (.ref CE0)))
    (xE0 : PySem.W.excIn K CE0 [.type "ValueError", .type "Exception", .type "BaseException", .type "object"] "ValueError.__new__" = true) (kE0 : PySem.W.keepIn K (.ref CE0) = true) (bE0 : PySem.W.subIn K (.ref CE0) (.type "BaseException") = some true) (tE0 : PySem.W.typeIn K (.ref CE0) = some (.type "type")) (sE0 : PySem.W.subIn K (.ref CE0) (.ref CP) = some true)
    (exa0 : PySem.W.findIn K (.ref CE0) "__getattribute__" = some (some (.builtin "BaseException.__getattribute__"))) (exb0 : PySem.W.findIn K (.ref CE0) "__getattr__" = some none) (exc0 : PySem.W.hasDictIn K CE0 = true) (exd0 : PySem.W.findIn K (.ref CE0) "__class__" = some (some (.builtin "object.__class__")))
    (exe0 : PySem.W.specialIn K (.builtin "object.__class__") "__get__" = some (some (.builtin "getset_descriptor.__get__"))) (exf0 : PySem.W.takesIn K (.builtin "object.__class__") = some true) (exg0 : PySem.W.mroIn K CE0 (.type "object") = some true)
    : ∃ fd : FuncData, (∀ (s : Shared) (v : Value), BindsTo s fd ⟨[v], []⟩ [("script", v)]) ∧ ∀ base : Heap, K.In base → base.Ns mainGlobals mg → FnOk l.prog w K mg base CX0 4 fa fd ["script"] (spLaw K) := by
  have e := hfa.symm.trans (PySem.W.mg_of X G a14)
  cases e
  have F_digits_of := fun_mk (st := s_digits_of) l0 c0 k0
  have F_is_point := fun_mk (st := s_is_point) l1 c1 k1
  have F_is_latitude := fun_mk (st := s_is_latitude) l2 c2 k2
  have F_is_longitude := fun_mk (st := s_is_longitude) l3 c3 k3
  have F_angle_text := fun_mk (st := s_angle_text) l4 c4 k4
  have F_read_angle := fun_mk (st := s_read_angle) l5 c5 k5
  have F_read_point := fun_mk (st := s_read_point) l6 c6 k6
  have F_sign_text := fun_mk (st := s_sign_text) l7 c7 k7
  have F_has_digits := fun_mk (st := s_has_digits) l8 c8 k8
  have F_law_cell := fun_mk (st := s_law_cell) l9 c9 k9
  have F_law_rich := fun_mk (st := s_law_rich) l10 c10 k10
  have F_law_digits := fun_mk (st := s_law_digits) l11 c11 k11
  have F_law_value := fun_mk (st := s_law_value) l12 c12 k12
  have F_law_near := fun_mk (st := s_law_near) l13 c13 k13
  have F_law := fun_mk (st := s_law) l14 c14 k14
  have b_digits_of := F_digits_of.binds (ps := ["n"]) fun _ _ _ _ _ _ us hl => match us, hl with | [_], _ => rfl
  have g_digits_of := PySem.W.mg_of X G a0
  have b_is_point := F_is_point.binds (ps := ["value"]) fun _ _ _ _ _ _ us hl => match us, hl with | [_], _ => rfl
  have g_is_point := PySem.W.mg_of X G a1
  have b_is_latitude := F_is_latitude.binds (ps := ["angle"]) fun _ _ _ _ _ _ us hl => match us, hl with | [_], _ => rfl
  have g_is_latitude := PySem.W.mg_of X G a2
  have b_is_longitude := F_is_longitude.binds (ps := ["angle"]) fun _ _ _ _ _ _ us hl => match us, hl with | [_], _ => rfl
  have g_is_longitude := PySem.W.mg_of X G a3
  have b_angle_text := F_angle_text.binds (ps := ["angle"]) fun _ _ _ _ _ _ us hl => match us, hl with | [_], _ => rfl
  have g_angle_text := PySem.W.mg_of X G a4
  have b_read_angle := F_read_angle.binds (ps := ["text"]) fun _ _ _ _ _ _ us hl => match us, hl with | [_], _ => rfl
  have g_read_angle := PySem.W.mg_of X G a5
  have b_read_point := F_read_point.binds (ps := ["text"]) fun _ _ _ _ _ _ us hl => match us, hl with | [_], _ => rfl
  have g_read_point := PySem.W.mg_of X G a6
  have b_sign_text := F_sign_text.binds (ps := ["n"]) fun _ _ _ _ _ _ us hl => match us, hl with | [_], _ => rfl
  have g_sign_text := PySem.W.mg_of X G a7
  have b_has_digits := F_has_digits.binds (ps := ["text", "most"]) fun _ _ _ _ _ _ us hl => match us, hl with | [_, _], _ => rfl
  have g_has_digits := PySem.W.mg_of X G a8
  have b_law_cell := F_law_cell.binds (ps := ["script", "k"]) fun _ _ _ _ _ _ us hl => match us, hl with | [_, _], _ => rfl
  have g_law_cell := PySem.W.mg_of X G a9
  have b_law_rich := F_law_rich.binds (ps := ["cell"]) fun _ _ _ _ _ _ us hl => match us, hl with | [_], _ => rfl
  have g_law_rich := PySem.W.mg_of X G a10
  have b_law_digits := F_law_digits.binds (ps := ["text", "most"]) fun _ _ _ _ _ _ us hl => match us, hl with | [_, _], _ => rfl
  have g_law_digits := PySem.W.mg_of X G a11
  have b_law_value := F_law_value.binds (ps := ["text"]) fun _ _ _ _ _ _ us hl => match us, hl with | [_], _ => rfl
  have g_law_value := PySem.W.mg_of X G a12
  have b_law_near := F_law_near.binds (ps := ["number"]) fun _ _ _ _ _ _ us hl => match us, hl with | [_], _ => rfl
  have g_law_near := PySem.W.mg_of X G a13
  have m_len := PySem.W.mg_none_of X G z0
  have m_abs := PySem.W.mg_none_of X G z1
  have m_int := PySem.W.mg_none_of X G z2
  have m_str := PySem.W.mg_none_of X G z3
  have m_divmod := PySem.W.mg_none_of X G z4
  have m_reversed := PySem.W.mg_none_of X G z5
  have m_range := PySem.W.mg_none_of X G z6
  have m_isinstance := PySem.W.mg_none_of X G z7
  have T0 : Errs K mg "InvalidText" CE0 CP := ⟨PySem.W.mg_of X G uE0, PySem.W.mg_of X G uP, xE0, kE0, bE0, tE0, bP, tP, iP, sE0, ⟨exa0, exb0, bE0, exc0, exd0, exe0, exf0, exg0⟩⟩
  exact ⟨PySem.W.fnOf "law" "law" (defArgs s_law) (defBody s_law) (defScope s_law) .none kV14 dc14 pm14 an14 cd14 ct14, fun s v => .of_eq rfl, fun base _ _ => ok_law F_law T0 F_digits_of F_is_point F_is_latitude F_is_longitude F_angle_text F_read_angle F_read_point F_sign_text F_has_digits F_law_cell F_law_rich F_law_digits F_law_value F_law_near b_digits_of b_is_point b_is_latitude b_is_longitude b_angle_text b_read_angle b_read_point b_sign_text b_has_digits b_law_cell b_law_rich b_law_digits b_law_value b_law_near g_digits_of g_is_point g_is_latitude g_is_longitude g_angle_text g_read_angle g_read_point g_sign_text g_has_digits g_law_cell g_law_rich g_law_digits g_law_value g_law_near (PySem.W.mg_of X G u0) (PySem.W.mg_of X G u1) (PySem.W.mg_of X G u2) (PySem.W.mg_of X G u3) (PySem.W.mg_of X G u4) (PySem.W.mg_of X G u5) (PySem.W.mg_of X G u6) m_len m_abs m_int m_str m_divmod m_reversed m_range m_isinstance⟩
end
end K43
open PySem PySem.W PyProof.Rows
set_option maxHeartbeats 0 in
theorem PySem.Challenge.cw_portolan_k43_faulty_texts_of_angles_holds : PySem.Challenge.rw_portolan_k43_faulty_texts_of_angles.Holds := by
  w_on; o_law; k_head; (case hw => w_witness2)
  k_fill
  refine L2.walk_of (l := PySem.Challenge.rw_portolan_k43_faulty_texts_of_angles) (n := 63) (k := 4) (x := "script") (CX := fun _ => L2.CX0) (sp := fun w => K43.spLaw _) rfl (by decide) rfl ⟨rfl, by decide, by decide⟩ (fun w h Y => PySem.W.kIn_of Y) ?F (fun _ _ a ns hl _ hS => ⟨a, ns, rfl, hS, hl, fun _ => rfl⟩) (fun _ _ _ _ _ h => h)
  case F =>
    intro w mg fa h KX G hmg
    refine' K43.all_mk KX G hmg ?a0 ?l0 ?c0 ?k0 ?a1 ?l1 ?c1 ?k1 ?a2 ?l2 ?c2 ?k2 ?a3 ?l3 ?c3 ?k3 ?a4 ?l4 ?c4 ?k4 ?a5 ?l5 ?c5 ?k5 ?a6 ?l6 ?c6 ?k6 ?a7 ?l7 ?c7 ?k7 ?a8 ?l8 ?c8 ?k8 ?a9 ?l9 ?c9 ?k9 ?a10 ?l10 ?c10 ?k10 ?a11 ?l11 ?c11 ?k11 ?a12 ?l12 ?c12 ?k12 ?a13 ?l13 ?c13 ?k13 ?a14 ?l14 ?c14 ?k14 ?z0 ?z1 ?z2 ?z3 ?z4 ?z5 ?z6 ?z7 ?u0 ?u1 ?u2 ?u3 ?u4 ?u5 ?u6 ?uP ?bP ?tP ?iP ?uE0 ?xE0 ?kE0 ?bE0 ?tE0 ?sE0 ?exa0 ?exb0 ?exc0 ?exd0 ?exe0 ?exf0 ?exg0
    (case a0 => k_is); (case l0 => k_is); (case c0 => k_is); (case k0 => k_is); (case a1 => k_is); (case l1 => k_is); (case c1 => k_is); (case k1 => k_is); (case a2 => k_is); (case l2 => k_is); (case c2 => k_is); (case k2 => k_is); (case a3 => k_is); (case l3 => k_is); (case c3 => k_is); (case k3 => k_is); (case a4 => k_is); (case l4 => k_is); (case c4 => k_is); (case k4 => k_is); (case a5 => k_is); (case l5 => k_is); (case c5 => k_is); (case k5 => k_is); (case a6 => k_is); (case l6 => k_is); (case c6 => k_is); (case k6 => k_is); (case a7 => k_is); (case l7 => k_is); (case c7 => k_is); (case k7 => k_is); (case a8 => k_is); (case l8 => k_is); (case c8 => k_is); (case k8 => k_is); (case a9 => k_is); (case l9 => k_is); (case c9 => k_is); (case k9 => k_is); (case a10 => k_is); (case l10 => k_is); (case c10 => k_is); (case k10 => k_is); (case a11 => k_is); (case l11 => k_is); (case c11 => k_is); (case k11 => k_is); (case a12 => k_is); (case l12 => k_is); (case c12 => k_is); (case k12 => k_is); (case a13 => k_is); (case l13 => k_is); (case c13 => k_is); (case k13 => k_is); (case a14 => k_is); (case l14 => k_is); (case c14 => k_is); (case k14 => k_is); (case z0 => k_is); (case z1 => k_is); (case z2 => k_is); (case z3 => k_is); (case z4 => k_is); (case z5 => k_is); (case z6 => k_is); (case z7 => k_is); (case u0 => k_is); (case u1 => k_is); (case u2 => k_is); (case u3 => k_is); (case u4 => k_is); (case u5 => k_is); (case u6 => k_is); (case uP => k_is); (case bP => k_is); (case tP => k_is); (case iP => k_is); (case uE0 => k_is); (case xE0 => k_exc); (case kE0 => k_is); (case bE0 => k_is); (case tE0 => k_is); (case sE0 => k_is); (case exa0 => k_is); (case exb0 => k_is); (case exc0 => k_is); (case exd0 => k_is); (case exe0 => k_is); (case exf0 => k_is); (case exg0 => k_is)

