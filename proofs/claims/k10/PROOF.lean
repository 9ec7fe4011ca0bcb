import PyProof.Rows.All
import Wide.All
import OpenK.AllK
import Wide.FinOn
import HandS.ForMost
import HandS.Flow
import HandS.IsInst
import HandS.Style
import HandS.TupAny
import HandS.TupMul
import HandS.Wide
import HandS.Evl
import HandS.SortKw
import PyProof.ReprReads
import HandS.Zip
import PyProof.ReprLen
import KE.GoesNew
import KE.GoesMore
import KE.GoesEnum
import PyProof.ReprRoads
import HandS.Conv
import PyProof.ReprBulk
import HandS.WideMore
import HandS.WideBits
import PySem.Challenge.RW_walkclubs_k10_petals_ring_by_ring
set_option Elab.async false
set_option linter.all false
set_option maxRecDepth 100000
set_option maxHeartbeats 4000000
/-! rules that the layer lacks: ** of wide ints, tuple * any int, t[::-1] of a tuple, a call of keywords alone -/
namespace HT
open PySem PySem.Spec PyProof.Rows
section
variable {prog : Program} {w : World} {A : Around} {E : Value → Shared → Prop} {s : Shared}
theorem wk_pick (xs : Array Value) : ((List.range xs.size).filterMap fun (k : Nat) => xs[((((xs.size : Nat) : Int) - 1) + (k : Int) * (-1)).toNat]?).toArray = xs.toList.reverse.toArray := by
  have e : (List.range xs.size).filterMap (fun (k : Nat) => xs[((((xs.size : Nat) : Int) - 1) + (k : Int) * (-1)).toNat]?) = ((List.range xs.size).map fun k => xs.size - 1 - k).filterMap (xs[·]?) := by
    rw [List.filterMap_map]
    have e0 : (fun (k : Nat) => xs[((((xs.size : Nat) : Int) - 1) + (k : Int) * (-1)).toNat]?) = ((xs[·]?) ∘ fun k => xs.size - 1 - k) := by
      funext k
      have e1 : ((((xs.size : Nat) : Int) - 1) + (k : Int) * (-1)).toNat = xs.size - 1 - k := by omega
      show xs[((((xs.size : Nat) : Int) - 1) + (k : Int) * (-1)).toNat]? = xs[xs.size - 1 - k]?
      rw [e1]
    rw [e0]
  rw [e, PySem.W.krv_range, List.filterMap_reverse, PySem.W.krv_all]
theorem wk_places (n : Nat) : Builtin.Slice.slicePlaces ((n : Int) - 1) (-1) (-1) = n := by
  unfold Builtin.Slice.slicePlaces
  rw [if_neg (by decide)]
  by_cases h : n = 0
  · subst h
    rfl
  · rw [if_pos (by omega), show (- -1 : Int) = 1 from rfl, Int.ediv_one]
    omega
theorem wk_applied {sl : Addr} {vs : Value} {n : Nat} {Q : Int × Int × Nat → Shared → Prop} (hs : s.heap.IsSliceOf sl .none .none vs) (ps : IsPart vs (some (-1)))
    (h : Q ((n : Int) - 1, -1, n) s) : wpAny (model prog w) A (Builtin.Slice.sliceApplied (.ref sl) (pure (n : Int))) Q E s := by
  obtain ⟨os, hos, hcs, hds⟩ := id hs
  unfold Builtin.Slice.sliceApplied Builtin.Slice.sliceFields
  refine wpAny_bind (wpAny_bind (wpAny_field hos hds (x := .none) rfl (wpAny_bind (wpAny_field hos hds (x := .none) rfl (wpAny_bind (wpAny_field hos hds (x := vs) rfl (wpAny_pure ?_)))))))
  refine wpAny_bind (slicePart_ ps ?_)
  show wpAny _ _ (if ((-1 : Int) == 0) = true then _ else _) _ _ s
  rw [if_neg (by decide)]
  refine wpAny_bind (slicePart_none (wpAny_bind (slicePart_none (wpAny_bind (wpAny_pure ?_)))))
  show wpAny _ _ (pure (((n : Int) - 1), (-1 : Int), Builtin.Slice.slicePlaces ((n : Int) - 1) (-1) (-1))) _ _ s
  rw [wk_places]
  exact wpAny_pure h
theorem wk_getItem_tuple_rev {t sl : Addr} {items : Array Value} {vs : Value} {Q : Value → Shared → Prop} (ht : IsTup s.heap t items) (hs : s.heap.IsSliceOf sl .none .none vs) (ps : IsPart vs (some (-1)))
    (h : Q (.ref s.heap.objs.size) { s with heap := s.heap.push { cls := .type "tuple", data := .seq items.toList.reverse.toArray } })
    (hsz : items.size ≤ sizeLine) : wpAny (model prog w) A (getItem (.ref t) (.ref sl)) Q E s := by
  have htake : sizeOk (.seq items.toList.reverse.toArray) := by
    show items.toList.reverse.toArray.size ≤ sizeLine
    rw [List.size_toArray, List.length_reverse, Array.length_toList]
    exact hsz
  obtain ⟨os, hos, hcs, hds⟩ := id hs
  have hTs : s.TypeIs (.ref sl) "slice" := ⟨os, hos, hcs⟩
  unfold getItem
  try with_reducible refine wpAny_holding ?_
  first | refine wpAny_bind (wpAny_pure ?_) | skip
  refine wpAny_bind (wpAny_sequenceKey ht.typeIs (by decide) ?_)
  refine wpAny_bind (wpAny_callSpecial?_slot (name := Str.ofString "__getitem__") ht.typeIs PyProof.Rows.slot_tuple_getitem
    (wpAny_call_entry PyProof.Rows.slot_tuple_getitem ht.typeIs entry_tuple_getitem ?_ (args_tuple_getitem _ _)))
  show wpAny _ _ (Builtin.Tuple.tupleItemsOf (.ref t) >>= _) _ _ s
  refine wpAny_bind (tupleItemsOf_ ht ?_)
  refine wpAny_bind (wpAny_typeOf hTs ?_)
  rw [if_pos (by decide)]
  refine wpAny_bind (wk_applied hs ps ?_)
  have hno : ¬ (((((items.size : Nat) : Int) - 1) == 0 && (-1 : Int) == 1 && items.size == items.size) = true) := by
    intro q
    rw [Bool.and_eq_true, Bool.and_eq_true] at q
    exact absurd q.1.2 (by decide)
  show wpAny _ _ (if ((((items.size : Nat) : Int) - 1) == 0 && (-1 : Int) == 1 && items.size == items.size) = true then _ else _) _ _ s
  rw [if_neg hno, wk_pick]
  first
    | exact wpAny_bind (m := Builtin.Tuple.tupleExact _) (wpAny_newObj_type (wpAny_pure ⟨_, rfl, wpAny_pure h⟩) htake)
    | exact wpAny_bind (m := Builtin.Tuple.tupleExact _) (wpAny_newObj_type (wpAny_bind (wpAny_pure (wpAny_pure ⟨_, rfl, wpAny_pure h⟩))) htake)
    | exact wpAny_bind (wpAny_bind (m := Builtin.Tuple.tupleExact _) (wpAny_newObj_type (wpAny_pure (wpAny_pure ⟨_, rfl, wpAny_pure h⟩)) htake))
    | exact wpAny_bind (wpAny_bind (m := Builtin.Tuple.tupleExact _) (wpAny_newObj_type (wpAny_pure ⟨_, rfl, wpAny_pure h⟩) htake))
end
end HT
namespace L2
open PySem PySem.Spec PyProof.Rows HT
/-! ### ** -/
def CPowW (i j : Int) : Prop := 0 ≤ j ∧ (Builtin.Int.intBits i : Int) * j ≤ 2 ^ 27
section
variable {X : Cx}
theorem op_powW : OpR X (binaryOp .Pow) (rI CPowW fun i j => .int (i ^ j.toNat)) := opI fun _ _ _ _ _ _ _ hc q => pow_int hc.1 hc.2 q
end
theorem wide_bits {i : Int} {a : Nat} (h0 : 0 < a) (ha : i.natAbs < 2 ^ a) : Builtin.Int.intBits i ≤ a := by
  have x := PySem.Flt.log2_lt_of h0 ha
  unfold Builtin.Int.intBits
  split <;> omega
theorem wide_pow {i : Int} {a k : Nat} (h0 : 0 < a) (ha : i.natAbs < 2 ^ a) (h : a * k ≤ 134217728) : CPowW i (k : Int) := by
  refine ⟨by omega, ?_⟩
  have x := wide_bits h0 ha
  have y : Builtin.Int.intBits i * k ≤ a * k := Nat.mul_le_mul_right k x
  have z : ((Builtin.Int.intBits i * k : Nat) : Int) ≤ 2 ^ 27 := by
    have : Builtin.Int.intBits i * k ≤ 134217728 := Nat.le_trans y h
    have e : (2 : Int) ^ 27 = 134217728 := by decide
    rw [e]
    omega
  rw [Int.natCast_mul] at z
  exact z
/-! ### tuple * int, any -/
theorem wk_tuple_same (l : Addr) (items : Array Value) (n : Nat) (dd : Option Addr) (sl : Array (Option Value)) (x : Int) (u : Tok) (c0 : (decide (x < -(2 ^ 63)) || decide (x ≥ 2 ^ 63)) = false) (c1 : (items.isEmpty || x == 1) = true) :
    Meets (Builtin.«tuple.__mul__» ⟨[.ref l, .int x u], []⟩) (fun _ R s => s.heap.get? l = some { cls := .type "tuple", dict := dd, data := .seq items n, slots := sl } ∧ R (.ok (.ret (Value.ref l))) s) :=
  .of_wp fun prog w A R s h => by
    obtain ⟨hp, g, d, tk, os⟩ := s
    obtain ⟨hl, h⟩ := h
    have f1 := AutoSeq1.idx_int
    wp_walk using wpAny_loadPart' hl
    repeat (first
      | (refine wpAny_ite_false (decide_eq_false (by rw [c0]; exact Bool.false_ne_true)) ?_; wp_walk using wpAny_loadPart' hl)
      | (refine wpAny_ite_true (decide_eq_true c1) ?_; wp_walk using wpAny_loadPart' hl))
    exact ⟨_, rfl, h⟩
theorem wk_tuple_none (l : Addr) (items : Array Value) (n : Nat) (dd : Option Addr) (sl : Array (Option Value)) (x : Int) (u : Tok) (c0 : (decide (x < -(2 ^ 63)) || decide (x ≥ 2 ^ 63)) = false) (c1 : (items.isEmpty || x == 1) = false) (c2 : (decide (x ≤ 0) || items.isEmpty) = true) :
    Meets (Builtin.«tuple.__mul__» ⟨[.ref l, .int x u], []⟩) (fun _ R s => s.heap.get? l = some { cls := .type "tuple", dict := dd, data := .seq items n, slots := sl } ∧
      R (.ok (.ret (Value.ref s.heap.objs.size))) { s with heap := s.heap.push { cls := Value.type "tuple", data := Data.seq #[] }, toks := s.toks }) :=
  .of_wp fun prog w A R s h => by
    obtain ⟨hp, g, d, tk, os⟩ := s
    obtain ⟨hl, h⟩ := h
    have f1 := AutoSeq1.idx_int
    wp_walk using wpAny_loadPart' hl
    repeat (first
      | (refine wpAny_ite_false (decide_eq_false (by rw [c0]; exact Bool.false_ne_true)) ?_; wp_walk using wpAny_loadPart' hl)
      | (refine wpAny_ite_false (decide_eq_false (by rw [c1]; exact Bool.false_ne_true)) ?_; wp_walk using wpAny_loadPart' hl)
      | (refine wpAny_ite_true (decide_eq_true c2) ?_; wp_walk using wpAny_loadPart' hl))
    exact ⟨_, rfl, h⟩
def rRepTA (K : PySem.W.Frag) : R2 := fun x y H Q => ∃ l k xs, x = .ref l ∧ y = .int k ∧ SqT K H l xs ∧ 0 ≤ k ∧ k ≤ 1000 ∧ xs.length ≤ 1000 ∧
  (xs = [] ∨ k = 1 → Q (.ref l) H) ∧ (¬ (xs = [] ∨ k = 1) → ∀ p, H p = none → Q (.ref p) (upd H p (.tup (List.replicate k.toNat xs).flatten)))
section
variable {X : Cx}
theorem op_repTA : OpR X (binaryOp .Mult) (rRepTA X.K) := by
  intro pins s σ H x y v u Q I rx ry h
  obtain ⟨l, k, xs, rfl, rfl, hT, h1, h2, hz, q1, q2⟩ := h
  by_cases h2k : 2 ≤ k ∧ xs ≠ []
  · exact op_repT pins s σ H _ _ v u Q I rx ry ⟨l, k, xs, rfl, rfl, hT, h2k.2, h2k.1, h2, hz, q2 (fun z => z.elim h2k.2 fun e => by have := h2k.1; omega)⟩
  · cases rx
    obtain ⟨t, rfl⟩ := ry
    obtain ⟨its, r, ⟨⟨cls, dd, data, sl⟩, ho, hc, n, hd⟩, hs⟩ := I.tuple hT
    simp only at hc hd
    subst hc hd
    have hle : its.length = xs.length := r.length.symm
    have c0 : (decide (k < -(2 ^ 63)) || decide (k ≥ 2 ^ 63)) = false := by
      rw [decide_eq_false (by omega), decide_eq_false (by omega)] <;> rfl
    have hi : its.toArray.isEmpty = decide (xs = []) := by
      cases its with
      | nil =>
        have e : xs = [] := List.eq_nil_of_length_eq_zero (by simpa using hle.symm)
        subst e
        rfl
      | cons a b =>
        have e : xs ≠ [] := fun z => by
          subst z
          simp at hle
        rw [decide_eq_false e]
        rfl
    by_cases hw : xs = [] ∨ k = 1
    · have c1 : (its.toArray.isEmpty || k == 1) = true := by
        rw [hi]
        rcases hw with e | e
        · simp [e]
        · simp [e]
      refine wpAny_binaryOp_repeat_ref (T := "tuple") (U := "int") (by decide) ⟨_, ho, rfl⟩ (fun s' => typeIs_int s' k t) noFill_tuple_mul F.fills_int_mul F.slot_int_rmul repeat_tuple F.slot_int_index.lookup
        (call_meets F.slot_int_rmul (typeIs_int s k t) F.entry_int_rmul (F.args_int_rmul_2 _ _) (int_rmul_tuple k t l its.toArray n dd sl)
          ⟨ho, rfl, ⟨_, ho, rfl⟩, call_meets F.slot_tuple_mul ⟨_, ho, rfl⟩ F.entry_tuple_mul (F.args_tuple_mul_2 _ _) (wk_tuple_same l its.toArray n dd sl k t c0 c1) ⟨ho, ?_⟩⟩)
      exact ⟨.ref l, H, I, rfl, q1 hw⟩
    · have hne : xs ≠ [] := fun e => hw (.inl e)
      have hk0 : k = 0 := by
        have h3 : ¬ 2 ≤ k := fun z => h2k ⟨z, hne⟩
        have h4 : k ≠ 1 := fun z => hw (.inr z)
        omega
      have c1 : (its.toArray.isEmpty || k == 1) = false := by
        rw [hi, decide_eq_false hne, hk0]
        rfl
      have c2 : (decide (k ≤ 0) || its.toArray.isEmpty) = true := by
        rw [hk0]
        rfl
      refine wpAny_binaryOp_repeat_ref (T := "tuple") (U := "int") (by decide) ⟨_, ho, rfl⟩ (fun s' => typeIs_int s' k t) noFill_tuple_mul F.fills_int_mul F.slot_int_rmul repeat_tuple F.slot_int_index.lookup
        (call_meets F.slot_int_rmul (typeIs_int s k t) F.entry_int_rmul (F.args_int_rmul_2 _ _) (int_rmul_tuple k t l its.toArray n dd sl)
          ⟨ho, rfl, ⟨_, ho, rfl⟩, call_meets F.slot_tuple_mul ⟨_, ho, rfl⟩ F.entry_tuple_mul (F.args_tuple_mul_2 _ _) (wk_tuple_none l its.toArray n dd sl k t c0 c1 c2) ⟨ho, ?_⟩⟩)
      refine ⟨.ref s.heap.objs.size, _, I.laid (t' := s.toks) (o := .tup (List.replicate k.toNat xs).flatten) (fun b ob q => Heap.get?_push_of_some _ q) (Nat.le_refl _) ?_, rfl, q2 hw _ (I.hok.fresh (Nat.le_refl _))⟩
      subst hk0
      exact ⟨Nat.zero_le _, [], .nil, IsTup.new _ _⟩
/-! ### t[::-1] -/
def tRevT (K : PySem.W.Frag) (te : TE) : TE := fun σ H Q => te σ H fun x H1 => ∃ a xs, x = .ref a ∧ SqT K H1 a xs ∧ ∀ p, H1 p = none → Q (.ref p) (upd H1 p (.tup xs.reverse))
theorem pe_revT {e : Expr} {te : TE} {k : Nat} {p1 p2 p3 pos : Pos} (he : PE X e te) : PE X (.Subscript e (.Slice none none (some (.UnaryOp .USub (.Constant (.int 1) k p1) p2)) p3) pos) (tRevT X.K te) := by
  refine ⟨fun pins s σ H Q I h => ?_⟩
  refine Subscript_ (thn (he.run pins s σ H _ I h) fun v s1 ⟨x, H1, I1, r1, q1⟩ => ?_)
  obtain ⟨a, xs, ex, hx, q⟩ := q1
  subst ex
  cases r1
  have hst : PO X (some (.UnaryOp .USub (.Constant (.int 1) k p1) p2)) (tPart (tUn (rU fun i => .int (-i)) (tC (.int 1)))) := po_some (pe_un un_neg pe_int)
  refine wpAny_Slice (thn (po_none.run pins s1 σ H1 (fun o H2 => o = none ∧ H2 = H1) I1 ⟨rfl, rfl⟩) fun vl s2 ⟨l, H2, I2, pl, el, e2⟩ => ?_)
  subst el e2
  cases pl
  refine thn (po_none.run pins s2 σ H2 (fun o H3 => o = none ∧ H3 = H2) I2 ⟨rfl, rfl⟩) fun vu s3 ⟨u, H3, I3, pu, eu, e3⟩ => ?_
  subst eu e3
  cases pu
  refine thn (hst.run pins s3 σ H3 (fun o H4 => o = some (-1) ∧ H4 = H3) I3 ⟨1, rfl, -1, rfl, rfl, rfl⟩) fun vs s4 ⟨o, H4, I4, ps, eo, e4⟩ => ?_
  subst eo e4
  have I5 : Inv X pins σ H4 { s4 with heap := s4.heap.push { cls := .type "slice", data := .fields #[.none, .none, vs] } } := I4.kept (t' := s4.toks) fun b ob q => Heap.get?_push_of_some _ q
  obtain ⟨its, r, ht, hz⟩ := I5.tuple hx
  have hlen := r.length
  show wpAny (model X.prog X.w) X.A (subscriptTail e (.Slice none none (some (.UnaryOp .USub (.Constant (.int 1) k p1) p2)) p3) (.ref a) (.ref s4.heap.objs.size)) (EP X pins σ Q) X.xe { s4 with heap := s4.heap.push { cls := .type "slice", data := .fields #[.none, .none, vs] } }
  refine tail_any (ops := [.ref a, .ref s4.heap.objs.size]) ht.typeIs (PyProof.Rows.slot_tuple_getitem.lookup) ?_ (by with_unfolding_all rfl)
  refine wk_getItem_tuple_rev ht (Heap.IsSliceOf.new _ .none .none vs) ps ?_ (by rw [List.size_toArray]; omega)
  refine ⟨.ref _, _, I5.laid (t' := s4.toks) (o := .tup xs.reverse) (fun b ob q => Heap.get?_push_of_some _ q) (Nat.le_refl _) ?_, rfl, q _ (I5.hok.fresh (Nat.le_refl _))⟩
  exact ⟨by rw [List.length_reverse]; exact hz, _, r.reverse, IsTup.new _ _⟩
end
/-! ### f(k = v, ..) -/
section
variable {X : Cx} {CX : CXT} {k : Nat} {f : Addr} {fd : FuncData} {ps ks : List Str} {sp : Sp} {E : XK} {x : Str} {p pos : Pos} {kws : List Keyword} {tk : TA} {g : List Value → List Value → List Value} {gV : List V → List V → List V}
theorem pe_callK0 (F : FnOk X.prog X.w X.K X.mg X.base CX k f fd ps sp) (hr : Room k X.A) (hg : Gl X x) (hm : X.mg x = some (.ref f)) (hk : PySem.W.keepIn X.K (.ref f) = true) (hb : KBinds X.K fd ps ks g gV) (hx : Passes CX X E)
    (hkw : PK X kws tk) (hall : (backToKw pos (keywordEach kws X.env)).all (·.1.isSome) = true := by rfl) (hks : (backToKw pos (keywordEach kws X.env)).filterMap (·.1) = ks := by rfl)
    (hdb : (x == ("__debug__" : Str)) = false := by decide)
    (hpl : ((backTo pos (starEach [] X.env)).any (·.1) || (backToKw pos (keywordEach kws X.env)).any (·.1.isNone)) = false := by rfl) :
    PE X (.Call (.Name x p) [] kws pos) (tCallK sp gV E tNil tk) := by
  refine ⟨fun pins s σ H Q I h => ?_⟩
  refine wpAny_Call_Name_kw (ld_glob I hg hm ?_ hdb)
  refine PySem.W.callWith_KW0 (h₀ := X.base) I.ok.mod.kin hk hall ?_ hpl
  refine thn (hkw.run pos pins s σ H _ I h) fun ws s2 ⟨zs, H2, I2, rz, q2⟩ => ⟨I2.kIn, ?_⟩
  rw [hks]
  exact run_fnk (us := []) (vs := []) F hr hb hx I2 .nil rz q2
end
end L2
/-! operators that go by what they meet: ints, lists, tuples -/
namespace L2
open PySem PySem.Spec PyProof.Rows Evl
def rAddI : R2 := rI0 fun i j => .int (i + j)
def rSubI : R2 := rI0 fun i j => .int (i - j)
def rMulI : R2 := rI CMul fun i j => .int (i * j)
def rMulJ : R2 := rI CMulW fun i j => .int (i * j)
def rModI : R2 := rI (fun _ j => 0 < j) fun i j => .int (i % j)
def rAddU (K : PySem.W.Frag) : R2 := fun x y H Q => rAddI x y H Q ∨ rCat x y H Q ∨ rCatA K x y H Q
def rMulU (K : PySem.W.Frag) : R2 := fun x y H Q => rMulI x y H Q ∨ rMulJ x y H Q ∨ rRep x y H Q ∨ rRepTA K x y H Q
def rEqU (K : PySem.W.Frag) : R2 := fun x y H Q => rEq x y H Q ∨ rEqD K x y H Q
def rNeU (K : PySem.W.Frag) : R2 := fun x y H Q => rNe x y H Q ∨ rNeD K x y H Q
def rSlU (K : PySem.W.Frag) : V → Option Int → Option Int → Hp → VK → Prop := fun x lo hi H Q => rSlL K x lo hi H Q ∨ rSlA K x lo hi H Q
section
variable {X : Cx}
theorem op_addU : OpR X (binaryOp .Add) (rAddU X.K) := op_add.or (op_cat.or op_catA)
theorem op_mulU : OpR X (binaryOp .Mult) (rMulU X.K) := op_mul.or (op_mulW.or (op_rep.or op_repTA))
theorem op_eqU (hu : X.A.units + 64 < cLine) : OpR X (compareOp .Eq) (rEqU X.K) := op_eq.or (op_eqD hu)
theorem op_neU (hu : X.A.units + 64 < cLine) : OpR X (compareOp .NotEq) (rNeU X.K) := op_ne.or (op_neD hu)
theorem sl_U : SlR X (rSlU X.K) := sl_list.or sl_tupA
def tRevU (K : PySem.W.Frag) (te : TE) : TE := fun σ H Q => te σ H fun x H1 => (∃ a xs, x = .ref a ∧ SqL K H1 a xs ∧ ∀ p, H1 p = none → Q (.ref p) (upd H1 p (.lst xs.reverse))) ∨ (∃ a xs, x = .ref a ∧ SqT K H1 a xs ∧ ∀ p, H1 p = none → Q (.ref p) (upd H1 p (.tup xs.reverse)))
/-- the reading of a part may be parted: what it gives is one of two -/
theorem pe_revU {e : Expr} {te : TE} {k : Nat} {p1 p2 p3 pos : Pos} (he : PE X e te) : PE X (.Subscript e (.Slice none none (some (.UnaryOp .USub (.Constant (.int 1) k p1) p2)) p3) pos) (tRevU X.K te) := by
  refine ⟨fun pins s σ H Q I h => ?_⟩
  refine Subscript_ (thn (he.run pins s σ H _ I h) fun v s1 ⟨x, H1, I1, r1, q1⟩ => ?_)
  have hst : PO X (some (.UnaryOp .USub (.Constant (.int 1) k p1) p2)) (tPart (tUn (rU fun i => .int (-i)) (tC (.int 1)))) := po_some (pe_un un_neg pe_int)
  refine wpAny_Slice (thn (po_none.run pins s1 σ H1 (fun o H2 => o = none ∧ H2 = H1) I1 ⟨rfl, rfl⟩) fun vl s2 ⟨l, H2, I2, pl, el, e2⟩ => ?_)
  subst el e2
  cases pl
  refine thn (po_none.run pins s2 σ H2 (fun o H3 => o = none ∧ H3 = H2) I2 ⟨rfl, rfl⟩) fun vu s3 ⟨u, H3, I3, pu, eu, e3⟩ => ?_
  subst eu e3
  cases pu
  refine thn (hst.run pins s3 σ H3 (fun o H4 => o = some (-1) ∧ H4 = H3) I3 ⟨1, rfl, -1, rfl, rfl, rfl⟩) fun vs s4 ⟨o, H4, I4, ps, eo, e4⟩ => ?_
  subst eo e4
  have I5 : Inv X pins σ H4 { s4 with heap := s4.heap.push { cls := .type "slice", data := .fields #[.none, .none, vs] } } := I4.kept (t' := s4.toks) fun b ob q => Heap.get?_push_of_some _ q
  rcases q1 with ⟨a, xs, ex, hx, q⟩ | ⟨a, xs, ex, hx, q⟩
  · subst ex
    cases r1
    obtain ⟨its, r, ht, hz⟩ := I5.list hx
    have hlen := r.length
    show wpAny (model X.prog X.w) X.A (subscriptTail e (.Slice none none (some (.UnaryOp .USub (.Constant (.int 1) k p1) p2)) p3) (.ref a) (.ref s4.heap.objs.size)) (EP X pins σ Q) X.xe { s4 with heap := s4.heap.push { cls := .type "slice", data := .fields #[.none, .none, vs] } }
    refine tail_any (ops := [.ref a, .ref s4.heap.objs.size]) ht.isList.typeIs (PySem.slot_list_getitem.lookup) ?_ (by with_unfolding_all rfl)
    refine wpAny_getItem_list_slice ht.isList (Heap.IsSliceOf.new _ .none .none vs) .none .none ps (by decide) ?_ (by rw [List.size_toArray]; omega)
    rw [PySem.W.krv_pick]
    refine ⟨.ref _, _, I5.laid (t' := s4.toks) (o := .lst xs.reverse) (fun b ob q => Heap.get?_push_of_some _ q) (Nat.le_refl _) ?_, rfl, q _ (I5.hok.fresh (Nat.le_refl _))⟩
    exact ⟨by rw [List.length_reverse]; exact hz, _, 0, r.reverse, Heap.get?_push_size _ rfl⟩
  · subst ex
    cases r1
    obtain ⟨its, r, ht, hz⟩ := I5.tuple hx
    have hlen := r.length
    show wpAny (model X.prog X.w) X.A (subscriptTail e (.Slice none none (some (.UnaryOp .USub (.Constant (.int 1) k p1) p2)) p3) (.ref a) (.ref s4.heap.objs.size)) (EP X pins σ Q) X.xe { s4 with heap := s4.heap.push { cls := .type "slice", data := .fields #[.none, .none, vs] } }
    refine tail_any (ops := [.ref a, .ref s4.heap.objs.size]) ht.typeIs (PyProof.Rows.slot_tuple_getitem.lookup) ?_ (by with_unfolding_all rfl)
    refine HT.wk_getItem_tuple_rev ht (Heap.IsSliceOf.new _ .none .none vs) ps ?_ (by rw [List.size_toArray]; omega)
    refine ⟨.ref _, _, I5.laid (t' := s4.toks) (o := .tup xs.reverse) (fun b ob q => Heap.get?_push_of_some _ q) (Nat.le_refl _) ?_, rfl, q _ (I5.hok.fresh (Nat.le_refl _))⟩
    exact ⟨by rw [List.length_reverse]; exact hz, _, r.reverse, IsTup.new _ _⟩
end

/-! ### heaps -/
abbrev IT (K : PySem.W.Frag) (H : Hp) (a : Addr) (ns : List Int) : Prop := SqT K H a (ns.map V.int)
abbrev IL (K : PySem.W.Frag) (H : Hp) (a : Addr) (ns : List Int) : Prop := SqL K H a (ns.map V.int)
/-- all but what stands at w is as it was -/
def ExW (w : Addr) (H H' : Hp) : Prop := ∀ a o, H a = some o → a ≠ w → H' a = some o
theorem ExW.refl {w : Addr} (H : Hp) : ExW w H H := fun _ _ h _ => h
theorem ExW.trans {w : Addr} {H H1 H2 : Hp} (a : ExW w H H1) (b : ExW w H1 H2) : ExW w H H2 := fun x o h n => b x o (a x o h n) n
theorem ExW.of {w : Addr} {H H' : Hp} (e : Ex H H') : ExW w H H' := fun a o h _ => e a o h
theorem ExW.upd {w : Addr} {H : Hp} {o : HO} : ExW w H (upd H w o) := fun a u h n => by
  rw [upd_ne n]
  exact h
theorem exw_t {K : PySem.W.Frag} {w : Addr} {H H' : Hp} {a : Addr} {xs ys : List V} (e : ExW w H H') (hw : H w = some (.lst ys)) (h : SqT K H a xs) : SqT K H' a xs := by
  rcases h with (h | ⟨o, h⟩) | h
  · exact .inl (.inl (e _ _ h (ne_of h hw (by intro z; cases z))))
  · exact .inl (.inr ⟨o, e _ _ h (ne_of h hw (by intro z; cases z))⟩)
  · exact .inr h
theorem exw_l {K : PySem.W.Frag} {w : Addr} {H H' : Hp} {a : Addr} {xs : List V} (e : ExW w H H') (hw : a ≠ w) (h : SqL K H a xs) : SqL K H' a xs := by
  rcases h with (h | ⟨o, h⟩) | h
  · exact .inl (.inl (e _ _ h hw))
  · exact .inl (.inr ⟨o, e _ _ h hw⟩)
  · exact .inr h
/-- a new object, the heap behind it unnamed -/
theorem alloc {H : Hp} {o : HO} {Q : VK} (h : ∀ p H1, H p = none → Ex H H1 → H1 p = some o → Q (.ref p) H1) : ∀ p, H p = none → Q (.ref p) (upd H p o) :=
  fun p hp => h p _ hp (Ex.new hp) upd_same
theorem t_of {K : PySem.W.Frag} {H : Hp} {a : Addr} {xs : List V} (h : H a = some (.tup xs)) : SqT K H a xs := .inl (.inl h)
theorem l_of {K : PySem.W.Frag} {H : Hp} {a : Addr} {xs : List V} (h : H a = some (.lst xs)) : SqL K H a xs := .inl (.inl h)
/-- a tuple of the heap is no list of it -/
theorem t_ne {K : PySem.W.Frag} {H : Hp} {a w : Addr} {xs ys : List V} (h : H a = some (.tup xs)) (hw : H w = some (.lst ys)) : a ≠ w := ne_of h hw (by intro z; cases z)
/-- data of ints -/
theorem dp_ints {K : PySem.W.Frag} {H : Hp} : ∀ ns : List Int, DpAll K H (ns.map V.int) (ns.map PyData.int)
  | [] => .nil
  | n :: r => .cons (.int n) (dp_ints r)
theorem dp_t {K : PySem.W.Frag} {H : Hp} {a : Addr} {ns : List Int} (h : IT K H a ns) : Dp K H (.ref a) (.tuple (ns.map .int)) := .tup h (dp_ints ns)
theorem dp_l {K : PySem.W.Frag} {H : Hp} {a : Addr} {ns : List Int} (h : IL K H a ns) : Dp K H (.ref a) (.list (ns.map .int)) := .lst h (dp_ints ns)
end L2
namespace L2
open PySem PySem.Spec PyProof.Rows Evl
/-! ### == of sequences of ints -/
theorem eqvAll_ints : ∀ ns ms : List Int, PyData.eqvAll (ns.map .int) (ms.map .int) = decide (ns = ms)
  | [], [] => by simp [PyData.eqvAll]
  | [], m :: ms => by simp [PyData.eqvAll]
  | n :: ns, [] => by simp [PyData.eqvAll]
  | n :: ns, m :: ms => by
    rw [List.map_cons, List.map_cons, PyData.eqvAll, eqvAll_ints ns ms, PyData.eqv]
    by_cases h : n = m
    · subst h
      simp
    · simp [h]
theorem eqv_tints (ns ms : List Int) : PyData.eqv (.tuple (ns.map .int)) (.tuple (ms.map .int)) = decide (ns = ms) := by rw [PyData.eqv, eqvAll_ints]
theorem eqv_lints (ns ms : List Int) : PyData.eqv (.list (ns.map .int)) (.list (ms.map .int)) = decide (ns = ms) := by rw [PyData.eqv, eqvAll_ints]
theorem canLay_ints : ∀ ns : List Int, PyData.canLayAll0 (ns.map .int) = true
  | [] => by simp [PyData.canLayAll0]
  | n :: ns => by
    rw [List.map_cons, PyData.canLayAll0, canLay_ints ns]
    simp [PyData.canLay0]
theorem depth_ints : ∀ ns : List Int, PyData.depthAll (ns.map .int) = 0
  | [] => by simp [PyData.depthAll]
  | n :: ns => by
    rw [List.map_cons, PyData.depthAll, depth_ints ns]
    simp [PyData.depth]
theorem shaped_t (ns : List Int) : SeqAt.shaped (.tuple (ns.map .int)) = true := by
  unfold SeqAt.shaped
  rw [PyData.canLay0, canLay_ints, PyData.depth, depth_ints]
  rfl
theorem shaped_l (ns : List Int) : SeqAt.shaped (.list (ns.map .int)) = true := by
  unfold SeqAt.shaped
  rw [PyData.canLay0, canLay_ints, PyData.depth, depth_ints]
  rfl
section
variable {K : PySem.W.Frag} {H : Hp} {Q : VK} {a b : Addr} {ns ms : List Int}
theorem r_eqT (ha : IT K H a ns) (hb : IT K H b ms) (q : Q (.bl (decide (ns = ms))) H) : rEqU K (.ref a) (.ref b) H Q :=
  .inr ⟨_, _, dp_t ha, dp_t hb, shaped_t ns, shaped_t ms, by rw [eqv_tints]; exact q⟩
theorem r_neT (ha : IT K H a ns) (hb : IT K H b ms) (q : Q (.bl (!decide (ns = ms))) H) : rNeU K (.ref a) (.ref b) H Q :=
  .inr ⟨_, _, dp_t ha, dp_t hb, shaped_t ns, shaped_t ms, by rw [eqv_tints]; exact q⟩
theorem r_eqL (ha : IL K H a ns) (hb : IL K H b ms) (q : Q (.bl (decide (ns = ms))) H) : rEqU K (.ref a) (.ref b) H Q :=
  .inr ⟨_, _, dp_l ha, dp_l hb, shaped_l ns, shaped_l ms, by rw [eqv_lints]; exact q⟩
theorem r_neL (ha : IL K H a ns) (hb : IL K H b ms) (q : Q (.bl (!decide (ns = ms))) H) : rNeU K (.ref a) (.ref b) H Q :=
  .inr ⟨_, _, dp_l ha, dp_l hb, shaped_l ns, shaped_l ms, by rw [eqv_lints]; exact q⟩
theorem r_eqI {i j : Int} (q : Q (.bl (decide (i = j))) H) : rEqU K (.int i) (.int j) H Q := .inl ⟨rfl, by
  have e : decide ((V.int i) = V.int j) = decide (i = j) := by simp
  rw [e]
  exact q⟩
theorem r_neI {i j : Int} (q : Q (.bl (!decide (i = j))) H) : rNeU K (.int i) (.int j) H Q := .inl ⟨rfl, by
  have e : decide ((V.int i) = V.int j) = decide (i = j) := by simp
  rw [e]
  exact q⟩
theorem r_add {i j : Int} (q : Q (.int (i + j)) H) : rAddU K (.int i) (.int j) H Q := .inl ⟨i, j, rfl, rfl, q⟩
theorem r_mul {i j : Int} (h : CMul i j) (q : Q (.int (i * j)) H) : rMulU K (.int i) (.int j) H Q := .inl ⟨i, j, rfl, rfl, h, q⟩
theorem r_mulW {i j : Int} (h : CMulW i j) (q : Q (.int (i * j)) H) : rMulU K (.int i) (.int j) H Q := .inr (.inl ⟨i, j, rfl, rfl, h, q⟩)
/-- the tuple of both -/
theorem r_catT {xs ys : List V} (ha : SqT K H a xs) (hb : SqT K H b ys) (hz : xs.length + ys.length ≤ 100000) (q : ∀ p H1, Ex H H1 → SqT K H1 p (xs ++ ys) → Q (.ref p) H1) : rAddU K (.ref a) (.ref b) H Q := by
  refine .inr (.inr ⟨a, b, xs, ys, rfl, rfl, ha, hb, sz_of hz, fun e => ?_, fun _ e => ?_, fun _ _ => alloc fun p H1 _ e h => q p H1 e (t_of h)⟩)
  · subst e
    exact q b H (Ex.refl H) hb
  · subst e
    refine q a H (Ex.refl H) ?_
    rw [List.append_nil]
    exact ha
theorem r_catL {xs ys : List V} (ha : H a = some (.lst xs)) (hb : H b = some (.lst ys)) (hz : xs.length + ys.length ≤ 100000) (q : ∀ p H1, H p = none → Ex H H1 → H1 p = some (.lst (xs ++ ys)) → Q (.ref p) H1) : rAddU K (.ref a) (.ref b) H Q :=
  .inr (.inl ⟨a, b, xs, ys, rfl, rfl, ha, hb, sz_of hz, alloc q⟩)
theorem r_repT {xs : List V} {k : Int} (ha : SqT K H a xs) (h0 : 0 ≤ k) (hk : k ≤ 1000) (hz : xs.length ≤ 1000) (q : ∀ p H1, Ex H H1 → SqT K H1 p (List.replicate k.toNat xs).flatten → Q (.ref p) H1) : rMulU K (.ref a) (.int k) H Q := by
  refine .inr (.inr (.inr ⟨a, k, xs, rfl, rfl, ha, h0, hk, hz, fun e => ?_, fun _ => alloc fun p H1 _ e h => q p H1 e (t_of h)⟩))
  refine q a H (Ex.refl H) ?_
  rcases e with e | e
  · subst e
    have e2 : (List.replicate k.toNat ([] : List V)).flatten = [] := by simp
    rw [e2]
    exact ha
  · subst e
    have e2 : (List.replicate (1 : Int).toNat xs).flatten = xs := by simp
    rw [e2]
    exact ha
/-- a tuple's part -/
theorem r_slT {xs : List V} {lo hi : Option Int} (ha : SqT K H a xs) (q : ∀ p H1, Ex H H1 → SqT K H1 p (cutV xs lo hi) → Q (.ref p) H1) : rSlU K (.ref a) lo hi H Q := by
  refine .inr ⟨a, xs, rfl, ha, fun e => ?_, fun _ => alloc fun p H1 _ e h => q p H1 e (t_of h)⟩
  refine q a H (Ex.refl H) ?_
  have e2 : cutV xs lo hi = xs := by
    unfold cutV
    rw [e.1, e.2, List.drop_zero, Nat.sub_zero, List.take_length]
  rw [e2]
  exact ha
theorem r_slL {xs : List V} {lo hi : Option Int} (ha : SqL K H a xs) (q : ∀ p H1, H p = none → Ex H H1 → H1 p = some (.lst (cutV xs lo hi)) → Q (.ref p) H1) : rSlU K (.ref a) lo hi H Q := .inl ⟨a, xs, rfl, ha, alloc q⟩
end
theorem cut_map {ns : List Int} {lo hi : Option Int} : cutV (ns.map V.int) lo hi = ((ns.drop (HT.sIx ns.length 0 lo)).take (HT.sIx ns.length ns.length hi - HT.sIx ns.length 0 lo)).map V.int := by
  unfold cutV
  rw [List.length_map, List.map_take, List.map_drop]
theorem sIx_int {n d : Nat} {v : Int} (h : 0 ≤ v) : HT.sIx n d (some v) = min v.toNat n := by
  obtain ⟨k, rfl⟩ := Int.eq_ofNat_of_zero_le h
  exact HT.sIx_nat n d k
/-- xs[:k] -/
theorem cut_to {ns : List Int} {k : Int} (h : 0 ≤ k) : cutV (ns.map V.int) none (some k) = (ns.take k.toNat).map V.int := by
  rw [cut_map, HT.sIx_none, sIx_int h, List.drop_zero, Nat.sub_zero]
  congr 1
  rw [Nat.min_def]
  split
  · rfl
  · rw [List.take_of_length_le (Nat.le_refl _), List.take_of_length_le (by omega)]
/-- xs[k:] -/
theorem cut_from {ns : List Int} {k : Int} (h : 0 ≤ k) : cutV (ns.map V.int) (some k) none = (ns.drop k.toNat).map V.int := by
  rw [cut_map, HT.sIx_none, sIx_int h]
  congr 1
  by_cases hk : k.toNat ≤ ns.length
  · rw [Nat.min_eq_left hk, List.take_of_length_le (by rw [List.length_drop]; exact Nat.le_refl _)]
  · rw [Nat.min_eq_right (by omega), List.drop_of_length_le (Nat.le_refl _), List.drop_of_length_le (by omega)]
    simp
/-- an item at a place from 0 on -/
theorem at_int {ns : List Int} {i : Int} {x : Int} (h0 : 0 ≤ i) (hx : ns[i.toNat]? = some x) : atI (ns.map V.int) i = some (.int x) := by
  have e : i = ((i.toNat : Nat) : Int) := by omega
  rw [e]
  exact atI_nat (by rw [List.getElem?_map, hx]; rfl)
theorem at_last {ns : List Int} {x : Int} (hx : ns.getLast? = some x) : atI (ns.map V.int) (-1) = some (.int x) := by
  obtain ⟨ys, rfl⟩ := List.getLast?_eq_some_iff.mp hx
  rw [List.map_append]
  exact atI_last _ _
/-! ### the draws' three ints -/
structure Well (H : Hp) (w : Addr) (n : Nat) : Prop where
  ex : ∃ a b c : Int, H w = some (.lst [.int a, .int b, .int c]) ∧ 0 ≤ a ∧ 0 ≤ b ∧ b.natAbs < 2 ^ 160 ∧ 0 ≤ c ∧ c ≤ n
theorem Well.mono {H H' : Hp} {w : Addr} {n : Nat} (h : Well H w n) (e : Ex H H') : Well H' w n := by
  obtain ⟨a, b, c, h1, h2⟩ := h.ex
  exact ⟨a, b, c, e _ _ h1, h2⟩
theorem Well.more {H : Hp} {w : Addr} {n m : Nat} (h : Well H w n) (e : n ≤ m) : Well H w m := by
  obtain ⟨a, b, c, h1, h2, h3, h4, h5, h6⟩ := h.ex
  exact ⟨a, b, c, h1, h2, h3, h4, h5, by omega⟩
theorem Well.t {K : PySem.W.Frag} {H H' : Hp} {w a : Addr} {n : Nat} {xs : List V} (h : Well H w n) (e : ExW w H H') (t : SqT K H a xs) : SqT K H' a xs := by
  obtain ⟨_, _, _, h1, _⟩ := h.ex
  exact exw_t e h1 t
theorem Well.ne {H : Hp} {w p : Addr} {n : Nat} (h : Well H w n) (hp : H p = none) : p ≠ w := by
  obtain ⟨_, _, _, h1, _⟩ := h.ex
  exact fun e => by
    subst e
    rw [hp] at h1
    cases h1
/-- from what is drawn on -/
def spTake : Sp := fun vs H Q _ => ∃ w n m, vs = [.ref w, .int m] ∧ 0 < m ∧ m < 2 ^ 60 ∧ Well H w n ∧ n < 2 ^ 30 ∧ ∀ r H', 0 ≤ r → r < m → ExW w H H' → Well H' w (n + 1) → Q (.int r) H'
theorem small_t {n : Nat} (h : n ≤ 100000) : n ≤ sizeLine := sz_of h
end L2
namespace L2
open PySem PySem.Spec PyProof.Rows Evl
theorem ty_t {K : PySem.W.Frag} {H : Hp} {a : Addr} {xs : List V} (h : SqT K H a xs) : TyX K H (.ref a) (.type "tuple") := by
  rcases h with (h | ⟨o, h⟩) | ⟨o, its, n, h, c, _⟩
  · exact .base (.tup h)
  · exact .fTuple h
  · exact .kTuple h c
theorem ty_l {K : PySem.W.Frag} {H : Hp} {a : Addr} {xs : List V} (h : SqL K H a xs) : TyX K H (.ref a) (.type "list") := by
  rcases h with (h | ⟨o, h⟩) | ⟨o, its, n, h, c, _⟩
  · exact .base (.lst h)
  · exact .base (.frz h)
  · exact .kList h c
/-! ### comprehensions whose turns change nothing -/
section
variable {K : PySem.W.Frag} {σ : L2.St} {H : Hp} {te tl : TE} {Q : VK} {j : Nat} {vs : List Nat} {a : Addr} {xs ys : List V}
theorem take_snoc {α : Type} {l : List α} {i : Nat} {y : α} (h : l[i]? = some y) : l.take (i + 1) = l.take i ++ [y] := by
  rw [List.take_add_one, h]
  rfl
/-- what one turn does -/
theorem cm_turn {H0 H' : Hp} {D : Addr} {i : Nat} {y : V} {σ2 : L2.St} (hy : ys[i]? = some y) (hz : ys.length ≤ 100000) (hD : H0 D = none) (p : Ex H0 H' ∧ H' D = some (.lst (ys.take i)))
    (he : ∀ Q' : VK, (∀ H2, Ex H' H2 → Q' y H2) → te σ2 H' Q') :
    te σ2 H' fun y H4 => ∃ acc, H4 D = some (.lst acc) ∧ acc.length < sizeLine ∧ (Ex H0 (upd H4 D (.lst (acc ++ [y]))) ∧ (upd H4 D (.lst (acc ++ [y]))) D = some (.lst (ys.take (i + 1)))) := by
  refine he _ fun H2 e2 => ⟨ys.take i, e2 _ _ p.2, ?_, Ex.mut (p.1.trans e2) hD, ?_⟩
  · have := (List.getElem?_eq_some_iff.mp hy).1
    rw [List.length_take]
    exact Nat.lt_of_le_of_lt (Nat.min_le_left _ _) (Nat.lt_of_lt_of_le this (sz_of hz))
  · rw [upd_same, take_snoc hy]
theorem cm_tup (hl : ∀ R : VK, (∀ a H1, Ex H H1 → SqT K H1 a xs → R (.ref a) H1) → tl σ H R) (hxy : ys.length = xs.length) (hz : ys.length ≤ 100000) (hw : ∀ x, wipe ((wipe σ vs).set j (some x)) vs = wipe σ vs)
    (he : ∀ (i : Nat) (x y : V) (H1 : Hp), xs[i]? = some x → ys[i]? = some y → Ex H H1 → ∀ Q' : VK, (∀ H2, Ex H1 H2 → Q' y H2) → te ((wipe σ vs).set j (some x)) H1 Q')
    (q : ∀ D H1, H D = none → Ex H H1 → H1 D = some (.lst ys) → Q (.ref D) H1) : tLc (iTup K tl) (gName j) tYes te vs σ H Q := by
  refine hl _ fun a H1 e1 ht => ⟨a, rfl, ⟨xs, ht⟩, fun D hD => ?_⟩
  refine lc_tup (K := K) (a := a) (xs := xs) (fun i H' => Ex H1 H' ∧ H' D = some (.lst (ys.take i))) ⟨Ex.new hD, by rw [upd_same]; rfl⟩ (fun i H' _ p => ex_t p.1 ht) (fun i x H' hx p => ⟨hw x, ?_⟩) (fun H' p => q D H' ?_ (e1.trans p.1) ?_)
  · have hi : i < ys.length := by rw [hxy]; exact (List.getElem?_eq_some_iff.mp hx).1
    exact cm_turn (List.getElem?_eq_getElem hi) hz hD p fun Q' k => he i x _ H' hx (List.getElem?_eq_getElem hi) (e1.trans p.1) Q' k
  · exact fresh_back e1 hD
  · rw [p.2, ← hxy, List.take_length]
theorem cm_list (hl : ∀ R : VK, (∀ a H1, Ex H H1 → SqL K H1 a xs → R (.ref a) H1) → tl σ H R) (hxy : ys.length = xs.length) (hz : ys.length ≤ 100000) (hw : ∀ x, wipe ((wipe σ vs).set j (some x)) vs = wipe σ vs)
    (he : ∀ (i : Nat) (x y : V) (H1 : Hp), xs[i]? = some x → ys[i]? = some y → Ex H H1 → ∀ Q' : VK, (∀ H2, Ex H1 H2 → Q' y H2) → te ((wipe σ vs).set j (some x)) H1 Q')
    (q : ∀ D H1, H D = none → Ex H H1 → H1 D = some (.lst ys) → Q (.ref D) H1) : tLc (iList K tl) (gName j) tYes te vs σ H Q := by
  refine hl _ fun a H1 e1 ht => ⟨a, rfl, ⟨xs, ht⟩, fun D hD => ?_⟩
  refine lc_list (K := K) (a := a) (xs := xs) (fun i H' => Ex H1 H' ∧ H' D = some (.lst (ys.take i))) ⟨Ex.new hD, by rw [upd_same]; rfl⟩ (fun i H' _ p => ex_l p.1 ht) (fun i x H' hx p => ⟨hw x, ?_⟩) (fun H' p => q D H' ?_ (e1.trans p.1) ?_)
  · have hi : i < ys.length := by rw [hxy]; exact (List.getElem?_eq_some_iff.mp hx).1
    exact cm_turn (List.getElem?_eq_getElem hi) hz hD p fun Q' k => he i x _ H' hx (List.getElem?_eq_getElem hi) (e1.trans p.1) Q' k
  · exact fresh_back e1 hD
  · rw [p.2, ← hxy, List.take_length]
/-- [e for i in range(n) if t] -/
theorem cm_rngF {ta : TA} {tt : TT} {n : Int} (f : Nat → Bool) (v : Nat → V) (hl : ∀ R : List V → Hp → Prop, (∀ H1, Ex H H1 → R [.int n] H1) → ta σ H R) (hn : n ≤ 50000) (hlo : -100000 ≤ n) (hw : ∀ x, wipe ((wipe σ vs).set j (some x)) vs = wipe σ vs)
    (ht : ∀ (i : Nat) H1, (i : Int) < n → Ex H H1 → ∀ Q' : Bool → Hp → Prop, (∀ H2, Ex H1 H2 → Q' (f i) H2) → tt ((wipe σ vs).set j (some (.int (i : Int)))) H1 Q')
    (he : ∀ (i : Nat) H1, (i : Int) < n → f i = true → Ex H H1 → ∀ Q' : VK, (∀ H2, Ex H1 H2 → Q' (v i) H2) → te ((wipe σ vs).set j (some (.int (i : Int)))) H1 Q')
    (q : ∀ D H1, H D = none → Ex H H1 → H1 D = some (.lst (given n.toNat f v)) → Q (.ref D) H1) : tLc (iRng1 ta) (gName j) tt te vs σ H Q := by
  refine hl _ fun H1 e1 => ⟨n, rfl, by omega, by omega, fun D hD => ?_⟩
  refine lc_range (lo := 0) (n := n.toNat) (fun i H' => Ex H1 H' ∧ H' D = some (.lst (given i f v))) ⟨Ex.new hD, by rw [upd_same]; rfl⟩ (fun i H' hi p => ?_) (fun H' p => q D H' ?_ (e1.trans p.1) p.2)
  · rw [show (0 : Int) + (i : Int) = (i : Int) by omega]
    refine ⟨hw _, ht i H' (by omega) (e1.trans p.1) _ fun H2 e2 => ?_⟩
    cases hf : f i with
    | false =>
      refine iteF ⟨p.1.trans e2, ?_⟩
      rw [given_no hf]
      exact e2 _ _ p.2
    | true =>
      refine iteT (he i H2 (by omega) hf ((e1.trans p.1).trans e2) _ fun H3 e3 => ⟨given i f v, e3 _ _ (e2 _ _ p.2), ?_, Ex.mut ((p.1.trans e2).trans e3) hD, ?_⟩)
      · have := given_len i f v
        exact sz_lt (by omega)
      · rw [upd_same, given_yes hf]
  · exact fresh_back e1 hD
/-- [e for i in range(n)], the turns change the heap: S is what stands between them, P what is said of an item -/
theorem cm_rngS {ta : TA} {n : Int} (S : Nat → Hp → Prop) (Pr : V → Prop) (hn : n ≤ 50000) (hlo : -100000 ≤ n) (hw : ∀ x, wipe ((wipe σ vs).set j (some x)) vs = wipe σ vs)
    (hl : ∀ R : List V → Hp → Prop, (∀ H1, S 0 H1 → R [.int n] H1) → ta σ H R)
    (hnew : ∀ i H1 D o, S i H1 → H1 D = none → S i (upd H1 D o))
    (he : ∀ (i : Nat) H1 D acc, (i : Int) < n → S i H1 → H1 D = some (.lst acc) → (∀ o, S i (upd H1 D o)) →
      ∀ Q' : VK, (∀ y H2, Pr y → H2 D = some (.lst acc) → (∀ o, S (i + 1) (upd H2 D o)) → Q' y H2) → te ((wipe σ vs).set j (some (.int (i : Int)))) H1 Q')
    (q : ∀ D H1 ys, ys.length = n.toNat → (∀ y ∈ ys, Pr y) → S n.toNat H1 → (∀ o, S n.toNat (upd H1 D o)) → H1 D = some (.lst ys) → Q (.ref D) H1) : tLc (iRng1 ta) (gName j) tYes te vs σ H Q := by
  refine hl _ fun H1 s1 => ⟨n, rfl, by omega, by omega, fun D hD => ?_⟩
  refine lc_range (lo := 0) (n := n.toNat) (fun i H' => ∃ ys : List V, ys.length = i ∧ (∀ y ∈ ys, Pr y) ∧ S i H' ∧ (∀ o, S i (upd H' D o)) ∧ H' D = some (.lst ys)) ⟨[], rfl, (fun _ h => by cases h), hnew 0 H1 D _ s1 hD, fun o => by rw [upd_upd]; exact hnew 0 H1 D o s1 hD, upd_same⟩ (fun i H' hi p => ?_) (fun H' p => ?_)
  · obtain ⟨ys, h1, h2, h3, h4, h5⟩ := p
    rw [show (0 : Int) + (i : Int) = (i : Int) by omega]
    refine ⟨hw _, ?_⟩
    refine he i H' D ys (by omega) h3 h5 h4 _ fun y H2 z1 z2 z3 => ?_
    refine ⟨ys, z2, sz_lt (by omega), ys ++ [y], by rw [List.length_append, h1]; rfl, fun x hx => ?_, z3 _, fun o => by rw [upd_upd]; exact z3 o, upd_same⟩
    rcases List.mem_append.mp hx with hx | hx
    · exact h2 x hx
    · rw [List.mem_singleton.mp hx]
      exact z1
  · obtain ⟨ys, h1, h2, h3, h4, h5⟩ := p
    exact q D H' ys h1 h2 h3 h4 h5
end
end L2
namespace L2
open PySem PySem.Spec PyProof.Rows Evl
section
variable {K : PySem.W.Frag} {σ : L2.St} {H : Hp} {te tl : TE} {t : TA} {Q : VK} {a : Addr} {xs ys : List V}
theorem st_lst (h : t σ H fun xs H1 => xs.length ≤ 100000 ∧ ∀ p H2, H1 p = none → Ex H1 H2 → H2 p = some (.lst xs) → Q (.ref p) H2) (mono : ∀ A B : List V → Hp → Prop, (∀ xs H, A xs H → B xs H) → t σ H A → t σ H B) : tLst t σ H Q :=
  mono _ _ (fun xs H1 z => ⟨sz_of z.1, alloc z.2⟩) h
theorem st_nil (h : ∀ p H2, H p = none → Ex H H2 → H2 p = some (.lst []) → Q (.ref p) H2) : tLst tNil σ H Q := ⟨Nat.zero_le _, alloc h⟩
/-- tuple(xs), xs a list | a tuple -/
theorem r_tuL {R : VK} (ha : SqL K H a xs) (q : ∀ p H1, H p = none → Ex H H1 → SqT K H1 p xs → R (.ref p) H1) :
    ∃ p ys, [V.ref a] = [.ref p] ∧ ((SqL K H p ys ∧ ∀ l, H l = none → R (.ref l) (upd H l (.tup ys))) ∨ (SqT K H p ys ∧ R (.ref p) H)) :=
  ⟨a, xs, rfl, .inl ⟨ha, alloc fun p H1 hp e h => q p H1 hp e (t_of h)⟩⟩
/-- list(xs) -/
theorem r_liL {R : VK} (ha : SqL K H a xs ∨ SqT K H a xs) (q : ∀ p H1, H p = none → Ex H H1 → H1 p = some (.lst xs) → R (.ref p) H1) :
    ∃ p ys, [V.ref a] = [.ref p] ∧ (SqL K H p ys ∨ SqT K H p ys) ∧ ∀ l, H l = none → R (.ref l) (upd H l (.lst ys)) := ⟨a, xs, rfl, ha, alloc q⟩
/-- xs[::-1] -/
theorem st_revL {te : TE} {a : Addr} {xs : List V} (he : ∀ R : VK, R (.ref a) H → te σ H R) (ha : SqL K H a xs) (q : ∀ p H1, H p = none → Ex H H1 → H1 p = some (.lst xs.reverse) → Q (.ref p) H1) : tRevU K te σ H Q := he _ (.inl ⟨a, xs, rfl, ha, alloc q⟩)
theorem st_revT {te : TE} {a : Addr} {xs : List V} (he : ∀ R : VK, R (.ref a) H → te σ H R) (ha : SqT K H a xs) (q : ∀ p H1, H p = none → Ex H H1 → H1 p = some (.tup xs.reverse) → Q (.ref p) H1) : tRevU K te σ H Q := he _ (.inr ⟨a, xs, rfl, ha, alloc q⟩)
theorem he_var {i : Nat} (h : σ[i]? = some (some (.ref a))) : ∀ R : VK, R (.ref a) H → tVar i σ H R := fun _ r => ⟨_, h, r⟩
end
end L2
namespace L2
open PySem PySem.Spec PyProof.Rows Evl
section
variable {K : PySem.W.Frag} {σ : L2.St} {H : Hp} {te tl ta tb : TE} {t tr : TA} {Q : VK} {D : Ends} {tu tw : TS} {g : TG} {tc : TT}
theorem st_seq (h : tu { D with nx := tw D } σ H) : tSeq tu tw D σ H := h
theorem st_asg (h : te σ H fun x H1 => g x σ H1 D.nx) : tAsg te g D σ H := h
theorem st_set {i : Nat} (h : te σ H fun x H1 => D.nx (σ.set i (some x)) H1) : tAsg te (gName i) D σ H := h
theorem st_ret (h : te σ H D.rt) : tRet te D σ H := h
theorem st_drop (h : te σ H fun _ H1 => D.nx σ H1) : tDrop te D σ H := h
theorem st_if (h : tc σ H fun b H1 => if b = true then tu D σ H1 else tw D σ H1) : tIfS tc tu tw D σ H := h
theorem st_cb {r : List V → Hp → VK → Prop} (h : t σ H fun vs H1 => r vs H1 Q) : tCB r t σ H Q := h
theorem st_cons {R : List V → Hp → Prop} (h : ta σ H fun x H1 => tr σ H1 fun xs H2 => R (x :: xs) H2) : tCons ta tr σ H R := h
theorem st_op {r : R2} (h : ta σ H fun x H1 => tb σ H1 fun y H2 => r x y H2 Q) : tOp r ta tb σ H Q := h
theorem st_un {r : V → Hp → VK → Prop} (h : ta σ H fun x H1 => r x H1 Q) : tUn r ta σ H Q := h
theorem st_test {R : Bool → Hp → Prop} (h : te σ H fun x H1 => ∃ k, x = .bl k ∧ R k H1) : tTest te σ H R := h
theorem st_call {sp : Sp} {dvs : List V} {E : XK} (h : t σ H fun vs H1 => sp (vs ++ dvs) H1 Q E) : tCall sp dvs E t σ H Q := h
theorem st_sl {r : V → Option Int → Option Int → Hp → VK → Prop} {lo hi : TO} (h : te σ H fun x H1 => lo σ H1 fun l H2 => hi σ H2 fun u H3 => r x l u H3 Q) : tSl r te lo hi σ H Q := h
theorem st_tup (h : t σ H fun xs H1 => xs.length ≤ sizeLine ∧ ∀ p, H1 p = none → Q (.ref p) (upd H1 p (.tup xs))) : tTup t σ H Q := h
theorem st_par {i j : Nat} (h : t σ H fun vs H1 => ∃ v w, vs = [v, w] ∧ D.nx ((σ.set i (some v)).set j (some w)) H1) : tPar i j t D σ H := h
end
end L2
namespace L2
open PySem PySem.Spec PyProof.Rows Evl
section
variable {K : PySem.W.Frag} {H : Hp} {Q : VK} {a : Addr} {xs : List V} {i j : Int} {v : V}
theorem r_ixL (h : SqL K H a xs) (e : atI xs i = some v) (q : Q v H) : rIx K (.ref a) (.int i) H Q := .inl ⟨a, xs, i, v, rfl, rfl, h, e, q⟩
theorem r_ixT (h : SqT K H a xs) (e : atI xs i = some v) (q : Q v H) : rIx K (.ref a) (.int i) H Q := .inr (.inl ⟨a, xs, i, v, rfl, rfl, h, e, q⟩)
theorem r_I {C : Int → Int → Prop} {g : Int → Int → V} (h : C i j) (q : Q (g i j) H) : rI C g (.int i) (.int j) H Q := ⟨i, j, rfl, rfl, h, q⟩
theorem r_0 {g : Int → Int → V} (q : Q (g i j) H) : rI0 g (.int i) (.int j) H Q := ⟨i, j, rfl, rfl, q⟩
theorem r_test {b : Bool} {R : Bool → Hp → Prop} (q : R b H) : ∃ k, V.bl b = .bl k ∧ R k H := ⟨b, rfl, q⟩
theorem r_set {R : Hp → Prop} {k : Nat} (h : H a = some (.lst xs)) (e : ixN xs.length i = some k) (q : R (upd H a (.lst (xs.set k v)))) : rSetL (.ref a) (.int i) v H R := ⟨a, xs, i, k, rfl, rfl, h, e, q⟩
end
/-- if by what is known of the answer -/
theorem if_t {c : Prop} [Decidable c] {A B : Prop} (hc : c) (h : A) : if decide c = true then A else B := by
  rw [decide_eq_true hc]
  exact h
theorem if_f {c : Prop} [Decidable c] {A B : Prop} (hc : ¬ c) (h : B) : if decide c = true then A else B := by
  rw [decide_eq_false hc]
  exact h
theorem if_2 {c : Prop} [Decidable c] {A B : Prop} (h1 : c → A) (h2 : ¬ c → B) : if decide c = true then A else B := by
  by_cases hc : c
  · exact if_t hc (h1 hc)
  · exact if_f hc (h2 hc)
/-- the same for a test not .. -/
theorem ifn_2 {c : Prop} [Decidable c] {A B : Prop} (h1 : ¬ c → A) (h2 : c → B) : if (!decide c) = true then A else B := by
  by_cases hc : c
  · rw [decide_eq_true hc]
    exact h2 hc
  · rw [decide_eq_false hc]
    exact h1 hc
end L2
namespace L2
open PySem PySem.Spec PyProof.Rows Evl
theorem st_c {v : V} {σ : L2.St} {H : Hp} {Q : VK} (q : Q v H) : tC v σ H Q := q
theorem st_v {i : Nat} {v : V} {σ : L2.St} {H : Hp} {Q : VK} (h : σ[i]? = some (some v)) (q : Q v H) : tVar i σ H Q := ⟨v, h, q⟩
theorem st_n {σ : L2.St} {H : Hp} {R : List V → Hp → Prop} (q : R [] H) : tNil σ H R := q
end L2
namespace L2
open PySem PySem.Spec PyProof.Rows Evl
theorem r_setG {H : Hp} {a : Addr} {xs : List V} {i : Int} {v : V} {R : Hp → Prop} {k : Nat} (h : H a = some (.lst xs)) (e : ixN xs.length i = some k) (q : ∀ H1, ExW a H H1 → H1 a = some (.lst (xs.set k v)) → R H1) : rSetL (.ref a) (.int i) v H R :=
  ⟨a, xs, i, k, rfl, rfl, h, e, q _ ExW.upd upd_same⟩
end L2
/-! the rules that lean on the written part, with that part named: so they fit within a comprehension's block, too -/
namespace L2
open PySem PySem.Spec PyProof.Rows Evl
section
variable {X : Cx} {K : PySem.W.Frag}
theorem op_addK (K : PySem.W.Frag) (h : X.K = K := by rfl) : OpR X (binaryOp .Add) (rAddU K) := h ▸ op_addU
theorem op_mulK (K : PySem.W.Frag) (h : X.K = K := by rfl) : OpR X (binaryOp .Mult) (rMulU K) := h ▸ op_mulU
theorem op_eqK (K : PySem.W.Frag) (hu : X.A.units + 64 < cLine) (h : X.K = K := by rfl) : OpR X (compareOp .Eq) (rEqU K) := h ▸ op_eqU hu
theorem op_neK (K : PySem.W.Frag) (hu : X.A.units + 64 < cLine) (h : X.K = K := by rfl) : OpR X (compareOp .NotEq) (rNeU K) := h ▸ op_neU hu
theorem op_inK (K : PySem.W.Frag) (h : X.K = K := by rfl) : OpR X (compareOp .In) (rIn K false) := h ▸ op_in_seq
theorem op_notInK (K : PySem.W.Frag) (h : X.K = K := by rfl) : OpR X (compareOp .NotIn) (rIn K true) := h ▸ op_notIn_seq
theorem ix_K (K : PySem.W.Frag) (h : X.K = K := by rfl) : IxR X (rIx K) := h ▸ ix_seq
theorem sl_K (K : PySem.W.Frag) (h : X.K = K := by rfl) : SlR X (rSlU K) := h ▸ sl_U
def rLenU (K : PySem.W.Frag) : List V → Hp → VK → Prop := fun xs H Q => ∃ p ys, xs = [.ref p] ∧ (SqL K H p ys ∨ SqT K H p ys) ∧ Q (.int ys.length) H
def rTupU (K : PySem.W.Frag) : List V → Hp → VK → Prop := fun xs H Q => ∃ p ys, xs = [.ref p] ∧ ((SqL K H p ys ∧ ∀ l, H l = none → Q (.ref l) (upd H l (.tup ys))) ∨ (SqT K H p ys ∧ Q (.ref p) H))
def rLstU (K : PySem.W.Frag) : List V → Hp → VK → Prop := fun xs H Q => ∃ p ys, xs = [.ref p] ∧ (SqL K H p ys ∨ SqT K H p ys) ∧ ∀ l, H l = none → Q (.ref l) (upd H l (.lst ys))
def rAbs : List V → Hp → VK → Prop := fun xs H Q => ∃ i, xs = [.int i] ∧ Q (.int (if i < 0 then -i else i)) H
def rMax2 : List V → Hp → VK → Prop := fun xs H Q => ∃ i j, xs = [.int i, .int j] ∧ Q (.int (if j > i then j else i)) H
def rMin2 : List V → Hp → VK → Prop := fun xs H Q => ∃ i j, xs = [.int i, .int j] ∧ Q (.int (if j < i then j else i)) H
def rInt1 : List V → Hp → VK → Prop := fun xs H Q => (∃ i, xs = [.int i] ∧ Q (.int i) H) ∨ ∃ k, xs = [.bl k] ∧ Q (.int (if k then 1 else 0)) H
theorem len_K (K : PySem.W.Frag) (h : X.K = K := by rfl) : CallR X (.builtin "len") (rLenU K) := h ▸ call_len_seq
theorem tuple_K (K : PySem.W.Frag) (h : X.K = K := by rfl) : CallR X (.type "tuple") (rTupU K) := h ▸ call_tuple_of
theorem list_K (K : PySem.W.Frag) (h : X.K = K := by rfl) : CallR X (.type "list") (rLstU K) := h ▸ call_list_of
theorem abs_K : CallR X (.builtin "abs") rAbs := call_abs
theorem max2_K (hc : X.calm = true) : CallR X (.builtin "max") rMax2 := call_max2 hc
theorem min2_K (hc : X.calm = true) : CallR X (.builtin "min") rMin2 := call_min2 hc
theorem int_K : CallR X (.type "int") rInt1 := call_int1
theorem all_K (K : PySem.W.Frag) (hc : X.calm = true) (h : X.K = K := by rfl) : CallR X (.builtin "all") (rAll K) := h ▸ cr_all hc
theorem any_K (K : PySem.W.Frag) (hc : X.calm = true) (h : X.K = K := by rfl) : CallR X (.builtin "any") (rAny K) := h ▸ cr_any hc
theorem sum_K (K : PySem.W.Frag) (hc : X.calm = true) (h : X.K = K := by rfl) : CallR X (.builtin "sum") (rSum K) := h ▸ cr_sum hc
theorem maxl_K (K : PySem.W.Frag) (hc : X.calm = true) (h : X.K = K := by rfl) : CallR X (.builtin "max") (rMax K) := h ▸ cr_max hc
theorem minl_K (K : PySem.W.Frag) (hc : X.calm = true) (h : X.K = K := by rfl) : CallR X (.builtin "min") (rMin K) := h ▸ cr_min hc
theorem isi_K (K : PySem.W.Frag) (h : X.K = K := by rfl) : CallR X (.builtin "isinstance") (rIsi K) := h ▸ call_isi
theorem pe_revK (K : PySem.W.Frag) {e : Expr} {te : TE} {k : Nat} {p1 p2 p3 pos : Pos} (he : PE X e te) (h : X.K = K := by rfl) : PE X (.Subscript e (.Slice none none (some (.UnaryOp .USub (.Constant (.int 1) k p1) p2)) p3) pos) (tRevU K te) := h ▸ pe_revU he
theorem pi_listK (K : PySem.W.Frag) {tg l : Expr} {tl : TE} (hl : PE X l tl) (h : X.K = K := by rfl) : PI X tg l (iList K tl) := h ▸ pi_list hl
theorem pi_tupK (K : PySem.W.Frag) {tg l : Expr} {tl : TE} (hl : PE X l tl) (h : X.K = K := by rfl) : PI X tg l (iTup K tl) := h ▸ pi_tup hl
def tTruU (K : PySem.W.Frag) (ta : TE) : TT := fun σ H Q => ta σ H fun x H' => ∃ k, TruV K x H' k ∧ Q k H'
theorem pt_truK (K : PySem.W.Frag) {a : Expr} {ta : TE} (ha : PE X a ta) (he : ∀ whole, isTrue a X.env whole = (do let v ← whole; standAt a.pos; holding [v] (truthy v)) := by intro _; rfl) (h : X.K = K := by rfl) : PT X a (tTruU K ta) := h ▸ pt_truth ha he
theorem pg_tupK (K : PySem.W.Frag) {es : List Expr} {k : Nat} {t : TGs} {n : Nat} {pos : Pos} (hc : X.calm = true) (h : PGs X es t) (hn : (assignEach es X.env).length = n := by rfl) (hst : (assignEach es X.env).findIdx? (·.1) = none := by rfl) (hK : X.K = K := by rfl) : PG X (.Tuple es k pos) (gTup K n t) := hK ▸ pg_tup hc h hn hst
theorem pe_bmU (K : PySem.W.Frag) {T : String} {name : Str} {id : String} {r : V → List V → Hp → VK → Prop} {o e : Expr} {es : List Expr} {to : TE} {t : TA} {apos cpos : Pos}
    (pa : PlainAttrs T) (slot : Slot T name id) (hty : typeOf (.builtin id) = pure (.type "method_descriptor")) (hm : MtR X id r) (ho : PE X o to) (ha : PA X (e :: es) t)
    (hbase : attributeBase o name X.env (eval o X.env) = eval o X.env := by rfl)
    (hfew : ((backTo cpos (starEach (e :: es) X.env)).all (fun x => !x.1) && (backToKw cpos (keywordEach [] X.env)).all (fun x => x.1.isSome) && decide ((e :: es).length + ([] : List Keyword).length + (if ([] : List Keyword).isEmpty then 0 else 1) < 30)) = true := by rfl)
    (hline : (apos.endLine == cpos.line) = true := by rfl) (hs : starEach (e :: es) X.env = (false, eval e X.env) :: starEach es X.env := by rfl) (hplain : (backTo cpos (starEach es X.env)).any (·.1) = false := by rfl) (h : X.K = K := by rfl) :
    PE X (.Call (.Attribute o name apos) (e :: es) [] cpos) (tBM K T r to t) := h ▸ pe_bm pa slot hty hm ho ha hbase hfew hline hs hplain
theorem pe_bm0U (K : PySem.W.Frag) {T : String} {name : Str} {id : String} {r : V → List V → Hp → VK → Prop} {o : Expr} {to : TE} {apos cpos : Pos}
    (pa : PlainAttrs T) (slot : Slot T name id) (hty : typeOf (.builtin id) = pure (.type "method_descriptor")) (hm : MtR X id r) (ho : PE X o to)
    (hbase : attributeBase o name X.env (eval o X.env) = eval o X.env := by rfl) (hline : (apos.endLine == cpos.line) = true := by rfl) (h : X.K = K := by rfl) : PE X (.Call (.Attribute o name apos) [] [] cpos) (tBM0 K T r to) := h ▸ pe_bm0 pa slot hty hm ho hbase hline
end
section
variable {K : PySem.W.Frag} {σ : L2.St} {H : Hp} {Q : VK} {a : Addr} {xs : List V}
theorem r_lenL (h : SqL K H a xs) (q : Q (.int (xs.length : Int)) H) : rLenU K [.ref a] H Q := ⟨a, xs, rfl, .inl h, q⟩
theorem r_lenT (h : SqT K H a xs) (q : Q (.int (xs.length : Int)) H) : rLenU K [.ref a] H Q := ⟨a, xs, rfl, .inr h, q⟩
theorem r_tupL (ha : SqL K H a xs) (q : ∀ p H1, H p = none → Ex H H1 → SqT K H1 p xs → Q (.ref p) H1) : rTupU K [.ref a] H Q := r_tuL ha q
theorem r_tupT (ha : SqT K H a xs) (q : Q (.ref a) H) : rTupU K [.ref a] H Q := ⟨a, xs, rfl, .inr ⟨ha, q⟩⟩
theorem r_lstL (ha : SqL K H a xs) (q : ∀ p H1, H p = none → Ex H H1 → H1 p = some (.lst xs) → Q (.ref p) H1) : rLstU K [.ref a] H Q := r_liL (.inl ha) q
theorem r_lstT (ha : SqT K H a xs) (q : ∀ p H1, H p = none → Ex H H1 → H1 p = some (.lst xs) → Q (.ref p) H1) : rLstU K [.ref a] H Q := r_liL (.inr ha) q
theorem r_abs {i : Int} (q : Q (.int ((i.natAbs : Nat) : Int)) H) : rAbs [.int i] H Q := ⟨i, rfl, by
  have e : (if i < 0 then -i else i) = ((i.natAbs : Nat) : Int) := by split <;> omega
  rw [e]
  exact q⟩
theorem r_max2 {i j : Int} (q : Q (.int (max i j)) H) : rMax2 [.int i, .int j] H Q := ⟨i, j, rfl, by
  have e : (if j > i then j else i) = max i j := by split <;> omega
  rw [e]
  exact q⟩
theorem r_min2 {i j : Int} (q : Q (.int (min i j)) H) : rMin2 [.int i, .int j] H Q := ⟨i, j, rfl, by
  have e : (if j < i then j else i) = min i j := by split <;> omega
  rw [e]
  exact q⟩
theorem r_intI {i : Int} (q : Q (.int i) H) : rInt1 [.int i] H Q := .inl ⟨i, rfl, q⟩
theorem r_intB {b : Bool} (q : Q (.int (if b then 1 else 0)) H) : rInt1 [.bl b] H Q := .inr ⟨b, rfl, q⟩
theorem r_sum {ns : List Int} (h : IL K H a ns) (q : Q (.int ns.sum) H) : rSum K [.ref a] H Q := ⟨a, ns, rfl, h, q⟩
theorem r_all {bs : List Bool} (h : SqL K H a (bs.map V.bl)) (q : Q (.bl (bs.all id)) H) : rAll K [.ref a] H Q := ⟨a, bs, rfl, h, q⟩
theorem r_isiI {i : Int} {n : String} {b : Bool} (hb : PySem.W.kitOne K (.type "int") (.type n) = some b) (q : Q (.bl b) H) : rIsi K [.int i, .ty n] H Q := ⟨_, _, _, _, b, rfl, .ty _, .base (.int i), hb, q⟩
theorem r_isiT {n : String} {b : Bool} (h : SqT K H a xs) (hb : PySem.W.kitOne K (.type "tuple") (.type n) = some b) (q : Q (.bl b) H) : rIsi K [.ref a, .ty n] H Q := ⟨_, _, _, _, b, rfl, .ty _, ty_t h, hb, q⟩
end
end L2
namespace L2
open PySem PySem.Spec PyProof.Rows Evl
section
variable {K : PySem.W.Frag} {σ : L2.St} {H : Hp} {Q : VK} {i j : Int} {D : Ends} {tc tc2 : TT}
theorem st_bl {b : Bool} {R : Bool → Prop} (q : R b) : ∃ k, V.bl b = V.bl k ∧ R k := ⟨b, rfl, q⟩
theorem st_in {R : Int → Prop} (q : R i) : ∃ k, V.int i = V.int k ∧ R k := ⟨i, rfl, q⟩
theorem r_neg {g : Int → V} (q : Q (g i) H) : rU g (.int i) H Q := ⟨i, rfl, q⟩
theorem r_mod (h : 0 < j) {g : Int → Int → V} (q : Q (g i j) H) : rI (fun _ j => 0 < j) g (.int i) (.int j) H Q := ⟨i, j, rfl, rfl, h, q⟩
theorem r_div {b : Nat} (h : 0 < j) (hb : j.natAbs < 2 ^ b) (h0 : 0 < b) (h9 : b ≤ 9000) {g : Int → Int → V} (q : Q (g i j) H) : rI CDivW g (.int i) (.int j) H Q := ⟨i, j, rfl, rfl, wide_div h hb h0 h9, q⟩
theorem r_pow {a k : Nat} (h0 : 0 < a) (ha : i.natAbs < 2 ^ a) (h : a * k ≤ 134217728) {g : Int → Int → V} (q : Q (g i (k : Int)) H) : rI CPowW g (.int i) (.int (k : Int)) H Q := ⟨i, _, rfl, rfl, wide_pow h0 ha h, q⟩
theorem st_tru {K : PySem.W.Frag} {ta : TE} {R : Bool → Hp → Prop} (h : ta σ H fun x H' => ∃ k, TruV K x H' k ∧ R k H') : tTruU K ta σ H R := h
theorem r_truB {b : Bool} {R : Bool → Prop} (q : R b) : ∃ k, TruV K (.bl b) H k ∧ R k := ⟨b, rfl, q⟩
theorem r_truL {a : Addr} {xs : List V} {R : Bool → Prop} (h : SqL K H a xs) (q : R (!xs.isEmpty)) : ∃ k, TruV K (.ref a) H k ∧ R k := ⟨_, .inl ⟨xs, h, rfl⟩, q⟩
theorem r_truT {a : Addr} {xs : List V} {R : Bool → Prop} (h : SqT K H a xs) (q : R (!xs.isEmpty)) : ∃ k, TruV K (.ref a) H k ∧ R k := ⟨_, .inr (.inl ⟨xs, h, rfl⟩), q⟩
theorem st_and {R : Bool → Hp → Prop} (h : tc σ H fun c H1 => if c = true then tc2 σ H1 R else R false H1) : tAnd tc tc2 σ H R := h
theorem st_or {R : Bool → Hp → Prop} (h : tc σ H fun c H1 => if c = true then R true H1 else tc2 σ H1 R) : tOr tc tc2 σ H R := h
theorem st_not {R : Bool → Hp → Prop} (h : tc σ H fun c H1 => R (!c) H1) : tNot tc σ H R := h
theorem st_B {te : TE} {R : Bool → Hp → Prop} (h : te σ H fun x H1 => ∃ c, x = .bl c ∧ R c H1) : tB te σ H R := h
theorem st_andV {ta tb : TE} (h : ta σ H fun x H1 => ∃ c, x = .bl c ∧ if c = true then tb σ H1 Q else Q (.bl false) H1) : tAndV ta tb σ H Q := h
theorem st_orV {ta tb : TE} (h : ta σ H fun x H1 => ∃ c, x = .bl c ∧ if c = true then Q (.bl true) H1 else tb σ H1 Q) : tOrV ta tb σ H Q := h
theorem st_notV {ta : TE} (h : ta σ H fun x H1 => ∃ c, x = .bl c ∧ Q (.bl (!c)) H1) : tNotV ta σ H Q := h
theorem st_ifE {ta tb : TE} (h : tc σ H fun c H1 => if c = true then ta σ H1 Q else tb σ H1 Q) : tIf tc ta tb σ H Q := h
theorem st_part {te : TE} {R : Option Int → Hp → Prop} (h : te σ H fun x H1 => ∃ i, x = .int i ∧ R (some i) H1) : tPart te σ H R := h
theorem st_nop {R : Option Int → Hp → Prop} (h : R none H) : tNoPart σ H R := h
theorem st_sub {to ti : TE} {t : TSet} {v : V} {R : St → Hp → Prop} (h : to σ H fun o H1 => ti σ H1 fun i H2 => t o i v H2 fun H3 => R σ H3) : gSub to ti t v σ H R := h
theorem st_callK {sp : Sp} {gV : List V → List V → List V} {E : XK} {t tk : TA} (h : t σ H fun vs H1 => tk σ H1 fun zs H2 => sp (gV vs zs) H2 Q E) : tCallK sp gV E t tk σ H Q := h
theorem if_T {A B : Prop} (h : A) : if true = true then A else B := h
theorem if_F {A B : Prop} (h : B) : if false = true then A else B := h
theorem if_nT {A B : Prop} (h : B) : if (!true) = true then A else B := h
theorem if_nF {A B : Prop} (h : A) : if (!false) = true then A else B := h
theorem st_nameG {i : Nat} {v : V} {R : St → Hp → Prop} (h : R (σ.set i (some v)) H) : gName i v σ H R := h
theorem st_chain {ta tb tc : TE} {r r' : R2} (h : ta σ H fun x H1 => tb σ H1 fun y H2 => r x y H2 fun z H3 => ∃ k, z = .bl k ∧ (if k = true then tc σ H3 fun w' H4 => r' y w' H4 Q else Q (.bl false) H3)) : tChain r r' ta tb tc σ H Q := h
end
end L2
namespace L2
section
variable {σ : L2.St} {H : Hp} {D : Ends}
theorem st_nxt (h : D.nx σ H) : tNext D σ H := h
theorem st_cnt (h : D.ct σ H) : tCont D σ H := h
theorem st_brk (h : D.bk σ H) : tBreak D σ H := h
theorem st_retn (h : D.rt .non H) : tRetN D σ H := h
end
end L2
namespace L2
open PySem PySem.Spec PyProof.Rows Evl
section
variable {σ : L2.St} {H : Hp} {t : TA} {Q : VK} {xs : List V}
def rNewL (xs : List V) (H : Hp) (Q : VK) : Prop := xs.length ≤ sizeLine ∧ ∀ p, H p = none → Q (.ref p) (upd H p (.lst xs))
def rNewT (xs : List V) (H : Hp) (Q : VK) : Prop := xs.length ≤ sizeLine ∧ ∀ p, H p = none → Q (.ref p) (upd H p (.tup xs))
theorem st_lstN (h : t σ H fun xs H1 => rNewL xs H1 Q) : tLst t σ H Q := h
theorem st_tupN (h : t σ H fun xs H1 => rNewT xs H1 Q) : tTup t σ H Q := h
theorem r_newL (hz : xs.length ≤ 100000) (q : ∀ p H1, H p = none → Ex H H1 → H1 p = some (.lst xs) → Q (.ref p) H1) : rNewL xs H Q := ⟨sz_of hz, alloc q⟩
theorem r_newT (hz : xs.length ≤ 100000) (q : ∀ p H1, H p = none → Ex H H1 → H1 p = some (.tup xs) → Q (.ref p) H1) : rNewT xs H Q := ⟨sz_of hz, alloc q⟩
end
end L2
namespace L2
open PySem PySem.Spec PyProof.Rows Evl
section
variable {σ : L2.St} {H : Hp} {D : Ends} {c : TT} {tb : TS}
theorem st_while (W : Nat → L2.St → Hp → Prop) (m0 : Nat) (h0 : W m0 σ H)
    (hs : ∀ m σ' H', W m σ' H' → c σ' H' fun b H1 => if b = true then ∃ N : L2.St → Hp → Prop, (∀ σ2 H2, N σ2 H2 → ∃ m', m' < m ∧ W m' σ2 H2) ∧ tb { D with nx := N, ct := N, bk := D.nx } σ' H1 else D.nx σ' H1) : tWhile c tb D σ H :=
  ⟨W, ⟨m0, h0⟩, hs⟩
theorem wh_in {W : Nat → L2.St → Hp → Prop} {m : Nat} (h : tb { D with nx := fun σ2 H2 => ∃ m', m' < m ∧ W m' σ2 H2, ct := fun σ2 H2 => ∃ m', m' < m ∧ W m' σ2 H2, bk := D.nx } σ H) :
    ∃ N : L2.St → Hp → Prop, (∀ σ2 H2, N σ2 H2 → ∃ m', m' < m ∧ W m' σ2 H2) ∧ tb { D with nx := N, ct := N, bk := D.nx } σ H := ⟨_, fun _ _ h => h, h⟩
end
end L2
/-! loops and comprehensions by what is walked -/
namespace L2
open PySem PySem.Spec PyProof.Rows Evl
def rFor (J : It) (g : TG) (tb : TS) (D : Ends) (σ : L2.St) (H1 : Hp) : Prop := ∃ W : Nat → Nat → L2.St → Hp → Prop, (∃ m, W 0 m σ H1) ∧ ∀ i m σ H, W i m σ H →
  (J.stop i H ∧ D.nx σ H) ∨ (J.go i H ∧ ∃ N : L2.St → Hp → Prop, (∀ σ' H', N σ' H' → ∃ m', m' < m ∧ W (i + 1) m' σ' H') ∧ ∀ x H', J.yld i H x H' → g x σ H' fun σ2 H2 => tb { D with nx := N, ct := N, bk := D.nx } σ2 H2)
def rLc (J : It) (g : TG) (tt : TT) (te : TE) (vs : List Nat) (σ : L2.St) (Q : VK) (H1 : Hp) : Prop := ∀ D, H1 D = none → ∃ W : Nat → Nat → Hp → Prop, (∃ m, W 0 m (upd H1 D (.lst []))) ∧ ∀ i m H, W i m H →
  (J.stop i H ∧ Q (.ref D) H) ∨ (J.go i H ∧ ∃ Nx : Hp → Prop, (∀ H', Nx H' → ∃ m', m' < m ∧ W (i + 1) m' H') ∧ ∀ x H', J.yld i H x H' → g x (wipe σ vs) H' fun σ2 H2 => wipe σ2 vs = wipe σ vs ∧ tt σ2 H2 fun b H3 =>
    if b = true then te σ2 H3 fun y H4 => ∃ acc, H4 D = some (.lst acc) ∧ acc.length < sizeLine ∧ Nx (upd H4 D (.lst (acc ++ [y]))) else Nx H3)
def rRng1 (vs : List V) (R : It → Hp → Prop) (H1 : Hp) : Prop := ∃ j : Int, vs = [.int j] ∧ -(2 ^ 62) ≤ j ∧ j < 2 ^ 62 ∧ R (Itr 0 j.toNat) H1
def rRng2 (vs : List V) (R : It → Hp → Prop) (H1 : Hp) : Prop := ∃ i j : Int, vs = [.int i, .int j] ∧ (-(2 ^ 62) ≤ i ∧ i < 2 ^ 62 ∧ -(2 ^ 62) ≤ j ∧ j < 2 ^ 62) ∧ R (Itr i (j - i).toNat) H1
def rItL (K : PySem.W.Frag) (x : V) (R : It → Hp → Prop) (H1 : Hp) : Prop := ∃ a, x = .ref a ∧ (∃ xs, SqL K H1 a xs) ∧ R (Itl K a) H1
def rItT (K : PySem.W.Frag) (x : V) (R : It → Hp → Prop) (H1 : Hp) : Prop := ∃ a, x = .ref a ∧ (∃ xs, SqT K H1 a xs) ∧ R (Itt K a) H1
def rRev (K : PySem.W.Frag) (x : V) (H1 : Hp) (Q : VK) : Prop := (∃ a xs, x = .ref a ∧ SqL K H1 a xs ∧ ∀ p, H1 p = none → Q (.ref p) (upd H1 p (.lst xs.reverse))) ∨ (∃ a xs, x = .ref a ∧ SqT K H1 a xs ∧ ∀ p, H1 p = none → Q (.ref p) (upd H1 p (.tup xs.reverse)))
def rApp (K : PySem.W.Frag) (T : String) (r : V → List V → Hp → VK → Prop) (t : TA) (σ : L2.St) (x : V) (H1 : Hp) (Q : VK) : Prop := tyV K T x H1 ∧ t σ H1 fun xs H2 => r x xs H2 Q
def rApp0 (K : PySem.W.Frag) (T : String) (r : V → List V → Hp → VK → Prop) (x : V) (H1 : Hp) (Q : VK) : Prop := tyV K T x H1 ∧ r x [] H1 Q
section
variable {K : PySem.W.Frag} {σ : L2.St} {H : Hp} {Q : VK} {D : Ends} {g : TG} {tb : TS} {wi : TI} {ta : TA} {te tl : TE} {tt : TT} {vs : List Nat} {R : It → Hp → Prop} {a : Addr} {xs ys : List V} {j : Nat} {n lo : Int}
theorem st_for (h : wi σ H fun J H1 => rFor J g tb D σ H1) : tFor wi g tb D σ H := h
theorem st_lc (h : wi σ H fun J H1 => rLc J g tt te vs σ Q H1) : tLc wi g tt te vs σ H Q := h
theorem st_rng1 (h : ta σ H fun us H1 => rRng1 us R H1) : iRng1 ta σ H R := h
theorem st_rng2 (h : ta σ H fun us H1 => rRng2 us R H1) : iRng2 ta σ H R := h
theorem st_itL (h : tl σ H fun x H1 => rItL K x R H1) : iList K tl σ H R := h
theorem st_itT (h : tl σ H fun x H1 => rItT K x R H1) : iTup K tl σ H R := h
theorem st_rev (h : te σ H fun x H1 => rRev K x H1 Q) : tRevU K te σ H Q := h
theorem st_bm {T : String} {r : V → List V → Hp → VK → Prop} {t : TA} (h : te σ H fun x H1 => rApp K T r t σ x H1 Q) : tBM K T r te t σ H Q := h
theorem st_bm0 {T : String} {r : V → List V → Hp → VK → Prop} (h : te σ H fun x H1 => rApp0 K T r x H1 Q) : tBM0 K T r te σ H Q := h
theorem r_rng1 (h1 : n < 2 ^ 62) (h0 : -(2 ^ 62) ≤ n) (q : R (Itr 0 n.toNat) H) : rRng1 [.int n] R H := ⟨n, rfl, h0, h1, q⟩
theorem r_rng2 (h : -(2 ^ 62) ≤ lo ∧ lo < 2 ^ 62 ∧ -(2 ^ 62) ≤ n ∧ n < 2 ^ 62) (q : R (Itr lo (n - lo).toNat) H) : rRng2 [.int lo, .int n] R H := ⟨lo, n, rfl, h, q⟩
theorem r_itL (h : SqL K H a xs) (q : R (Itl K a) H) : rItL K (.ref a) R H := ⟨a, rfl, ⟨xs, h⟩, q⟩
theorem r_itT (h : SqT K H a xs) (q : R (Itt K a) H) : rItT K (.ref a) R H := ⟨a, rfl, ⟨xs, h⟩, q⟩
theorem r_revL (h : SqL K H a xs) (q : ∀ p H1, H p = none → Ex H H1 → H1 p = some (.lst xs.reverse) → Q (.ref p) H1) : rRev K (.ref a) H Q := .inl ⟨a, xs, rfl, h, alloc q⟩
theorem r_revT (h : SqT K H a xs) (q : ∀ p H1, H p = none → Ex H H1 → H1 p = some (.tup xs.reverse) → Q (.ref p) H1) : rRev K (.ref a) H Q := .inr ⟨a, xs, rfl, h, alloc q⟩
/-- xs.append(v): the argument is read first -/
theorem r_app {t : TA} (h : SqL K H a xs) (q : t σ H fun us H2 => rAppend (.ref a) us H2 Q) : rApp K "list" rAppend t σ (.ref a) H Q := ⟨.inl ⟨rfl, xs, h⟩, q⟩
theorem r_appd {v : V} (h : H a = some (.lst xs)) (hz : xs.length < 100000) (q : ∀ H1, ExW a H H1 → H1 a = some (.lst (xs ++ [v])) → Q .non H1) : rAppend (.ref a) [v] H Q := ⟨a, xs, v, rfl, rfl, h, sz_lt hz, q _ ExW.upd upd_same⟩
theorem r_pop {v : V} (h : H a = some (.lst (xs ++ [v]))) (q : ∀ H1, ExW a H H1 → H1 a = some (.lst xs) → Q v H1) : rApp0 K "list" rPop (.ref a) H Q := by
  refine ⟨.inl ⟨rfl, _, l_of h⟩, a, _, v, rfl, rfl, h, by simp, ?_⟩
  refine q _ ExW.upd ?_
  rw [upd_same]
  simp
/-! ### for -/
theorem r_forR {m : Nat} (Pv : Nat → L2.St → Hp → Prop) (h0 : Pv 0 σ H) (hs : ∀ i σ' H', i < m → Pv i σ' H' → g (.int (lo + i)) σ' H' fun σ2 H2 => tb { D with nx := Pv (i + 1), ct := Pv (i + 1), bk := D.nx } σ2 H2)
    (hd : ∀ σ' H', Pv m σ' H' → D.nx σ' H') : rFor (Itr lo m) g tb D σ H := for_range (lo := lo) (n := m) Pv h0 hs hd
theorem r_forL (Pv : Nat → L2.St → Hp → Prop) (h0 : Pv 0 σ H) (hl : ∀ i σ' H', i ≤ xs.length → Pv i σ' H' → SqL K H' a xs)
    (hs : ∀ i x σ' H', xs[i]? = some x → Pv i σ' H' → g x σ' H' fun σ2 H2 => tb { D with nx := Pv (i + 1), ct := Pv (i + 1), bk := D.nx } σ2 H2) (hd : ∀ σ' H', Pv xs.length σ' H' → D.nx σ' H') : rFor (Itl K a) g tb D σ H := for_list Pv h0 hl hs hd
theorem r_forT (Pv : Nat → L2.St → Hp → Prop) (h0 : Pv 0 σ H) (hl : ∀ i σ' H', i ≤ xs.length → Pv i σ' H' → SqT K H' a xs)
    (hs : ∀ i x σ' H', xs[i]? = some x → Pv i σ' H' → g x σ' H' fun σ2 H2 => tb { D with nx := Pv (i + 1), ct := Pv (i + 1), bk := D.nx } σ2 H2) (hd : ∀ σ' H', Pv xs.length σ' H' → D.nx σ' H') : rFor (Itt K a) g tb D σ H := for_tup Pv h0 hl hs hd
/-! ### comprehensions whose turns change nothing -/
theorem r_cmT (ht : SqT K H a xs) (hxy : ys.length = xs.length) (hz : ys.length ≤ 100000) (hw : ∀ x, wipe ((wipe σ vs).set j (some x)) vs = wipe σ vs)
    (he : ∀ (i : Nat) (x y : V) (H1 : Hp), xs[i]? = some x → ys[i]? = some y → Ex H H1 → ∀ Q' : VK, (∀ H2, Ex H1 H2 → Q' y H2) → te ((wipe σ vs).set j (some x)) H1 Q')
    (q : ∀ p H1, H p = none → Ex H H1 → H1 p = some (.lst ys) → Q (.ref p) H1) : rLc (Itt K a) (gName j) tYes te vs σ Q H := fun D hD =>
  lc_tup (K := K) (a := a) (xs := xs) (fun i H' => Ex H H' ∧ H' D = some (.lst (ys.take i))) ⟨Ex.new hD, by rw [upd_same]; rfl⟩ (fun i H' _ p => ex_t p.1 ht) (fun i x H' hx p => ⟨hw x, by
    have hi : i < ys.length := by rw [hxy]; exact (List.getElem?_eq_some_iff.mp hx).1
    exact cm_turn (List.getElem?_eq_getElem hi) hz hD p fun Q' k => he i x _ H' hx (List.getElem?_eq_getElem hi) p.1 Q' k⟩) (fun H' p => q D H' hD p.1 (by rw [p.2, ← hxy, List.take_length]))
theorem r_cmL (ht : SqL K H a xs) (hxy : ys.length = xs.length) (hz : ys.length ≤ 100000) (hw : ∀ x, wipe ((wipe σ vs).set j (some x)) vs = wipe σ vs)
    (he : ∀ (i : Nat) (x y : V) (H1 : Hp), xs[i]? = some x → ys[i]? = some y → Ex H H1 → ∀ Q' : VK, (∀ H2, Ex H1 H2 → Q' y H2) → te ((wipe σ vs).set j (some x)) H1 Q')
    (q : ∀ p H1, H p = none → Ex H H1 → H1 p = some (.lst ys) → Q (.ref p) H1) : rLc (Itl K a) (gName j) tYes te vs σ Q H := fun D hD =>
  lc_list (K := K) (a := a) (xs := xs) (fun i H' => Ex H H' ∧ H' D = some (.lst (ys.take i))) ⟨Ex.new hD, by rw [upd_same]; rfl⟩ (fun i H' _ p => ex_l p.1 ht) (fun i x H' hx p => ⟨hw x, by
    have hi : i < ys.length := by rw [hxy]; exact (List.getElem?_eq_some_iff.mp hx).1
    exact cm_turn (List.getElem?_eq_getElem hi) hz hD p fun Q' k => he i x _ H' hx (List.getElem?_eq_getElem hi) p.1 Q' k⟩) (fun H' p => q D H' hD p.1 (by rw [p.2, ← hxy, List.take_length]))
theorem r_cmR {m : Nat} (hxy : ys.length = m) (hz : ys.length ≤ 100000) (hw : ∀ x, wipe ((wipe σ vs).set j (some x)) vs = wipe σ vs)
    (he : ∀ (i : Nat) (y : V) (H1 : Hp), i < m → ys[i]? = some y → Ex H H1 → ∀ Q' : VK, (∀ H2, Ex H1 H2 → Q' y H2) → te ((wipe σ vs).set j (some (.int (lo + (i : Int))))) H1 Q')
    (q : ∀ p H1, H p = none → Ex H H1 → H1 p = some (.lst ys) → Q (.ref p) H1) : rLc (Itr lo m) (gName j) tYes te vs σ Q H := fun D hD =>
  lc_range (lo := lo) (n := m) (fun i H' => Ex H H' ∧ H' D = some (.lst (ys.take i))) ⟨Ex.new hD, by rw [upd_same]; rfl⟩ (fun i H' hi' p => ⟨hw _, by
    have hi : i < ys.length := by rw [hxy]; exact hi'
    exact cm_turn (List.getElem?_eq_getElem hi) hz hD p fun Q' k => he i _ H' hi' (List.getElem?_eq_getElem hi) p.1 Q' k⟩) (fun H' p => q D H' hD p.1 (by rw [p.2, ← hxy, List.take_length]))
/-- [e for i in range(..) if t] -/
theorem r_cmRF {m : Nat} (f : Nat → Bool) (v : Nat → V) (hz : m ≤ 100000) (hw : ∀ x, wipe ((wipe σ vs).set j (some x)) vs = wipe σ vs)
    (ht : ∀ (i : Nat) H1, i < m → Ex H H1 → ∀ Q' : Bool → Hp → Prop, (∀ H2, Ex H1 H2 → Q' (f i) H2) → tt ((wipe σ vs).set j (some (.int (lo + (i : Int))))) H1 Q')
    (he : ∀ (i : Nat) H1, i < m → f i = true → Ex H H1 → ∀ Q' : VK, (∀ H2, Ex H1 H2 → Q' (v i) H2) → te ((wipe σ vs).set j (some (.int (lo + (i : Int))))) H1 Q')
    (q : ∀ p H1, H p = none → Ex H H1 → H1 p = some (.lst (given m f v)) → Q (.ref p) H1) : rLc (Itr lo m) (gName j) tt te vs σ Q H := fun D hD => by
  refine lc_range (lo := lo) (n := m) (fun i H' => Ex H H' ∧ H' D = some (.lst (given i f v))) ⟨Ex.new hD, by rw [upd_same]; rfl⟩ (fun i H' hi p => ⟨hw _, ?_⟩) (fun H' p => q D H' hD p.1 p.2)
  refine ht i H' hi p.1 _ fun H2 e2 => ?_
  cases hf : f i with
  | false =>
    refine if_F ⟨p.1.trans e2, ?_⟩
    rw [given_no hf]
    exact e2 _ _ p.2
  | true =>
    refine if_T (he i H2 hi hf (p.1.trans e2) _ fun H3 e3 => ⟨given i f v, e3 _ _ (e2 _ _ p.2), ?_, Ex.mut ((p.1.trans e2).trans e3) hD, ?_⟩)
    · have := given_len i f v
      exact Nat.lt_of_le_of_lt this (Nat.lt_of_lt_of_le hi (sz_of hz))
    · rw [upd_same, given_yes hf]
/-- [e for i in range(..)], a turn may change the heap: S is what stands between the turns, Pr what is said of an item -/
theorem r_cmRS {m : Nat} (S : Nat → Hp → Prop) (Pr : V → Prop) (hm : m ≤ 100000) (hw : ∀ x, wipe ((wipe σ vs).set j (some x)) vs = wipe σ vs) (h0 : S 0 H)
    (hnew : ∀ i H1 D o, S i H1 → H1 D = none → S i (upd H1 D o))
    (he : ∀ (i : Nat) H1 D acc, i < m → S i H1 → H1 D = some (.lst acc) → (∀ o, S i (upd H1 D o)) →
      ∀ Q' : VK, (∀ y H2, Pr y → H2 D = some (.lst acc) → (∀ o, S (i + 1) (upd H2 D o)) → Q' y H2) → te ((wipe σ vs).set j (some (.int (lo + (i : Int))))) H1 Q')
    (q : ∀ D H1 ys, H D = none → ys.length = m → (∀ y ∈ ys, Pr y) → S m H1 → H1 D = some (.lst ys) → Q (.ref D) H1) : rLc (Itr lo m) (gName j) tYes te vs σ Q H := fun D hD => by
  refine lc_range (lo := lo) (n := m) (fun i H' => ∃ ys : List V, ys.length = i ∧ (∀ y ∈ ys, Pr y) ∧ S i H' ∧ (∀ o, S i (upd H' D o)) ∧ H' D = some (.lst ys)) ⟨[], rfl, (fun _ h => by cases h), hnew 0 H D _ h0 hD, fun o => by rw [upd_upd]; exact hnew 0 H D o h0 hD, upd_same⟩ (fun i H' hi p => ?_) (fun H' p => ?_)
  · obtain ⟨ys, h1, h2, h3, h4, h5⟩ := p
    refine ⟨hw _, ?_⟩
    refine he i H' D ys hi h3 h5 h4 _ fun y H2 z1 z2 z3 => ?_
    refine ⟨ys, z2, sz_lt (by omega), ys ++ [y], by rw [List.length_append, h1]; rfl, fun x hx => ?_, z3 _, fun o => by rw [upd_upd]; exact z3 o, upd_same⟩
    rcases List.mem_append.mp hx with hx | hx
    · exact h2 x hx
    · rw [List.mem_singleton.mp hx]
      exact z1
  · obtain ⟨ys, h1, h2, h3, h4, h5⟩ := p
    exact q D H' ys hD h1 h2 h3 h5
end
end L2
namespace L2
open PySem PySem.Spec PyProof.Rows Evl
section
variable {K : PySem.W.Frag} {H : Hp} {Q : VK} {a : Addr} {xs : List V}
theorem r_repL {k : Int} (h : H a = some (.lst xs)) (h0 : 0 ≤ k) (hk : k ≤ 100000) (hz : xs.length * k.toNat ≤ 100000) (q : ∀ p H1, H p = none → Ex H H1 → H1 p = some (.lst (List.replicate k.toNat xs).flatten) → Q (.ref p) H1) : rMulU K (.ref a) (.int k) H Q :=
  .inr (.inr (.inl ⟨a, k, xs, rfl, rfl, h, by omega, by omega, sz_of hz, alloc q⟩))
/-! ### draws: what stands between -/
/-- all but the well is as it was; n draws are done -/
structure DrS (w : Addr) (H0 : Hp) (n : Nat) (H : Hp) : Prop where
  ex : ExW w H0 H
  well : Well H w n
theorem Well.upd {H : Hp} {w D : Addr} {n : Nat} {o : HO} (h : Well H w n) (hD : D ≠ w) : Well (upd H D o) w n := by
  obtain ⟨a, b, c, h1, h2⟩ := h.ex
  exact ⟨a, b, c, by rw [upd_ne hD.symm]; exact h1, h2⟩
theorem DrS.new {w D : Addr} {H0 H : Hp} {n : Nat} {o : HO} (h : DrS w H0 n H) (hD : H D = none) : DrS w H0 n (upd H D o) :=
  ⟨fun a u e ha => by rw [upd_ne (ne_of_none (h.ex a u e ha) hD)]; exact h.ex a u e ha, h.well.upd (h.well.ne hD)⟩
theorem DrS.at {w D : Addr} {H0 H : Hp} {n : Nat} (h : ∀ o, DrS w H0 n (L2.upd H D o)) : D ≠ w ∧ H0 D = none := by
  have hw : D ≠ w := fun e => by
    obtain ⟨a, b, c, h1, _⟩ := (h (.lst [])).well.ex
    rw [← e, upd_same] at h1
    cases h1
  refine ⟨hw, ?_⟩
  cases e : H0 D with
  | none => rfl
  | some u =>
    have h1 := (h (.lst [])).ex D u e hw
    have h2 := (h (.tup [])).ex D u e hw
    rw [upd_same] at h1 h2
    rw [← h1] at h2
    cases h2
theorem DrS.put {w D : Addr} {H0 H : Hp} {n : Nat} {o : HO} (h : DrS w H0 n H) (hD : D ≠ w) (h0 : H0 D = none) : DrS w H0 n (L2.upd H D o) :=
  ⟨fun a u e ha => by rw [upd_ne (ne_of_none e h0)]; exact h.ex a u e ha, h.well.upd hD⟩
theorem DrS.on {w : Addr} {H0 H H1 : Hp} {n m : Nat} (h : DrS w H0 n H) (e : ExW w H H1) (k : Well H1 w m) : DrS w H0 m H1 := ⟨h.ex.trans e, k⟩
theorem DrS.ext {w : Addr} {H0 H H1 : Hp} {n : Nat} (h : DrS w H0 n H) (e : Ex H H1) : DrS w H0 n H1 := ⟨h.ex.trans (.of e), h.well.mono e⟩
theorem DrS.more {w : Addr} {H0 H : Hp} {n m : Nat} (h : DrS w H0 n H) (e : n ≤ m) : DrS w H0 m H := ⟨h.ex, h.well.more e⟩
theorem DrS.t {w : Addr} {H0 H : Hp} {n : Nat} {a : Addr} {xs : List V} {k : Nat} (h : DrS w H0 n H) (h0 : Well H0 w k) (t : SqT K H0 a xs) : SqT K H a xs := h0.t h.ex t
end
/-- all items are ints of which so much is said -/
theorem intsOf {P : Int → Prop} : ∀ ys : List V, (∀ y ∈ ys, ∃ z, y = .int z ∧ P z) → ∃ ns : List Int, ys = ns.map V.int ∧ ∀ z ∈ ns, P z
  | [], _ => ⟨[], rfl, fun _ h => by cases h⟩
  | y :: ys, h => by
    obtain ⟨ns, e, k⟩ := intsOf ys fun x hx => h x (List.mem_cons_of_mem _ hx)
    obtain ⟨z, e2, k2⟩ := h y List.mem_cons_self
    refine ⟨z :: ns, by rw [e, e2]; rfl, fun x hx => ?_⟩
    rcases List.mem_cons.mp hx with rfl | hx
    · exact k2
    · exact k x hx
end L2
/-! walks of steps: pairs left out -/
namespace Fg
abbrev Wk := List Int
/-- what is kept, the last one first -/
def stp (st : Wk) (x : Int) : Wk := match st with
  | [] => [x]
  | y :: r => if y = -x then r else x :: y :: r
def run (st : Wk) (u : Wk) : Wk := u.foldl stp st
def rd (u : Wk) : Wk := (run [] u).reverse
def bk (u : Wk) : Wk := (u.map fun x => -x).reverse
/-- no step beside its opposite one (of what is kept) -/
def Red : Wk → Prop
  | [] => True
  | [_] => True
  | x :: y :: r => y ≠ -x ∧ Red (y :: r)
theorem Red.tail {x : Int} {r : Wk} (h : Red (x :: r)) : Red r := by
  cases r with
  | nil => trivial
  | cons y r => exact h.2
theorem red_stp {st : Wk} (x : Int) (h : Red st) : Red (stp st x) := by
  cases st with
  | nil => trivial
  | cons y r =>
    show Red (if y = -x then r else x :: y :: r)
    by_cases e : y = -x
    · rw [if_pos e]
      exact h.tail
    · rw [if_neg e]
      exact ⟨e, h⟩
theorem red_run : ∀ (u : Wk) {st : Wk}, Red st → Red (run st u)
  | [], _, h => h
  | x :: u, _, h => red_run u (red_stp x h)
theorem run_append (st u v : Wk) : run st (u ++ v) = run (run st u) v := List.foldl_append
/-- a step and its opposite one are as nothing -/
theorem stp_pair {st : Wk} (x : Int) (h : Red st) : stp (stp st x) (-x) = st := by
  cases st with
  | nil =>
    show (if x = - -x then [] else [-x, x]) = []
    rw [if_pos (by omega)]
  | cons y r =>
    show stp (if y = -x then r else x :: y :: r) (-x) = y :: r
    by_cases e : y = -x
    · rw [if_pos e]
      cases r with
      | nil => rw [e]; rfl
      | cons z r =>
        show (if z = - -x then r else -x :: z :: r) = y :: z :: r
        have hz : z ≠ -y := h.1
        rw [if_neg (by rw [e] at hz; exact hz), e]
    · rw [if_neg e]
      show (if x = - -x then y :: r else -x :: x :: y :: r) = y :: r
      rw [if_pos (by omega)]
/-- the same from all -/
def Eqv (u v : Wk) : Prop := ∀ st, Red st → run st u = run st v
theorem Eqv.refl (u : Wk) : Eqv u u := fun _ _ => rfl
theorem Eqv.symm {u v : Wk} (h : Eqv u v) : Eqv v u := fun st r => (h st r).symm
theorem Eqv.trans {u v w : Wk} (h : Eqv u v) (k : Eqv v w) : Eqv u w := fun st r => (h st r).trans (k st r)
theorem Eqv.app {u v a b : Wk} (h : Eqv u v) (k : Eqv a b) : Eqv (u ++ a) (v ++ b) := fun st r => by
  rw [run_append, run_append, h st r]
  exact k _ (red_run v r)
theorem eqv_pair (x : Int) : Eqv [x, -x] [] := fun st r => stp_pair x r
theorem eqv_cut (u v : Wk) (x : Int) : Eqv (u ++ [x, -x] ++ v) (u ++ v) := by
  have h := ((Eqv.refl u).app (eqv_pair x)).app (Eqv.refl v)
  rw [List.append_nil] at h
  exact h
theorem rd_eq {u v : Wk} (h : Eqv u v) : rd u = rd v := by
  unfold rd
  rw [h [] trivial]
theorem rd_snoc (u : Wk) (x : Int) : rd (u ++ [x]) = (stp (rd u).reverse x).reverse := by
  unfold rd
  rw [run_append, List.reverse_reverse]
  rfl
theorem run_snoc (st u : Wk) (x : Int) : run st (u ++ [x]) = stp (run st u) x := by
  rw [run_append]
  rfl
/-- what is left is the same -/
theorem eqv_rd : ∀ (n : Nat) (u : Wk), u.length = n → Eqv (rd u) u
  | 0, u, h => by
    have e : u = [] := List.eq_nil_of_length_eq_zero h
    subst e
    exact .refl _
  | n + 1, u, h => by
    obtain ⟨m, x, rfl⟩ : ∃ m x, u = m ++ [x] := ⟨u.dropLast, u.getLast (by intro e; subst e; cases h), (List.dropLast_concat_getLast _).symm⟩
    have ih := eqv_rd n m (by rw [List.length_append] at h; simpa using h)
    have hr : Red (rd m).reverse := by
      unfold rd
      rw [List.reverse_reverse]
      exact red_run m trivial
    intro st r
    rw [rd_snoc, run_snoc, ← ih st r]
    generalize hq : (rd m).reverse = q at hr
    have hm : rd m = q.reverse := by rw [← hq, List.reverse_reverse]
    rw [hm]
    cases q with
    | nil => rfl
    | cons y q =>
      show run st (if y = -x then q else x :: y :: q).reverse = stp (run st (y :: q).reverse) x
      by_cases e : y = -x
      · rw [if_pos e, List.reverse_cons, run_snoc, e]
        have k := stp_pair (-x) (red_run q.reverse r)
        rw [Int.neg_neg] at k
        exact k.symm
      · rw [if_neg e, List.reverse_cons, run_snoc]
theorem eqv_of_rd {u v : Wk} (h : rd u = rd v) : Eqv u v := (eqv_rd _ u rfl).symm.trans (h ▸ eqv_rd _ v rfl)
theorem rd_rd (u : Wk) : rd (rd u) = rd u := rd_eq (eqv_rd _ u rfl)
theorem rd_app (u v : Wk) : rd (rd u ++ rd v) = rd (u ++ v) := rd_eq ((eqv_rd _ u rfl).app (eqv_rd _ v rfl))
theorem bk_app (u v : Wk) : bk (u ++ v) = bk v ++ bk u := by unfold bk; rw [List.map_append, List.reverse_append]
theorem bk_bk (u : Wk) : bk (bk u) = u := by
  unfold bk
  rw [List.map_reverse, List.reverse_reverse, List.map_map]
  have e : ((fun x : Int => -x) ∘ fun x => -x) = id := funext fun x => by show - -x = x; omega
  rw [e, List.map_id]
theorem bk_len (u : Wk) : (bk u).length = u.length := by unfold bk; rw [List.length_reverse, List.length_map]
theorem eqv_bk : ∀ u : Wk, Eqv (u ++ bk u) []
  | [] => .refl _
  | x :: u => by
    have e : bk (x :: u) = bk u ++ [-x] := by
      unfold bk
      rw [List.map_cons, List.reverse_cons]
    rw [e]
    have h := ((Eqv.refl [x]).app (eqv_bk u)).app (Eqv.refl [-x])
    rw [List.append_nil] at h
    refine Eqv.trans ?_ (eqv_pair x)
    have e2 : (x :: u) ++ (bk u ++ [-x]) = [x] ++ (u ++ bk u) ++ [-x] := by simp
    rw [e2]
    exact h
theorem eqv_kb (u : Wk) : Eqv (bk u ++ u) [] := by
  have h := eqv_bk (bk u)
  rw [bk_bk] at h
  exact h
theorem Eqv.bk {u v : Wk} (h : Eqv u v) : Eqv (Fg.bk u) (Fg.bk v) := by
  -- back u ~ back u, v, back v ~ back u, u, back v ~ back v
  have h1 : Eqv (Fg.bk u) (Fg.bk u ++ (v ++ Fg.bk v)) := by
    have k := (Eqv.refl (Fg.bk u)).app (eqv_bk v).symm
    rw [List.append_nil] at k
    exact k
  have h2 : Eqv (Fg.bk u ++ (v ++ Fg.bk v)) (Fg.bk u ++ (u ++ Fg.bk v)) := (Eqv.refl _).app (h.symm.app (.refl _))
  have h3 : Eqv (Fg.bk u ++ (u ++ Fg.bk v)) (Fg.bk v) := by
    rw [← List.append_assoc]
    have k := (eqv_kb u).app (Eqv.refl (Fg.bk v))
    exact k
  exact (h1.trans h2).trans h3
/-- straight: no pair side by side -/
def Str (u : Wk) : Prop := ∀ i x, u[i]? = some x → u[i + 1]? ≠ some (-x)
theorem str_nil : Str [] := fun i x h => by simp at h
theorem str_snoc {u : Wk} {x : Int} (h : Str u) (hl : u.getLast? ≠ some (-x)) : Str (u ++ [x]) := by
  intro i z hz e
  by_cases hi : i + 1 < u.length
  · rw [List.getElem?_append_left (by omega)] at hz
    rw [List.getElem?_append_left hi] at e
    exact h i z hz e
  · by_cases hi2 : i + 1 = u.length
    · rw [List.getElem?_append_left (by omega)] at hz
      rw [List.getElem?_append_right (by omega), hi2, Nat.sub_self] at e
      have e' : x = -z := Option.some.inj e
      apply hl
      rw [List.getLast?_eq_getElem?]
      have e3 : u.length - 1 = i := by omega
      rw [e3, hz, e']
      congr 1
      omega
    · rw [List.getElem?_eq_none (by rw [List.length_append]; simp; omega)] at e
      cases e
theorem str_init {u : Wk} {x : Int} (h : Str (u ++ [x])) : Str u ∧ u.getLast? ≠ some (-x) := by
  refine ⟨fun i z hz e => ?_, fun e => ?_⟩
  · have l2 : i + 1 < u.length := (List.getElem?_eq_some_iff.mp e).1
    refine h i z ?_ ?_
    · rw [List.getElem?_append_left (by omega)]
      exact hz
    · rw [List.getElem?_append_left l2]
      exact e
  · rw [List.getLast?_eq_getElem?] at e
    have l1 : u.length - 1 < u.length := (List.getElem?_eq_some_iff.mp e).1
    refine h (u.length - 1) (-x) ?_ ?_
    · rw [List.getElem?_append_left l1]
      exact e
    · rw [show u.length - 1 + 1 = u.length by omega, List.getElem?_append_right (Nat.le_refl _), Nat.sub_self, Int.neg_neg]
      rfl
/-- a straight one stays -/
theorem rd_of_str : ∀ (n : Nat) (u : Wk), u.length = n → Str u → rd u = u
  | 0, u, h, _ => by
    have e : u = [] := List.eq_nil_of_length_eq_zero h
    subst e
    rfl
  | n + 1, u, h, s => by
    obtain ⟨m, x, rfl⟩ : ∃ m x, u = m ++ [x] := ⟨u.dropLast, u.getLast (by intro e; subst e; cases h), (List.dropLast_concat_getLast _).symm⟩
    obtain ⟨s1, s2⟩ := str_init s
    have ih := rd_of_str n m (by rw [List.length_append] at h; simpa using h) s1
    rw [rd_snoc, ih]
    generalize hq : m.reverse = q
    have hm : m = q.reverse := by rw [← hq, List.reverse_reverse]
    cases q with
    | nil => rw [hm]; rfl
    | cons y q =>
      have hl : m.getLast? = some y := by rw [hm, List.reverse_cons, List.getLast?_append]; rfl
      have hy : y ≠ -x := fun e => s2 (by rw [hl, e])
      show (if y = -x then q else x :: y :: q).reverse = m ++ [x]
      rw [if_neg hy, List.reverse_cons, ← hm]
theorem str_of_red : ∀ {st : Wk}, Red st → Str st.reverse
  | [], _ => str_nil
  | [x], _ => str_snoc (u := []) (x := x) str_nil (by simp)
  | x :: y :: r, h => by
    rw [List.reverse_cons]
    refine str_snoc (str_of_red h.2) ?_
    rw [List.reverse_cons, List.getLast?_append]
    intro e
    exact h.1 (Option.some.inj e)
theorem str_rd (u : Wk) : Str (rd u) := str_of_red (red_run u trivial)
theorem rd_str {u : Wk} (h : Str u) : rd u = u := rd_of_str _ u rfl h
theorem str_bk {u : Wk} (h : Str u) : Str (bk u) := by
  intro i x hx e
  unfold bk at hx e
  have l1 : i + 1 < u.length := by
    have := (List.getElem?_eq_some_iff.mp e).1
    simpa using this
  rw [List.getElem?_reverse (by simpa using (by omega : i < u.length)), List.getElem?_map] at hx
  rw [List.getElem?_reverse (by simpa using l1), List.getElem?_map] at e
  simp only [List.length_map] at hx e
  cases h1 : u[u.length - 1 - i]? with
  | none => rw [h1] at hx; cases hx
  | some z =>
    rw [h1] at hx
    have ez : -z = x := Option.some.inj hx
    cases h2 : u[u.length - 1 - (i + 1)]? with
    | none => rw [h2] at e; cases e
    | some y =>
      rw [h2] at e
      have ey : -y = -x := Option.some.inj e
      refine h (u.length - 1 - (i + 1)) y h2 ?_
      rw [show u.length - 1 - (i + 1) + 1 = u.length - 1 - i by omega, h1]
      congr 1
      omega
theorem rd_bk (u : Wk) : rd (bk u) = bk (rd u) := by
  rw [← rd_str (str_bk (str_rd u))]
  exact rd_eq (eqv_rd _ u rfl).symm.bk
theorem rd_len_le : ∀ (n : Nat) (u : Wk), u.length = n → (rd u).length ≤ u.length
  | 0, u, h => by
    have e : u = [] := List.eq_nil_of_length_eq_zero h
    subst e
    exact Nat.le_refl _
  | n + 1, u, h => by
    obtain ⟨m, x, rfl⟩ : ∃ m x, u = m ++ [x] := ⟨u.dropLast, u.getLast (by intro e; subst e; cases h), (List.dropLast_concat_getLast _).symm⟩
    have ih := rd_len_le n m (by rw [List.length_append] at h; simpa using h)
    rw [rd_snoc]
    generalize hq : (rd m).reverse = q
    have hm : rd m = q.reverse := by rw [← hq, List.reverse_reverse]
    rw [hm] at ih
    rw [List.length_append]
    cases q with
    | nil =>
      show 1 ≤ m.length + 1
      omega
    | cons y q =>
      show (if y = -x then q else x :: y :: q).reverse.length ≤ m.length + 1
      rw [List.length_reverse] at ih ⊢
      rw [List.length_cons] at ih
      split
      · omega
      · simp only [List.length_cons]
        omega
theorem rd_len (u : Wk) : (rd u).length ≤ u.length := rd_len_le _ u rfl
/-- u so many times -/
def rep : Nat → Wk → Wk
  | 0, _ => []
  | k + 1, u => rep k u ++ u
theorem rep_flat (k : Nat) (u : Wk) : (List.replicate k u).flatten = rep k u := by
  induction k with
  | zero => rfl
  | succ k ih =>
    rw [List.replicate_succ', List.flatten_append, ih]
    show rep k u ++ (u ++ []) = rep k u ++ u
    rw [List.append_nil]
theorem rep_len (k : Nat) (u : Wk) : (rep k u).length = k * u.length := by
  induction k with
  | zero => simp [rep]
  | succ k ih =>
    show (rep k u ++ u).length = (k + 1) * u.length
    rw [List.length_append, ih, Nat.succ_mul]
theorem eqv_rep {u v : Wk} (h : Eqv u v) : ∀ k, Eqv (rep k u) (rep k v)
  | 0 => .refl _
  | k + 1 => (eqv_rep h k).app h
end Fg
namespace Fg
/-- so many steps at the end of one are opposite to those ahead of the other -/
def Opp (u v : Wk) (s : Nat) : Prop := s ≤ u.length ∧ s ≤ v.length ∧ ∀ j, j < s → ∀ x y, u[u.length - 1 - j]? = some x → v[j]? = some y → x = -y
theorem opp_zero (u v : Wk) : Opp u v 0 := ⟨Nat.zero_le _, Nat.zero_le _, fun j h => absurd h (Nat.not_lt_zero j)⟩
theorem opp_succ {u v : Wk} {s : Nat} {x y : Int} (h : Opp u v s) (hu : s < u.length) (hv : s < v.length) (hx : u[u.length - 1 - s]? = some x) (hy : v[s]? = some y) (e : x = -y) : Opp u v (s + 1) := by
  refine ⟨hu, hv, fun j hj a b ha hb => ?_⟩
  by_cases hjs : j < s
  · exact h.2.2 j hjs a b ha hb
  · have : j = s := by omega
    subst this
    rw [hx] at ha
    rw [hy] at hb
    cases ha
    cases hb
    exact e
theorem eqv_opp {u v : Wk} : ∀ {s : Nat}, Opp u v s → Eqv (u ++ v) (u.take (u.length - s) ++ v.drop s)
  | 0, _ => by
    rw [Nat.sub_zero, List.take_length, List.drop_zero]
    exact .refl _
  | s + 1, h => by
    have h0 : Opp u v s := ⟨by have := h.1; omega, by have := h.2.1; omega, fun j hj => h.2.2 j (by omega)⟩
    refine (eqv_opp h0).trans ?_
    have hu : u.length - 1 - s < u.length := by have := h.1; omega
    have hv : s < v.length := h.2.1
    have e := h.2.2 s (by omega) u[u.length - 1 - s] v[s] (List.getElem?_eq_getElem hu) (List.getElem?_eq_getElem hv)
    have e1 : u.take (u.length - s) = u.take (u.length - (s + 1)) ++ [u[u.length - 1 - s]] := by
      have k : u.length - s = (u.length - 1 - s) + 1 := by have := h.1; omega
      have k2 : u.length - (s + 1) = u.length - 1 - s := by omega
      rw [k, k2, List.take_add_one, List.getElem?_eq_getElem hu]
      rfl
    have e2 : v.drop s = v[s] :: v.drop (s + 1) := List.drop_eq_getElem_cons hv
    rw [e1, e2, e]
    have e3 : u.take (u.length - (s + 1)) ++ [-v[s]] ++ (v[s] :: v.drop (s + 1)) = u.take (u.length - (s + 1)) ++ [-v[s], - -v[s]] ++ v.drop (s + 1) := by
      rw [Int.neg_neg]
      simp
    rw [e3]
    exact eqv_cut _ _ _
theorem str_take {u : Wk} (n : Nat) (h : Str u) : Str (u.take n) := by
  intro i x hx e
  have l2 : i + 1 < (u.take n).length := (List.getElem?_eq_some_iff.mp e).1
  rw [List.length_take] at l2
  rw [List.getElem?_take, if_pos (by omega)] at hx e
  exact h i x hx e
theorem str_drop {u : Wk} (n : Nat) (h : Str u) : Str (u.drop n) := by
  intro i x hx e
  rw [List.getElem?_drop] at hx e
  exact h (n + i) x hx (by rw [← e]; congr 1)
theorem str_app {u v : Wk} (hu : Str u) (hv : Str v) (h : ∀ x y, u.getLast? = some x → v.head? = some y → y ≠ -x) : Str (u ++ v) := by
  intro i x hx e
  by_cases h1 : i + 1 < u.length
  · rw [List.getElem?_append_left (by omega)] at hx
    rw [List.getElem?_append_left h1] at e
    exact hu i x hx e
  · by_cases h2 : i < u.length
    · rw [List.getElem?_append_left h2] at hx
      rw [List.getElem?_append_right (by omega)] at e
      have e0 : i + 1 - u.length = 0 := by omega
      rw [e0] at e
      refine h x (-x) ?_ ?_ rfl
      · rw [List.getLast?_eq_getElem?, show u.length - 1 = i by omega, hx]
      · rw [List.head?_eq_getElem?, e]
    · rw [List.getElem?_append_right (by omega)] at hx
      rw [List.getElem?_append_right (by omega)] at e
      have e0 : i + 1 - u.length = (i - u.length) + 1 := by omega
      rw [e0] at e
      exact hv _ x hx e
theorem join_ok {u v : Wk} {s : Nat} (hu : Str u) (hv : Str v) (h : Opp u v s) (hend : s < u.length → s < v.length → ∀ x y, u[u.length - 1 - s]? = some x → v[s]? = some y → x ≠ -y) :
    u.take (u.length - s) ++ v.drop s = rd (u ++ v) := by
  have hs : Str (u.take (u.length - s) ++ v.drop s) := by
    refine str_app (str_take _ hu) (str_drop _ hv) fun x y hx hy e => ?_
    rw [List.getLast?_eq_getElem?, List.length_take] at hx
    rw [List.head?_eq_getElem?, List.getElem?_drop] at hy
    have hx0 := (List.getElem?_eq_some_iff.mp hx).1
    rw [List.length_take] at hx0
    have hy0 := (List.getElem?_eq_some_iff.mp hy).1
    rw [List.getElem?_take, if_pos (by omega)] at hx
    have k1 : min (u.length - s) u.length - 1 = u.length - 1 - s := by omega
    rw [k1] at hx
    refine hend (by omega) (by omega) x y hx (by simpa using hy) (by omega)
  rw [rd_eq (eqv_opp h), rd_str hs]
theorem rd_rep_rd (u : Wk) (k : Nat) : rd (rep k (rd u)) = rd (rep k u) := rd_eq (eqv_rep (eqv_rd _ u rfl) k)
theorem rd_app_l (u v : Wk) : rd (rd u ++ v) = rd (u ++ v) := rd_eq ((eqv_rd _ u rfl).app (.refl v))
theorem rd_app_r (u v : Wk) : rd (u ++ rd v) = rd (u ++ v) := rd_eq ((Eqv.refl u).app (eqv_rd _ v rfl))
/-- one pair out -/
theorem rd_out {u : Wk} {i : Nat} {x y : Int} (hx : u[i]? = some x) (hy : u[i + 1]? = some y) (e : x = -y) : rd (u.take i ++ u.drop (i + 2)) = rd u := by
  have h1 := (List.getElem?_eq_some_iff.mp hx).1
  have h2 := (List.getElem?_eq_some_iff.mp hy).1
  have e1 : u = u.take i ++ [x, -x] ++ u.drop (i + 2) := by
    have k : u.drop i = x :: y :: u.drop (i + 2) := by
      rw [List.drop_eq_getElem_cons h1, List.drop_eq_getElem_cons h2]
      rw [List.getElem?_eq_getElem h1] at hx
      rw [List.getElem?_eq_getElem h2] at hy
      rw [Option.some.inj hx, Option.some.inj hy]
    have k2 : -x = y := by omega
    rw [k2]
    conv => lhs; rw [← List.take_append_drop i u, k]
    simp
  conv => rhs; rw [e1]
  exact (rd_eq (eqv_cut _ _ x)).symm
/-- no pair: straight -/
theorem str_of_none {u : Wk} (h : ∀ i x y, u[i]? = some x → u[i + 1]? = some y → x ≠ -y) : Str u := fun i x hx e => h i x (-x) hx e (by omega)
theorem mem_stp {st : Wk} {x y : Int} (h : y ∈ stp st x) : y ∈ st ∨ y = x := by
  cases st with
  | nil => exact .inr (List.mem_singleton.mp h)
  | cons z r =>
    have h' : y ∈ (if z = -x then r else x :: z :: r) := h
    split at h'
    · exact .inl (List.mem_cons_of_mem _ h')
    · rcases List.mem_cons.mp h' with e | e
      · exact .inr e
      · exact .inl e
theorem mem_run : ∀ (u : Wk) {st : Wk} {y : Int}, y ∈ run st u → y ∈ st ∨ y ∈ u
  | [], _, _, h => .inl h
  | x :: u, st, y, h => by
    rcases mem_run u (st := stp st x) h with k | k
    · rcases mem_stp k with k | k
      · exact .inl k
      · exact .inr (by rw [k]; exact List.mem_cons_self)
    · exact .inr (List.mem_cons_of_mem _ k)
theorem mem_rd {u : Wk} {y : Int} (h : y ∈ rd u) : y ∈ u := by
  rcases mem_run u (List.mem_reverse.mp h) with k | k
  · cases k
  · exact k
theorem mem_bk {u : Wk} {y : Int} (h : y ∈ bk u) : -y ∈ u := by
  unfold bk at h
  obtain ⟨x, hx, e⟩ := List.mem_map.mp (List.mem_reverse.mp h)
  rw [← e, Int.neg_neg]
  exact hx
theorem mem_rep : ∀ {k : Nat} {u : Wk} {y : Int}, y ∈ rep k u → y ∈ u
  | 0, _, _, h => by cases h
  | k + 1, _, _, h => by
    rcases List.mem_append.mp h with h | h
    · exact mem_rep h
    · exact h
theorem rep_nil : ∀ k : Nat, rep k [] = []
  | 0 => rfl
  | k + 1 => by
    show rep k [] ++ [] = []
    rw [rep_nil k]
    rfl
theorem rep_one (u : Wk) : rep 1 u = u := by
  show [] ++ u = u
  rfl
theorem rd_nil : rd [] = [] := rfl
theorem rd_app_bk (u : Wk) : rd (u ++ bk u) = [] := rd_eq (eqv_bk u)
theorem rd_bk_app (u : Wk) : rd (bk u ++ u) = [] := rd_eq (eqv_kb u)
end Fg
/-! what the words of several laws say -/
namespace L2
open PySem PySem.Spec PyProof.Rows Evl
/-- steps of so many letters -/
def Stp (l : Int) (ns : List Int) : Prop := ∀ x ∈ ns, x ≠ 0 ∧ -l ≤ x ∧ x ≤ l
theorem bk_rev (ns : List Int) : Fg.bk ns = ns.reverse.map fun x => -x := by unfold Fg.bk; rw [List.map_reverse]
theorem bk_get {ns : List Int} {k : Nat} {x y : V} (hx : ((ns.map V.int).reverse)[k]? = some x) (hy : ((Fg.bk ns).map V.int)[k]? = some y) : ∃ z, x = .int z ∧ y = .int (-z) := by
  rw [← List.map_reverse, List.getElem?_map] at hx
  rw [List.getElem?_map, bk_rev, List.getElem?_map] at hy
  cases hn : ns.reverse[k]? with
  | none => rw [hn] at hx; cases hx
  | some z =>
    rw [hn] at hx hy
    cases hx
    cases hy
    exact ⟨z, rfl, rfl⟩
/-- the walk so many times, back for a number below 0 -/
def pw (ns : List Int) (k : Int) : List Int := Fg.rd (Fg.rep k.natAbs (if 0 ≤ k then ns else Fg.bk ns))
theorem abs_if (k : Int) : (if k < 0 then -k else k) = ((k.natAbs : Nat) : Int) := by
  split <;> omega
theorem stp_of_mem {l : Int} {ns ms : List Int} (h : Stp l ns) (k : ∀ x ∈ ms, x ∈ ns) : Stp l ms := fun x hx => h x (k x hx)
theorem given_ints (m : Nat) (f : Nat → Bool) : given m f (fun i => V.int (0 + (i : Int))) = (((List.range m).filter f).map fun i => ((i : Nat) : Int)).map V.int := by
  unfold given
  rw [List.map_map]
  congr 1
  funext i
  show V.int (0 + (i : Int)) = V.int (i : Int)
  rw [Int.zero_add]
theorem pw_rd (ns : List Int) (k : Int) : pw (Fg.rd ns) k = pw ns k := by
  unfold pw
  split
  · exact Fg.rd_rep_rd ns _
  · rw [← Fg.rd_bk]
    exact Fg.rd_rep_rd _ _
theorem pw_zero (ns : List Int) : pw ns 0 = [] := rfl
theorem pw_one (ns : List Int) : pw ns 1 = Fg.rd ns := by
  show Fg.rd (Fg.rep 1 ns) = Fg.rd ns
  rw [Fg.rep_one]
theorem pw_nil (k : Int) : pw [] k = [] := by
  unfold pw
  have e : (if 0 ≤ k then ([] : List Int) else Fg.bk []) = [] := by split <;> rfl
  rw [e, Fg.rep_nil]
  rfl
theorem stp_rd {ns : List Int} (h : Stp 4 ns) : Stp 4 (Fg.rd ns) := fun x hx => h x (Fg.mem_rd hx)
theorem stp_bk {ns : List Int} (h : Stp 4 ns) : Stp 4 (Fg.bk ns) := fun x hx => by
  have := h _ (Fg.mem_bk hx)
  omega
theorem stp_pw {ns : List Int} {k : Int} (h : Stp 4 ns) : Stp 4 (pw ns k) := by
  unfold pw
  refine stp_rd fun x hx => ?_
  have := Fg.mem_rep hx
  split at this
  · exact h x this
  · exact stp_bk h x this
theorem str_pw (ns : List Int) (k : Int) : Fg.Str (pw ns k) := Fg.str_rd _
theorem pw_len {ns : List Int} {k : Int} (h : ns.length ≤ 60) (hlo : -20 ≤ k) (hhi : k ≤ 20) : (pw ns k).length ≤ 1200 := by
  unfold pw
  refine Nat.le_trans (Fg.rd_len _) ?_
  rw [Fg.rep_len]
  have e : (if 0 ≤ k then ns else Fg.bk ns).length ≤ 60 := by
    split
    · exact h
    · rw [Fg.bk_len]
      exact h
  exact Nat.le_trans (Nat.mul_le_mul (by omega : k.natAbs ≤ 20) e) (by decide)
theorem rd60 {ns : List Int} (h : ns.length ≤ 60) : (Fg.rd ns).length ≤ 60 := Nat.le_trans (Fg.rd_len ns) h
theorem stp_nil : Stp 4 [] := fun x hx => by cases hx
theorem stp_le {l : Int} {ns : List Int} (h : Stp l ns) (e : l ≤ 4) : Stp 4 ns := fun x hx => by
  have := h x hx
  omega
end L2
/-! leads, cores, roots -/
namespace Fg
theorem tw_len {p : Nat → Bool} : ∀ (m s : Nat), s ≤ m → (∀ j, j < s → p j = true) → (s < m → p s = false) → ((List.range m).takeWhile p).length = s := by
  intro m s hs h1 h2
  have e : List.range m = List.range s ++ (List.range (m - s)).map (s + ·) := by
    have k : m = s + (m - s) := by omega
    conv => lhs; rw [k]
    rw [List.range_add]
  rw [e, List.takeWhile_append_of_pos (fun a ha => h1 a (List.mem_range.mp ha)), List.length_append, List.length_range]
  by_cases h : s < m
  · have k : m - s = (m - s - 1) + 1 := by omega
    rw [k, List.range_succ_eq_map, List.map_cons, List.takeWhile_cons_of_neg (by rw [Nat.add_zero, h2 h]; exact Bool.false_ne_true)]
    rfl
  · have k : m - s = 0 := by omega
    rw [k]
    rfl
def mt (u : Wk) (j : Nat) : Bool := decide (u.getD j 0 = -(u.getD (u.length - 1 - j) 0))
/-- how many steps the lead has -/
def ld (u : Wk) : Nat := ((List.range (u.length / 2)).takeWhile (mt u)).length
theorem ld_eq {u : Wk} {s : Nat} (h : s ≤ u.length / 2) (h1 : ∀ j, j < s → mt u j = true) (h2 : s < u.length / 2 → mt u s = false) : ld u = s := tw_len _ s h h1 h2
theorem ld_le (u : Wk) : ld u ≤ u.length / 2 := by
  unfold ld
  have h := (List.takeWhile_sublist (mt u) (l := List.range (u.length / 2))).length_le
  rw [List.length_range] at h
  exact h
theorem ld_mt {u : Wk} {j : Nat} (h : j < ld u) : mt u j = true := by
  have hl := ld_le u
  have hs := List.takeWhile_prefix (mt u) (l := List.range (u.length / 2))
  have hm : ((List.range (u.length / 2)).takeWhile (mt u))[j]'h ∈ (List.range (u.length / 2)).takeWhile (mt u) := List.getElem_mem h
  have e : ((List.range (u.length / 2)).takeWhile (mt u))[j]'h = j := by
    rw [hs.getElem h, List.getElem_range]
  have hall := List.all_takeWhile (p := mt u) (l := List.range (u.length / 2))
  rw [List.all_eq_true] at hall
  have k := hall _ hm
  rw [e] at k
  exact k
theorem mt_of {u : Wk} {j : Nat} {x y : Int} (hx : u[j]? = some x) (hy : u[u.length - 1 - j]? = some y) : mt u j = decide (x = -y) := by
  unfold mt
  rw [List.getD_eq_getElem?_getD, List.getD_eq_getElem?_getD, hx, hy]
  rfl
/-- beyond the lead nothing fits -/
theorem ld_end {u : Wk} (h : ld u < u.length / 2) : mt u (ld u) = false := by
  cases e : mt u (ld u) with
  | false => rfl
  | true =>
    exfalso
    -- then the lead would be longer
    have hmono : ∀ j, j < ld u + 1 → mt u j = true := fun j hj => by
      rcases Nat.lt_or_ge j (ld u) with k | k
      · exact ld_mt k
      · have : j = ld u := by omega
        rw [this]
        exact e
    -- the first s that does not fit, or the half
    have : ∃ s, ld u + 1 ≤ s ∧ s ≤ u.length / 2 ∧ (∀ j, j < s → mt u j = true) ∧ (s < u.length / 2 → mt u s = false) := by
      have go : ∀ (d s : Nat), u.length / 2 - s = d → ld u + 1 ≤ s → s ≤ u.length / 2 → (∀ j, j < s → mt u j = true) → ∃ s, ld u + 1 ≤ s ∧ s ≤ u.length / 2 ∧ (∀ j, j < s → mt u j = true) ∧ (s < u.length / 2 → mt u s = false) := by
        intro d
        induction d with
        | zero => exact fun s hd h1 h2 h3 => ⟨s, h1, h2, h3, fun z => absurd z (by omega)⟩
        | succ d ih =>
          intro s hd h1 h2 h3
          cases k : mt u s with
          | false => exact ⟨s, h1, h2, h3, fun _ => k⟩
          | true =>
            refine ih (s + 1) (by omega) (by omega) (by omega) fun j hj => ?_
            rcases Nat.lt_or_ge j s with z | z
            · exact h3 j z
            · have : j = s := by omega
              rw [this]
              exact k
      exact go _ (ld u + 1) rfl (Nat.le_refl _) h hmono
    obtain ⟨s, s1, s2, s3, s4⟩ := this
    have := ld_eq s2 s3 s4
    omega
theorem ld_str {u : Wk} (h : Str u) (hn : u ≠ []) : ld u ≤ (u.length - 1) / 2 := by
  have hl := ld_le u
  have hp : 0 < u.length := List.length_pos_iff.mpr hn
  refine Nat.le_of_not_lt fun z => ?_
  -- then it is the half of an even number
  have e1 : ld u = u.length / 2 := by omega
  have e2 : u.length = 2 * (u.length / 2) := by omega
  have hj : u.length / 2 - 1 < ld u := by omega
  have k := ld_mt hj
  have l1 : u.length / 2 - 1 < u.length := by omega
  have l2 : u.length - 1 - (u.length / 2 - 1) < u.length := by omega
  rw [mt_of (List.getElem?_eq_getElem l1) (List.getElem?_eq_getElem l2)] at k
  have k2 := of_decide_eq_true k
  refine h (u.length / 2 - 1) _ (List.getElem?_eq_getElem l1) ?_
  have e3 : u.length / 2 - 1 + 1 = u.length - 1 - (u.length / 2 - 1) := by omega
  rw [e3, List.getElem?_eq_getElem l2, k2, Int.neg_neg]
def lead (u : Wk) : Wk := u.take (ld u)
def mid (u : Wk) : Wk := (u.drop (ld u)).take (u.length - ld u - ld u)
/-- so many steps ahead are those at the end turned back -/
theorem take_bk {u : Wk} {s : Nat} (hs : s ≤ u.length) : u.take s = bk (u.drop (u.length - s)) ↔ ∀ j, j < s → mt u j = true := by
  have len1 : (u.take s).length = s := by rw [List.length_take]; omega
  have len2 : (bk (u.drop (u.length - s))).length = s := by rw [bk_len, List.length_drop]; omega
  have at2 : ∀ j, j < s → (bk (u.drop (u.length - s)))[j]? = (u[u.length - 1 - j]?).map fun x => -x := fun j hj => by
    unfold bk
    rw [List.getElem?_reverse (by rw [List.length_map, List.length_drop]; omega), List.getElem?_map, List.length_map, List.length_drop, List.getElem?_drop]
    congr 2
    omega
  constructor
  · intro e j hj
    have l1 : j < u.length := by omega
    have l2 : u.length - 1 - j < u.length := by omega
    rw [mt_of (List.getElem?_eq_getElem l1) (List.getElem?_eq_getElem l2)]
    have k : (u.take s)[j]? = (bk (u.drop (u.length - s)))[j]? := by rw [e]
    rw [at2 j hj, List.getElem?_take, if_pos hj, List.getElem?_eq_getElem l1, List.getElem?_eq_getElem l2] at k
    exact decide_eq_true (Option.some.inj k)
  · intro h
    apply List.ext_getElem?
    intro j
    by_cases hj : j < s
    · have l1 : j < u.length := by omega
      have l2 : u.length - 1 - j < u.length := by omega
      have k := h j hj
      rw [mt_of (List.getElem?_eq_getElem l1) (List.getElem?_eq_getElem l2)] at k
      rw [at2 j hj, List.getElem?_take, if_pos hj, List.getElem?_eq_getElem l1, List.getElem?_eq_getElem l2, of_decide_eq_true k]
      rfl
    · rw [List.getElem?_eq_none (by omega), List.getElem?_eq_none (by omega)]
theorem take_bk_ld {u : Wk} {s : Nat} (hs : s ≤ u.length / 2) : (u.take s = bk (u.drop (u.length - s))) ↔ s ≤ ld u := by
  rw [take_bk (by omega)]
  constructor
  · intro h
    refine Nat.le_of_not_lt fun z => ?_
    have := ld_end (u := u) (by omega)
    rw [h (ld u) z] at this
    cases this
  · exact fun h j hj => ld_mt (by omega)
/-! ### once round -/
def Per (u : Wk) (l : Nat) : Prop := rep (u.length / l) (u.take l) = u
instance (u : Wk) (l : Nat) : Decidable (Per u l) := inferInstanceAs (Decidable (_ = _))
structure Om (u : Wk) (l : Nat) : Prop where
  pos : 1 ≤ l
  le : l ≤ u.length
  per : Per u l
  least : ∀ k, 1 ≤ k → k < l → ¬ Per u k
theorem per_full (u : Wk) (h : u ≠ []) : Per u u.length := by
  unfold Per
  rw [Nat.div_self (List.length_pos_iff.mpr h), List.take_length, rep_one]
theorem per_len {u : Wk} {l : Nat} (h : Per u l) (hl : l ≤ u.length) : u.length / l * l = u.length := by
  have e := congrArg List.length h
  rw [rep_len, List.length_take, Nat.min_eq_left hl] at e
  exact e
/-- so many times the part -/
def Tm (u : Wk) (t : Nat) : Prop := rep t (u.take (u.length / t)) = u
theorem tm_one (u : Wk) : Tm u 1 := by
  unfold Tm
  rw [Nat.div_one, List.take_length, rep_one]
theorem om_tm {u : Wk} {l : Nat} (h : Om u l) : Tm u (u.length / l) ∧ u.length / (u.length / l) = l ∧ 1 ≤ u.length / l ∧ u.length / l ≤ u.length := by
  have e := per_len h.per h.le
  have hp := h.pos
  have h1 : 1 ≤ u.length / l := Nat.div_pos h.le hp
  have e2 : u.length / (u.length / l) = l := by
    apply Nat.div_eq_of_eq_mul_right h1
    exact e.symm
  refine ⟨?_, e2, h1, Nat.div_le_self _ _⟩
  unfold Tm
  rw [e2]
  exact h.per
theorem tm_le {u : Wk} {l t : Nat} (h : Om u l) (ht : Tm u t) (h1 : 1 ≤ t) (h2 : t ≤ u.length) : t ≤ u.length / l := by
  have e : t * (u.length / t) = u.length := by
    have k := congrArg List.length ht
    rw [rep_len, List.length_take, Nat.min_eq_left (Nat.div_le_self _ _)] at k
    exact k
  have hl : 1 ≤ u.length / t := Nat.div_pos h2 h1
  have ht2 : u.length / (u.length / t) = t := by
    apply Nat.div_eq_of_eq_mul_right hl
    rw [Nat.mul_comm]
    exact e.symm
  have hp : Per u (u.length / t) := by
    unfold Per
    rw [ht2]
    exact ht
  have hge : l ≤ u.length / t := Nat.le_of_not_lt fun z => h.least _ hl z hp
  have hp2 := h.pos
  rw [← ht2]
  exact Nat.div_le_div_left hge hp2
end Fg
namespace L2
open PySem PySem.Spec PyProof.Rows Evl
section
variable {K : PySem.W.Frag} {σ : L2.St} {H H' : Hp} {Q : VK} {D : Ends} {te : TE} {a : Addr} {xs : List V}
def rAug (i : Nat) (x : V) (ti : TIp) (D : Ends) (σ : L2.St) (y : V) (H1 : Hp) : Prop := ti x y H1 fun z H2 => D.nx (σ.set i (some z)) H2
theorem st_aug {i : Nat} {x : V} {ti : TIp} (hx : σ[i]? = some (some x)) (h : te σ H fun y H1 => rAug i x ti D σ y H1) : tAug i te ti D σ H := ⟨x, hx, h⟩
theorem r_augI {i : Nat} {x y : Int} {f : Int → Int → Int} (h : D.nx (σ.set i (some (.int (f x y)))) H) : rAug i (.int x) (ipI f) D σ (.int y) H := ⟨x, y, rfl, rfl, h⟩
/-- a, b = t -/
theorem r_tup2 {i j : Nat} {x y : V} {R : L2.St → Hp → Prop} (h : SqT K H a [x, y]) (q : R ((σ.set i (some x)).set j (some y)) H) : gTup K 2 (gCons (gName i) (gCons (gName j) gNil)) (.ref a) σ H R := ⟨a, _, rfl, h, rfl, x, [y], rfl, y, [], rfl, rfl, q⟩
theorem at_negI {ns : List Int} {k : Nat} {x : Int} (hk : k < ns.length) (hx : ns[ns.length - 1 - k]? = some x) : atI (ns.map V.int) (-1 - (k : Int)) = some (.int x) := by
  have e : ixN (ns.map V.int).length (-1 - (k : Int)) = some (ns.length - 1 - k) := by
    unfold ixN
    rw [List.length_map, if_neg (by omega), if_pos (by omega)]
    congr 1
    omega
  unfold atI
  rw [e]
  show (ns.map V.int)[ns.length - 1 - k]? = _
  rw [List.getElem?_map, hx]
  rfl
theorem cut_mid {ns : List Int} {lo hi : Int} (h0 : 0 ≤ lo) (h1 : 0 ≤ hi) (h2 : hi ≤ ns.length) : cutV (ns.map V.int) (some lo) (some hi) = ((ns.drop lo.toNat).take (hi.toNat - lo.toNat)).map V.int := by
  rw [cut_map, sIx_int h0, sIx_int h1]
  congr 1
  rw [Nat.min_eq_left (by omega : hi.toNat ≤ ns.length)]
  by_cases h : lo.toNat ≤ ns.length
  · rw [Nat.min_eq_left h]
  · rw [Nat.min_eq_right (by omega), List.drop_of_length_le (Nat.le_refl _), List.drop_of_length_le (by omega)]
    simp
theorem r_eqB {x y : Bool} (q : Q (.bl (decide (x = y))) H) : rEqU K (.bl x) (.bl y) H Q := .inl ⟨rfl, by
  have e : decide ((V.bl x) = V.bl y) = decide (x = y) := by simp
  rw [e]
  exact q⟩
/-- a tuple of two walks -/
structure P2 (K : PySem.W.Frag) (H : Hp) (q : Addr) (u v : List Int) : Prop where
  ex : ∃ a b, SqT K H q [.ref a, .ref b] ∧ IT K H a u ∧ IT K H b v
theorem P2.mono {q : Addr} {u v : List Int} (h : P2 K H q u v) (e : Ex H H') : P2 K H' q u v := by
  obtain ⟨a, b, h1, h2, h3⟩ := h.ex
  exact ⟨a, b, ex_t e h1, ex_t e h2, ex_t e h3⟩
/-- a tuple of a walk and a number -/
structure P1N (K : PySem.W.Frag) (H : Hp) (q : Addr) (u : List Int) (t : Int) : Prop where
  ex : ∃ a, SqT K H q [.ref a, .int t] ∧ IT K H a u
theorem P1N.mono {q : Addr} {u : List Int} {t : Int} (h : P1N K H q u t) (e : Ex H H') : P1N K H' q u t := by
  obtain ⟨a, h1, h2⟩ := h.ex
  exact ⟨a, ex_t e h1, ex_t e h2⟩
/-- the tuples stay -/
def TX (H H' : Hp) : Prop := ∀ a xs, H a = some (.tup xs) ∨ (∃ o, H a = some (.frz o (.tup xs))) → H' a = H a
theorem TX.refl (H : Hp) : TX H H := fun _ _ _ => rfl
theorem TX.trans {H H1 H2 : Hp} (a : TX H H1) (b : TX H1 H2) : TX H H2 := fun x xs h => by
  have e := a x xs h
  rw [← e] at h
  rw [b x xs h, e]
theorem TX.of (e : Ex H H') : TX H H' := fun a xs h => by
  rcases h with h | ⟨o, h⟩
  · rw [h, e _ _ h]
  · rw [h, e _ _ h]
theorem TX.w {w : Addr} {n : Nat} (e : ExW w H H') (k : Well H w n) : TX H H' := fun a xs h => by
  obtain ⟨_, _, _, h1, _⟩ := k.ex
  rcases h with h | ⟨o, h⟩
  · rw [h, e _ _ h (ne_of h h1 (by intro z; cases z))]
  · rw [h, e _ _ h (ne_of h h1 (by intro z; cases z))]
theorem tx_t (e : TX H H') (h : SqT K H a xs) : SqT K H' a xs := by
  rcases h with (h | ⟨o, h⟩) | h
  · exact .inl (.inl (by rw [e _ _ (.inl h)]; exact h))
  · exact .inl (.inr ⟨o, by rw [e _ _ (.inr ⟨o, h⟩)]; exact h⟩)
  · exact .inr h
theorem DrS.tx {w : Addr} {n k : Nat} (h : DrS w H n H') (h0 : Well H w k) : TX H H' := .w h.ex h0
end
theorem str_one (x : Int) : Fg.Str [x] := Fg.str_snoc (u := []) Fg.str_nil (by simp)
theorem om_unique {u : List Int} {l k : Nat} (h1 : Fg.Om u l) (h2 : Fg.Om u k) : l = k := by
  rcases Nat.lt_trichotomy l k with h | h | h
  · exact absurd h1.per (h2.least l h1.pos h)
  · exact h
  · exact absurd h2.per (h1.least k h2.pos h)
/-- what the root of a straight walk is -/
def RootIs (ns u : List Int) (t : Int) : Prop := (Fg.mid ns = [] ∧ u = [] ∧ t = 0) ∨ (Fg.mid ns ≠ [] ∧ ∃ l, Fg.Om (Fg.mid ns) l ∧ u = Fg.lead ns ++ (Fg.mid ns).take l ++ Fg.bk (Fg.lead ns) ∧ t = (((Fg.mid ns).length / l : Nat) : Int))
theorem rootIs_unique {ns u v : List Int} {t s : Int} (h1 : RootIs ns u t) (h2 : RootIs ns v s) : u = v ∧ t = s := by
  rcases h1 with ⟨e1, rfl, rfl⟩ | ⟨n1, l, o1, rfl, rfl⟩
  · rcases h2 with ⟨_, rfl, rfl⟩ | ⟨n2, _⟩
    · exact ⟨rfl, rfl⟩
    · exact absurd e1 n2
  · rcases h2 with ⟨e2, _⟩ | ⟨n2, k, o2, rfl, rfl⟩
    · exact absurd e2 n1
    · have := om_unique o1 o2
      subst this
      exact ⟨rfl, rfl⟩
theorem lead_len (ns : List Int) : (Fg.lead ns).length ≤ ns.length := by
  unfold Fg.lead
  rw [List.length_take]
  exact Nat.min_le_right _ _
theorem mid_len (ns : List Int) : (Fg.mid ns).length ≤ ns.length := by
  unfold Fg.mid
  rw [List.length_take, List.length_drop]
  omega
theorem root_len {ns u : List Int} {t : Int} (h : RootIs ns u t) : u.length ≤ 3 * ns.length := by
  rcases h with ⟨_, rfl, _⟩ | ⟨_, l, _, rfl, _⟩
  · exact Nat.zero_le _
  · have h1 := lead_len ns
    have h2 := mid_len ns
    rw [List.length_append, List.length_append, Fg.bk_len, List.length_take]
    omega
end L2
/-! promises of defs that are entered where no text of an object is being written: repr of data can be told there -/
namespace L2
open PySem PySem.Spec PyProof.Rows
/-- no object's text is under way -/
def Quiet (A : Around) : Prop := A.guards = some []
structure FnG (P : Program) (w : World) (K : PySem.W.Frag) (mg : Str → Option Value) (base : Heap) (CX : CXT) (k : Nat) (f : Addr) (fd : FuncData) (ps : List Str) (sp : Sp) : Prop where
  len : ∀ xs H Q E, sp xs H Q E → xs.length = ps.length
  run : ∀ (A : Around), Quiet A → Room k A → ∀ (outer : List Env) (s : Shared) (H : Hp), Env0 P w K mg base A outer s H →
    ∀ (args : Args) (us : List Value) (xs : List V), BindsTo s fd args (ps.zip us) → Vals xs us → ∀ (Q : VK) (E : XK), sp xs H Q E →
    codeAny (model P w) A (.call (.ref f) args) (CR CX outer P w H s Q E) s
section
variable {P : Program} {w : World} {K : PySem.W.Frag} {mg : Str → Option Value} {base : Heap} {CX : CXT} {k : Nat} {f : Addr} {fd : FuncData} {ps : List Str} {sp : Sp}
theorem FnOk.quiet (F : FnOk P w K mg base CX k f fd ps sp) : FnG P w K mg base CX k f fd ps sp :=
  ⟨F.len, fun A _ hr outer s H e0 args us xs hb hv Q E h => F.run A outer s H args us xs Q E hr e0 hb hv h⟩
theorem FnG.room {j : Nat} (F : FnG P w K mg base CX j f fd ps sp) (h : j ≤ k) : FnG P w K mg base CX k f fd ps sp :=
  ⟨F.len, fun A g hr => F.run A g (hr.mono h)⟩
/-- a def of the text, by its body; nothing is being written where it is entered, so nothing is within -/
theorem fnG_of {name qual : Str} {params : Arguments} {body : List Stmt} {scope : Scope} {dV kV doc pm cdv ct oc : Value} {an od : Option Addr} {osl : Array (Option Value)} {N : List Str}
    (lk : K.lookup f = some ⟨oc, od, .func (PySem.W.fnOf name qual params body scope dV kV doc pm an cdv ct), osl⟩)
    (code : PySem.W.codeIn K cdv qual = true) (S : FnScope N ps scope) (len : ∀ xs H Q E, sp xs H Q E → xs.length = ps.length)
    (inner : ∀ (A : Around), Quiet (A.deeper (envOfC qual scope 0 f cdv)) → ∀ (outer : List Env) (s : Shared) (H : Hp) (xs : List V) (Q : VK) (E : XK),
      Room k (A.deeper (envOfC qual scope s.heap.objs.size f cdv)) → sp xs H Q E →
      ∃ t, PSs (cxOf CX P w K mg base N qual scope f cdv A outer s H E) body t ∧ t { nx := fun _ H' => Q .non H', rt := Q } (start N xs) H) :
    FnG P w K mg base CX (k + 1) f (PySem.W.fnOf name qual params body scope dV kV doc pm an cdv ct) ps sp := by
  refine ⟨len, fun A g hr outer s H e0 args us xs hb hv Q E hsp => ?_⟩
  have inK : K.In s.heap := e0.mod.kin.keeps fun c oc e => (e0.bs c oc e).1
  have nolim : s.heap.NoLimit := e0.mod.nolimit.keeps fun c oc e => (e0.bs c oc e).1
  refine codeAny_call_function hr.depth (inK _ _ lk) rfl S.co S.gen rfl (PySem.W.codeRec_of inK code) (hb _ _ _ _ ?_)
  refine wpAny_newFunctionEnv_cells S.kind ?kinds fun env he s1 x => ?_
  case kinds =>
    intro y hy
    cases S.par y.1 (List.of_mem_zip (show (y.1, y.2) ∈ ps.zip us from hy)).1 with
    | inl q => exact Or.inl q
    | inr q => exact Or.inr ⟨q, PySem.W.cellsFrom_some _ _ _ (Or.inl q)⟩
  cases he
  refine ⟨nolim.keeps x.toInCall.keep, codeAny_func ?_⟩
  have hd := inner A g outer s H xs Q E (hr.deeper _) hsp
  have I : Inv (cxOf CX P w K mg base N qual scope f cdv A outer s H E) [] (start N xs) H s1 :=
    inv_start S hr.hd e0 (len _ _ _ _ hsp) hv x
  have over : ∀ σ' H' v u s', Inv (cxOf CX P w K mg base N qual scope f cdv A outer s H E) [] σ' H' s' → RelV v u → Q v H' → CE outer P w H s Q u s' :=
    fun σ' H' v u s' J rv q => ⟨v, H', J.os, J.bare, J.base, J.hok, rv, q⟩
  obtain ⟨t, ht, hq⟩ := hd
  refine wpAny_mono (ht.run [] s1 (start N xs) H _ I hq) (fun fl s' hs => ?_) fun _ _ hs => hs
  match fl, hs with
  | .ret u, ⟨v, σ', H', J, rv, q⟩ => exact over σ' H' v u s' J rv q
  | .next, ⟨σ', H', J, q⟩ => exact over σ' H' .non .none s' J rfl q
  | .brk, ⟨_, _, _, q⟩ => exact False.elim q
  | .cont, ⟨_, _, _, q⟩ => exact False.elim q
end
section
variable {P : Program} {w : World} {K : PySem.W.Frag} {mg : Str → Option Value} {base : Heap}
theorem Fun.okG {x qual : Str} {st : Stmt} {f : Addr} {fd : FuncData} {N ps : List Str} {k : Nat} {sp : Sp} (F : Fun K x qual st f fd) (S : FnScope N ps (defScope st))
    (len : ∀ xs H Q E, sp xs H Q E → xs.length = ps.length)
    (inner : ∀ (cdv : Value) (A : Around) (outer : List Env) (s : Shared) (H : Hp) (xs : List V) (Q : VK) (E : XK),
      Quiet A → Room k (A.deeper (envOfC qual (defScope st) s.heap.objs.size f cdv)) → sp xs H Q E →
      ∃ t, PSs (cxOf CX0 P w K mg base N qual (defScope st) f cdv A outer s H E).nox (defBody st) t ∧ t { nx := fun _ H' => Q .non H', rt := Q } (start N xs) H) :
    FnG P w K mg base CX0 (k + 1) f fd ps sp := by
  obtain ⟨oc, od, kV, doc, pm, an, cdv, ct, osl, e, lk, code⟩ := F.ex
  subst e
  refine fnG_of lk code S len fun A g outer s H xs Q E hr hsp => ?_
  obtain ⟨t, body, q⟩ := inner cdv A outer s H xs Q E g hr hsp
  exact ⟨t, body.nox, q⟩
end
section
variable {X : Cx} {CX : CXT} {k : Nat} {f : Addr} {fd : FuncData} {ps : List Str} {sp : Sp} {dvs : List V} {ds : List Value} {E : XK} {x : Str} {p pos : Pos} {e : Expr} {es : List Expr} {t : TA}
/-- f(..) of such a def, from where nothing is being written -/
theorem pe_callG (F : FnG X.prog X.w X.K X.mg X.base CX k f fd ps sp) (g : Quiet X.A) (hr : Room k X.A) (hg : Gl X x) (hm : X.mg x = some (.ref f))
    (hk : PySem.W.keepIn X.K (.ref f) = true) (hb : Binds X.K fd ps ds) (hd : Vals dvs ds) (hx : Passes CX X E) (ha : PA X (e :: es) t)
    (hdb : (x == ("__debug__" : Str)) = false := by decide) (he : starEach (e :: es) X.env = (false, eval e X.env) :: starEach es X.env := by rfl)
    (hpl : (backTo pos (starEach es X.env)).any (·.1) = false := by rfl) :
    PE X (.Call (.Name x p) (e :: es) [] pos) (tCall sp dvs E t) := by
  constructor
  intro pins s σ H Q I h
  refine wpAny_Call_Name_kw (ld_glob I hg hm ?_ hdb)
  refine PySem.W.callWith_K (h₀ := X.base) I.ok.mod.kin hk (thn (ha.run pos pins s σ H _ I h) fun us s1 got => ?_) he hpl
  obtain ⟨xs, H1, J, r, q⟩ := got
  have r2 : Vals (xs ++ dvs) (us ++ ds) := r.append hd
  have hl : (us ++ ds).length = ps.length := r2.length.symm.trans (F.len _ _ _ _ q)
  refine ⟨J.kIn, wpAny_call (codeAny_mono (F.run X.A g hr X.stack s1 H1 J.env0 ⟨us, []⟩ (us ++ ds) (xs ++ dvs) (hb s1 us J.kIn hl) r2 Q E q) fun res s' hq => ?_)⟩
  match res, hq with
  | .error v, hq => exact hx pins σ H1 s1 v s' J hq
  | .ok (.ret u), hq => exact J.after hq
  | .ok .next, hq => exact False.elim hq
  | .ok .brk, hq => exact False.elim hq
  | .ok .cont, hq => exact False.elim hq
end
/-! ### the end -/
section
variable {P : Program} {w : World} {K : PySem.W.Frag} {mg mb : Str → Option Value} {CX : CXT} {k : Nat} {fa a : Addr} {fd : FuncData} {x : Str} {sp : Sp} {s₁ : Shared} {us : List Value} {ns : List Int}
/-- from a heap in which nothing but the script is tracked -/
theorem quiet_call (KX : K.In s₁.heap) (hns : s₁.heap.Ns mainGlobals mg) (hb : s₁.heap.Ns builtinsNs mb) (hbb : ∀ y : Str, y ≠ "__name__" → mb y = bootBuiltins y)
    (hlim : s₁.heap.NoLimit) (hg : s₁.gens = #[]) (hr : Room k callerA) (F : ∀ base : Heap, K.In base → base.Ns mainGlobals mg → FnG P w K mg base CX k fa fd [x] sp)
    (hbind : ∀ (s : Shared) (u : Value), BindsTo s fd ⟨[u], []⟩ [(x, u)]) (hCX : ∀ H e s', CX [] H s₁ (fun _ _ _ => False) e s' → False)
    (H : Hp) (hO : Only H) (hS : sp [.ref a] H (fun v _ => v = .bl true) fun _ _ _ => False) (hok : HOk P w H s₁.heap)
    (noA : ∀ c (o : Obj) es ep, s₁.heap.get? c = some o → o.data = .dict es ep → H c = none) (noK : ∀ c o, K.lookup c = some o → H c = none) :
    codeAny (model P w) callerA (.call (.ref fa) ⟨[.ref a], []⟩) (fun r s' => r = .ok (.ret (.bool true)) ∧ OldK s₁.heap s'.heap ∧ s'.os = s₁.os ∧ AllBare s'.gens) s₁ := by
  have shown : ∀ {c : Addr} {m : Str → Option Value}, s₁.heap.Ns c m → (hidT s₁.heap H).Ns c m := by
    rintro c m ⟨o, es, ep, e, d, r⟩
    exact ⟨o, es, ep, hidT_get e (noA c o es ep e d), d, r⟩
  have inK : K.In (hidT s₁.heap H) := fun c o e => hidT_get (KX c o e) (noK c o e)
  have lim : (hidT s₁.heap H).NoLimit := by
    obtain ⟨mc, q1, q2⟩ := hlim
    exact ⟨mc, shown q1, q2⟩
  have e0 : Env0 P w K mg (hidT s₁.heap H) callerA [] s₁ H :=
    { frames := rfl, mod := ⟨inK, shown hns, ⟨mb, shown hb, hbb⟩, lim⟩, bs := fun c o e => of_hidT e, bsz := Nat.le_of_eq (hidT_size _ _), funs := trivial,
      frf := fun c hc => (nomatch (show c ∈ ([] : List Addr) from hc)), hok := hok, bare := .of_eq hg }
  have go := (F _ inK (shown hns)).run callerA rfl hr [] s₁ H e0 ⟨[.ref a], []⟩ [.ref a] [.ref a] (hbind s₁ (.ref a)) (.cons rfl .nil) _ _ hS
  refine codeAny_mono go fun res s' h => ?_
  match res, h with
  | .error e, h => exact (hCX H e s' h).elim
  | .ok .next, h => exact False.elim h
  | .ok .brk, h => exact False.elim h
  | .ok .cont, h => exact False.elim h
  | .ok (.ret u), ⟨v, H', os, bare, un, hok', r', q⟩ =>
    cases (show v = .bl true from q)
    cases (show u = Value.bool true from r')
    refine ⟨rfl, OldK.of_keep fun c o e => ?_, os, bare⟩
    match q : H c with
    | none => exact un.keep c o e q (fun z => nomatch (show c ∈ ([] : List Addr) from z)) (by simp)
    | some u =>
      rcases hO c with z | ⟨ob, ys, z⟩
      · exact nomatch q.symm.trans z
      · obtain ⟨e2, _⟩ := hok' c _ (un.frzs c ob _ z)
        obtain ⟨e1, _⟩ := hok c _ z
        cases e.symm.trans e1
        exact e2
theorem law_quiet (KX : K.In s₁.heap) (hns : s₁.heap.Ns mainGlobals mg) (hb : s₁.heap.Ns builtinsNs mb) (hbb : ∀ y : Str, y ≠ "__name__" → mb y = bootBuiltins y)
    (hlim : s₁.heap.NoLimit) (hg : s₁.gens = #[]) (ha : s₁.heap.get? a = some { cls := .type "list", data := .seq us.toArray }) (hi : IntsAre us ns) (hl : ns.length ≤ sizeLine)
    (hr : Room k callerA) (F : ∀ base : Heap, K.In base → base.Ns mainGlobals mg → FnG P w K mg base CX k fa fd [x] sp)
    (hbind : ∀ (s : Shared) (u : Value), BindsTo s fd ⟨[u], []⟩ [(x, u)]) (hCX : ∀ H e s', CX [] H s₁ (fun _ _ _ => False) e s' → False)
    (hsp : ∀ H : Hp, Only H → SqL K H a (ns.map V.int) → sp [.ref a] H (fun v _ => v = .bl true) fun _ _ _ => False) :
    codeAny (model P w) callerA (.call (.ref fa) ⟨[.ref a], []⟩) (fun r s' => r = .ok (.ret (.bool true)) ∧ OldK s₁.heap s'.heap ∧ s'.os = s₁.os ∧ AllBare s'.gens) s₁ := by
  have rv := vals_ints hi
  have lz := hi.length
  have lz2 : (ns.map V.int).length ≤ sizeLine := by rw [List.length_map]; exact hl
  match hk : K.lookup a with
  | some o =>
    cases ha.symm.trans (KX a o hk)
    refine quiet_call KX hns hb hbb hlim hg hr F hbind hCX (fun _ => none) (fun _ => .inl rfl) (hsp _ (fun _ => .inl rfl) ?_) (fun c u z => nomatch z) (fun _ _ _ _ _ _ => rfl) fun _ _ _ => rfl
    exact .inr ⟨_, us.toArray, _, hk, rfl, rfl, rfl, by rw [List.size_toArray, lz]; exact hl, by simpa using rv⟩
  | none =>
    let o₁ : Obj := { cls := .type "list", data := .seq us.toArray }
    let H₁ : Hp := fun c => if c = a then some (.frz o₁ (.lst (ns.map V.int))) else none
    have at_a : H₁ a = some (.frz o₁ (.lst (ns.map V.int))) := if_pos rfl
    have off : ∀ c, c ≠ a → H₁ c = none := fun c h => if_neg h
    have only : Only H₁ := fun c => by
      by_cases h : c = a
      · cases h; exact .inr ⟨_, _, at_a⟩
      · exact .inl (off c h)
    refine quiet_call KX hns hb hbb hlim hg hr F hbind hCX H₁ only (hsp _ only (.inl (.inr ⟨o₁, at_a⟩))) (fun c u z => ?_) (fun c o es ep e d => ?_) fun c o e => ?_
    · by_cases h : c = a
      · cases h
        cases at_a.symm.trans z
        exact ⟨ha, lz2, us, _, rv, ha⟩
      · exact nomatch (off c h).symm.trans z
    · refine off c fun h => ?_
      cases h
      cases ha.symm.trans e
      exact nomatch (show Data.seq us.toArray _ = Data.dict es ep from d)
    · refine off c fun h => ?_
      cases h
      exact nomatch hk.symm.trans e
end
theorem walk_quiet {l : PySem.W.OpenLaw} {n k : Nat} {q : Program} {loose : List Str} {XP : (Str → Option Value) → Heap → Prop} {YP : World → Heap → Prop} {d : DefRec} {K : Params → PySem.W.Frag} {CX : World → CXT} {sp : World → Sp} {x : Str}
    (hn : l.most = some n) (hn2 : n ≤ sizeLine) (hdf : d.params.defaults = []) (hr : Room k callerA) (hY : ∀ (w : World) (h : Heap), YP w h → (K w.params).In h)
    (F : ∀ (w : World) (mg : Str → Option Value) (fa : Addr) (h : Heap), (K w.params).In h → h.Ns mainGlobals mg → mg d.name = some (.ref fa) → ∃ fd : FuncData,
      (∀ (s : Shared) (u : Value), BindsTo s fd ⟨[u], []⟩ [(x, u)]) ∧ ∀ base : Heap, (K w.params).In base → base.Ns mainGlobals mg → FnG l.prog w (K w.params) mg base (CX w) k fa fd [x] (sp w))
    (hsp : ∀ (w : World) (H : Hp) (a : Addr) (ns : List Int), ns.length ≤ n → Only H → SqL (K w.params) H a (ns.map V.int) → sp w [.ref a] H (fun v _ => v = .bl true) fun _ _ _ => False)
    (hCX : ∀ (w : World) (H : Hp) (s : Shared) (e : Value) (s' : Shared), CX w [] H s (fun _ _ _ => False) e s' → False) :
    PySem.W.WalkO q loose XP YP l.row.toRowW d [] (fun f vs => PySem.call f vs) := by
  refine Att.attach_call hn hdf fun w s₀ s₁ mg mb fa o pm cd doc a vs ns G Y ho hd hcd hmg hobj hints hlen hg => ?_
  have inK := hY w _ Y
  obtain ⟨fd, hb, hF⟩ := F w mg fa _ inK G.T.g hmg
  exact law_quiet inK G.T.g G.T.b G.T.builtins G.T.nolimit hg hobj hints (Nat.le_trans hlen hn2) hr hF hb (fun H e s' => hCX w H s₁ e s') fun H hO hS => hsp w H a ns hlen hO hS
/-! ### an expression cut off from what follows: both ways of a conditional expression come to one word -/
def tCutE (t : TE) : TE := fun σ H Q => ∃ M : VK, t σ H M ∧ ∀ x H1, M x H1 → Q x H1
theorem pe_cutE {X : Cx} {e : Expr} {t : TE} (h : PE X e t) : PE X e (tCutE t) := by
  constructor
  rintro pins s σ H Q I ⟨M, h1, h2⟩
  refine thn (h.run pins s σ H M I h1) fun v s1 got => ?_
  obtain ⟨x, H1, J, r, q⟩ := got
  exact ⟨x, H1, J, r, h2 x H1 q⟩
theorem st_cutE {t : TE} {σ : L2.St} {H : Hp} {Q : VK} (M : VK) (h : t σ H M) (k : ∀ x H1, M x H1 → Q x H1) : tCutE t σ H Q := ⟨M, h, k⟩
end L2
/-! what is walked in pairs and in threes: lists and tuples, mixed -/
namespace L2
open PySem PySem.Spec PyProof.Rows Evl
/-- a kind of sequence: how it stands in the abstract heap and in the heap, and its iterator -/
structure SK where
  Sq : PySem.W.Frag → Hp → Addr → List V → Prop
  Is : Heap → Addr → Array Value → Prop
  It : Heap → Addr → Addr → Nat → Prop
  o : Addr → Obj
  seen : ∀ {X : Cx} {pins : List (Addr × Obj)} {σ : L2.St} {H : Hp} {s : Shared} {a : Addr} {xs : List V}, Inv X pins σ H s → Sq X.K H a xs → ∃ its : List Value, Vals xs its ∧ Is s.heap a its.toArray
  one : ∀ {X : Cx} {pins : List (Addr × Obj)} {σ : L2.St} {H : Hp} {s : Shared} {a : Addr} {xs ys : List V}, Inv X pins σ H s → Sq X.K H a xs → Sq X.K H a ys → xs = ys
  lt : ∀ {h : Heap} {a : Addr} {its : Array Value}, Is h a its → a < h.objs.size
  draws : ∀ {P : Program} {w : World} {A : Around} (_ : A.handled = none) (it a : Addr) (_ : a ≠ it) (its : Array Value), Draws P w A it [it, a] its.size (fun i v => its[i]? = some v) (fun i h => It h it a i ∧ Is h a its)
  begins : ∀ (a : Addr) (its : Array Value), Begins (.ref a) (o a) fun h => Is h a its
  it0 : ∀ {h : Heap} {it a : Addr}, h.get? it = some (o a) → It h it a 0
  live : ∀ {h : Heap} {it a : Addr} {i : Nat}, It h it a i → ∃ ob, h.get? it = some ob ∧ ∀ v, ob.data ≠ .cell v
  keep : ∀ {h h' : Heap} {it a : Addr} {i : Nat}, It h it a i → (∀ ob, h.get? it = some ob → h'.get? it = some ob) → It h' it a i
def skL : SK where
  Sq := SqL
  Is := fun h a its => h.IsList a its
  It := fun h it a i => h.IsListIter it a i
  o := fun a => { cls := .type "list_iterator", data := .fields #[.ref a, .int 0 0] }
  seen := fun I q => let ⟨its, rv, p, _⟩ := I.list q; ⟨its, rv, p.isList⟩
  one := fun I q r => I.list_inj q r
  lt := fun h => let ⟨_, e, _⟩ := h; Heap.lt_size e
  draws := fun hh it a hne its => Draws.list hh it a hne its
  begins := fun a its => begins_list a its
  it0 := fun e => ⟨_, e, rfl, rfl⟩
  live := fun h => let ⟨ob, e, _, d⟩ := h; ⟨ob, e, fun v q => nomatch d.symm.trans q⟩
  keep := fun h k => h.at k
def skT : SK where
  Sq := SqT
  Is := fun h a its => h.IsTuple a its
  It := fun h it a i => h.IsTupleIter it a i
  o := fun a => { cls := .type "tuple_iterator", data := .fields #[.ref a, .int 0 0] }
  seen := fun I q => let ⟨its, rv, p, _⟩ := I.tuple q; ⟨its, rv, p⟩
  one := fun I q r => I.tuple_inj q r
  lt := fun h => let ⟨_, e, _⟩ := h; Heap.lt_size e
  draws := fun hh it a hne its => Draws.tuple hh it a hne its
  begins := fun a its => begins_tuple a its
  it0 := fun e => ⟨_, e, rfl, rfl⟩
  live := fun h => let ⟨ob, e, _, d⟩ := h; ⟨ob, e, fun v q => nomatch d.symm.trans q⟩
  keep := fun h k => h.at k
/-- the items, counted from k0, in new pairs -/
def ItE (k : SK) (K : PySem.W.Frag) (k0 : Int) (a : Addr) : It where
  go := fun i H => ∃ (xs : List V) (x : V), k.Sq K H a xs ∧ xs[i]? = some x
  yld := fun i H v H' => ∃ T x, v = .ref T ∧ H T = none ∧ H' = upd H T (.tup [.int (k0 + (i : Int)), x]) ∧ ∀ xs, k.Sq K H a xs → xs[i]? = some x
  stop := fun i H => ∃ xs : List V, k.Sq K H a xs ∧ xs.length = i
/-- a new tuple, the iterators' cells turned -/
theorem Inv.pairNew {X : Cx} {pins : List (Addr × Obj)} {σ : L2.St} {H : Hp} {s : Shared} {h' : Heap} {tk : Nat} {ch : List Addr} {T : Addr} {xs : List V} {us : List Value} (I : Inv X pins σ H s)
    (hk : ∀ b o, b ∉ ch → s.heap.get? b = some o → h'.get? b = some o) (hf : ∀ b ∈ ch, FpOk X pins H b) (hT : s.heap.objs.size ≤ T) (hz : xs.length ≤ 100) (rv : Vals xs us) (ht : h'.IsTuple T us.toArray) :
    Inv X pins σ (upd H T (.tup xs)) { s with heap := h', toks := tk } :=
  I.turnedNew (t' := tk) (ch := ch) hk hf hT ⟨Nat.le_trans hz (by decide), us, rv, ht⟩
theorem turn_enumE {P : Program} {w : World} {K : PySem.W.Frag} {elts : List Expr} {kk : Nat} {tpos : Pos} (k : SK) (k0 : Int) (a e it : Addr) :
    Turn P w K (.Tuple elts kk tpos) (ItE k K k0 a) [e, it] e (fun i h => (∃ old, IsEnum h e it (k0 + (i : Int)) old) ∧ k.It h it a i ∧ e ≠ it ∧ a ≠ it ∧ e ≠ a) where
  mem := List.mem_cons_self ..
  obj := by
    rintro i h ⟨⟨old, he⟩, hi, _⟩ b hb
    rcases List.mem_cons.mp hb with z | hb
    · subst z; exact ⟨_, he, fun v q => nomatch q⟩
    · cases List.mem_singleton.mp hb
      exact k.live hi
  keep := by
    rintro i h h' ⟨⟨old, he⟩, hi, hne⟩ q
    exact ⟨⟨old, q e (List.mem_cons_self ..) _ he⟩, k.keep hi fun o z => q it (List.mem_cons_of_mem _ (List.mem_cons_self ..)) o z, hne⟩
  item := by
    intro X hP hw hK hc i pins s σ H E I hf st hg
    cases hP; cases hw; cases hK
    obtain ⟨⟨old, he⟩, hi, n1, n2, n3⟩ := st
    obtain ⟨xs, x, hq, hx⟩ := hg
    obtain ⟨its, rv, p⟩ := k.seen I hq
    obtain ⟨u, hu, ru⟩ := rv.get hx
    have hlt : i < its.toArray.size := by
      obtain ⟨z, _⟩ := List.getElem?_eq_some_iff.mp hu
      simpa using z
    have D := k.draws (P := X.prog) (w := X.w) (A := X.A.in1) (I.ok.hd hc) it a n2 its.toArray
    have W := GoesN.enumFrom (elts := elts) (x1 := kk) (pos := tpos) k0 D e n1 (by simp [n1, n3]) (List.mem_cons_self ..)
    refine W.goes i s _ E hlt ⟨⟨old, he⟩, hi, p⟩ fun v h' tk hY hS hk _ => ?_
    obtain ⟨T, t, y, rfl, hT, hy, ht⟩ := hY
    have hy' : its[i]? = some y := by simpa using hy
    cases hu.symm.trans hy'
    have el : e < s.heap.objs.size := Heap.lt_size he
    have il : it < s.heap.objs.size := by obtain ⟨ob, z, _⟩ := k.live hi; exact Heap.lt_size z
    refine ⟨.ref T, _, I.pairNew (ch := [e, it]) (xs := [.int (k0 + (i : Int)), x]) hk hf hT (show 2 ≤ 100 by decide) (.cons ⟨t, rfl⟩ (.cons ru .nil)) ht, rfl, ⟨T, x, rfl, I.hok.fresh hT, rfl, fun ys hys => by rw [k.one I hys hq]; exact hx⟩, ⟨?_, hS.2.1, n1, n2, n3⟩, fun b hb => ?_⟩
    · exact hS.1
    · have bl : b < s.heap.objs.size := by
        rcases List.mem_cons.mp hb with z | hb
        · exact z ▸ el
        · exact (List.mem_singleton.mp hb) ▸ il
      rw [upd_ne (Nat.ne_of_lt (Nat.lt_of_lt_of_le bl hT))]
      exact (hf b hb).1
  done := by
    intro X hP hw hK hc i pins s σ H E I hf st hg
    cases hP; cases hw; cases hK
    obtain ⟨⟨old, he⟩, hi, n1, n2, n3⟩ := st
    obtain ⟨xs, hq, rfl⟩ := hg
    obtain ⟨its, rv, p⟩ := k.seen I hq
    have D := k.draws (P := X.prog) (w := X.w) (A := X.A.in1) (I.ok.hd hc) it a n2 its.toArray
    have W := GoesN.enumFrom (elts := elts) (x1 := kk) (pos := tpos) k0 D e n1 (by simp [n1, n3]) (List.mem_cons_self ..)
    have hl : its.toArray.size = xs.length := by rw [List.size_toArray, rv.length]
    exact W.stops s (fun s1 => Inv X pins σ H s1) E (by rw [hl]; exact ⟨⟨old, he⟩, hi, p⟩) fun h' tk hk _ => I.turnedL (t' := tk) hk hf
  self := fun A i s Q E st h => let ⟨⟨_, he⟩, _⟩ := st; wpAny_pyIter_enum he h

/-! ### the call of enumerate -/
theorem enum1_typeCall (v : Value) : checkTypeCall "enumerate" ⟨[v], []⟩ = pure () := F.typeCall_enumerate_1 v
set_option maxHeartbeats 1000000 in
theorem enum1_meets {v : Value} {o : Obj} {G : Heap → Prop} (B : Begins v o G) :
    Meets (Builtin.«enumerate.__new__» ⟨[.type "enumerate", v], []⟩) (fun _ R s => G s.heap ∧
      R (.ok (.ret (.ref (s.heap.push o).objs.size)))
        { s with heap := (s.heap.push o).push { cls := .type "enumerate", data := .fields #[.none, .bool false, .ref s.heap.objs.size, rawInt 0, .none, .none] } }) := by
  refine .of_wp fun prog w A R s hs => ?_
  obtain ⟨hp, gens, drawn, tk, os⟩ := s
  obtain ⟨hG, hR⟩ := hs
  have hsub := sub_enumerate
  have q1 : ∀ {A' : Around} {E' : Value → Shared → Prop} {R' : Value → Shared → Prop}, R' (.ref hp.objs.size) ⟨hp.push o, gens, drawn, tk, os⟩ → wpAny (model prog w) A' (pyIter v) R' E' ⟨hp, gens, drawn, tk, os⟩ :=
    fun q => B.iter prog w _ _ ⟨hp, gens, drawn, tk, os⟩ _ hG q
  wp_walk using q1
  refine wpAny_stack_any fun st => wpAny_pure ?_
  split
  · rename_i c _ _ _ _ _
    cases (c == Value.type "enumerate")
    all_goals
      wp_walk using q1
      exact ⟨_, rfl, hR⟩
  · wp_walk using q1
    exact ⟨_, rfl, hR⟩
section
variable {prog : Program} {w : World} {A : Around} {E : Value → Shared → Prop} {s : Shared}
theorem enum1_call {v : Value} {o : Obj} {G : Heap → Prop} {Q : Value → Shared → Prop} (B : Begins v o G) (hG : G s.heap)
    (h : ∀ h', IsEnum h' (s.heap.objs.size + 1) s.heap.objs.size 0 .none → h'.get? s.heap.objs.size = some o →
      (∀ b ob, s.heap.get? b = some ob → h'.get? b = some ob) → Q (.ref (s.heap.objs.size + 1)) { s with heap := h' }) :
    wpAny (model prog w) A (call (.type "enumerate") [v]) Q E s := by
  refine callType_new F.called_enumerate (by decide) (enum1_typeCall _) (F.newCall_enumerate_1 _) (fun ob => F.args_object_init_2 ob _) F.entry_enumerate_new (enum1_meets B) ⟨hG, ?_⟩
  have z1 : (s.heap.push o).objs.size = s.heap.objs.size + 1 := Heap.size_push ..
  let oe : Obj := { cls := .type "enumerate", data := .fields #[.none, .bool false, .ref s.heap.objs.size, rawInt 0, .none, .none] }
  have he : ((s.heap.push o).push oe).get? (s.heap.push o).objs.size = some oe := Heap.get?_push_size (s.heap.push o) rfl
  rw [z1] at he
  show _ ∧ _
  rw [z1]
  exact ⟨⟨oe, he, rfl⟩, h _ he (Heap.get?_push_of_some _ (Heap.get?_push_size _ B.free)) fun b ob e => Heap.get?_push_of_some _ (Heap.get?_push_of_some _ e)⟩
end
def iEnumE (k : SK) (K : PySem.W.Frag) (ta : TA) : TI := fun σ H R => ta σ H fun vs H1 => ∃ a xs, vs = [.ref a] ∧ k.Sq K H1 a xs ∧ R (ItE k K 0 a) H1
theorem pi_enumE {X : Cx} (K : PySem.W.Frag) (k : SK) {e : Expr} {ta : TA} {p pos tpos : Pos} {elts : List Expr} {kk : Nat} (hg : Gl X "enumerate") (hm : X.mg "enumerate" = none) (ha : PA X [e] ta)
    (hs : starEach [e] X.env = [(false, eval e X.env)] := by rfl) (h : X.K = K := by rfl) :
    PI X (.Tuple elts kk tpos) (.Call (.Name "enumerate" p) [e] [] pos) (iEnumE k K ta) := by
  cases h
  constructor
  intro pins s σ H R I h
  refine Call_ (ld_blt I hg hm boot_enumerate (PyProof.Rows.callWith_type1 (thn (ha.run pos pins s σ H _ I h) fun us s1 got => ?_) hs rfl))
  obtain ⟨vs, H1, J, r, a, xs, ex, hq, q⟩ := got
  subst ex
  obtain ⟨u, rfl, ru⟩ : ∃ u, us = [u] ∧ u = Value.ref a := by
    cases r with
    | cons r0 rr =>
      cases rr
      exact ⟨_, rfl, r0⟩
  subst ru
  obtain ⟨its, rv, p'⟩ := k.seen J hq
  have al := k.lt p'
  refine enum1_call (k.begins a its.toArray) p' fun h' he hi hk => wpAny_pyIter_enum he ?_
  refine ⟨s1.heap.objs.size + 1, [s1.heap.objs.size + 1, s1.heap.objs.size], _, _, H1, rfl, J.kept (t' := s1.toks) hk, turn_enumE k 0 a (s1.heap.objs.size + 1) s1.heap.objs.size,
    ⟨⟨.none, he⟩, k.it0 hi, Nat.succ_ne_self _, Nat.ne_of_lt al, Nat.ne_of_gt (Nat.lt_succ_of_lt al)⟩, fun b hb => ?_, q⟩
  have hle : s1.heap.objs.size ≤ b := by
    rcases List.mem_cons.mp hb with z | hb
    · exact z ▸ Nat.le_succ _
    · exact (List.mem_singleton.mp hb) ▸ Nat.le_refl _
  exact J.fpOk hle (J.hok.fresh hle)

/-! ### three beside one another -/
def ItZ3 (k1 k2 k3 : SK) (K : PySem.W.Frag) (a b c : Addr) : It where
  go := fun i H => ∃ (xs ys zs : List V) (x y z : V), (k1.Sq K H a xs ∧ k2.Sq K H b ys ∧ k3.Sq K H c zs) ∧ xs[i]? = some x ∧ ys[i]? = some y ∧ zs[i]? = some z
  yld := fun i H v H' => ∃ T x y z, v = .ref T ∧ H T = none ∧ H' = upd H T (.tup [x, y, z]) ∧ (∀ xs, k1.Sq K H a xs → xs[i]? = some x) ∧ (∀ ys, k2.Sq K H b ys → ys[i]? = some y) ∧ ∀ zs, k3.Sq K H c zs → zs[i]? = some z
  stop := fun i H => ∃ xs ys zs : List V, (k1.Sq K H a xs ∧ k2.Sq K H b ys ∧ k3.Sq K H c zs) ∧ min (min xs.length ys.length) zs.length = i
structure Z3 (k1 k2 k3 : SK) (z TI TO i1 i2 i3 a b c : Addr) (i : Nat) (h : Heap) : Prop where
  zp : IsZip h z TI TO .none
  its : IsTupOf3 h TI (.ref i1) (.ref i2) (.ref i3)
  outs : ∃ v1 v2 v3, IsTupOf3 h TO v1 v2 v3
  one : k1.It h i1 a i
  two : k2.It h i2 b i
  three : k3.It h i3 c i
theorem mem6 {b z t o x y u : Addr} (h : b ∈ [z, t, o, x, y, u]) : b = z ∨ b = t ∨ b = o ∨ b = x ∨ b = y ∨ b = u := by simpa using h
theorem Z3.lt {k1 k2 k3 : SK} {z TI TO i1 i2 i3 a b c : Addr} {i : Nat} {h : Heap} (t : Z3 k1 k2 k3 z TI TO i1 i2 i3 a b c i h) : ∀ q ∈ [z, TI, TO, i1, i2, i3], q < h.objs.size := fun q hq => by
  obtain ⟨v1, v2, v3, ho⟩ := t.outs
  rcases mem6 hq with e | e | e | e | e | e
  · exact e ▸ Heap.lt_size t.zp
  · exact e ▸ Heap.lt_size t.its
  · exact e ▸ Heap.lt_size ho
  · obtain ⟨o, g, _⟩ := k1.live t.one
    exact e ▸ Heap.lt_size g
  · obtain ⟨o, g, _⟩ := k2.live t.two
    exact e ▸ Heap.lt_size g
  · obtain ⟨o, g, _⟩ := k3.live t.three
    exact e ▸ Heap.lt_size g
theorem turn_zip3 {P : Program} {w : World} {K : PySem.W.Frag} {elts : List Expr} {kk : Nat} {tpos : Pos} (k1 k2 k3 : SK) {z TI TO i1 i2 i3 a b c : Addr} (S : ZipSep3 z TI TO i1 i2 i3 [i1, a] [i2, b] [i3, c])
    (n1 : a ≠ i1) (n2 : b ≠ i2) (n3 : c ≠ i3) :
    Turn P w K (.Tuple elts kk tpos) (ItZ3 k1 k2 k3 K a b c) [z, TI, TO, i1, i2, i3] z (Z3 k1 k2 k3 z TI TO i1 i2 i3 a b c) where
  mem := List.mem_cons_self ..
  obj := fun i h t q hq => by
    obtain ⟨v1, v2, v3, ho⟩ := t.outs
    rcases mem6 hq with e | e | e | e | e | e
    · exact e ▸ ⟨_, t.zp, fun v q => nomatch q⟩
    · exact e ▸ ⟨_, t.its, fun v q => nomatch q⟩
    · exact e ▸ ⟨_, ho, fun v q => nomatch q⟩
    · exact e ▸ k1.live t.one
    · exact e ▸ k2.live t.two
    · exact e ▸ k3.live t.three
  keep := fun i h h' t q => by
    obtain ⟨v1, v2, v3, ho⟩ := t.outs
    have m : ∀ d, d ∈ [z, TI, TO, i1, i2, i3] → ∀ o, h.get? d = some o → h'.get? d = some o := q
    exact ⟨m z (by simp) _ t.zp, m TI (by simp) _ t.its, ⟨v1, v2, v3, m TO (by simp) _ ho⟩, k1.keep t.one (m i1 (by simp)), k2.keep t.two (m i2 (by simp)), k3.keep t.three (m i3 (by simp))⟩
  item := by
    intro X hP hw hK hc i pins s σ H E I hf t hg
    cases hP; cases hw; cases hK
    obtain ⟨xs, ys, zs, x, y, u, ⟨qa, qb, qc⟩, hx, hy, hu⟩ := hg
    obtain ⟨as, ra, pa⟩ := k1.seen I qa
    obtain ⟨bs, rb, pb⟩ := k2.seen I qb
    obtain ⟨cs, rc, pc⟩ := k3.seen I qc
    obtain ⟨u1, g1, r1⟩ := ra.get hx
    obtain ⟨u2, g2, r2⟩ := rb.get hy
    obtain ⟨u3, g3, r3⟩ := rc.get hu
    have W := GoesN.zip3 (elts := elts) (x1 := kk) (pos := tpos) S (k1.draws (P := X.prog) (w := X.w) (A := X.A.in1) (I.ok.hd hc) i1 a n1 as.toArray) (k2.draws (A := X.A.in1) (I.ok.hd hc) i2 b n2 bs.toArray) (k3.draws (A := X.A.in1) (I.ok.hd hc) i3 c n3 cs.toArray)
    have l1 := (List.getElem?_eq_some_iff.mp g1).1
    have l2 := (List.getElem?_eq_some_iff.mp g2).1
    have l3 := (List.getElem?_eq_some_iff.mp g3).1
    have hlt : i < min (min as.toArray.size bs.toArray.size) cs.toArray.size := by
      rw [List.size_toArray, List.size_toArray, List.size_toArray]
      omega
    have sub : ∀ q ∈ [z, TO, i1, i2, i3], q ∈ [z, TI, TO, i1, i2, i3] := fun q hq => by
      have e : q = z ∨ q = TO ∨ q = i1 ∨ q = i2 ∨ q = i3 := by simpa using hq
      rcases e with e | e | e | e | e <;> (rw [e]; simp)
    refine W.goes i s _ E hlt ⟨t.zp, t.its, t.outs, ⟨t.one, pa⟩, ⟨t.two, pb⟩, ⟨t.three, pc⟩⟩ fun v h' tk hY hS hk _ => ?_
    obtain ⟨T, w1, w2, w3, rfl, hT, e1, e2, e3, ht⟩ := hY
    have e1' : as[i]? = some w1 := by simpa using e1
    have e2' : bs[i]? = some w2 := by simpa using e2
    have e3' : cs[i]? = some w3 := by simpa using e3
    cases g1.symm.trans e1'
    cases g2.symm.trans e2'
    cases g3.symm.trans e3'
    refine ⟨.ref T, _, I.pairNew (ch := [z, TO, i1, i2, i3]) (xs := [x, y, u]) hk (fun q hq => hf q (sub q hq)) hT (show 3 ≤ 100 by decide) (.cons r1 (.cons r2 (.cons r3 .nil))) ht, rfl,
      ⟨T, x, y, u, rfl, I.hok.fresh hT, rfl, fun l hl => by rw [k1.one I hl qa]; exact hx, fun l hl => by rw [k2.one I hl qb]; exact hy, fun l hl => by rw [k3.one I hl qc]; exact hu⟩, ?_, fun q hq => ?_⟩
    · exact ⟨hS.1, hS.2.1, hS.2.2.1, hS.2.2.2.1.1, hS.2.2.2.2.1.1, hS.2.2.2.2.2.1⟩
    · rw [upd_ne (Nat.ne_of_lt (Nat.lt_of_lt_of_le (t.lt q hq) hT))]
      exact (hf q hq).1
  done := by
    intro X hP hw hK hc i pins s σ H E I hf t hg
    cases hP; cases hw; cases hK
    obtain ⟨xs, ys, zs, ⟨qa, qb, qc⟩, rfl⟩ := hg
    obtain ⟨as, ra, pa⟩ := k1.seen I qa
    obtain ⟨bs, rb, pb⟩ := k2.seen I qb
    obtain ⟨cs, rc, pc⟩ := k3.seen I qc
    have W := GoesN.zip3 (elts := elts) (x1 := kk) (pos := tpos) S (k1.draws (P := X.prog) (w := X.w) (A := X.A.in1) (I.ok.hd hc) i1 a n1 as.toArray) (k2.draws (A := X.A.in1) (I.ok.hd hc) i2 b n2 bs.toArray) (k3.draws (A := X.A.in1) (I.ok.hd hc) i3 c n3 cs.toArray)
    have hl : min (min as.toArray.size bs.toArray.size) cs.toArray.size = min (min xs.length ys.length) zs.length := by
      rw [List.size_toArray, List.size_toArray, List.size_toArray, ra.length, rb.length, rc.length]
    have sub : ∀ q ∈ [z, TO, i1, i2, i3], q ∈ [z, TI, TO, i1, i2, i3] := fun q hq => by
      have e : q = z ∨ q = TO ∨ q = i1 ∨ q = i2 ∨ q = i3 := by simpa using hq
      rcases e with e | e | e | e | e <;> (rw [e]; simp)
    exact W.stops s (fun s1 => Inv X pins σ H s1) E (by rw [hl]; exact ⟨t.zp, t.its, t.outs, ⟨t.one, pa⟩, ⟨t.two, pb⟩, ⟨t.three, pc⟩⟩) fun h' tk hk _ => I.turnedL (t' := tk) hk fun q hq => hf q (sub q hq)
  self := fun A i s Q E t h => wpAny_pyIter_zip t.zp h
def iZip3 (k1 k2 k3 : SK) (K : PySem.W.Frag) (ta : TA) : TI := fun σ H R => ta σ H fun vs H1 => ∃ a b c xs ys zs, vs = [.ref a, .ref b, .ref c] ∧ (k1.Sq K H1 a xs ∧ k2.Sq K H1 b ys ∧ k3.Sq K H1 c zs) ∧ R (ItZ3 k1 k2 k3 K a b c) H1
theorem pi_zip3 {X : Cx} (K : PySem.W.Frag) (k1 k2 k3 : SK) {e e2 e3 : Expr} {ta : TA} {p pos tpos : Pos} {elts : List Expr} {kk : Nat} (hg : Gl X "zip") (hm : X.mg "zip" = none) (ha : PA X [e, e2, e3] ta)
    (hs : starEach [e, e2, e3] X.env = (false, eval e X.env) :: starEach [e2, e3] X.env := by rfl) (hpl : (backTo pos (starEach [e2, e3] X.env)).any (·.1) = false := by rfl) (h : X.K = K := by rfl) :
    PI X (.Tuple elts kk tpos) (.Call (.Name "zip" p) [e, e2, e3] [] pos) (iZip3 k1 k2 k3 K ta) := by
  cases h
  constructor
  intro pins s σ H R I h
  refine Call_ (ld_blt I hg hm PyProof.Rows.boot_zip (PyProof.Rows.callWith_type1 (thn (ha.run pos pins s σ H _ I h) fun us s1 got => ?_) hs hpl))
  obtain ⟨vs, H1, J, r, a, b, c, xs, ys, zs, ex, ⟨qa, qb, qc⟩, q⟩ := got
  subst ex
  obtain rfl : us = [Value.ref a, Value.ref b, Value.ref c] := by
    cases r with
    | cons r0 r => cases r with
      | cons r1 r => cases r with
        | cons r2 r =>
          cases r
          rw [show _ = Value.ref a from r0, show _ = Value.ref b from r1, show _ = Value.ref c from r2]
  obtain ⟨as, ra, pa⟩ := k1.seen J qa
  obtain ⟨bs, rb, pb⟩ := k2.seen J qb
  obtain ⟨cs, rc, pc⟩ := k3.seen J qc
  have la := k1.lt pa
  have lb := k2.lt pb
  have lc := k3.lt pc
  have one : ∀ {d : Addr}, d < s1.heap.objs.size → ∀ b ∈ [d], b < s1.heap.objs.size := fun hd b hb => (List.mem_singleton.mp hb) ▸ hd
  refine zip_begins3 (k1.begins a as.toArray) (k2.begins b bs.toArray) (k3.begins c cs.toArray) pa pb pc fun h' hz hTI hTO o1 o2 o3 _ hk => wpAny_pyIter_zip hz ?_
  refine ⟨s1.heap.objs.size + 5, [s1.heap.objs.size + 5, s1.heap.objs.size + 3, s1.heap.objs.size + 4, s1.heap.objs.size, s1.heap.objs.size + 1, s1.heap.objs.size + 2], _, _, H1, rfl, J.kept (t' := s1.toks) hk,
    turn_zip3 k1 k2 k3 (zip_sep3 (one la) (one lb) (one lc)) (Nat.ne_of_lt la) (Nat.ne_of_lt (Nat.lt_of_lt_of_le lb (Nat.le_add_right _ _))) (Nat.ne_of_lt (Nat.lt_of_lt_of_le lc (Nat.le_add_right _ _))),
    ⟨hz, hTI, ⟨_, _, _, hTO⟩, k1.it0 o1, k2.it0 o2, k3.it0 o3⟩, fun d hd => ?_, q⟩
  have hle : s1.heap.objs.size ≤ d := by
    rcases mem6 hd with e | e | e | e | e | e
    · exact e ▸ Nat.le_add_right _ _
    · exact e ▸ Nat.le_add_right _ _
    · exact e ▸ Nat.le_add_right _ _
    · exact e ▸ Nat.le_refl _
    · exact e ▸ Nat.le_add_right _ _
    · exact e ▸ Nat.le_add_right _ _
  exact J.fpOk hle (J.hok.fresh hle)

section
variable {K : PySem.W.Frag} {σ : L2.St} {H : Hp} {Q : VK} {D : Ends} {tb : TS} {ta : TA} {R : It → Hp → Prop} {k k1 k2 k3 : SK} {a b c : Addr} {xs ys zs : List V} {k0 : Int} {m n o : Nat}
def rItE (k : SK) (K : PySem.W.Frag) (vs : List V) (R : It → Hp → Prop) (H1 : Hp) : Prop := ∃ a xs, vs = [.ref a] ∧ k.Sq K H1 a xs ∧ R (ItE k K 0 a) H1
def rItZ3 (k1 k2 k3 : SK) (K : PySem.W.Frag) (vs : List V) (R : It → Hp → Prop) (H1 : Hp) : Prop := ∃ a b c xs ys zs, vs = [.ref a, .ref b, .ref c] ∧ (k1.Sq K H1 a xs ∧ k2.Sq K H1 b ys ∧ k3.Sq K H1 c zs) ∧ R (ItZ3 k1 k2 k3 K a b c) H1
theorem st_enumE (h : ta σ H fun us H1 => rItE k K us R H1) : iEnumE k K ta σ H R := h
theorem st_zip3 (h : ta σ H fun us H1 => rItZ3 k1 k2 k3 K us R H1) : iZip3 k1 k2 k3 K ta σ H R := h
theorem r_enumE (h : k.Sq K H a xs) (q : R (ItE k K 0 a) H) : rItE k K [.ref a] R H := ⟨a, xs, rfl, h, q⟩
theorem r_zip3 (h1 : k1.Sq K H a xs) (h2 : k2.Sq K H b ys) (h3 : k3.Sq K H c zs) (q : R (ItZ3 k1 k2 k3 K a b c) H) : rItZ3 k1 k2 k3 K [.ref a, .ref b, .ref c] R H := ⟨a, b, c, xs, ys, zs, rfl, ⟨h1, h2, h3⟩, q⟩
theorem r_tup3 {i j l : Nat} {x y z : V} {R : L2.St → Hp → Prop} (h : SqT K H a [x, y, z]) (q : R (((σ.set i (some x)).set j (some y)).set l (some z)) H) : gTup K 3 (gCons (gName i) (gCons (gName j) (gCons (gName l) gNil))) (.ref a) σ H R :=
  ⟨a, _, rfl, h, rfl, x, [y, z], rfl, y, [z], rfl, z, [], rfl, rfl, q⟩
/-- for i, x in enumerate(xs) -/
theorem r_forE (Pv : Nat → L2.St → Hp → Prop) (h0 : Pv 0 σ H) (hl : ∀ i σ' H', i ≤ xs.length → Pv i σ' H' → k.Sq K H' a xs)
    (hs : ∀ i x σ' H' H1, xs[i]? = some x → Pv i σ' H' → Ex H' H1 → tb { D with nx := Pv (i + 1), ct := Pv (i + 1), bk := D.nx } ((σ'.set m (some (.int (k0 + (i : Int))))).set n (some x)) H1)
    (hd : ∀ σ' H', Pv xs.length σ' H' → D.nx σ' H') : rFor (ItE k K k0 a) (gTup K 2 (gCons (gName m) (gCons (gName n) gNil))) tb D σ H := by
  refine ⟨fun i d σ H => d = xs.length - i ∧ i ≤ xs.length ∧ Pv i σ H, ⟨_, rfl, Nat.zero_le _, h0⟩, ?_⟩
  rintro i d σ H ⟨rfl, hi, p⟩
  have hq := hl i σ H hi p
  rcases Nat.lt_or_ge i xs.length with lt | ge
  · have hx := List.getElem?_eq_getElem lt
    refine .inr ⟨⟨xs, _, hq, hx⟩, Pv (i + 1), fun σ' H' q => ⟨xs.length - (i + 1), by omega, rfl, lt, q⟩, ?_⟩
    rintro v H' ⟨T, x, rfl, hT, rfl, e⟩
    exact r_tup2 (t_of upd_same) (hs i x σ H _ (e xs hq) p (Ex.new hT))
  · have e : xs.length = i := by omega
    refine .inl ⟨⟨xs, hq, e⟩, hd σ H (by rw [e]; exact p)⟩
/-- for x, y, z in zip(xs, ys, zs) -/
theorem r_forZ3 {N : Nat} (hN : min (min xs.length ys.length) zs.length = N) (Pv : Nat → L2.St → Hp → Prop) (h0 : Pv 0 σ H)
    (hl : ∀ i σ' H', i ≤ N → Pv i σ' H' → k1.Sq K H' a xs ∧ k2.Sq K H' b ys ∧ k3.Sq K H' c zs)
    (hs : ∀ i x y z σ' H' H1, xs[i]? = some x → ys[i]? = some y → zs[i]? = some z → Pv i σ' H' → Ex H' H1 →
      tb { D with nx := Pv (i + 1), ct := Pv (i + 1), bk := D.nx } (((σ'.set m (some x)).set n (some y)).set o (some z)) H1)
    (hd : ∀ σ' H', Pv N σ' H' → D.nx σ' H') : rFor (ItZ3 k1 k2 k3 K a b c) (gTup K 3 (gCons (gName m) (gCons (gName n) (gCons (gName o) gNil)))) tb D σ H := by
  refine ⟨fun i d σ H => d = N - i ∧ i ≤ N ∧ Pv i σ H, ⟨_, rfl, Nat.zero_le _, h0⟩, ?_⟩
  rintro i d σ H ⟨rfl, hi, p⟩
  have hq := hl i σ H hi p
  rcases Nat.lt_or_ge i N with lt | ge
  · have hx := List.getElem?_eq_getElem (show i < xs.length by omega)
    have hy := List.getElem?_eq_getElem (show i < ys.length by omega)
    have hz := List.getElem?_eq_getElem (show i < zs.length by omega)
    refine .inr ⟨⟨xs, ys, zs, _, _, _, hq, hx, hy, hz⟩, Pv (i + 1), fun σ' H' q => ⟨N - (i + 1), by omega, rfl, lt, q⟩, ?_⟩
    rintro v H' ⟨T, x, y, z, rfl, hT, rfl, e1, e2, e3⟩
    exact r_tup3 (t_of upd_same) (hs i x y z σ H _ (e1 xs hq.1) (e2 ys hq.2.1) (e3 zs hq.2.2) p (Ex.new hT))
  · have e : i = N := by omega
    exact .inl ⟨⟨xs, ys, zs, hq, by rw [hN, e]⟩, hd σ H (by rw [← e]; exact p)⟩
end
/-! ### repr of data -/
/-- the text of data that fits -/
structure Shows (d : PyData) : Prop where
  can : PyData.showable d = true
  plain : PyData.hasDict d = false
  depth : PyData.depth d ≤ 50
  fits : d.shown.length ≤ sizeLine
def rRepr (K : PySem.W.Frag) : List V → Hp → VK → Prop := fun xs H Q => ∃ a d, xs = [.ref a] ∧ Dp K H (.ref a) d ∧ Shows d ∧ Q (.str d.shown) H
theorem repr_K {X : Cx} (K : PySem.W.Frag) (g : Quiet X.A) {k : Nat} (hr : Room k X.A) (h : X.K = K := by rfl) : CallR X (.builtin "repr") (rRepr K) := by
  cases h
  intro pins s σ H xs us Q I r h
  obtain ⟨a, d, rfl, hd, sd, q⟩ := h
  obtain ⟨u, rfl, ru⟩ : ∃ u, us = [u] ∧ RelV (.ref a) u := by
    cases r with
    | cons r0 rr =>
      cases rr
      exact ⟨_, rfl, r0⟩
  cases (show u = Value.ref a from ru)
  obtain ⟨as, rd⟩ := Dp.reads I d _ _ hd ru
  have hu : X.A.units + (d.depth + 1) < cLine := by
    have h1 := sd.depth
    have h2 := hr.units
    omega
  exact repr_of_reads' rd sd.can (fun e => nomatch (sd.plain.symm.trans e)) g hu (fun _ _ e => e) (fun h' u tk hk => ⟨.str d.shown, H, I.kept (t' := tk) hk, ⟨u, rfl⟩, q⟩) sd.fits
section
variable {K : PySem.W.Frag} {H : Hp} {Q : VK} {a b : Addr} {d : PyData}
theorem r_repr (h : Dp K H (.ref a) d) (sd : Shows d) (q : Q (.str d.shown) H) : rRepr K [.ref a] H Q := ⟨a, d, rfl, h, sd, q⟩
theorem r_eqS {x y : Str} (q : Q (.bl (decide (x = y))) H) : rEqU K (.str x) (.str y) H Q := .inl ⟨rfl, by
  have e : decide ((V.str x) = V.str y) = decide (x = y) := by simp
  rw [e]
  exact q⟩
theorem r_neS {x y : Str} (q : Q (.bl (!decide (x = y))) H) : rNeU K (.str x) (.str y) H Q := .inl ⟨rfl, by
  have e : decide ((V.str x) = V.str y) = decide (x = y) := by simp
  rw [e]
  exact q⟩
/-- two things that read alike -/
theorem r_eqD {e : PyData} (ha : Dp K H (.ref a) d) (hb : Dp K H (.ref b) e) (s1 : SeqAt.shaped d = true) (s2 : SeqAt.shaped e = true) (q : Q (.bl (PyData.eqv d e)) H) : rEqU K (.ref a) (.ref b) H Q := .inr ⟨d, e, ha, hb, s1, s2, q⟩
theorem r_neD {e : PyData} (ha : Dp K H (.ref a) d) (hb : Dp K H (.ref b) e) (s1 : SeqAt.shaped d = true) (s2 : SeqAt.shaped e = true) (q : Q (.bl (!PyData.eqv d e)) H) : rNeU K (.ref a) (.ref b) H Q := .inr ⟨d, e, ha, hb, s1, s2, q⟩
end
/-! ### data of ints, in sequences -/
/-- a list of sequences -/
def dWs (ws : List (List Int)) : List PyData := ws.map fun w => .tuple (w.map .int)
theorem dWs_lay : ∀ ws, PyData.canLayAll0 (dWs ws) = true
  | [] => rfl
  | w :: ws => by
    show (PyData.canLayAll0 (w.map .int) && PyData.canLayAll0 (dWs ws)) = true
    rw [canLay_ints, dWs_lay ws]
    rfl
theorem dWs_depth : ∀ ws, PyData.depthAll (dWs ws) ≤ 1
  | [] => Nat.zero_le _
  | w :: ws => by
    have h := dWs_depth ws
    show max (PyData.depth (.tuple (w.map .int))) (PyData.depthAll (dWs ws)) ≤ 1
    rw [PyData.depth, depth_ints]
    omega
theorem dWs_eqv : ∀ us ws, PyData.eqvAll (dWs us) (dWs ws) = decide (us = ws)
  | [], [] => by simp [dWs, PyData.eqvAll]
  | [], _ :: _ => by simp [dWs, PyData.eqvAll]
  | _ :: _, [] => by simp [dWs, PyData.eqvAll]
  | u :: us, w :: ws => by
    show (PyData.eqv (.tuple (u.map .int)) (.tuple (w.map .int)) && PyData.eqvAll (dWs us) (dWs ws)) = _
    rw [eqv_tints, dWs_eqv us ws]
    by_cases h : u = w
    · subst h; simp
    · simp [h]
theorem shaped_dWs (ws : List (List Int)) : SeqAt.shaped (.list (dWs ws)) = true := by
  unfold SeqAt.shaped
  have h := dWs_depth ws
  rw [PyData.canLay0, dWs_lay, PyData.depth]
  simp
  omega
theorem shaped_dWsT (ws : List (List Int)) : SeqAt.shaped (.tuple (dWs ws)) = true := by
  unfold SeqAt.shaped
  have h := dWs_depth ws
  rw [PyData.canLay0, dWs_lay, PyData.depth]
  simp
  omega

/-! ### list(range(..)) -/
section
variable {K : PySem.W.Frag} {σ : L2.St} {H : Hp} {Q : VK} {ta tb : TE} {te : L2.St → Hp → (Int → Int → Hp → Prop) → Prop} {R : Int → Int → Hp → Prop} {i j : Int}
def rLstRg (a b : Int) (H1 : Hp) (Q : VK) : Prop := RgOk a b ∧ ∀ q, H1 q = none → Q (.ref q) (upd H1 q (.lst (rgV a b)))
def rTwoI (x y : V) (H2 : Hp) (R : Int → Int → Hp → Prop) : Prop := ∃ i j, x = .int i ∧ y = .int j ∧ R i j H2
theorem st_lstRg (h : te σ H fun a b H1 => rLstRg a b H1 Q) : tLstRg te σ H Q := h
theorem st_rg2 (h : ta σ H fun x H1 => tb σ H1 fun y H2 => rTwoI x y H2 R) : tRg2 ta tb σ H R := h
theorem r_twoI (q : R i j H) : rTwoI (.int i) (.int j) H R := ⟨i, j, rfl, rfl, q⟩
/-- the ints from a on, below b -/
def rgI (a b : Int) : List Int := (List.range (b - a).toNat).map fun i => a + (i : Nat)
theorem rgI_len (a b : Int) : (rgI a b).length = (b - a).toNat := by
  unfold rgI
  rw [List.length_map, List.length_range]
theorem r_lstRg (h0 : 0 ≤ i) (h1 : j ≤ 16777216) (h2 : i ≤ 16777216) (h3 : 0 ≤ j) (q : ∀ p H1, H p = none → Ex H H1 → H1 p = some (.lst ((rgI i j).map V.int)) → Q (.ref p) H1) : rLstRg i j H Q := by
  refine ⟨RgOk.of_le h0 h1 h2 h3, fun p hp => ?_⟩
  refine q p _ hp (Ex.new hp) ?_
  rw [upd_same]
  unfold rgV rgI
  rw [List.map_map]
  rfl
end
end L2
/-! lists of sequences of ints, and data of them that can be written out -/
namespace L2
open PySem PySem.Spec PyProof.Rows Evl
section
variable {K : PySem.W.Frag} {σ : L2.St} {H H' : Hp} {Q : VK} {a : Addr} {xs ys : List V} {ws us : List (List Int)} {x : V} {u : List Int}
/-- a tuple of ints -/
def WkV (K : PySem.W.Frag) (H : Hp) (x : V) (w : List Int) : Prop := ∃ a, x = .ref a ∧ IT K H a w
/-- such tuples, one behind the other -/
structure WkA (K : PySem.W.Frag) (H : Hp) (xs : List V) (ws : List (List Int)) : Prop where
  len : xs.length = ws.length
  at' : ∀ (i : Nat) x w, xs[i]? = some x → ws[i]? = some w → WkV K H x w
theorem WkV.tx (h : WkV K H x u) (e : TX H H') : WkV K H' x u := by
  obtain ⟨a, rfl, h1⟩ := h
  exact ⟨a, rfl, tx_t e h1⟩
theorem WkA.tx (h : WkA K H xs ws) (e : TX H H') : WkA K H' xs ws := ⟨h.len, fun i x w h1 h2 => (h.at' i x w h1 h2).tx e⟩
theorem WkA.ex (h : WkA K H xs ws) (e : Ex H H') : WkA K H' xs ws := h.tx (.of e)
theorem WkA.nil : WkA K H [] [] := ⟨rfl, fun i x w h => by simp at h⟩
theorem WkA.get (h : WkA K H xs ws) {i : Nat} (hx : xs[i]? = some x) : ∃ w, ws[i]? = some w ∧ WkV K H x w := by
  have hi := (List.getElem?_eq_some_iff.mp hx).1
  rw [h.len] at hi
  exact ⟨_, List.getElem?_eq_getElem hi, h.at' i _ _ hx (List.getElem?_eq_getElem hi)⟩
theorem WkA.snoc (h : WkA K H xs ws) (hx : WkV K H x u) : WkA K H (xs ++ [x]) (ws ++ [u]) := by
  refine ⟨by rw [List.length_append, List.length_append, h.len]; rfl, fun i y w h1 h2 => ?_⟩
  rcases Nat.lt_or_ge i xs.length with lt | ge
  · rw [List.getElem?_append_left lt] at h1
    rw [List.getElem?_append_left (h.len ▸ lt)] at h2
    exact h.at' i y w h1 h2
  · rw [List.getElem?_append_right ge] at h1
    rw [List.getElem?_append_right (h.len ▸ ge)] at h2
    have e : i - xs.length = 0 := by
      have := (List.getElem?_eq_some_iff.mp h1).1
      simp at this
      omega
    rw [e] at h1
    rw [← h.len, e] at h2
    cases h1
    cases h2
    exact hx
theorem WkA.set (h : WkA K H xs ws) (hx : WkV K H x u) (k : Nat) : WkA K H (xs.set k x) (ws.set k u) := by
  refine ⟨by rw [List.length_set, List.length_set, h.len], fun i y w h1 h2 => ?_⟩
  rw [List.getElem?_set] at h1 h2
  by_cases e : k = i
  · rw [if_pos e] at h1 h2
    split at h1
    · cases h1
      split at h2
      · cases h2
        exact hx
      · cases h2
    · cases h1
  · rw [if_neg e] at h1 h2
    exact h.at' i y w h1 h2
theorem WkA.app {us : List (List Int)} (h : WkA K H xs ws) (k : WkA K H ys us) : WkA K H (xs ++ ys) (ws ++ us) := by
  refine ⟨by rw [List.length_append, List.length_append, h.len, k.len], fun i y w h1 h2 => ?_⟩
  rcases Nat.lt_or_ge i xs.length with lt | ge
  · rw [List.getElem?_append_left lt] at h1
    rw [List.getElem?_append_left (h.len ▸ lt)] at h2
    exact h.at' i y w h1 h2
  · rw [List.getElem?_append_right ge] at h1
    rw [List.getElem?_append_right (h.len ▸ ge), ← h.len] at h2
    exact k.at' _ y w h1 h2
theorem dp_wks : ∀ {xs : List V} {ws : List (List Int)}, WkA K H xs ws → DpAll K H xs (dWs ws)
  | [], [], _ => .nil
  | [], _ :: _, h => by have := h.len; simp at this
  | _ :: _, [], h => by have := h.len; simp at this
  | x :: xs, w :: ws, h => by
    obtain ⟨a, rfl, h1⟩ := h.at' 0 x w rfl rfl
    exact .cons (dp_t h1) (dp_wks ⟨by have := h.len; simpa using this, fun i y u e1 e2 => h.at' (i + 1) y u (by simpa using e1) (by simpa using e2)⟩)
theorem dp_wl (hl : SqL K H a xs) (h : WkA K H xs ws) : Dp K H (.ref a) (.list (dWs ws)) := .lst hl (dp_wks h)
theorem dp_wt (hl : SqT K H a xs) (h : WkA K H xs ws) : Dp K H (.ref a) (.tuple (dWs ws)) := .tup hl (dp_wks h)
theorem eqv_dWs : PyData.eqv (.list (dWs us)) (.list (dWs ws)) = decide (us = ws) := by rw [PyData.eqv, dWs_eqv]
theorem eqv_dWsT : PyData.eqv (.tuple (dWs us)) (.tuple (dWs ws)) = decide (us = ws) := by rw [PyData.eqv, dWs_eqv]
/-- == of lists of sequences -/
theorem r_eqW {b : Addr} (ha : SqL K H a xs) (wa : WkA K H xs ws) (hb : SqL K H b ys) (wb : WkA K H ys us) (q : Q (.bl (decide (ws = us))) H) : rEqU K (.ref a) (.ref b) H Q :=
  r_eqD (dp_wl ha wa) (dp_wl hb wb) (shaped_dWs _) (shaped_dWs _) (by rw [eqv_dWs]; exact q)
theorem r_neW {b : Addr} (ha : SqL K H a xs) (wa : WkA K H xs ws) (hb : SqL K H b ys) (wb : WkA K H ys us) (q : Q (.bl (!decide (ws = us))) H) : rNeU K (.ref a) (.ref b) H Q :=
  r_neD (dp_wl ha wa) (dp_wl hb wb) (shaped_dWs _) (shaped_dWs _) (by rw [eqv_dWs]; exact q)
/-- what stood at a list is written anew: the tuples stay -/
theorem TX.upd {D : Addr} {o : HO} (h : H D = some (.lst xs)) : TX H (upd H D o) := fun a ys q => by
  rw [upd_ne (fun e => by subst e; rcases q with q | ⟨o', q⟩ <;> (rw [h] at q; cases q))]
theorem TX.w2 {D : Addr} (h : H D = some (.lst xs)) (e : ExW D H H') : TX H H' := fun a ys q => by
  have hne : a ≠ D := fun e => by subst e; rcases q with q | ⟨o', q⟩ <;> (rw [h] at q; cases q)
  rcases q with q | ⟨o', q⟩
  · rw [q, e a _ q hne]
  · rw [q, e a _ q hne]
/-- [e for i in range(..)], a turn may change the heap: S tells of the items so far -/
theorem r_cmRA {vs : List Nat} {j : Nat} {te : TE} {lo : Int} {m : Nat} (S : Nat → List V → Hp → Prop) (hm : m ≤ 100000) (hw : ∀ x, wipe ((wipe σ vs).set j (some x)) vs = wipe σ vs)
    (h0 : ∀ D, H D = none → ∀ o, S 0 [] (L2.upd H D o))
    (he : ∀ i H1 D acc, i < m → acc.length = i → H1 D = some (.lst acc) → (∀ o, S i acc (L2.upd H1 D o)) →
      ∀ Q' : VK, (∀ y H2, H2 D = some (.lst acc) → (∀ o, S (i + 1) (acc ++ [y]) (L2.upd H2 D o)) → Q' y H2) → te ((wipe σ vs).set j (some (.int (lo + (i : Int))))) H1 Q')
    (q : ∀ D H1 ys, H D = none → ys.length = m → H1 D = some (.lst ys) → (∀ o, S m ys (L2.upd H1 D o)) → Q (.ref D) H1) : rLc (Itr lo m) (gName j) tYes te vs σ Q H := fun D hD => by
  refine lc_range (lo := lo) (n := m) (fun i H' => ∃ ys : List V, ys.length = i ∧ (∀ o, S i ys (L2.upd H' D o)) ∧ H' D = some (.lst ys)) ⟨[], rfl, fun o => by rw [upd_upd]; exact h0 D hD o, upd_same⟩ (fun i H' hi p => ?_) (fun H' p => ?_)
  · obtain ⟨ys, h1, h4, h5⟩ := p
    refine ⟨hw _, ?_⟩
    refine he i H' D ys hi h1 h5 h4 _ fun y H2 z2 z3 => ?_
    exact ⟨ys, z2, sz_lt (by omega), ys ++ [y], by rw [List.length_append, h1]; rfl, fun o => by rw [upd_upd]; exact z3 o, upd_same⟩
  · obtain ⟨ys, h1, h4, h5⟩ := p
    exact q D H' ys hD h1 h5 h4
end
theorem upd_id {H : Hp} {D : Addr} {o : HO} (h : H D = some o) : upd H D o = H := by
  funext a
  by_cases e : a = D
  · subst e
    rw [upd_same, h]
  · rw [upd_ne e]
/-! ### texts that fit -/
theorem int_short {i : Int} (h : i.natAbs < 10 ^ 12) : PyData.leavesShort 13 (.int i) = true := by
  rw [PyData.leavesShort, decide_eq_true_eq]
  have e := int_text_length_le10 (k := 12) (by decide) h
  show (Str.ofString (toString i)).length ≤ 13
  rw [PySem.ofString_length]
  exact e
theorem int_can {i : Int} (h : i.natAbs < 10 ^ 12) : PyData.showable (.int i) = true := by
  rw [PyData.showable, decide_eq_true_eq]
  by_cases h0 : i.natAbs = 0
  · rw [h0]; decide
  · have := (Nat.log2_lt h0 (k := 40)).mpr (Nat.lt_of_lt_of_le h (by decide))
    omega
/-- all ints small -/
def Sml (ns : List Int) : Prop := ∀ x ∈ ns, x.natAbs < 10 ^ 12
theorem sml_short : ∀ {ns : List Int}, Sml ns → PyData.leavesShortAll 13 (ns.map .int) = true
  | [], _ => rfl
  | n :: ns, h => by
    rw [List.map_cons, PyData.leavesShortAll, int_short (h n List.mem_cons_self), sml_short fun x hx => h x (List.mem_cons_of_mem _ hx)]
    rfl
theorem sml_can : ∀ {ns : List Int}, Sml ns → PyData.showableAll (ns.map .int) = true
  | [], _ => rfl
  | n :: ns, h => by
    rw [List.map_cons, PyData.showableAll, int_can (h n List.mem_cons_self), sml_can fun x hx => h x (List.mem_cons_of_mem _ hx)]
    rfl
theorem ints_plain : ∀ ns : List Int, PyData.hasDictAll (ns.map .int) = false
  | [] => rfl
  | n :: ns => by
    rw [List.map_cons, PyData.hasDictAll, ints_plain ns]
    rfl
theorem ints_bulk : ∀ ns : List Int, PyData.bulkAll (ns.map .int) = ns.length
  | [] => rfl
  | n :: ns => by
    rw [List.map_cons, PyData.bulkAll, ints_bulk ns, PyData.bulk, List.length_cons]
    omega
theorem wks_short : ∀ {ws : List (List Int)}, (∀ w ∈ ws, Sml w) → PyData.leavesShortAll 13 (dWs ws) = true
  | [], _ => rfl
  | w :: ws, h => by
    show (PyData.leavesShortAll 13 (w.map .int) && PyData.leavesShortAll 13 (dWs ws)) = true
    rw [sml_short (h w List.mem_cons_self), wks_short fun x hx => h x (List.mem_cons_of_mem _ hx)]
    rfl
theorem wks_can : ∀ {ws : List (List Int)}, (∀ w ∈ ws, Sml w) → PyData.showableAll (dWs ws) = true
  | [], _ => rfl
  | w :: ws, h => by
    show (PyData.showableAll (w.map .int) && PyData.showableAll (dWs ws)) = true
    rw [sml_can (h w List.mem_cons_self), wks_can fun x hx => h x (List.mem_cons_of_mem _ hx)]
    rfl
theorem wks_plain : ∀ ws : List (List Int), PyData.hasDictAll (dWs ws) = false
  | [] => rfl
  | w :: ws => by
    show (PyData.hasDictAll (w.map .int) || PyData.hasDictAll (dWs ws)) = false
    rw [ints_plain, wks_plain ws]
    rfl
theorem wks_bulk {n : Nat} : ∀ {ws : List (List Int)}, (∀ w ∈ ws, w.length ≤ n) → PyData.bulkAll (dWs ws) ≤ ws.length * (n + 1)
  | [], _ => Nat.zero_le _
  | w :: ws, h => by
    have h1 := wks_bulk (n := n) (ws := ws) fun x hx => h x (List.mem_cons_of_mem _ hx)
    have h2 := h w List.mem_cons_self
    have e : PyData.bulkAll (dWs (w :: ws)) = PyData.bulkAll (w.map .int) + 1 + PyData.bulkAll (dWs ws) := rfl
    rw [e, ints_bulk, List.length_cons, Nat.add_mul]
    omega
theorem Shows.of {d : PyData} (h1 : PyData.showable d = true) (h2 : PyData.hasDict d = false) (h3 : PyData.depth d ≤ 50) (h4 : PyData.leavesShort 13 d = true) (h5 : PyData.bulk d ≤ 2 ^ 20) : Shows d :=
  ⟨h1, h2, h3, by
    have h := PyData.shown_le_bulk 13 (by decide) d h4
    have e : sizeLine = 16777216 := by decide
    omega⟩
/-! ### more of draws -/
theorem DrS.refl {w : Addr} {H : Hp} {n : Nat} (h : Well H w n) : DrS w H n H := ⟨ExW.refl H, h⟩
/-- something of our own is changed between the draws -/
theorem DrS.mut {w f : Addr} {H0 H H1 : Hp} {n : Nat} (h : DrS w H0 n H) (e : ExW f H H1) (h0 : H0 f = none) (hf : f ≠ w) : DrS w H0 n H1 := by
  refine ⟨fun a o ha hw => e a o (h.ex a o ha hw) (ne_of_none ha h0), ?_⟩
  obtain ⟨a, b, c, h1, h2⟩ := h.well.ex
  exact ⟨a, b, c, e w _ h1 (Ne.symm hf), h2⟩
theorem fresh_w {w p : Addr} {H H1 : Hp} (e : ExW w H H1) (hw : p ≠ w) (hp : H1 p = none) : H p = none := by
  cases h : H p with
  | none => rfl
  | some o =>
    rw [e p o h hw] at hp
    cases hp
theorem DrS.fresh {w p : Addr} {H0 H : Hp} {n : Nat} (h : DrS w H0 n H) (hp : H p = none) : H0 p = none := fresh_w h.ex (h.well.ne hp) hp
theorem ixN_in {n : Nat} {i : Int} (h0 : 0 ≤ i) (h : i.toNat < n) : ixN n i = some i.toNat := by
  unfold ixN
  rw [if_pos h0, if_pos (by omega)]
theorem atI_at {xs : List V} {i : Int} {x : V} (h0 : 0 ≤ i) (hx : xs[i.toNat]? = some x) : atI xs i = some x := by
  have e : i = ((i.toNat : Nat) : Int) := by omega
  rw [e]
  exact atI_nat hx
/-! ### [e for x in xs if t], each turn told by S -/
def CmP (S : Nat → List V → Hp → Prop) (D : Addr) (i : Nat) (H' : Hp) : Prop := ∃ ys : List V, ys.length ≤ i ∧ (∀ o, S i ys (upd H' D o)) ∧ H' D = some (.lst ys)
def CmY (S : Nat → List V → Hp → Prop) (D : Addr) (i : Nat) (y : V) (H' : Hp) : Prop := ∃ acc, H' D = some (.lst acc) ∧ acc.length < sizeLine ∧ CmP S D (i + 1) (upd H' D (.lst (acc ++ [y])))
theorem cm_yes {S : Nat → List V → Hp → Prop} {D : Addr} {i : Nat} {y : V} {H' : Hp} {acc : List V} (h : H' D = some (.lst acc)) (hz : acc.length ≤ i) (hi : i < 100000) (s : ∀ o, S (i + 1) (acc ++ [y]) (upd H' D o)) : CmY S D i y H' :=
  ⟨acc, h, sz_lt (by omega), acc ++ [y], by rw [List.length_append]; simpa using hz, fun o => by rw [upd_upd]; exact s o, upd_same⟩
theorem cm_no {S : Nat → List V → Hp → Prop} {D : Addr} {i : Nat} {H' : Hp} {acc : List V} (h : H' D = some (.lst acc)) (hz : acc.length ≤ i) (s : ∀ o, S (i + 1) acc (upd H' D o)) : CmP S D (i + 1) H' := ⟨acc, by omega, s, h⟩
section
variable {K : PySem.W.Frag} {σ : L2.St} {H : Hp} {Q : VK} {a : Addr} {xs : List V} {vs : List Nat} {j : Nat} {tt : TT} {te : TE}
theorem r_cmLA (S : Nat → List V → Hp → Prop) (hz : xs.length ≤ 100000) (hw : ∀ x, wipe ((wipe σ vs).set j (some x)) vs = wipe σ vs) (hl : ∀ i ys H', S i ys H' → SqL K H' a xs)
    (h0 : ∀ D, H D = none → ∀ o, S 0 [] (upd H D o))
    (he : ∀ i x H1 D acc, xs[i]? = some x → acc.length ≤ i → H1 D = some (.lst acc) → S i acc H1 → (∀ o, S i acc (upd H1 D o)) →
      tt ((wipe σ vs).set j (some x)) H1 fun b H2 => if b = true then te ((wipe σ vs).set j (some x)) H2 (fun y H3 => CmY S D i y H3) else CmP S D (i + 1) H2)
    (q : ∀ D H1 ys, H D = none → H1 D = some (.lst ys) → S xs.length ys H1 → (∀ o, S xs.length ys (upd H1 D o)) → Q (.ref D) H1) : rLc (Itl K a) (gName j) tt te vs σ Q H := fun D hD => by
  have at1 : ∀ {i : Nat} {ys : List V} {H' : Hp}, (∀ o, S i ys (upd H' D o)) → H' D = some (.lst ys) → S i ys H' := fun {i ys H'} h e => by
    have z := h (.lst ys)
    rw [upd_id e] at z
    exact z
  refine lc_list (K := K) (a := a) (xs := xs) (fun i H' => CmP S D i H') ⟨[], Nat.le_refl _, fun o => by rw [upd_upd]; exact h0 D hD o, upd_same⟩ (fun i H' _ p => ?_) (fun i x H' hx p => ⟨hw x, ?_⟩) (fun H' p => ?_)
  · obtain ⟨ys, h1, h2, h3⟩ := p
    exact hl i ys H' (at1 h2 h3)
  · obtain ⟨ys, h1, h2, h3⟩ := p
    exact he i x H' D ys hx h1 h3 (at1 h2 h3) h2
  · obtain ⟨ys, h1, h2, h3⟩ := p
    exact q D H' ys hD h3 (at1 h2 h3) h2
end
/-- xs[:-1] -/
theorem cut_init (xs : List V) (x : V) : cutV (xs ++ [x]) none (some (-1)) = xs := by
  unfold cutV
  rw [HT.sIx_none, List.drop_zero, Nat.sub_zero]
  have e : HT.sIx (xs ++ [x]).length (xs ++ [x]).length (some (-1)) = xs.length := by
    rw [List.length_append]
    show (if (-1 : Int) < 0 then ((-1 : Int) + ((xs.length + 1 : Nat) : Int)).toNat else min (-1 : Int).toNat (xs.length + 1)) = xs.length
    rw [if_pos (by decide)]
    omega
  rw [e, List.take_left']
  rfl
section
variable {K : PySem.W.Frag} {H : Hp} {Q : VK} {a b : Addr} {xs ys : List V} {ws : List (List Int)} {x : Str}
theorem same_neS (q : Q (.bl false) H) : rNeU K (.str x) (.str x) H Q := r_neS (by rw [decide_eq_true (rfl : x = x)]; exact q)
theorem same_eqS (q : Q (.bl true) H) : rEqU K (.str x) (.str x) H Q := r_eqS (by rw [decide_eq_true (rfl : x = x)]; exact q)
theorem same_neW (ha : SqL K H a xs) (wa : WkA K H xs ws) (hb : SqL K H b ys) (wb : WkA K H ys ws) (q : Q (.bl false) H) : rNeU K (.ref a) (.ref b) H Q :=
  r_neW ha wa hb wb (by rw [decide_eq_true (rfl : ws = ws)]; exact q)
theorem same_eqW (ha : SqL K H a xs) (wa : WkA K H xs ws) (hb : SqL K H b ys) (wb : WkA K H ys ws) (q : Q (.bl true) H) : rEqU K (.ref a) (.ref b) H Q :=
  r_eqW ha wa hb wb (by rw [decide_eq_true (rfl : ws = ws)]; exact q)
end
theorem ex_none {H H1 : Hp} {D : Addr} (h : ∀ o, Ex H (upd H1 D o)) : H D = none := by
  cases e : H D with
  | none => rfl
  | some u =>
    have h1 := h (.lst []) D u e
    have h2 := h (.tup []) D u e
    rw [upd_same] at h1 h2
    rw [← h1] at h2
    cases h2
theorem ex_put {H H1 : Hp} {D : Addr} {o : HO} (e : Ex H H1) (h : H D = none) : Ex H (upd H1 D o) := fun a u q => by
  rw [upd_ne (ne_of_none q h)]
  exact e a u q
theorem WkA.init {K : PySem.W.Frag} {H : Hp} {xs : List V} {ws : List (List Int)} {x : V} {w : List Int} (h : WkA K H (xs ++ [x]) (ws ++ [w])) : WkA K H xs ws := by
  have e : xs.length = ws.length := by
    have := h.len
    rw [List.length_append, List.length_append] at this
    simpa using this
  refine ⟨e, fun i y u h1 h2 => h.at' i y u ?_ ?_⟩
  · rw [List.getElem?_append_left (List.getElem?_eq_some_iff.mp h1).1]
    exact h1
  · rw [List.getElem?_append_left (List.getElem?_eq_some_iff.mp h2).1]
    exact h2
theorem WkA.split {K : PySem.W.Frag} {H : Hp} {xs : List V} {ws : List (List Int)} {w : List Int} (h : WkA K H xs (ws ++ [w])) : ∃ ys y, xs = ys ++ [y] ∧ WkA K H ys ws := by
  rcases List.eq_nil_or_concat xs with e | ⟨ys, y, e⟩
  · have := h.len
    rw [e, List.length_append] at this
    simp at this
  · rw [List.concat_eq_append] at e
    subst e
    exact ⟨ys, y, rfl, h.init⟩
end L2
namespace Lw
open PySem PySem.Spec PyProof.Rows L2 Evl

/-! ### the text -/
def topS (i : Nat) : Stmt := PySem.Challenge.pw_walkclubs_k10_petals_ring_by_ring.main.body.getD i (.Pass ⟨0, 0, 0, 0⟩)
abbrev s_is_integer : Stmt := topS 6
abbrev N_is_integer : List Str := ["value"]
abbrev P_is_integer : List Str := ["value"]
theorem sc_is_integer : FnScope N_is_integer P_is_integer (defScope s_is_integer) := ⟨rfl, rfl, rfl, by decide +kernel, rfl, by decide +kernel, by decide +kernel⟩
abbrev s_straightened : Stmt := topS 15
abbrev N_straightened : List Str := ["walk", "kept", "step"]
abbrev P_straightened : List Str := ["walk"]
theorem sc_straightened : FnScope N_straightened P_straightened (defScope s_straightened) := ⟨rfl, rfl, rfl, by decide +kernel, rfl, by decide +kernel, by decide +kernel⟩
abbrev s_ways_along : Stmt := topS 17
abbrev N_ways_along : List Str := ["steps", "first", "last", "count", "passed", "step", "room", "ahead"]
abbrev P_ways_along : List Str := ["steps", "first", "last", "count"]
theorem sc_ways_along : FnScope N_ways_along P_ways_along (defScope s_ways_along) := ⟨rfl, rfl, rfl, by decide +kernel, rfl, by decide +kernel, by decide +kernel⟩
abbrev s__law_well : Stmt := topS 21
abbrev N__law_well : List Str := ["_law_script", "_law_k", "_law_cell", "_law_total", "_law_at", "_law_other"]
abbrev P__law_well : List Str := ["_law_script", "_law_k"]
theorem sc__law_well : FnScope N__law_well P__law_well (defScope s__law_well) := ⟨rfl, rfl, rfl, by decide +kernel, rfl, by decide +kernel, by decide +kernel⟩
abbrev s__law_take : Stmt := topS 22
abbrev N__law_take : List Str := ["_law_well_here", "_law_many", "_law_found", "_law_mixed"]
abbrev P__law_take : List Str := ["_law_well_here", "_law_many"]
theorem sc__law_take : FnScope N__law_take P__law_take (defScope s__law_take) := ⟨rfl, rfl, rfl, by decide +kernel, rfl, by decide +kernel, by decide +kernel⟩
abbrev s__law_straight : Stmt := topS 23
abbrev N__law_straight : List Str := ["_law_walk_here", "_law_found", "_law_step"]
abbrev P__law_straight : List Str := ["_law_walk_here"]
theorem sc__law_straight : FnScope N__law_straight P__law_straight (defScope s__law_straight) := ⟨rfl, rfl, rfl, by decide +kernel, rfl, by decide +kernel, by decide +kernel⟩
abbrev s__law_steps : Stmt := topS 24
abbrev N__law_steps : List Str := ["_law_letters", "_law_found", "_law_letter"]
abbrev P__law_steps : List Str := ["_law_letters"]
theorem sc__law_steps : FnScope N__law_steps P__law_steps (defScope s__law_steps) := ⟨rfl, rfl, rfl, by decide +kernel, rfl, by decide +kernel, by decide +kernel⟩
abbrev s_is_letters : Stmt := topS 7
abbrev N_is_letters : List Str := ["value"]
abbrev P_is_letters : List Str := ["value"]
theorem sc_is_letters : FnScope N_is_letters P_is_letters (defScope s_is_letters) := ⟨rfl, rfl, rfl, by decide +kernel, rfl, by decide +kernel, by decide +kernel⟩
abbrev s_is_step_of : Stmt := topS 8
abbrev N_is_step_of : List Str := ["letters", "value"]
abbrev P_is_step_of : List Str := ["letters", "value"]
theorem sc_is_step_of : FnScope N_is_step_of P_is_step_of (defScope s_is_step_of) := ⟨rfl, rfl, rfl, by decide +kernel, rfl, by decide +kernel, by decide +kernel⟩
abbrev s_petals_of : Stmt := topS 18
abbrev N_petals_of : List Str := ["walks", "count", "ways", "walk", "steps"]
abbrev P_petals_of : List Str := ["walks"]
theorem sc_petals_of : FnScope N_petals_of P_petals_of (defScope s_petals_of) := ⟨rfl, rfl, rfl, by decide +kernel, rfl, by decide +kernel, by decide +kernel⟩
abbrev s__law_walk : Stmt := topS 25
abbrev N__law_walk : List Str := ["_law_well_here", "_law_letters", "_law_most", "_law_steps_here", "_law_found", "_law_loose", "_law_turn", "_law_step"]
abbrev P__law_walk : List Str := ["_law_well_here", "_law_letters", "_law_most"]
theorem sc__law_walk : FnScope N__law_walk P__law_walk (defScope s__law_walk) := ⟨rfl, rfl, rfl, by decide +kernel, rfl, by decide +kernel, by decide +kernel⟩
abbrev s__law_petals : Stmt := topS 27
abbrev N__law_petals : List Str := ["_law_walks", "_law_rooms", "_law_ways", "_law_walk_here", "_law_left", "_law_places", "_law_at", "_law_step"]
abbrev P__law_petals : List Str := ["_law_walks"]
theorem sc__law_petals : FnScope N__law_petals P__law_petals (defScope s__law_petals) := ⟨rfl, rfl, rfl, by decide +kernel, rfl, by decide +kernel, by decide +kernel⟩
abbrev s_is_walk_of : Stmt := topS 9
abbrev N_is_walk_of : List Str := ["letters", "value", "step"]
abbrev P_is_walk_of : List Str := ["letters", "value"]
theorem sc_is_walk_of : FnScope N_is_walk_of P_is_walk_of (defScope s_is_walk_of) := ⟨rfl, rfl, rfl, by decide +kernel, rfl, by decide +kernel, by decide +kernel⟩
abbrev s_check_letters : Stmt := topS 11
abbrev N_check_letters : List Str := ["letters"]
abbrev P_check_letters : List Str := ["letters"]
theorem sc_check_letters : FnScope N_check_letters P_check_letters (defScope s_check_letters) := ⟨rfl, rfl, rfl, by decide +kernel, rfl, by decide +kernel, by decide +kernel⟩
abbrev s__law_list : Stmt := topS 26
abbrev N__law_list : List Str := ["_law_well_here", "_law_letters", "_law_most", "_law_found", "_law_step", "_law_turn"]
abbrev P__law_list : List Str := ["_law_well_here", "_law_letters"]
theorem sc__law_list : FnScope N__law_list P__law_list (defScope s__law_list) := ⟨rfl, rfl, rfl, by decide +kernel, rfl, by decide +kernel, by decide +kernel⟩
abbrev s_check_walk : Stmt := topS 12
abbrev N_check_walk : List Str := ["letters", "walk"]
abbrev P_check_walk : List Str := ["letters", "walk"]
theorem sc_check_walk : FnScope N_check_walk P_check_walk (defScope s_check_walk) := ⟨rfl, rfl, rfl, by decide +kernel, rfl, by decide +kernel, by decide +kernel⟩
abbrev s_check_walks : Stmt := topS 13
abbrev N_check_walks : List Str := ["letters", "walks", "walk"]
abbrev P_check_walks : List Str := ["letters", "walks"]
theorem sc_check_walks : FnScope N_check_walks P_check_walks (defScope s_check_walks) := ⟨rfl, rfl, rfl, by decide +kernel, rfl, by decide +kernel, by decide +kernel⟩
abbrev s_petals : Stmt := topS 19
abbrev N_petals : List Str := ["letters", "walks"]
abbrev P_petals : List Str := ["letters", "walks"]
theorem sc_petals : FnScope N_petals P_petals (defScope s_petals) := ⟨rfl, rfl, rfl, by decide +kernel, rfl, by decide +kernel, by decide +kernel⟩
abbrev s__law_right : Stmt := topS 28
abbrev N__law_right : List Str := ["_law_well_here", "_law_letters", "_law_walks", "_law_due", "_law_given", "_law_first", "_law_bare", "_law_more", "_law_walk_here"]
abbrev P__law_right : List Str := ["_law_well_here"]
theorem sc__law_right : FnScope N__law_right P__law_right (defScope s__law_right) := ⟨rfl, rfl, rfl, by decide +kernel, rfl, by decide +kernel, by decide +kernel⟩
abbrev s_law : Stmt := topS 29
abbrev N_law : List Str := ["_law_script", "_law_k"]
abbrev P_law : List Str := ["_law_script"]
theorem sc_law : FnScope N_law P_law (defScope s_law) := ⟨rfl, rfl, rfl, by decide +kernel, rfl, by decide +kernel, by decide +kernel⟩
/-- where the defs stand -/
structure Ad where
  a_is_integer : Addr
  f_is_integer : FuncData
  a_straightened : Addr
  f_straightened : FuncData
  a_ways_along : Addr
  f_ways_along : FuncData
  a__law_well : Addr
  f__law_well : FuncData
  a__law_take : Addr
  f__law_take : FuncData
  a__law_straight : Addr
  f__law_straight : FuncData
  a__law_steps : Addr
  f__law_steps : FuncData
  a_is_letters : Addr
  f_is_letters : FuncData
  a_is_step_of : Addr
  f_is_step_of : FuncData
  a_petals_of : Addr
  f_petals_of : FuncData
  a__law_walk : Addr
  f__law_walk : FuncData
  a__law_petals : Addr
  f__law_petals : FuncData
  a_is_walk_of : Addr
  f_is_walk_of : FuncData
  a_check_letters : Addr
  f_check_letters : FuncData
  a__law_list : Addr
  f__law_list : FuncData
  a_check_walk : Addr
  f_check_walk : FuncData
  a_check_walks : Addr
  f_check_walks : FuncData
  a_petals : Addr
  f_petals : FuncData
  a__law_right : Addr
  f__law_right : FuncData
  a_law : Addr
  f_law : FuncData
structure Tx (K : PySem.W.Frag) (mg : Str → Option Value) (A : Ad) : Prop where
  g_is_integer : mg "is_integer" = some (.ref A.a_is_integer)
  F_is_integer : Fun K "is_integer" "is_integer" s_is_integer A.a_is_integer A.f_is_integer
  b_is_integer : Binds K A.f_is_integer P_is_integer []
  g_straightened : mg "straightened" = some (.ref A.a_straightened)
  F_straightened : Fun K "straightened" "straightened" s_straightened A.a_straightened A.f_straightened
  b_straightened : Binds K A.f_straightened P_straightened []
  g_ways_along : mg "ways_along" = some (.ref A.a_ways_along)
  F_ways_along : Fun K "ways_along" "ways_along" s_ways_along A.a_ways_along A.f_ways_along
  b_ways_along : Binds K A.f_ways_along P_ways_along []
  g__law_well : mg "_law_well" = some (.ref A.a__law_well)
  F__law_well : Fun K "_law_well" "_law_well" s__law_well A.a__law_well A.f__law_well
  b__law_well : Binds K A.f__law_well P__law_well []
  g__law_take : mg "_law_take" = some (.ref A.a__law_take)
  F__law_take : Fun K "_law_take" "_law_take" s__law_take A.a__law_take A.f__law_take
  b__law_take : Binds K A.f__law_take P__law_take []
  g__law_straight : mg "_law_straight" = some (.ref A.a__law_straight)
  F__law_straight : Fun K "_law_straight" "_law_straight" s__law_straight A.a__law_straight A.f__law_straight
  b__law_straight : Binds K A.f__law_straight P__law_straight []
  g__law_steps : mg "_law_steps" = some (.ref A.a__law_steps)
  F__law_steps : Fun K "_law_steps" "_law_steps" s__law_steps A.a__law_steps A.f__law_steps
  b__law_steps : Binds K A.f__law_steps P__law_steps []
  g_is_letters : mg "is_letters" = some (.ref A.a_is_letters)
  F_is_letters : Fun K "is_letters" "is_letters" s_is_letters A.a_is_letters A.f_is_letters
  b_is_letters : Binds K A.f_is_letters P_is_letters []
  g_is_step_of : mg "is_step_of" = some (.ref A.a_is_step_of)
  F_is_step_of : Fun K "is_step_of" "is_step_of" s_is_step_of A.a_is_step_of A.f_is_step_of
  b_is_step_of : Binds K A.f_is_step_of P_is_step_of []
  g_petals_of : mg "petals_of" = some (.ref A.a_petals_of)
  F_petals_of : Fun K "petals_of" "petals_of" s_petals_of A.a_petals_of A.f_petals_of
  b_petals_of : Binds K A.f_petals_of P_petals_of []
  g__law_walk : mg "_law_walk" = some (.ref A.a__law_walk)
  F__law_walk : Fun K "_law_walk" "_law_walk" s__law_walk A.a__law_walk A.f__law_walk
  b__law_walk : Binds K A.f__law_walk P__law_walk []
  g__law_petals : mg "_law_petals" = some (.ref A.a__law_petals)
  F__law_petals : Fun K "_law_petals" "_law_petals" s__law_petals A.a__law_petals A.f__law_petals
  b__law_petals : Binds K A.f__law_petals P__law_petals []
  g_is_walk_of : mg "is_walk_of" = some (.ref A.a_is_walk_of)
  F_is_walk_of : Fun K "is_walk_of" "is_walk_of" s_is_walk_of A.a_is_walk_of A.f_is_walk_of
  b_is_walk_of : Binds K A.f_is_walk_of P_is_walk_of []
  g_check_letters : mg "check_letters" = some (.ref A.a_check_letters)
  F_check_letters : Fun K "check_letters" "check_letters" s_check_letters A.a_check_letters A.f_check_letters
  b_check_letters : Binds K A.f_check_letters P_check_letters []
  g__law_list : mg "_law_list" = some (.ref A.a__law_list)
  F__law_list : Fun K "_law_list" "_law_list" s__law_list A.a__law_list A.f__law_list
  b__law_list : Binds K A.f__law_list P__law_list []
  g_check_walk : mg "check_walk" = some (.ref A.a_check_walk)
  F_check_walk : Fun K "check_walk" "check_walk" s_check_walk A.a_check_walk A.f_check_walk
  b_check_walk : Binds K A.f_check_walk P_check_walk []
  g_check_walks : mg "check_walks" = some (.ref A.a_check_walks)
  F_check_walks : Fun K "check_walks" "check_walks" s_check_walks A.a_check_walks A.f_check_walks
  b_check_walks : Binds K A.f_check_walks P_check_walks []
  g_petals : mg "petals" = some (.ref A.a_petals)
  F_petals : Fun K "petals" "petals" s_petals A.a_petals A.f_petals
  b_petals : Binds K A.f_petals P_petals []
  g__law_right : mg "_law_right" = some (.ref A.a__law_right)
  F__law_right : Fun K "_law_right" "_law_right" s__law_right A.a__law_right A.f__law_right
  b__law_right : Binds K A.f__law_right P__law_right []
  g_law : mg "law" = some (.ref A.a_law)
  F_law : Fun K "law" "law" s_law A.a_law A.f_law
  b_law : Binds K A.f_law P_law []
  n_all : mg "all" = none
  n_bool : mg "bool" = none
  n_enumerate : mg "enumerate" = none
  n_int : mg "int" = none
  n_isinstance : mg "isinstance" = none
  n_len : mg "len" = none
  n_list : mg "list" = none
  n_max : mg "max" = none
  n_min : mg "min" = none
  n_range : mg "range" = none
  n_repr : mg "repr" = none
  n_tuple : mg "tuple" = none
  n_zip : mg "zip" = none
  c_MOST_LETTERS : ∃ t, mg "MOST_LETTERS" = some (.int 4 t)
theorem kb_petals_walks_letters {K : PySem.W.Frag} {f : Addr} {fd : FuncData} (F : Fun K "petals" "petals" s_petals f fd) : KBinds K fd P_petals ["walks", "letters"] (fun us ws => match us, ws with | [], [w0, w1] => [w1, w0] | _, _ => []) (fun us ws => match us, ws with | [], [w0, w1] => [w1, w0] | _, _ => []) := by
  obtain ⟨oc, od, kV, doc, pm, an, cdv, ct, osl, rfl, lk, hcd⟩ := F.ex
  refine ⟨fun s us ws _ hl => ?_, fun {vs us zs ws} r1 r2 => ?_⟩
  · match us, ws, hl with | [], [w0, w1], _ => exact .of_eq rfl
  · cases r1 with
    | nil =>
      cases r2 with
      | nil => exact .nil
      | cons h0 t0 =>
        cases t0 with
        | nil => exact .nil
        | cons h1 t1 =>
          cases t1 with
          | nil => exact (.cons h1 (.cons h0 .nil))
          | cons _ _ => exact .nil
    | cons _ _ =>
      cases r2 <;> exact .nil

local macro_rules | `(tactic| walk_at "go") => `(tactic| repeat (first
  | with_reducible refine st_seq ?_ | with_reducible refine st_set ?_ | with_reducible refine st_asg ?_ | with_reducible refine st_ret ?_ | with_reducible refine st_drop ?_ | with_reducible refine st_if ?_
  | with_reducible refine st_c ?_ | ((with_reducible refine' st_v ?h ?_); (case h => exact rfl)) | with_reducible refine st_n ?_ | with_reducible refine st_cons ?_ | with_reducible refine st_op ?_ | with_reducible refine st_un ?_
  | with_reducible refine st_cb ?_ | with_reducible refine st_test ?_ | with_reducible refine st_call ?_ | with_reducible refine st_callK ?_ | with_reducible refine st_sl ?_ | with_reducible refine st_par ?_ | with_reducible refine st_par3 ?_ | with_reducible refine st_tru ?_
  | with_reducible refine st_and ?_ | with_reducible refine st_or ?_ | with_reducible refine st_not ?_ | with_reducible refine st_B ?_ | with_reducible refine st_andV ?_ | with_reducible refine st_orV ?_ | with_reducible refine st_notV ?_ | with_reducible refine st_ifE ?_
  | with_reducible refine st_part ?_ | with_reducible refine st_nop ?_ | with_reducible refine st_sub ?_ | with_reducible refine st_chain ?_ | with_reducible refine st_bl ?_ | with_reducible refine st_in ?_ | with_reducible refine r_truB ?_
  | with_reducible refine st_nameG ?_ | with_reducible refine if_T ?_ | with_reducible refine if_F ?_ | with_reducible refine if_nT ?_ | with_reducible refine if_nF ?_
  | with_reducible refine r_add ?_ | with_reducible refine r_0 ?_ | with_reducible refine r_neg ?_ | with_reducible refine r_intI ?_ | with_reducible refine r_intB ?_ | with_reducible refine r_abs ?_ | with_reducible refine r_max2 ?_ | with_reducible refine r_min2 ?_ | with_reducible refine r_eqI ?_ | with_reducible refine r_neI ?_
  | with_reducible refine st_nxt ?_ | with_reducible refine st_cnt ?_ | with_reducible refine st_brk ?_ | with_reducible refine st_retn ?_
  | with_reducible refine st_lstN ?_ | with_reducible refine st_tupN ?_
  | with_reducible refine st_for ?_ | with_reducible refine st_lc ?_ | with_reducible refine st_lc2 ?_ | with_reducible refine st_rng1 ?_ | with_reducible refine st_rng2 ?_ | with_reducible refine st_rng3 ?_ | with_reducible refine st_itL ?_ | with_reducible refine st_itT ?_ | with_reducible refine st_rev ?_ | with_reducible refine st_enumE ?_ | with_reducible refine st_zip3 ?_ | with_reducible refine st_lvals ?_ | with_reducible refine st_fld ?_ | with_reducible refine st_sfld ?_ | with_reducible refine st_meth ?_ | with_reducible refine st_make ?_ | with_reducible refine st_rg1 ?_ | with_reducible refine st_enumS ?_ | with_reducible refine st_dg1 ?_ | with_reducible refine st_dg2 ?_ | with_reducible refine st_dpop ?_ | with_reducible refine st_dset ?_ | with_reducible refine st_dc ?_ | with_reducible refine st_keys ?_ | with_reducible refine st_dget ?_ | with_reducible refine st_din ?_ | with_reducible refine st_dnin ?_ | with_reducible refine st_dput ?_ | with_reducible refine st_dnew ?_ | with_reducible refine st_lstRg ?_ | with_reducible refine st_rg2 ?_ | with_reducible refine r_twoI ?_ | with_reducible refine st_bm ?_ | with_reducible refine st_bm0 ?_
  | ((with_reducible refine' st_aug ?h ?_); (case h => exact rfl)) | with_reducible refine r_augI ?_ | with_reducible refine r_eqB ?_
  | dsimp only))
section
variable {P : Program} {w : World} {K : PySem.W.Frag} {mg : Str → Option Value} {base : Heap} {A : Ad}

def sp_is_integer (K : PySem.W.Frag) : Sp := fun vs H Q _ => ∃ i, vs = [.int i] ∧ Q (.bl true) H
theorem ok_is_integer (T : Tx K mg A) : FnOk P w K mg base CX0 1 A.a_is_integer A.f_is_integer P_is_integer (sp_is_integer K) := by
  refine T.F_is_integer.ok sc_is_integer (fun vs H Q E h => ?_) (fun cdv A' outer s H vs Q E hr h => ?_)
  · obtain ⟨i, rfl, _⟩ := h
    rfl
  · obtain ⟨i, rfl, q⟩ := h
    refine ⟨_, (pss_one (ps_ret (pe_and (pe_callB (isi_K K) (by rfl) T.n_isinstance (by decide +kernel) (pa_cons (pv 0) (pa_cons (pe_bltn (v := .ty "int") (by rfl) T.n_int (by decide +kernel) rfl) pa_nil))) (pe_one (pe_not (pe_callB (isi_K K) (by rfl) T.n_isinstance (by decide +kernel) (pa_cons (pv 0) (pa_cons (pe_bltn (v := .ty "bool") (by rfl) T.n_bool (by decide +kernel) rfl) pa_nil)))))))), ?_⟩
    refine ⟨_, rfl, .int i, .ty "int", _, _, true, rfl, .ty _, .base (.int i), kit_ty (by decide +kernel), true, rfl, iteT ?_⟩
    exact ⟨_, rfl, .int i, .ty "bool", _, _, false, rfl, .ty _, .base (.int i), kit_ty (by decide +kernel), false, rfl, q⟩
def sp_is_step_of (K : PySem.W.Frag) : Sp := fun vs H Q _ => ∃ l i, vs = [.int l, .int i] ∧ Q (.bl (decide (i ≠ 0 ∧ -l ≤ i ∧ i ≤ l))) H
theorem ok_is_step_of (T : Tx K mg A) : FnOk P w K mg base CX0 2 A.a_is_step_of A.f_is_step_of P_is_step_of (sp_is_step_of K) := by
  refine T.F_is_step_of.ok sc_is_step_of (fun vs H Q E h => ?_) (fun cdv A' outer s H vs Q E hr h => ?_)
  · obtain ⟨l, i, rfl, _⟩ := h
    rfl
  · obtain ⟨l, i, rfl, q⟩ := h
    refine ⟨_, (pss_one (ps_ret (pe_and (pe_call (ok_is_integer T) (hr.mono (by decide)) (by rfl) T.g_is_integer T.F_is_integer.kp T.b_is_integer .nil pass0 (pa_cons (pv 1) pa_nil)) (pe_and (pe_cmpR (op_neK K hr.units) (pv 1) pe_int (nomark _)) (pe_one (pe_chain op_le op_le (pe_un un_neg (pv 0)) (pv 1) (pv 0))))))), ?_⟩
    refine ⟨_, rfl, i, rfl, true, rfl, iteT ⟨_, rfl, r_neI ⟨_, rfl, ?_⟩⟩⟩
    by_cases h0 : i = 0
    · rw [show (!decide (i = 0)) = false by rw [h0]; rfl]
      refine iteF ?_
      rw [decide_eq_false (by omega)] at q
      exact q
    · rw [show (!decide (i = 0)) = true by rw [decide_eq_false h0]; rfl]
      refine iteT ⟨_, rfl, _, rfl, _, rfl, _, _, rfl, rfl, _, rfl, ?_⟩
      by_cases h1 : -l ≤ i
      · rw [decide_eq_true h1]
        refine iteT ⟨_, rfl, _, _, rfl, rfl, ?_⟩
        have e : decide (i ≤ l) = decide (i ≠ 0 ∧ -l ≤ i ∧ i ≤ l) := decide_eq_decide.mpr ⟨fun z => ⟨h0, h1, z⟩, fun z => z.2.2⟩
        show Q (.bl (decide (i ≤ l))) H
        rw [e]
        exact q
      · rw [decide_eq_false h1]
        refine iteF ?_
        rw [decide_eq_false (by omega)] at q
        exact q
def sp_is_walk_of (K : PySem.W.Frag) : Sp := fun vs H Q _ => ∃ l a ns, vs = [.int l, .ref a] ∧ IT K H a ns ∧ ns.length ≤ 5000 ∧ Stp l ns ∧ ∀ H1, Ex H H1 → Q (.bl true) H1
theorem ok_is_walk_of (T : Tx K mg A) : FnOk P w K mg base CX0 3 A.a_is_walk_of A.f_is_walk_of P_is_walk_of (sp_is_walk_of K) := by
  refine T.F_is_walk_of.ok sc_is_walk_of (fun vs H Q E h => ?_) (fun cdv A' outer s H vs Q E hr h => ?_)
  · obtain ⟨l, a, ns, rfl, _⟩ := h
    rfl
  · obtain ⟨l, a, ns, rfl, ht, hz, hs, q⟩ := h
    refine ⟨_, (pss_one (ps_ret (pe_and (pe_callB (isi_K K) (by rfl) T.n_isinstance (by decide +kernel) (pa_cons (pv 1) (pa_cons (pe_bltn (v := .ty "tuple") (by rfl) T.n_tuple (by decide +kernel) rfl) pa_nil))) (pe_one (pe_callB (all_K K rfl) (by rfl) T.n_all (by decide +kernel) (pa_cons (pe_lc (own := [("step", 2)]) rfl sc_is_walk_of.nd (pi_tupK K (pv 1)) (blkOk_by (own := [("step", 2)]) (N := N_is_walk_of) (sc := defScope s_is_walk_of) (by decide +kernel)) (fun _ _ _ _ _ => (pg_name (i := 2) sc_is_walk_of.nd rfl (Or.inl rfl))) (fun _ _ _ _ _ => pts_nil) (fun _ _ _ _ _ => (pe_call (ok_is_step_of T) (hr.mono (by decide)) (by rfl) T.g_is_step_of T.F_is_step_of.kp T.b_is_step_of .nil pass0 (pa_cons (pv 0) (pa_cons (pv 2) pa_nil))))) pa_nil)))))), ?_⟩
    refine ⟨_, rfl, .ref a, .ty "tuple", _, _, true, rfl, .ty _, ty_t ht, kit_ty (by decide +kernel), true, rfl, iteT ?_⟩
    refine st_cb (st_cons (cm_tup (ys := (ns.map fun _ => true).map V.bl) (xs := ns.map V.int) (fun R r => ⟨_, rfl, r a H (Ex.refl H) ht⟩) (by simp) (by simp; omega) (fun _ => rfl) (fun i x y H1 hx hy e1 Q' k => ?_) (fun D H1 hD e1 h1 => ?_)))
    · rw [List.getElem?_map] at hx
      rw [List.getElem?_map, List.getElem?_map] at hy
      cases hn : ns[i]? with
      | none => rw [hn] at hx; cases hx
      | some z =>
        rw [hn] at hx hy
        cases hx
        cases hy
        refine ⟨_, rfl, _, rfl, l, z, rfl, ?_⟩
        rw [decide_eq_true (hs z (List.mem_of_getElem? hn))]
        exact k H1 (Ex.refl H1)
    · refine ⟨D, _, rfl, l_of h1, ?_⟩
      have e : ((ns.map fun _ => true).all id) = true := by simp
      show Q (.bl ((ns.map fun _ => true).all id)) H1
      rw [e]
      exact q H1 e1
def sp_is_letters (K : PySem.W.Frag) : Sp := fun vs H Q _ => ∃ l, vs = [.int l] ∧ 1 ≤ l ∧ l ≤ 4 ∧ Q (.bl true) H
theorem ok_is_letters (T : Tx K mg A) : FnOk P w K mg base CX0 2 A.a_is_letters A.f_is_letters P_is_letters (sp_is_letters K) := by
  refine T.F_is_letters.ok sc_is_letters (fun vs H Q E h => ?_) (fun cdv A' outer s H vs Q E hr h => ?_)
  · obtain ⟨l, rfl, _⟩ := h
    rfl
  · obtain ⟨l, rfl, h1, h4, q⟩ := h
    refine ⟨_, (pss_one (ps_ret (pe_and (pe_call (ok_is_integer T) (hr.mono (by decide)) (by rfl) T.g_is_integer T.F_is_integer.kp T.b_is_integer .nil pass0 (pa_cons (pv 0) pa_nil)) (pe_one (pe_chain op_le op_le pe_int (pv 0) (pe_glob (v := .int 4) (by rfl) T.c_MOST_LETTERS.choose_spec ⟨_, rfl⟩)))))), ?_⟩
    walk_at "go"
    refine ⟨l, rfl, true, rfl, ?_⟩
    walk_at "go"
    refine if_t h1 ?_
    walk_at "go"
    rw [decide_eq_true h4]
    exact q
def sp_check_letters (K : PySem.W.Frag) : Sp := fun vs H Q _ => ∃ l, vs = [.int l] ∧ 1 ≤ l ∧ l ≤ 4 ∧ Q .non H
theorem ok_check_letters (T : Tx K mg A) : FnOk P w K mg base CX0 3 A.a_check_letters A.f_check_letters P_check_letters (sp_check_letters K) := by
  refine T.F_check_letters.ok sc_check_letters (fun vs H Q E h => ?_) (fun cdv A' outer s H vs Q E hr h => ?_)
  · obtain ⟨l, rfl, _⟩ := h
    rfl
  · obtain ⟨l, rfl, h1, h4, q⟩ := h
    refine ⟨_, (pss_one (ps_if (pt_not (pt_truK K (pe_call (ok_is_letters T) (hr.mono (by decide)) (by rfl) T.g_is_letters T.F_is_letters.kp T.b_is_letters .nil pass0 (pa_cons (pv 0) pa_nil)))) (pss_one ps_never) pss_nil)), ?_⟩
    walk_at "go"
    refine ⟨l, rfl, h1, h4, r_truB (if_nT ?_)⟩
    exact q
def sp_check_walk (K : PySem.W.Frag) : Sp := fun vs H Q _ => ∃ l a ns, vs = [.int l, .ref a] ∧ IT K H a ns ∧ ns.length ≤ 5000 ∧ Stp l ns ∧ ∀ H1, Ex H H1 → Q .non H1
theorem ok_check_walk (T : Tx K mg A) : FnOk P w K mg base CX0 4 A.a_check_walk A.f_check_walk P_check_walk (sp_check_walk K) := by
  refine T.F_check_walk.ok sc_check_walk (fun vs H Q E h => ?_) (fun cdv A' outer s H vs Q E hr h => ?_)
  · obtain ⟨l, a, ns, rfl, _⟩ := h
    rfl
  · obtain ⟨l, a, ns, rfl, ht, hz, hs, q⟩ := h
    refine ⟨_, (pss_one (ps_if (pt_not (pt_truK K (pe_call (ok_is_walk_of T) (hr.mono (by decide)) (by rfl) T.g_is_walk_of T.F_is_walk_of.kp T.b_is_walk_of .nil pass0 (pa_cons (pv 0) (pa_cons (pv 1) pa_nil))))) (pss_one ps_never) pss_nil)), ?_⟩
    refine ⟨_, rfl, _, rfl, l, a, ns, rfl, ht, hz, hs, fun H1 e1 => ⟨true, rfl, ?_⟩⟩
    exact iteF (q H1 e1)
def sp_check_walks (K : PySem.W.Frag) : Sp := fun vs H Q _ => ∃ l a xs ws, vs = [.int l, .ref a] ∧ SqL K H a xs ∧ WkA K H xs ws ∧ (∀ u ∈ ws, u.length ≤ 5000 ∧ Stp l u) ∧ ∀ H1, Ex H H1 → Q .non H1
theorem ok_check_walks (T : Tx K mg A) : FnOk P w K mg base CX0 5 A.a_check_walks A.f_check_walks P_check_walks (sp_check_walks K) := by
  refine T.F_check_walks.ok sc_check_walks (fun vs H Q E h => ?_) (fun cdv A' outer s H vs Q E hr h => ?_)
  · obtain ⟨l, a, xs, ws, rfl, _⟩ := h
    rfl
  · obtain ⟨l, a, xs, ws, rfl, ha, hw, hs, q⟩ := h
    refine ⟨_, (pss_one (ps_for PassesOwn.never rfl (pi_listK K (pv 1)) (pg_name (i := 2) sc_check_walks.nd rfl (Or.inl rfl)) (pss_one (ps_expr (pe_call (ok_check_walk T) (hr.mono (by decide)) (by rfl) T.g_check_walk T.F_check_walk.kp T.b_check_walk .nil pass0 (pa_cons (pv 0) (pa_cons (pv 2) pa_nil))))))), ?_⟩
    walk_at "go"
    refine r_itL ha (r_forL (xs := xs) (fun i σ' H' => ∃ v, Ex H H' ∧ σ' = [some (.int l), some (.ref a), v]) ⟨none, Ex.refl H, rfl⟩ (fun i σ' H' _ p => ?_) (fun i x σ' H' hx p => ?_) (fun σ' H' p => ?_))
    · obtain ⟨v, e, _⟩ := p
      exact ex_l e ha
    · obtain ⟨v, e, rfl⟩ := p
      obtain ⟨u, hu, c, rfl, hc⟩ := hw.get hx
      obtain ⟨z1, z2⟩ := hs u (List.mem_of_getElem? hu)
      walk_at "go"
      refine ⟨l, c, u, rfl, ex_t e hc, z1, z2, fun H1 e1 => ?_⟩
      walk_at "go"
      exact ⟨_, e.trans e1, rfl⟩
    · obtain ⟨v, e, rfl⟩ := p
      exact q H' e
def sp_straightened (K : PySem.W.Frag) : Sp := fun vs H Q _ => ∃ a ns, vs = [.ref a] ∧ IT K H a ns ∧ ns.length ≤ 5000 ∧ ∀ p H1, Ex H H1 → IT K H1 p (Fg.rd ns) → Q (.ref p) H1
theorem ok_straightened (T : Tx K mg A) : FnOk P w K mg base CX0 1 A.a_straightened A.f_straightened P_straightened (sp_straightened K) := by
  refine T.F_straightened.ok sc_straightened (fun vs H Q E h => ?_) (fun cdv A' outer s H vs Q E hr h => ?_)
  · obtain ⟨a, ns, rfl, _⟩ := h
    rfl
  · obtain ⟨a, ns, rfl, ht, hz, q⟩ := h
    refine ⟨_, (pss_cons (ps_set (i := 1) sc_straightened.nd rfl (Or.inl rfl) (pe_lst pa_nil))
      (pss_cons (ps_for PassesOwn.never rfl (pi_tupK K (pv 0)) (pg_name (i := 2) sc_straightened.nd rfl (Or.inl rfl)) (pss_one (ps_if (PW.pt (pw_and (pt_truK K (pv 1)) (pw_and1 (pt_cmpR (op_eqK K hr.units) (pe_ix (ix_K K) (pv 1) (pe_un un_neg pe_int) (fun _ _ => rfl)) (pe_un un_neg (pv 2)) (nomark _))))) (pss_one (ps_expr (pe_bm0U K PySem.F.plainAttrs_list PySem.F.slot_list_pop PySem.F.type_list_pop mt_pop (pv 1)))) (pss_one (ps_expr (pe_bmU K PySem.F.plainAttrs_list PySem.F.slot_list_append PySem.F.type_list_append mt_append (pv 1) (pa_cons (pv 2) pa_nil)))))))
      (pss_one (ps_ret (pe_callTy (tuple_K K) (by rfl) T.n_tuple (by decide +kernel) (pa_cons (pv 1) pa_nil)))))), ?_⟩
    refine st_seq (st_set (st_nil fun l H1 hl e1 h1 => ?_))
    refine ⟨_, rfl, a, rfl, ⟨_, ex_t e1 ht⟩, for_tup (K := K) (a := a) (xs := ns.map V.int) (fun i σ H' => ∃ v, σ = [some (.ref a), some (.ref l), v] ∧ Ex H H' ∧ H' l = some (.lst ((Fg.rd (ns.take i)).map V.int)))
      ⟨none, rfl, e1, h1⟩ (fun i σ H' _ p => ex_t p.choose_spec.2.1 ht) (fun i x σ H' hx p => ?_) (fun σ H' p => ?_)⟩
    · obtain ⟨v, rfl, e2, h2⟩ := p
      rw [List.getElem?_map] at hx
      cases hn : ns[i]? with
      | none => rw [hn] at hx; cases hx
      | some z =>
        rw [hn] at hx
        cases hx
        have hi := (List.getElem?_eq_some_iff.mp hn).1
        have step : Fg.rd (ns.take (i + 1)) = (Fg.stp (Fg.rd (ns.take i)).reverse z).reverse := by rw [take_snoc hn, Fg.rd_snoc]
        have hlen : (Fg.rd (ns.take i)).length ≤ 5000 := Nat.le_trans (Fg.rd_len _) (by rw [List.length_take]; omega)
        generalize hq : Fg.rd (ns.take i) = q at h2 step hlen
        refine ⟨_, rfl, _, .inl ⟨_, l_of h2, rfl⟩, ?_⟩
        rcases List.eq_nil_or_concat q with e | ⟨r, y, e⟩
        · subst e
          refine iteF (iteF ?_)
          rw [show Fg.rd (ns.take (i + 1)) = [z] from step]
          exact ⟨_, rfl, .inl ⟨rfl, _, l_of h2⟩, _, rfl, l, _, _, rfl, rfl, h2, sz_lt (by simp), _, rfl, Ex.mut e2 hl, upd_same⟩
        · rw [List.concat_eq_append] at e
          subst e
          have e3 : (!((r ++ [y]).map V.int).isEmpty) = true := by simp
          rw [e3]
          refine iteT ⟨_, rfl, 1, rfl, .inl ⟨l, _, -1, .int y, rfl, rfl, l_of h2, at_last (by simp), _, rfl, z, rfl, r_eqI ⟨_, rfl, ?_⟩⟩⟩
          by_cases hy : y = -z
          · rw [decide_eq_true hy]
            have e4 : Fg.rd (ns.take (i + 1)) = r := by
              rw [step, List.reverse_append]
              show (if y = -z then r.reverse else z :: y :: r.reverse).reverse = r
              rw [if_pos hy, List.reverse_reverse]
            refine iteT ⟨_, rfl, .inl ⟨rfl, _, l_of h2⟩, l, _, .int y, rfl, rfl, h2, ?_, _, rfl, Ex.mut e2 hl, ?_⟩
            · rw [List.length_map, List.length_append, List.map_append]
              simp
            · rw [upd_same, e4, List.map_append]
              simp
          · rw [decide_eq_false hy]
            have e4 : Fg.rd (ns.take (i + 1)) = (r ++ [y]) ++ [z] := by
              rw [step, List.reverse_append]
              show (if y = -z then r.reverse else z :: y :: r.reverse).reverse = r ++ [y] ++ [z]
              rw [if_neg hy, List.reverse_cons, List.reverse_cons, List.reverse_reverse]
            refine iteF ⟨_, rfl, .inl ⟨rfl, _, l_of h2⟩, _, rfl, l, _, _, rfl, rfl, h2, sz_lt (by rw [List.length_map]; omega), _, rfl, Ex.mut e2 hl, ?_⟩
            rw [upd_same, e4, List.map_append (l₁ := r ++ [y])]
            rfl
    · obtain ⟨v, rfl, e2, h2⟩ := p
      rw [List.length_map, List.take_length] at h2
      exact ⟨_, rfl, r_tuL (l_of h2) fun p H3 _ e3 h3 => q p H3 (e2.trans e3) h3⟩
end
end Lw
namespace Lw
open PySem PySem.Spec PyProof.Rows L2 Evl

local macro_rules | `(tactic| walk_at "go") => `(tactic| repeat (first
  | with_reducible refine st_seq ?_ | with_reducible refine st_set ?_ | with_reducible refine st_asg ?_ | with_reducible refine st_ret ?_ | with_reducible refine st_drop ?_ | with_reducible refine st_if ?_
  | with_reducible refine st_c ?_ | ((with_reducible refine' st_v ?h ?_); (case h => exact rfl)) | with_reducible refine st_n ?_ | with_reducible refine st_cons ?_ | with_reducible refine st_op ?_ | with_reducible refine st_un ?_
  | with_reducible refine st_cb ?_ | with_reducible refine st_test ?_ | with_reducible refine st_call ?_ | with_reducible refine st_callK ?_ | with_reducible refine st_sl ?_ | with_reducible refine st_par ?_ | with_reducible refine st_par3 ?_ | with_reducible refine st_tru ?_
  | with_reducible refine st_and ?_ | with_reducible refine st_or ?_ | with_reducible refine st_not ?_ | with_reducible refine st_B ?_ | with_reducible refine st_andV ?_ | with_reducible refine st_orV ?_ | with_reducible refine st_notV ?_ | with_reducible refine st_ifE ?_
  | with_reducible refine st_part ?_ | with_reducible refine st_nop ?_ | with_reducible refine st_sub ?_ | with_reducible refine st_chain ?_ | with_reducible refine st_bl ?_ | with_reducible refine st_in ?_ | with_reducible refine r_truB ?_
  | with_reducible refine st_nameG ?_ | with_reducible refine if_T ?_ | with_reducible refine if_F ?_ | with_reducible refine if_nT ?_ | with_reducible refine if_nF ?_
  | with_reducible refine r_add ?_ | with_reducible refine r_0 ?_ | with_reducible refine r_neg ?_ | with_reducible refine r_intI ?_ | with_reducible refine r_intB ?_ | with_reducible refine r_abs ?_ | with_reducible refine r_max2 ?_ | with_reducible refine r_min2 ?_ | with_reducible refine r_eqI ?_ | with_reducible refine r_neI ?_
  | with_reducible refine st_nxt ?_ | with_reducible refine st_cnt ?_ | with_reducible refine st_brk ?_ | with_reducible refine st_retn ?_
  | with_reducible refine st_lstN ?_ | with_reducible refine st_tupN ?_
  | with_reducible refine st_for ?_ | with_reducible refine st_lc ?_ | with_reducible refine st_lc2 ?_ | with_reducible refine st_rng1 ?_ | with_reducible refine st_rng2 ?_ | with_reducible refine st_rng3 ?_ | with_reducible refine st_itL ?_ | with_reducible refine st_itT ?_ | with_reducible refine st_rev ?_ | with_reducible refine st_enumE ?_ | with_reducible refine st_zip3 ?_ | with_reducible refine st_lvals ?_ | with_reducible refine st_fld ?_ | with_reducible refine st_sfld ?_ | with_reducible refine st_meth ?_ | with_reducible refine st_make ?_ | with_reducible refine st_rg1 ?_ | with_reducible refine st_enumS ?_ | with_reducible refine st_dg1 ?_ | with_reducible refine st_dg2 ?_ | with_reducible refine st_dpop ?_ | with_reducible refine st_dset ?_ | with_reducible refine st_dc ?_ | with_reducible refine st_keys ?_ | with_reducible refine st_dget ?_ | with_reducible refine st_din ?_ | with_reducible refine st_dnin ?_ | with_reducible refine st_dput ?_ | with_reducible refine st_dnew ?_ | with_reducible refine st_lstRg ?_ | with_reducible refine st_rg2 ?_ | with_reducible refine r_twoI ?_ | with_reducible refine st_bm ?_ | with_reducible refine st_bm0 ?_
  | ((with_reducible refine' st_aug ?h ?_); (case h => exact rfl)) | with_reducible refine r_augI ?_ | with_reducible refine r_eqB ?_
  | dsimp only))
section
variable {P : Program} {w : World} {K : PySem.W.Frag} {mg : Str → Option Value} {base : Heap} {A : Ad}

def sp__law_well (K : PySem.W.Frag) : Sp := fun vs H Q _ => ∃ a ns k, vs = [.ref a, .int k] ∧ IL K H a ns ∧ ns.length ≤ 63 ∧ 0 ≤ k ∧ k ≤ 100 ∧ ∀ p H1, H p = none → Ex H H1 → Well H1 p 0 → Q (.ref p) H1
theorem ok__law_well (T : Tx K mg A) : FnOk P w K mg base CX0 1 A.a__law_well A.f__law_well P__law_well (sp__law_well K) := by
  refine T.F__law_well.ok sc__law_well (fun vs H Q E h => ?_) (fun cdv A' outer s H vs Q E hr h => ?_)
  · obtain ⟨a, ns, k, rfl, _⟩ := h
    rfl
  · obtain ⟨a, ns, k, rfl, hS, hlen, hk0, hk, q⟩ := h
    refine ⟨_, (pss_cons (ps_set (i := 2) sc__law_well.nd rfl (Or.inl rfl) (pe_cutE (pe_ifExp (pt_cmpR op_lt (pv 1) (pe_callB (len_K K) (by rfl) T.n_len (by decide +kernel) (pa_cons (pv 0) pa_nil)) (nomark _)) (pe_ix (ix_K K) (pv 0) (pv 1) (fun _ _ => rfl)) (pe_op (op_addK K) (pe_op (op_mulK K) pe_int (pv 1)) pe_int))))
      (pss_cons (ps_set (i := 3) sc__law_well.nd rfl (Or.inl rfl) pe_int)
      (pss_cons (ps_for PassesOwn.never rfl (pi_enumE K skL (by rfl) T.n_enumerate (pa_cons (pv 0) pa_nil)) (pg_tupK K (by rfl) (pgs_cons (pg_name (i := 4) sc__law_well.nd rfl (Or.inl rfl)) (pgs_cons (pg_name (i := 5) sc__law_well.nd rfl (Or.inl rfl)) pgs_nil))) (pss_one (ps_set (i := 3) sc__law_well.nd rfl (Or.inl rfl) (pe_op op_mod (pe_callTy int_K (by rfl) T.n_int (by decide +kernel) (pa_cons (pe_op (op_addK K) (pe_op (op_mulK K) (pv 3) pe_int) (pe_op (op_mulK K) (pv 5) (pe_op (op_addK K) (pv 4) pe_int))) pa_nil)) (pe_op (op_addK K) (pe_op op_powW pe_int pe_int) pe_int)))))
      (pss_one (ps_ret (pe_lst (pa_cons (pe_callB (max2_K rfl) (by rfl) T.n_max (by decide +kernel) (pa_cons pe_int (pa_cons (pe_op op_sub (pv 2) (pe_op op_powW pe_int pe_int)) pa_nil))) (pa_cons (pe_op op_mod (pe_callTy int_K (by rfl) T.n_int (by decide +kernel) (pa_cons (pe_op (op_addK K) (pe_op (op_addK K) (pe_op (op_mulK K) (pv 2) pe_int) (pv 3)) (pe_op (op_mulK K) pe_int (pv 1))) pa_nil)) (pe_op (op_addK K) (pe_op op_powW pe_int pe_int) pe_int)) (pa_cons pe_int pa_nil))))))))), ?_⟩
    walk_at "go"
    refine st_cutE (fun x H' => H = H' ∧ ∃ cell : Int, x = .int cell) ?_ ?_
    · walk_at "go"
      refine r_lenL hS ?_
      walk_at "go"
      refine if_2 (fun h0 => ?_) fun h0 => ?_
      · rw [List.length_map] at h0
        walk_at "go"
        have hi : k.toNat < ns.length := by omega
        refine r_ixL hS (at_int hk0 (List.getElem?_eq_getElem hi)) ?_
        exact ⟨rfl, _, rfl⟩
      · walk_at "go"
        refine r_mul (.inl ⟨by decide, by decide⟩) ?_
        walk_at "go"
        exact ⟨rfl, _, rfl⟩
    rintro x _ ⟨rfl, cell, rfl⟩
    walk_at "go"
    refine r_enumE hS (r_forE (k := skL) (xs := ns.map V.int) (fun i σ' H' => ∃ v4 v5, ∃ t : Int, Ex H H' ∧ 0 ≤ t ∧ t < 10 ^ 41 ∧ σ' = [some (.ref a), some (.int k), some (.int cell), some (.int t), v4, v5]) ⟨none, none, 0, Ex.refl H, by decide, by decide, rfl⟩ (fun i σ' H' _ p => ?_) (fun i x σ' H' H1 hx p e1 => ?_) (fun σ' H' p => ?_))
    · obtain ⟨_, _, _, e, _⟩ := p
      exact ex_l e hS
    · obtain ⟨v4, v5, t, e, t0, t1, rfl⟩ := p
      rw [List.getElem?_map] at hx
      cases hn : ns[i]? with
      | none => rw [hn] at hx; cases hx
      | some z =>
        rw [hn] at hx
        cases hx
        have hi := (List.getElem?_eq_some_iff.mp hn).1
        walk_at "go"
        refine r_mul (.inr ⟨by decide, by decide⟩) ?_
        walk_at "go"
        refine r_mul (.inr ⟨by omega, by omega⟩) ?_
        walk_at "go"
        refine r_pow (k := 40) (a := 4) (by decide) (by decide) (by decide) ?_
        walk_at "go"
        refine r_mod (by decide) ?_
        generalize hy : (t * 31 + z * (0 + (i : Int) + 3)) % (10 ^ (((40 : Nat) : Int)).toNat + 121) = y
        have y0 : 0 ≤ y := by rw [← hy]; exact Int.emod_nonneg _ (by decide)
        have y1 : y < 10 ^ (((40 : Nat) : Int)).toNat + 121 := by rw [← hy]; exact Int.emod_lt_of_pos _ (by decide)
        walk_at "go"
        exact ⟨_, _, y, e.trans e1, y0, Int.lt_trans y1 (by decide), rfl⟩
    · obtain ⟨v4, v5, t, e, t0, t1, rfl⟩ := p
      walk_at "go"
      refine r_pow (k := 18) (a := 4) (by decide) (by decide) (by decide) ?_
      walk_at "go"
      refine r_mul (.inr ⟨by decide, by decide⟩) ?_
      walk_at "go"
      refine r_mul (.inl ⟨by decide, by decide⟩) ?_
      walk_at "go"
      refine r_pow (k := 41) (a := 4) (by decide) (by decide) (by decide) ?_
      walk_at "go"
      refine r_mod (by decide) ?_
      generalize hx : (cell * 8191 + t + 524287 * k) % (10 ^ (((41 : Nat) : Int)).toNat + 11) = x
      have x0 : 0 ≤ x := by rw [← hx]; exact Int.emod_nonneg _ (by decide)
      have x1 : x < 10 ^ (((41 : Nat) : Int)).toNat + 11 := by rw [← hx]; exact Int.emod_lt_of_pos _ (by decide)
      have x2 : x < 2 ^ 160 := Int.lt_trans x1 (by decide)
      walk_at "go"
      refine r_newL (by simp) fun p H2 hp e2 h2 => ?_
      exact q p H2 (fresh_back e hp) (e.trans e2) ⟨_, x, 0, h2, by omega, x0, by omega, by omega, by omega⟩
def sp__law_take (K : PySem.W.Frag) : Sp := spTake
theorem ok__law_take (T : Tx K mg A) : FnOk P w K mg base CX0 1 A.a__law_take A.f__law_take P__law_take (sp__law_take K) := by
  refine T.F__law_take.ok sc__law_take (fun vs H Q E h => ?_) (fun cdv A' outer s H vs Q E hr h => ?_)
  · obtain ⟨w, n, m, rfl, _⟩ := h
    rfl
  · obtain ⟨w, n, m, rfl, hm, hm2, ⟨a, b, c, hw, ha, hb, hb2, hc, hc2⟩, hn, q⟩ := h
    refine ⟨_, (pss_cons (ps_if (pt_cmpR op_gt (pe_ix (ix_K K) (pv 0) pe_int (fun _ _ => rfl)) pe_int (nomark _)) (pss_cons (ps_set (i := 2) sc__law_take.nd rfl (Or.inl rfl) (pe_op op_mod (pe_callTy int_K (by rfl) T.n_int (by decide +kernel) (pa_cons (pe_ix (ix_K K) (pv 0) pe_int (fun _ _ => rfl)) pa_nil)) (pv 1)))
      (pss_cons (ps_asg (pe_op op_fdivW (pe_ix (ix_K K) (pv 0) pe_int (fun _ _ => rfl)) (pv 1)) (pg_sub (pv 0) pe_int set_list))
      (pss_one (ps_ret (pv 2))))) pss_nil)
      (pss_cons (ps_asg (pe_op (op_addK K) (pe_ix (ix_K K) (pv 0) pe_int (fun _ _ => rfl)) pe_int) (pg_sub (pv 0) pe_int set_list))
      (pss_cons (ps_set (i := 3) sc__law_take.nd rfl (Or.inl rfl) (pe_op op_mod (pe_callTy int_K (by rfl) T.n_int (by decide +kernel) (pa_cons (pe_op op_powW (pe_op (op_addK K) (pe_ix (ix_K K) (pv 0) pe_int (fun _ _ => rfl)) (pe_op (op_mulK K) pe_int (pe_ix (ix_K K) (pv 0) pe_int (fun _ _ => rfl)))) pe_int) pa_nil)) (pe_op (op_addK K) (pe_op op_powW pe_int pe_int) pe_int)))
      (pss_cons (ps_set (i := 3) sc__law_take.nd rfl (Or.inl rfl) (pe_op op_mod (pe_callTy int_K (by rfl) T.n_int (by decide +kernel) (pa_cons (pe_op (op_addK K) (pe_op op_powW (pe_op (op_addK K) (pv 3) (pe_op (op_mulK K) pe_int (pe_ix (ix_K K) (pv 0) pe_int (fun _ _ => rfl)))) pe_int) (pv 3)) pa_nil)) (pe_op (op_addK K) (pe_op op_powW pe_int pe_int) pe_int)))
      (pss_one (ps_ret (pe_op op_mod (pe_op op_fdivW (pv 3) pe_int) (pv 1)))))))), ?_⟩
    have w0 : SqL K H w [.int a, .int b, .int c] := l_of hw
    walk_at "go"
    refine r_ixL w0 rfl ?_
    walk_at "go"
    refine if_2 (fun h0 => ?_) fun h0 => ?_
    · walk_at "go"
      refine r_ixL w0 rfl ?_
      walk_at "go"
      refine r_mod hm ?_
      walk_at "go"
      refine r_ixL w0 rfl ?_
      walk_at "go"
      refine r_div hm (by omega : m.natAbs < 2 ^ 60) (by decide) (by decide) ?_
      walk_at "go"
      refine r_setG hw rfl fun H1 e1 h1 => ?_
      walk_at "go"
      exact q (a % m) H1 (Int.emod_nonneg _ (by omega)) (Int.emod_lt_of_pos _ hm) e1 ⟨a / m, b, c, h1, Int.ediv_nonneg ha (by omega), hb, hb2, hc, by omega⟩
    · walk_at "go"
      refine r_ixL w0 rfl ?_
      walk_at "go"
      refine r_setG hw rfl fun H1 e1 hw1 => ?_
      have w1 : SqL K H1 w [.int a, .int b, .int (c + 1)] := l_of hw1
      have bd : (b + 86028121 * (c + 1)).natAbs < 2 ^ 161 := by omega
      walk_at "go"
      refine r_ixL w1 rfl ?_
      walk_at "go"
      refine r_ixL w1 rfl (r_mul (.inl ⟨by decide, by decide⟩) ?_)
      walk_at "go"
      refine r_pow (k := 3) (by decide) bd (by decide) ?_
      walk_at "go"
      refine r_pow (k := 43) (a := 4) (by decide) (by decide) (by decide) ?_
      walk_at "go"
      refine r_mod (by decide) ?_
      generalize hx : (b + 86028121 * (c + 1)) ^ (((3 : Nat) : Int)).toNat % (10 ^ (((43 : Nat) : Int)).toNat + 57) = x
      have x0 : 0 ≤ x := by rw [← hx]; exact Int.emod_nonneg _ (by decide)
      have x1 : x < 10 ^ (((43 : Nat) : Int)).toNat + 57 := by rw [← hx]; exact Int.emod_lt_of_pos _ (by decide)
      have x2 : x < 2 ^ 150 := Int.lt_trans x1 (by decide)
      walk_at "go"
      refine r_ixL w1 rfl (r_mul (.inl ⟨by decide, by decide⟩) ?_)
      walk_at "go"
      refine r_pow (k := 2) (a := 151) (by decide) (by omega) (by decide) ?_
      walk_at "go"
      refine r_pow (k := 42) (a := 4) (by decide) (by decide) (by decide) ?_
      walk_at "go"
      refine r_mod (by decide) ?_
      walk_at "go"
      refine r_div (b := 20) (by decide) (by decide) (by decide) (by decide) ?_
      walk_at "go"
      refine r_mod hm ?_
      exact q _ H1 (Int.emod_nonneg _ (by omega)) (Int.emod_lt_of_pos _ hm) e1 ⟨a, b, c + 1, hw1, ha, hb, hb2, by omega, by omega⟩
def sp__law_straight (K : PySem.W.Frag) : Sp := fun vs H Q _ => ∃ a ns, vs = [.ref a] ∧ IT K H a ns ∧ ns.length ≤ 5000 ∧ ∀ p H1, Ex H H1 → IT K H1 p (Fg.rd ns) → Q (.ref p) H1
theorem ok__law_straight (T : Tx K mg A) : FnOk P w K mg base CX0 1 A.a__law_straight A.f__law_straight P__law_straight (sp__law_straight K) := by
  refine T.F__law_straight.ok sc__law_straight (fun vs H Q E h => ?_) (fun cdv A' outer s H vs Q E hr h => ?_)
  · obtain ⟨a, ns, rfl, _⟩ := h
    rfl
  · obtain ⟨a, ns, rfl, ht, hz, q⟩ := h
    refine ⟨_, (pss_cons (ps_set (i := 1) sc__law_straight.nd rfl (Or.inl rfl) (pe_lst pa_nil))
      (pss_cons (ps_for PassesOwn.never rfl (pi_tupK K (pv 0)) (pg_name (i := 2) sc__law_straight.nd rfl (Or.inl rfl)) (pss_one (ps_if (PW.pt (pw_and (pt_cmpR (op_neK K hr.units) (pv 1) (pe_lst pa_nil) (nomark _)) (pw_and1 (pt_cmpR (op_eqK K hr.units) (pe_ix (ix_K K) (pv 1) (pe_un un_neg pe_int) (fun _ _ => rfl)) (pe_op op_sub pe_int (pv 2)) (nomark _))))) (pss_one (ps_expr (pe_bm0U K PySem.F.plainAttrs_list PySem.F.slot_list_pop PySem.F.type_list_pop mt_pop (pv 1)))) (pss_one (ps_expr (pe_bmU K PySem.F.plainAttrs_list PySem.F.slot_list_append PySem.F.type_list_append mt_append (pv 1) (pa_cons (pv 2) pa_nil)))))))
      (pss_one (ps_ret (pe_callTy (tuple_K K) (by rfl) T.n_tuple (by decide +kernel) (pa_cons (pv 1) pa_nil)))))), ?_⟩
    walk_at "go"
    refine r_newL (by simp) fun l H1 hl e1 h1 => ?_
    walk_at "go"
    refine r_itT (ex_t e1 ht) (r_forT (xs := ns.map V.int) (fun i σ' H' => ∃ v, σ' = [some (.ref a), some (.ref l), v] ∧ Ex H H' ∧ H' l = some (.lst ((Fg.rd (ns.take i)).map V.int))) ⟨none, rfl, e1, h1⟩ (fun i σ' H' _ p => ?_) (fun i x σ' H' hx p => ?_) (fun σ' H' p => ?_))
    · obtain ⟨v, _, e2, _⟩ := p
      exact ex_t e2 ht
    · obtain ⟨v, rfl, e2, h2⟩ := p
      rw [List.getElem?_map] at hx
      cases hn : ns[i]? with
      | none => rw [hn] at hx; cases hx
      | some z =>
        rw [hn] at hx
        cases hx
        have hi := (List.getElem?_eq_some_iff.mp hn).1
        have step : Fg.rd (ns.take (i + 1)) = (Fg.stp (Fg.rd (ns.take i)).reverse z).reverse := by rw [take_snoc hn, Fg.rd_snoc]
        have hlen : (Fg.rd (ns.take i)).length ≤ 5000 := Nat.le_trans (Fg.rd_len _) (by rw [List.length_take]; omega)
        generalize hq : Fg.rd (ns.take i) = q at h2 step hlen
        -- the step is put behind
        have put : ∀ H3, Ex H H3 → H3 l = some (.lst (q.map V.int)) → Fg.rd (ns.take (i + 1)) = q ++ [z] → rApp K "list" rAppend (tCons (tVar 2) tNil) [some (.ref a), some (.ref l), some (.int z)] (.ref l) H3 (fun _ H4 => ∃ v, [some (V.ref a), some (.ref l), some (.int z)] = [some (.ref a), some (.ref l), v] ∧ Ex H H4 ∧ H4 l = some (.lst ((Fg.rd (ns.take (i + 1))).map V.int))) := by
          intro H3 e3 h3 e4
          refine r_app (l_of h3) ?_
          walk_at "go"
          refine r_appd h3 (by rw [List.length_map]; omega) fun H4 e5 h4 => ?_
          refine ⟨_, rfl, fun b o hb => e5 b o (e3 b o hb) (ne_of_none hb hl), ?_⟩
          rw [h4, e4, List.map_append]
          rfl
        walk_at "go"
        refine r_newL (by simp) fun c H3 _ e3 h3 => ?_
        walk_at "go"
        refine r_neL (ms := []) (l_of (e3 _ _ h2)) (l_of h3) ?_
        walk_at "go"
        rcases List.eq_nil_or_concat q with e | ⟨r, y, e⟩
        · subst e
          refine ifn_2 (fun h => absurd rfl h) fun _ => ?_
          walk_at "go"
          exact put H3 (e2.trans e3) (e3 _ _ h2) step
        · rw [List.concat_eq_append] at e
          subst e
          refine ifn_2 (fun _ => ?_) fun h => absurd h (by simp)
          walk_at "go"
          refine r_ixL (l_of (e3 _ _ h2)) (at_last (x := y) (by simp)) ?_
          walk_at "go"
          refine if_2 (fun hy => ?_) fun hy => ?_
          · have e4 : Fg.rd (ns.take (i + 1)) = r := by
              rw [step, List.reverse_append]
              show (if y = -z then r.reverse else z :: y :: r.reverse).reverse = r
              rw [if_pos (by omega), List.reverse_reverse]
            walk_at "go"
            refine r_pop (xs := r.map V.int) (v := .int y) (by rw [e3 _ _ h2, List.map_append]; rfl) fun H4 e5 h4 => ?_
            exact ⟨_, rfl, fun b o hb => e5 b o (e3 b o (e2 b o hb)) (ne_of_none hb hl), by rw [h4, e4]⟩
          · have e4 : Fg.rd (ns.take (i + 1)) = (r ++ [y]) ++ [z] := by
              rw [step, List.reverse_append]
              show (if y = -z then r.reverse else z :: y :: r.reverse).reverse = r ++ [y] ++ [z]
              rw [if_neg (by omega), List.reverse_cons, List.reverse_cons, List.reverse_reverse]
            walk_at "go"
            exact put H3 (e2.trans e3) (e3 _ _ h2) e4
    · obtain ⟨v, rfl, e2, h2⟩ := p
      rw [List.length_map, List.take_length] at h2
      walk_at "go"
      refine r_tupL (l_of h2) fun p H3 _ e3 h3 => ?_
      exact q p H3 (e2.trans e3) h3
def sp__law_steps (K : PySem.W.Frag) : Sp := fun vs H Q _ => ∃ l, vs = [.int l] ∧ 1 ≤ l ∧ l ≤ 4 ∧ ∀ p ns H1, H p = none → Ex H H1 → H1 p = some (.lst (ns.map V.int)) → (ns.length : Int) = 2 * l → Stp l ns → Q (.ref p) H1
theorem ok__law_steps (T : Tx K mg A) : FnOk P w K mg base CX0 1 A.a__law_steps A.f__law_steps P__law_steps (sp__law_steps K) := by
  refine T.F__law_steps.ok sc__law_steps (fun vs H Q E h => ?_) (fun cdv A' outer s H vs Q E hr h => ?_)
  · obtain ⟨l, rfl, _⟩ := h
    rfl
  · obtain ⟨l, rfl, h1, h4, q⟩ := h
    refine ⟨_, (pss_cons (ps_set (i := 1) sc__law_steps.nd rfl (Or.inl rfl) (pe_lst pa_nil))
      (pss_cons (ps_for PassesOwn.never rfl (pi_range2 (by rfl) T.n_range (pa_cons pe_int (pa_cons (pe_op (op_addK K) (pv 0) pe_int) pa_nil))) (pg_name (i := 2) sc__law_steps.nd rfl (Or.inl rfl)) (pss_one (ps_set (i := 1) sc__law_steps.nd rfl (Or.inl rfl) (pe_op (op_addK K) (pv 1) (pe_lst (pa_cons (pv 2) (pa_cons (pe_op op_sub pe_int (pv 2)) pa_nil)))))))
      (pss_one (ps_ret (pv 1))))), ?_⟩
    walk_at "go"
    refine r_newL (by simp) fun c H1 hc e1 k1 => ?_
    walk_at "go"
    refine r_rng2 (by omega) (r_forR (lo := 1) (fun i σ' H' => ∃ c ns v, H c = none ∧ Ex H H' ∧ H' c = some (.lst (ns.map V.int)) ∧ ns.length = 2 * i ∧ Stp l ns ∧ σ' = [some (.int l), some (.ref c), v]) ⟨c, [], none, hc, e1, k1, rfl, fun x h => (nomatch h), rfl⟩ ?_ ?_)
    · rintro i σ' H' hi ⟨c, ns, v, hc, e, hn, zn, sn, rfl⟩
      walk_at "go"
      refine r_newL (by simp) fun d H2 hd e2 k2 => ?_
      walk_at "go"
      refine r_catL (e2 _ _ hn) k2 (by rw [List.length_map]; simp; omega) fun f H3 hf e3 k3 => ?_
      walk_at "go"
      refine ⟨f, ns ++ [1 + (i : Int), 0 - (1 + (i : Int))], _, fresh_back (e.trans e2) hf, (e.trans e2).trans e3, by rw [k3, List.map_append]; rfl, by rw [List.length_append, zn]; simp; omega, fun x hx => ?_, rfl⟩
      rcases List.mem_append.mp hx with hx | hx
      · exact sn x hx
      · have e4 : x = 1 + (i : Int) ∨ x = 0 - (1 + (i : Int)) := by simpa using hx
        omega
    · rintro σ' H' ⟨c, ns, v, hc, e, hn, zn, sn, rfl⟩
      walk_at "go"
      exact q c ns H' hc e hn (by omega) sn
end
end Lw
namespace Lw
open PySem PySem.Spec PyProof.Rows L2 Evl

local macro_rules | `(tactic| walk_at "go") => `(tactic| repeat (first
  | with_reducible refine st_seq ?_ | with_reducible refine st_set ?_ | with_reducible refine st_asg ?_ | with_reducible refine st_ret ?_ | with_reducible refine st_drop ?_ | with_reducible refine st_if ?_
  | with_reducible refine st_c ?_ | ((with_reducible refine' st_v ?h ?_); (case h => exact rfl)) | with_reducible refine st_n ?_ | with_reducible refine st_cons ?_ | with_reducible refine st_op ?_ | with_reducible refine st_un ?_
  | with_reducible refine st_cb ?_ | with_reducible refine st_test ?_ | with_reducible refine st_call ?_ | with_reducible refine st_callK ?_ | with_reducible refine st_sl ?_ | with_reducible refine st_par ?_ | with_reducible refine st_par3 ?_ | with_reducible refine st_tru ?_
  | with_reducible refine st_and ?_ | with_reducible refine st_or ?_ | with_reducible refine st_not ?_ | with_reducible refine st_B ?_ | with_reducible refine st_andV ?_ | with_reducible refine st_orV ?_ | with_reducible refine st_notV ?_ | with_reducible refine st_ifE ?_
  | with_reducible refine st_part ?_ | with_reducible refine st_nop ?_ | with_reducible refine st_sub ?_ | with_reducible refine st_chain ?_ | with_reducible refine st_bl ?_ | with_reducible refine st_in ?_ | with_reducible refine r_truB ?_
  | with_reducible refine st_nameG ?_ | with_reducible refine if_T ?_ | with_reducible refine if_F ?_ | with_reducible refine if_nT ?_ | with_reducible refine if_nF ?_
  | with_reducible refine r_add ?_ | with_reducible refine r_0 ?_ | with_reducible refine r_neg ?_ | with_reducible refine r_intI ?_ | with_reducible refine r_intB ?_ | with_reducible refine r_abs ?_ | with_reducible refine r_max2 ?_ | with_reducible refine r_min2 ?_ | with_reducible refine r_eqI ?_ | with_reducible refine r_neI ?_
  | with_reducible refine st_nxt ?_ | with_reducible refine st_cnt ?_ | with_reducible refine st_brk ?_ | with_reducible refine st_retn ?_
  | with_reducible refine st_lstN ?_ | with_reducible refine st_tupN ?_
  | with_reducible refine st_for ?_ | with_reducible refine st_lc ?_ | with_reducible refine st_lc2 ?_ | with_reducible refine st_rng1 ?_ | with_reducible refine st_rng2 ?_ | with_reducible refine st_rng3 ?_ | with_reducible refine st_itL ?_ | with_reducible refine st_itT ?_ | with_reducible refine st_rev ?_ | with_reducible refine st_enumE ?_ | with_reducible refine st_zip3 ?_ | with_reducible refine st_lvals ?_ | with_reducible refine st_fld ?_ | with_reducible refine st_sfld ?_ | with_reducible refine st_meth ?_ | with_reducible refine st_make ?_ | with_reducible refine st_rg1 ?_ | with_reducible refine st_enumS ?_ | with_reducible refine st_dg1 ?_ | with_reducible refine st_dg2 ?_ | with_reducible refine st_dpop ?_ | with_reducible refine st_dset ?_ | with_reducible refine st_dc ?_ | with_reducible refine st_keys ?_ | with_reducible refine st_dget ?_ | with_reducible refine st_din ?_ | with_reducible refine st_dnin ?_ | with_reducible refine st_dput ?_ | with_reducible refine st_dnew ?_ | with_reducible refine st_lstRg ?_ | with_reducible refine st_rg2 ?_ | with_reducible refine r_twoI ?_ | with_reducible refine st_bm ?_ | with_reducible refine st_bm0 ?_
  | ((with_reducible refine' st_aug ?h ?_); (case h => exact rfl)) | with_reducible refine r_augI ?_ | with_reducible refine r_eqB ?_
  | dsimp only))
section
variable {P : Program} {w : World} {K : PySem.W.Frag} {mg : Str → Option Value} {base : Heap} {A : Ad}

def sp__law_walk (K : PySem.W.Frag) : Sp := fun vs H Q _ => ∃ w n l m, vs = [.ref w, .int l, .int m] ∧ Well H w n ∧ n < 2 ^ 20 ∧ 1 ≤ l ∧ l ≤ 4 ∧ 0 ≤ m ∧ m ≤ 60 ∧ ∀ p ns H1, DrS w H (n + 62) H1 → IT K H1 p ns → Stp l ns → (ns.length : Int) ≤ m → Q (.ref p) H1
theorem ok__law_walk (T : Tx K mg A) : FnOk P w K mg base CX0 2 A.a__law_walk A.f__law_walk P__law_walk (sp__law_walk K) := by
  refine T.F__law_walk.ok sc__law_walk (fun vs H Q E h => ?_) (fun cdv A' outer s H vs Q E hr h => ?_)
  · obtain ⟨w, n, l, m, rfl, _⟩ := h
    rfl
  · obtain ⟨w, n, l, m, rfl, hw, hn, hl1, hl4, hm0, hm, q⟩ := h
    refine ⟨_, (pss_cons (ps_par (i := 3) (j := 4) (by rfl) sc__law_walk.nd rfl rfl (by decide) rfl rfl (pa_cons (pe_call (ok__law_steps T) (hr.mono (by decide)) (by rfl) T.g__law_steps T.F__law_steps.kp T.b__law_steps .nil pass0 (pa_cons (pv 1) pa_nil)) (pa_cons (pe_lst pa_nil) pa_nil)) (by rfl))
      (pss_cons (ps_set (i := 5) sc__law_walk.nd rfl (Or.inl rfl) (pe_cmpR (op_eqK K hr.units) (pe_call (ok__law_take T) (hr.mono (by decide)) (by rfl) T.g__law_take T.F__law_take.kp T.b__law_take .nil pass0 (pa_cons (pv 0) (pa_cons pe_int pa_nil))) pe_int (nomark _)))
      (pss_cons (ps_for PassesOwn.never rfl (pi_range1 (by rfl) T.n_range (pa_cons (pe_call (ok__law_take T) (hr.mono (by decide)) (by rfl) T.g__law_take T.F__law_take.kp T.b__law_take .nil pass0 (pa_cons (pv 0) (pa_cons (pe_op (op_addK K) (pv 2) pe_int) pa_nil))) pa_nil)) (pg_name (i := 6) sc__law_walk.nd rfl (Or.inl rfl)) (pss_cons (ps_set (i := 7) sc__law_walk.nd rfl (Or.inl rfl) (pe_ix (ix_K K) (pv 3) (pe_call (ok__law_take T) (hr.mono (by decide)) (by rfl) T.g__law_take T.F__law_take.kp T.b__law_take .nil pass0 (pa_cons (pv 0) (pa_cons (pe_callB (len_K K) (by rfl) T.n_len (by decide +kernel) (pa_cons (pv 3) pa_nil)) pa_nil))) (fun _ _ => rfl)))
      (Evl.pss_cut (ps_if (PW.pt (pw_and (pt_not (pt_truK K (pv 5))) (pw_and (pt_cmpR (op_neK K hr.units) (pv 4) (pe_lst pa_nil) (nomark _)) (pw_and1 (pt_cmpR (op_eqK K hr.units) (pe_ix (ix_K K) (pv 4) (pe_un un_neg pe_int) (fun _ _ => rfl)) (pe_op op_sub pe_int (pv 7)) (nomark _)))))) (pss_one (ps_set (i := 7) sc__law_walk.nd rfl (Or.inl rfl) (pe_op op_sub pe_int (pv 7)))) pss_nil)
      (pss_one (ps_expr (pe_bmU K PySem.F.plainAttrs_list PySem.F.slot_list_append PySem.F.type_list_append mt_append (pv 4) (pa_cons (pv 7) pa_nil)))))))
      (pss_one (ps_ret (pe_callTy (tuple_K K) (by rfl) T.n_tuple (by decide +kernel) (pa_cons (pv 4) pa_nil))))))), ?_⟩
    walk_at "go"
    refine ⟨l, rfl, hl1, hl4, fun c st H1 hc e1 h1 zs ss => ?_⟩
    walk_at "go"
    refine r_newL (by simp) fun f H2 hf e2 h2 => ?_
    have hf0 : H f = none := fresh_back e1 hf
    have s2 := (DrS.refl hw).ext (e1.trans e2)
    have hfw : f ≠ w := (hw.mono e1).ne hf
    have hcw : c ≠ w := hw.ne hc
    have hcf : c ≠ f := fun e => by
      rw [e, hf] at h1
      cases h1
    have h1' := e2 _ _ h1
    clear hf
    walk_at "go"
    refine ⟨_, _, rfl, ?_⟩
    walk_at "go"
    refine ⟨w, n, 4, rfl, by omega, by omega, s2.well, by omega, fun r3 H3 _ _ e3 d3 => ?_⟩
    have s3 := s2.on e3 d3
    have h3 := e3 _ _ h1' hcw
    have k3 := e3 _ _ h2 hfw
    clear e3 d3 s2 h2 h1'
    walk_at "go"
    generalize decide (r3 = 0) = loose
    refine ⟨w, n + 1, m + 1, rfl, by omega, by omega, s3.well, by omega, fun r4 H4 r40 r4m e4 d4 => ?_⟩
    have s4 := s3.on e4 d4
    have h4 := e4 _ _ h3 hcw
    have k4 := e4 _ _ k3 hfw
    clear e4 d4 s3 h3 k3
    walk_at "go"
    refine r_rng1 (by omega) (by omega) (r_forR (m := r4.toNat) (fun i σ' H' => ∃ ns v6 v7, DrS w H (n + 2 + i) H' ∧ H' c = some (.lst (st.map V.int)) ∧ H' f = some (.lst (ns.map V.int)) ∧ ns.length = i ∧ Stp l ns ∧
      σ' = [some (.ref w), some (.int l), some (.int m), some (.ref c), some (.ref f), some (.bl loose), v6, v7]) ⟨[], none, none, s4, h4, k4, rfl, fun x h => (nomatch h), rfl⟩ ?_ ?_)
    · rintro i σ' H5 hi ⟨ns, v6, v7, s5, h5, k5, zn, sn, rfl⟩
      walk_at "go"
      refine r_lenL (l_of h5) ?_
      rw [List.length_map]
      refine ⟨w, n + 2 + i, _, rfl, by omega, by omega, s5.well, by omega, fun r6 H6 r60 r6m e6 d6 => ?_⟩
      have s6 := s5.on e6 d6
      have h6 := e6 _ _ h5 hcw
      have k6 := e6 _ _ k5 hfw
      walk_at "go"
      have hi6 : r6.toNat < st.length := by omega
      refine r_ixL (l_of h6) (at_int r60 (List.getElem?_eq_getElem hi6)) ?_
      have sx := ss _ (List.getElem_mem hi6)
      generalize st[r6.toNat] = x at sx
      walk_at "go"
      refine q_cut (M := fun σ' H' => ∃ y : Int, (y ≠ 0 ∧ -l ≤ y ∧ y ≤ l) ∧ Ex H6 H' ∧ σ' = [some (.ref w), some (.int l), some (.int m), some (.ref c), some (.ref f), some (.bl loose), some (.int (0 + (i : Int))), some (.int y)]) ?_ ?_
      · walk_at "go"
        cases loose with
        | true =>
          walk_at "go"
          exact ⟨x, sx, Ex.refl H6, rfl⟩
        | false =>
          walk_at "go"
          refine r_newL (by simp) fun d H7 _ e7 h7 => ?_
          walk_at "go"
          refine r_neL (ms := []) (l_of (e7 _ _ k6)) (l_of h7) ?_
          walk_at "go"
          refine ifn_2 (fun he => ?_) fun he => ?_
          · walk_at "go"
            obtain ⟨y, hy⟩ : ∃ y, ns.getLast? = some y := by
              cases e : ns.getLast? with
              | none => exact absurd (List.getLast?_eq_none_iff.mp e) he
              | some y => exact ⟨y, rfl⟩
            refine r_ixL (l_of (e7 _ _ k6)) (at_last hy) ?_
            walk_at "go"
            refine if_2 (fun h8 => ?_) fun h8 => ?_
            · walk_at "go"
              exact ⟨0 - x, by omega, e7, rfl⟩
            · walk_at "go"
              exact ⟨x, sx, e7, rfl⟩
          · walk_at "go"
            exact ⟨x, sx, e7, rfl⟩
      · rintro σ' H7 ⟨y, sy, e7, rfl⟩
        have s7 := s6.ext e7
        have k7 := e7 _ _ k6
        walk_at "go"
        refine r_app (l_of k7) ?_
        walk_at "go"
        refine r_appd k7 (by rw [List.length_map]; omega) fun H8 e8 h8 => ?_
        refine ⟨ns ++ [y], _, _, s7.mut e8 hf0 hfw, e8 _ _ (e7 _ _ h6) hcf, by rw [h8, List.map_append]; rfl, by rw [List.length_append, zn]; rfl, fun z hz => ?_, rfl⟩
        rcases List.mem_append.mp hz with hz | hz
        · exact sn z hz
        · rw [List.mem_singleton.mp hz]
          exact sy
    · rintro σ' H5 ⟨ns, v6, v7, s5, h5, k5, zn, sn, rfl⟩
      walk_at "go"
      refine r_tupL (l_of k5) fun p H6 _ e6 h6 => ?_
      exact q p ns H6 ((s5.ext e6).more (by omega)) h6 sn (by omega)
def sp__law_list (K : PySem.W.Frag) : Sp := fun vs H Q _ => ∃ w n l, vs = [.ref w, .int l] ∧ Well H w n ∧ n < 2 ^ 18 ∧ 1 ≤ l ∧ l ≤ 4 ∧ ∀ D xs ws H1, DrS w H (n + 500) H1 → H D = none → D ≠ w → H1 D = some (.lst xs) → WkA K H1 xs ws → ws.length ≤ 7 → (∀ u ∈ ws, Stp l u ∧ u.length ≤ 60) → Q (.ref D) H1
theorem ok__law_list (T : Tx K mg A) : FnOk P w K mg base CX0 3 A.a__law_list A.f__law_list P__law_list (sp__law_list K) := by
  refine T.F__law_list.ok sc__law_list (fun vs H Q E h => ?_) (fun cdv A' outer s H vs Q E hr h => ?_)
  · obtain ⟨w, n, l, rfl, _⟩ := h
    rfl
  · obtain ⟨w, n, l, rfl, hw, hn, hl1, hl4, q⟩ := h
    refine ⟨_, (pss_cons (ps_set (i := 2) sc__law_list.nd rfl (Or.inr rfl) (pe_ix (ix_K K) (pe_lst (pa_cons pe_int (pa_cons pe_int (pa_cons pe_int (pa_cons pe_int pa_nil))))) (pe_call (ok__law_take T) (hr.mono (by decide)) (by rfl) T.g__law_take T.F__law_take.kp T.b__law_take .nil pass0 (pa_cons (pv 0) (pa_cons pe_int pa_nil))) (fun _ _ => rfl)))
      (pss_cons (ps_setLc (i := 3) (own := [("_law_turn", 5)]) rfl sc__law_list.nd rfl rfl (sw_true rfl rfl rfl (by decide +kernel)) (pi_range1 (by rfl) T.n_range (pa_cons (pe_call (ok__law_take T) (hr.mono (by decide)) (by rfl) T.g__law_take T.F__law_take.kp T.b__law_take .nil pass0 (pa_cons (pv 0) (pa_cons pe_int pa_nil))) pa_nil)) (blkOk_by (own := [("_law_turn", 5)]) (N := N__law_list) (sc := defScope s__law_list) (by decide +kernel)) (fun _ _ _ _ _ => (pg_name (i := 5) sc__law_list.nd rfl (Or.inl rfl))) (fun _ _ _ _ _ => pts_nil) (fun _ _ _ _ _ => (pe_call (ok__law_walk T) (hr.mono (by decide)) (by rfl) T.g__law_walk T.F__law_walk.kp T.b__law_walk .nil pass0 (pa_cons (pv 0) (pa_cons (pv 1) (pa_cons (pv 2) pa_nil))))))
      (Evl.pss_cut (ps_if (PW.pt (pw_and (pt_cmpR (op_neK K hr.units) (pv 3) (pe_lst pa_nil) (nomark _)) (pw_and1 (pt_cmpR (op_eqK K hr.units) (pe_call (ok__law_take T) (hr.mono (by decide)) (by rfl) T.g__law_take T.F__law_take.kp T.b__law_take .nil pass0 (pa_cons (pv 0) (pa_cons pe_int pa_nil))) pe_int (nomark _))))) (pss_one (ps_asg (pe_ix (ix_K K) (pv 3) (pe_call (ok__law_take T) (hr.mono (by decide)) (by rfl) T.g__law_take T.F__law_take.kp T.b__law_take .nil pass0 (pa_cons (pv 0) (pa_cons (pe_callB (len_K K) (by rfl) T.n_len (by decide +kernel) (pa_cons (pv 3) pa_nil)) pa_nil))) (fun _ _ => rfl)) (pg_sub (pv 3) (pe_call (ok__law_take T) (hr.mono (by decide)) (by rfl) T.g__law_take T.F__law_take.kp T.b__law_take .nil pass0 (pa_cons (pv 0) (pa_cons (pe_callB (len_K K) (by rfl) T.n_len (by decide +kernel) (pa_cons (pv 3) pa_nil)) pa_nil))) set_list))) pss_nil)
      (Evl.pss_cut (ps_if (PW.pt (pw_and (pt_cmpR (op_neK K hr.units) (pv 3) (pe_lst pa_nil) (nomark _)) (pw_and1 (pt_cmpR (op_eqK K hr.units) (pe_call (ok__law_take T) (hr.mono (by decide)) (by rfl) T.g__law_take T.F__law_take.kp T.b__law_take .nil pass0 (pa_cons (pv 0) (pa_cons pe_int pa_nil))) pe_int (nomark _))))) (pss_cons (ps_set (i := 4) sc__law_list.nd rfl (Or.inl rfl) (pe_ix (ix_K K) (pe_lst (pa_cons pe_int (pa_cons (pe_op op_sub pe_int pe_int) (pa_cons (pv 1) (pa_cons (pe_op op_sub pe_int (pv 1)) pa_nil))))) (pe_call (ok__law_take T) (hr.mono (by decide)) (by rfl) T.g__law_take T.F__law_take.kp T.b__law_take .nil pass0 (pa_cons (pv 0) (pa_cons pe_int pa_nil))) (fun _ _ => rfl)))
      (pss_one (ps_asg (pe_ix (ix_K K) (pe_lst (pa_cons (pe_tup pa_nil) (pa_cons (pe_tup (pa_cons (pv 4) (pa_cons (pe_op op_sub pe_int (pv 4)) pa_nil))) (pa_cons (pe_tup (pa_cons (pv 4) pa_nil)) pa_nil)))) (pe_call (ok__law_take T) (hr.mono (by decide)) (by rfl) T.g__law_take T.F__law_take.kp T.b__law_take .nil pass0 (pa_cons (pv 0) (pa_cons pe_int pa_nil))) (fun _ _ => rfl)) (pg_sub (pv 3) (pe_call (ok__law_take T) (hr.mono (by decide)) (by rfl) T.g__law_take T.F__law_take.kp T.b__law_take .nil pass0 (pa_cons (pv 0) (pa_cons (pe_callB (len_K K) (by rfl) T.n_len (by decide +kernel) (pa_cons (pv 3) pa_nil)) pa_nil))) set_list)))) pss_nil)
      (pss_one (ps_ret (pv 3))))))), ?_⟩
    walk_at "go"
    refine r_newL (by simp) fun c H1 hc e1 h1 => ?_
    have s1 := (DrS.refl hw).ext e1
    have hcw : c ≠ w := hw.ne hc
    walk_at "go"
    refine ⟨w, n, 4, rfl, by omega, by omega, s1.well, by omega, fun r2 H2 r20 r24 e2 d2 => ?_⟩
    have s2 := s1.on e2 d2
    have h2 := e2 _ _ h1 hcw
    clear e1 e2 d2 s1 h1 hc
    walk_at "go"
    obtain ⟨most, hmo, hm0, hm6⟩ : ∃ most : Int, atI [V.int 6, V.int 6, V.int 6, V.int 60] r2 = some (.int most) ∧ 0 ≤ most ∧ most ≤ 60 := by
      have hr : r2 = 0 ∨ r2 = 1 ∨ r2 = 2 ∨ r2 = 3 := by omega
      rcases hr with rfl | rfl | rfl | rfl
      · exact ⟨6, rfl, by decide, by decide⟩
      · exact ⟨6, rfl, by decide, by decide⟩
      · exact ⟨6, rfl, by decide, by decide⟩
      · exact ⟨60, rfl, by decide, by decide⟩
    refine r_ixL (l_of h2) hmo ?_
    clear h2 hcw hmo
    walk_at "go"
    refine ⟨w, n + 1, 8, rfl, by omega, by omega, s2.well, by omega, fun r3 H3 r30 r38 e3 d3 => ?_⟩
    have s3 := s2.on e3 d3
    clear e3 d3 s2
    walk_at "go"
    refine r_rng1 (by omega) (by omega) (r_cmRA (m := r3.toNat) (fun i ys H' => DrS w H (n + 2 + 62 * i) H' ∧ ∃ ws, WkA K H' ys ws ∧ ∀ u ∈ ws, Stp l u ∧ u.length ≤ 60) (by omega) (fun _ => rfl) (fun D hD o => ⟨s3.new hD, [], WkA.nil, fun u hu => (nomatch hu)⟩)
      (fun i H4 D acc hi za h4 u4 Q' k => ?_) fun D H4 xs hD zx h4 u4 => ?_)
    · obtain ⟨hDw, hD0⟩ := DrS.at fun o => (u4 o).1
      have u5 := u4 (.lst acc)
      rw [upd_id h4] at u5
      obtain ⟨s4, ws, wa, sw⟩ := u5
      walk_at "go"
      refine ⟨w, _, l, most, rfl, s4.well, by omega, hl1, hl4, hm0, hm6, fun p ns H5 s5 hp st zn => ?_⟩
      have h5 := s5.ex _ _ h4 hDw
      have tx := (s5.tx s4.well).trans (TX.upd (o := .lst []) h5)
      refine k _ H5 h5 fun o => ⟨((s4.on s5.ex s5.well).put hDw hD0).more (by omega), ws ++ [ns], ?_, fun u hu => ?_⟩
      · exact (wa.tx ((s5.tx s4.well).trans (TX.upd h5))).snoc ⟨p, rfl, tx_t (TX.upd h5) hp⟩
      · rcases List.mem_append.mp hu with hu | hu
        · exact sw u hu
        · rw [List.mem_singleton.mp hu]
          exact ⟨st, by omega⟩
    have hDw : D ≠ w := s3.well.ne hD
    have hD0 : H D = none := s3.fresh hD
    have u5 := u4 (.lst xs)
    rw [upd_id h4] at u5
    obtain ⟨s4, ws, wa, sw⟩ := u5
    clear u4 hD s3
    walk_at "go"
    -- the list as it stands between what is done with it
    refine q_cut (M := fun σ' H' => ∃ xs ws, DrS w H (n + 440) H' ∧ H' D = some (.lst xs) ∧ WkA K H' xs ws ∧ ws.length ≤ 7 ∧ (∀ u ∈ ws, Stp l u ∧ u.length ≤ 60) ∧ σ' = [some (.ref w), some (.int l), some (.int most), some (.ref D), none, none]) ?_ ?_
    · have zw : ws.length ≤ 7 := by rw [← wa.len, zx]; omega
      walk_at "go"
      refine r_newL (by simp) fun c H5 hc e5 h5 => ?_
      walk_at "go"
      refine r_neW (ws := ws) (us := []) (l_of (e5 _ _ h4)) (wa.ex e5) (l_of h5) WkA.nil ?_
      have s5 := s4.ext e5
      walk_at "go"
      refine ifn_2 (fun h0 => ?_) fun h0 => ?_
      · walk_at "go"
        refine ⟨w, _, 3, rfl, by omega, by omega, s5.well, by omega, fun r6 H6 _ _ e6 d6 => ?_⟩
        have s6 := s5.on e6 d6
        have w6 := (wa.ex e5).tx (TX.w e6 s5.well)
        have h6 := e6 _ _ (e5 _ _ h4) hDw
        walk_at "go"
        refine if_2 (fun h7 => ?_) fun h7 => ?_
        · have zp : 0 < ws.length := List.length_pos_iff.mpr h0
          walk_at "go"
          refine r_lenL (l_of h6) ?_
          rw [wa.len]
          refine ⟨w, _, _, rfl, by omega, by omega, s6.well, by omega, fun r7 H7 r70 r7m e7 d7 => ?_⟩
          have s7 := s6.on e7 d7
          have w7 := w6.tx (TX.w e7 s6.well)
          have h8 := e7 _ _ h6 hDw
          walk_at "go"
          have hi7 : r7.toNat < xs.length := by rw [wa.len]; omega
          refine r_ixL (l_of h8) (atI_at r70 (List.getElem?_eq_getElem hi7)) ?_
          obtain ⟨u, hu, wu⟩ := w7.get (List.getElem?_eq_getElem hi7)
          walk_at "go"
          refine r_lenL (l_of h8) ?_
          rw [wa.len]
          refine ⟨w, _, _, rfl, by omega, by omega, s7.well, by omega, fun r8 H8 r80 r8m e8 d8 => ?_⟩
          have s8 := s7.on e8 d8
          have w8 := w7.tx (TX.w e8 s7.well)
          have h9 := e8 _ _ h8 hDw
          refine r_setG h9 (k := r8.toNat) (ixN_in r80 (by rw [wa.len]; omega)) fun H9 e9 h10 => ?_
          have tx := TX.w2 h9 e9
          walk_at "go"
          refine ⟨_, ws.set r8.toNat u, (s8.mut e9 hD0 hDw).more (by omega), h10, (w8.set (wu.tx (TX.w e8 s7.well)) _).tx tx, by rw [List.length_set]; exact zw, fun v hv => ?_, rfl⟩
          rcases List.mem_or_eq_of_mem_set hv with hv | hv
          · exact sw v hv
          · rw [hv]
            exact sw u (List.mem_of_getElem? hu)
        · walk_at "go"
          exact ⟨xs, ws, s6.more (by omega), h6, w6, zw, sw, rfl⟩
      · walk_at "go"
        exact ⟨xs, ws, s5.more (by omega), e5 _ _ h4, wa.ex e5, zw, sw, rfl⟩
    clear wa sw h4 s4 zx xs ws
    rintro σ' H4 ⟨xs, ws, s4, h4, wa, zw, sw, rfl⟩
    walk_at "go"
    refine q_cut (M := fun σ' H' => ∃ xs ws v4, DrS w H (n + 480) H' ∧ H' D = some (.lst xs) ∧ WkA K H' xs ws ∧ ws.length ≤ 7 ∧ (∀ u ∈ ws, Stp l u ∧ u.length ≤ 60) ∧ σ' = [some (.ref w), some (.int l), some (.int most), some (.ref D), v4, none]) ?_ ?_
    · walk_at "go"
      refine r_newL (by simp) fun c H5 hc e5 h5 => ?_
      walk_at "go"
      refine r_neW (ws := ws) (us := []) (l_of (e5 _ _ h4)) (wa.ex e5) (l_of h5) WkA.nil ?_
      have s5 := s4.ext e5
      have w5 := wa.ex e5
      have h5' := e5 _ _ h4
      clear wa h4 s4 h5 hc e5
      walk_at "go"
      refine ifn_2 (fun h0 => ?_) fun h0 => ?_
      · have zp : 0 < ws.length := List.length_pos_iff.mpr h0
        have zx := w5.len
        walk_at "go"
        refine ⟨w, _, 3, rfl, by omega, by omega, s5.well, by omega, fun r6 H6 _ _ e6 d6 => ?_⟩
        have s6 := s5.on e6 d6
        have w6 := w5.tx (TX.w e6 s5.well)
        have h6 := e6 _ _ h5' hDw
        clear e6 d6 s5 w5 h5'
        walk_at "go"
        refine if_2 (fun h7 => ?_) fun h7 => ?_
        · walk_at "go"
          refine r_newL (by simp) fun c H7 hc e7 h7 => ?_
          have s7 := s6.ext e7
          have hcw : c ≠ w := s6.well.ne hc
          have w7 := w6.ex e7
          have h7' := e7 _ _ h6
          clear hc e7 s6 w6 h6
          walk_at "go"
          refine ⟨w, _, 4, rfl, by omega, by omega, s7.well, by omega, fun r7 H8 r70 r74 e8 d8 => ?_⟩
          have s8 := s7.on e8 d8
          have w8 := w7.tx (TX.w e8 s7.well)
          have h8 := e8 _ _ h7' hDw
          have k8 := e8 _ _ h7 hcw
          clear e8 d8 s7 w7 h7' h7 hcw
          walk_at "go"
          obtain ⟨st, hst, sst⟩ : ∃ st : Int, atI [V.int 1, V.int (0 - 1), V.int l, V.int (0 - l)] r7 = some (.int st) ∧ (st ≠ 0 ∧ -l ≤ st ∧ st ≤ l) := by
            have hr : r7 = 0 ∨ r7 = 1 ∨ r7 = 2 ∨ r7 = 3 := by omega
            rcases hr with rfl | rfl | rfl | rfl
            · exact ⟨1, rfl, by omega⟩
            · exact ⟨0 - 1, rfl, by omega⟩
            · exact ⟨l, rfl, by omega⟩
            · exact ⟨0 - l, rfl, by omega⟩
          refine r_ixL (l_of k8) hst ?_
          clear k8
          walk_at "go"
          refine r_newT (by simp) fun t1 H9 ht1 e9 k1 => ?_
          walk_at "go"
          refine r_newT (by simp) fun t2 H10 ht2 e10 k2 => ?_
          walk_at "go"
          refine r_newT (by simp) fun t3 H11 ht3 e11 k3 => ?_
          walk_at "go"
          refine r_newL (by simp) fun c H12 hc e12 k12 => ?_
          have e13 := ((e9.trans e10).trans e11).trans e12
          have s9 := s8.ext e13
          have w9 := w8.ex e13
          have h9 := e13 _ _ h8
          have hcw : c ≠ w := (s8.ext ((e9.trans e10).trans e11)).well.ne hc
          have c1 : WkV K H12 (.ref t1) [] := ⟨t1, rfl, t_of (e12 _ _ (e11 _ _ (e10 _ _ k1)))⟩
          have c2 : WkV K H12 (.ref t2) [st, 0 - st] := ⟨t2, rfl, t_of (e12 _ _ (e11 _ _ k2))⟩
          have c3 : WkV K H12 (.ref t3) [st] := ⟨t3, rfl, t_of (e12 _ _ k3)⟩
          clear e13 e9 e10 e11 e12 k1 k2 k3 ht1 ht2 ht3 hc s8 w8 h8
          walk_at "go"
          refine ⟨w, _, 3, rfl, by omega, by omega, s9.well, by omega, fun r9 H14 r90 r93 e14 d14 => ?_⟩
          have s14 := s9.on e14 d14
          have w14 := w9.tx (TX.w e14 s9.well)
          have h14 := e14 _ _ h9 hDw
          have k14 := e14 _ _ k12 hcw
          have tx := TX.w e14 s9.well
          walk_at "go"
          obtain ⟨x, u, hx, hu, su⟩ : ∃ x u, atI [V.ref t1, V.ref t2, V.ref t3] r9 = some x ∧ WkV K H14 x u ∧ Stp l u ∧ u.length ≤ 60 := by
            have hr : r9 = 0 ∨ r9 = 1 ∨ r9 = 2 := by omega
            rcases hr with rfl | rfl | rfl
            · exact ⟨_, _, rfl, c1.tx tx, fun x h => (nomatch h), by decide⟩
            · refine ⟨_, _, rfl, c2.tx tx, fun x h => ?_, by simp⟩
              have e : x = st ∨ x = 0 - st := by simpa using h
              omega
            · refine ⟨_, _, rfl, c3.tx tx, fun x h => ?_, by simp⟩
              rw [List.mem_singleton.mp h]
              exact sst
          refine r_ixL (l_of k14) hx ?_
          clear k14 k12 hcw c1 c2 c3 tx e14 d14 s9 w9 h9
          walk_at "go"
          refine r_lenL (l_of h14) ?_
          rw [zx]
          refine ⟨w, _, _, rfl, by omega, by omega, s14.well, by omega, fun r10 H15 r100 r10m e15 d15 => ?_⟩
          have s15 := s14.on e15 d15
          have w15 := w14.tx (TX.w e15 s14.well)
          have h15 := e15 _ _ h14 hDw
          refine r_setG h15 (k := r10.toNat) (ixN_in r100 (by rw [zx]; omega)) fun H16 e16 h16 => ?_
          have tx := TX.w2 h15 e16
          walk_at "go"
          refine ⟨_, ws.set r10.toNat u, _, (s15.mut e16 hD0 hDw).more (by omega), h16, (w15.set (hu.tx (TX.w e15 s14.well)) _).tx tx, by rw [List.length_set]; exact zw, fun v hv => ?_, rfl⟩
          rcases List.mem_or_eq_of_mem_set hv with hv | hv
          · exact sw v hv
          · rw [hv]
            exact su
        · walk_at "go"
          exact ⟨xs, ws, _, s6.more (by omega), h6, w6, zw, sw, rfl⟩
      · walk_at "go"
        exact ⟨xs, ws, _, s5.more (by omega), h5', w5, zw, sw, rfl⟩
    clear wa sw h4 s4 zw xs ws
    rintro σ' H5 ⟨xs, ws, v4, s5, h5, wa, zw, sw, rfl⟩
    walk_at "go"
    exact q D xs ws H5 (s5.more (by omega)) hD0 hDw h5 wa zw sw
end
end Lw
/-! petals, as sequences of ints -/
namespace Pt
open L2
/-- the rooms along a ring of so many steps -/
def places (n : Int) (z : Nat) : List Int := [0] ++ rgI n (n + z - 1) ++ [0]
theorem places_len (n : Int) (z : Nat) : (places n z).length = (z - 1) + 2 := by
  unfold places
  rw [List.length_append, List.length_append, rgI_len]
  simp
  omega
def wy (p q x : Int) : List Int := if 0 < x then [p, x, q] else [q, -x, p]
def way (n : Int) (s : List Int) (i : Nat) : List Int := wy ((places n s.length).getD i 0) ((places n s.length).getD (i + 1) 0) (s.getD i 0)
def ring (n : Int) (s : List Int) (k : Nat) : List (List Int) := (List.range k).map (way n s)
theorem ring_succ (n : Int) (s : List Int) (k : Nat) : ring n s (k + 1) = ring n s k ++ [way n s k] := by
  unfold ring
  rw [List.range_succ, List.map_append]
  rfl
theorem ring_len (n : Int) (s : List Int) (k : Nat) : (ring n s k).length = k := by
  unfold ring
  rw [List.length_map, List.length_range]
def stp (st : Int × List (List Int)) (w : List Int) : Int × List (List Int) := (st.1 + max 0 (((Fg.rd w).length : Int) - 1), st.2 ++ ring st.1 (Fg.rd w) (Fg.rd w).length)
def pet (ws : List (List Int)) : Int × List (List Int) := ws.foldl stp (1, [])
theorem pet_snoc (ws : List (List Int)) (w : List Int) : pet (ws ++ [w]) = stp (pet ws) w := by
  unfold pet
  rw [List.foldl_append]
  rfl
theorem pet_take {ws : List (List Int)} {i : Nat} {w : List Int} (h : ws[i]? = some w) : pet (ws.take (i + 1)) = stp (pet (ws.take i)) w := by
  rw [take_snoc h, pet_snoc]
theorem stp_rd (st : Int × List (List Int)) (w : List Int) : stp st (Fg.rd w) = stp st w := by
  unfold stp
  rw [Fg.rd_str (Fg.str_rd w)]
theorem stp_nil (st : Int × List (List Int)) {w : List Int} (h : Fg.rd w = []) : stp st w = st := by
  unfold stp
  rw [h]
  show (st.1 + max 0 ((0 : Int) - 1), st.2 ++ []) = st
  rw [List.append_nil, show max (0 : Int) (0 - 1) = 0 by decide, Int.add_zero]
/-- what falls away adds nothing -/
theorem pet_bare (ws : List (List Int)) (st : Int × List (List Int)) : ((ws.filter fun w => decide (Fg.rd w ≠ [])).map Fg.rd).foldl stp st = ws.foldl stp st := by
  induction ws generalizing st with
  | nil => rfl
  | cons w ws ih =>
    by_cases h : Fg.rd w = []
    · rw [List.filter_cons_of_neg (by simp [h]), List.foldl_cons, stp_nil st h]
      exact ih st
    · rw [List.filter_cons_of_pos (by simp [h]), List.map_cons, List.foldl_cons, List.foldl_cons, stp_rd]
      exact ih _
/-! ### how great it is -/
theorem rgI_mem {a b x : Int} (h : x ∈ rgI a b) : a ≤ x ∧ x < b := by
  unfold rgI at h
  obtain ⟨i, hi, rfl⟩ := List.mem_map.mp h
  have := List.mem_range.mp hi
  omega
theorem places_mem {n x : Int} {z : Nat} (hn : 0 ≤ n) (h : x ∈ places n z) : 0 ≤ x ∧ x ≤ n + z := by
  unfold places at h
  rcases List.mem_append.mp h with h | h
  · rcases List.mem_append.mp h with h | h
    · rw [List.mem_singleton.mp h]; omega
    · have := rgI_mem h; omega
  · rw [List.mem_singleton.mp h]; omega
theorem getD_mem0 {ns : List Int} (i : Nat) : ns.getD i 0 = 0 ∨ ns.getD i 0 ∈ ns := by
  rw [List.getD_eq_getElem?_getD]
  cases h : ns[i]? with
  | none => exact .inl rfl
  | some x => exact .inr (List.mem_of_getElem? h)
/-- a way of so many rooms -/
def Wy (b : Int) (w : List Int) : Prop := ∃ p x q, w = [p, x, q] ∧ 0 ≤ p ∧ p ≤ b ∧ 0 ≤ q ∧ q ≤ b ∧ 0 ≤ x ∧ x ≤ 4
theorem Wy.more {b c : Int} {w : List Int} (h : Wy b w) (e : b ≤ c) : Wy c w := by
  obtain ⟨p, x, q, rfl, h1⟩ := h
  exact ⟨p, x, q, rfl, by omega⟩
theorem way_wy {n : Int} {s : List Int} (i : Nat) (hn : 0 ≤ n) (hs : Stp 4 s) : Wy (n + s.length) (way n s i) := by
  have bd : ∀ j, 0 ≤ (places n s.length).getD j 0 ∧ (places n s.length).getD j 0 ≤ n + s.length := fun j => by
    rcases getD_mem0 (ns := places n s.length) j with e | e
    · rw [e]; omega
    · exact places_mem hn e
  have sx : -4 ≤ s.getD i 0 ∧ s.getD i 0 ≤ 4 := by
    rcases getD_mem0 (ns := s) i with e | e
    · rw [e]; omega
    · exact (hs _ e).2
  have b1 := bd i
  have b2 := bd (i + 1)
  unfold way wy
  split
  · exact ⟨_, _, _, rfl, by omega⟩
  · exact ⟨_, _, _, rfl, by omega⟩
structure Ok (st : Int × List (List Int)) (b : Nat) : Prop where
  lo : 1 ≤ st.1
  hi : st.1 ≤ 1 + b
  len : st.2.length ≤ b
  wys : ∀ w ∈ st.2, Wy (1 + b) w
theorem Ok.stp {st : Int × List (List Int)} {b k : Nat} {w : List Int} (h : Ok st b) (hw : Stp 4 w) (hz : w.length ≤ k) : Ok (stp st w) (b + k) := by
  have z := Nat.le_trans (Fg.rd_len w) hz
  have s := L2.stp_rd hw
  have h1 := h.lo
  have h2 := h.hi
  have h3 := h.len
  refine ⟨?_, ?_, ?_, fun u hu => ?_⟩
  · show 1 ≤ st.1 + max 0 (((Fg.rd w).length : Int) - 1)
    omega
  · show st.1 + max 0 (((Fg.rd w).length : Int) - 1) ≤ _
    omega
  · show (st.2 ++ ring st.1 (Fg.rd w) (Fg.rd w).length).length ≤ _
    rw [List.length_append, ring_len]
    omega
  · rcases List.mem_append.mp (show u ∈ st.2 ++ ring st.1 (Fg.rd w) (Fg.rd w).length from hu) with hu | hu
    · exact (h.wys u hu).more (by omega)
    · obtain ⟨i, _, rfl⟩ := List.mem_map.mp hu
      exact (way_wy i (by omega) s).more (by omega)
theorem pet_ok {ws : List (List Int)} {k : Nat} (h : ∀ w ∈ ws, Stp 4 w ∧ w.length ≤ k) : ∀ i, i ≤ ws.length → Ok (pet (ws.take i)) (i * k)
  | 0, _ => ⟨show (1 : Int) ≤ 1 by decide, show (1 : Int) ≤ 1 + ((0 * k : Nat) : Int) by omega, Nat.zero_le _, fun w hw => (nomatch hw)⟩
  | i + 1, hi => by
    have hx := List.getElem?_eq_getElem (show i < ws.length by omega)
    obtain ⟨h1, h2⟩ := h _ (List.mem_of_getElem? hx)
    have ih := pet_ok h i (by omega)
    rw [pet_take hx, Nat.succ_mul]
    exact ih.stp h1 h2
theorem pet_ok' {ws : List (List Int)} {k : Nat} (h : ∀ w ∈ ws, Stp 4 w ∧ w.length ≤ k) : Ok (pet ws) (ws.length * k) := by
  have := pet_ok h ws.length (Nat.le_refl _)
  rwa [List.take_length] at this
end Pt
namespace L2
open PySem PySem.Spec PyProof.Rows Evl
/-- a tuple of a number and a list of ways -/
structure PtV (K : PySem.W.Frag) (H : Hp) (q l : Addr) (st : Int × List (List Int)) : Prop where
  ex : ∃ xs, SqT K H q [.int st.1, .ref l] ∧ H l = some (.lst xs) ∧ WkA K H xs st.2
def dPt (st : Int × List (List Int)) : PyData := .tuple [.int st.1, .list (dWs st.2)]
theorem PtV.dp {K : PySem.W.Frag} {H : Hp} {q l : Addr} {st : Int × List (List Int)} (h : PtV K H q l st) : Dp K H (.ref q) (dPt st) := by
  obtain ⟨xs, h1, h2, h3⟩ := h.ex
  exact .tup h1 (.cons (.int _) (.cons (dp_wl (l_of h2) h3) .nil))
theorem shows_pt {st : Int × List (List Int)} {b : Nat} (h : Pt.Ok st b) (hb : b ≤ 50000) : Shows (dPt st) := by
  have h1 := h.lo
  have h2 := h.hi
  have h3 := h.len
  have sm : ∀ w ∈ st.2, Sml w := fun w hw x hx => by
    obtain ⟨p, y, q, rfl, h4⟩ := h.wys w hw
    have e : x = p ∨ x = y ∨ x = q := by simpa using hx
    omega
  have l3 : ∀ w ∈ st.2, w.length ≤ 3 := fun w hw => by
    obtain ⟨p, y, q, rfl, _⟩ := h.wys w hw
    exact Nat.le_refl 3
  have bk := wks_bulk l3
  have i1 : st.1.natAbs < 10 ^ 12 := by omega
  refine Shows.of ?_ ?_ ?_ ?_ ?_
  · show (PyData.showable (.int st.1) && (PyData.showableAll (dWs st.2) && true)) = true
    rw [int_can i1, wks_can sm]
    rfl
  · show (false || (PyData.hasDictAll (dWs st.2) || false)) = false
    rw [wks_plain]
    rfl
  · have d := dWs_depth st.2
    unfold dPt
    simp only [PyData.depth, PyData.depthAll]
    omega
  · show (PyData.leavesShort 13 (.int st.1) && (PyData.leavesShortAll 13 (dWs st.2) && true)) = true
    rw [int_short i1, wks_short sm]
    rfl
  · show 0 + 1 + (PyData.bulkAll (dWs st.2) + 1 + 0) ≤ 2 ^ 20
    omega
end L2
/-! more rules: x *= y, x //= y, x -= y, divmod, list.index, two clauses, in -/
namespace L2
open PySem PySem.Spec PyProof.Rows Evl
section
variable {X : Cx}
theorem ip_mul : PIp X .Mult (rI CMul fun i j => .int (i * j)) := fun pins s σ H x y v u Q I r1 r2 h => iop_mul pins s σ H x y v u Q I r1 r2 h
theorem ip_fdiv : PIp X .FloorDiv (rI CDivW fun i j => .int (i / j)) := fun pins s σ H x y v u Q I r1 r2 h => iop_fdivW pins s σ H x y v u Q I r1 r2 h
def rDivm : List V → Hp → VK → Prop := fun xs H Q => ∃ i j, xs = [.int i, .int j] ∧ CDivW i j ∧ ∀ p, H p = none → Q (.ref p) (upd H p (.tup [.int (i / j), .int (i % j)]))
theorem divmod_K : CallR X (.builtin "divmod") rDivm := by
  intro pins s σ H xs us Q I r h
  obtain ⟨i, j, e, ⟨h1, h2⟩, q⟩ := h
  exact call_divmodW pins s σ H xs us Q I r ⟨i, j, e, ⟨h1, PyProof.noPylong_of_log2 h2⟩, q⟩
theorem mt_indexK (K : PySem.W.Frag) (h : X.K = K := by rfl) : MtR X "list.index" (rIndex K) := h ▸ mt_index
end
theorem idxOf_le : ∀ {ns : List Int} {m : Nat} {x : Int}, ns[m]? = some x → ns.idxOf x ≤ m
  | [], _, _, h => by simp at h
  | n :: ns, 0, x, h => by
    cases h
    rw [List.idxOf_cons_self]
    exact Nat.le_refl 0
  | n :: ns, m + 1, x, h => by
    have ih := idxOf_le (ns := ns) (m := m) (x := x) (by simpa using h)
    rw [List.idxOf_cons]
    cases n == x with
    | true => exact Nat.zero_le _
    | false => exact Nat.succ_le_succ ih
section
variable {K : PySem.W.Frag} {σ : L2.St} {H : Hp} {Q : VK} {D : Ends} {a : Addr} {ns : List Int} {x y : Int}
theorem r_augM {i : Nat} {f : Int → Int → V} {C : Int → Int → Prop} (hc : C x y) (h : D.nx (σ.set i (some (f x y))) H) : rAug i (.int x) (rI C f) D σ (.int y) H := ⟨x, y, rfl, rfl, hc, h⟩
theorem r_divm {b : Nat} (h : 0 < y) (hb : y.natAbs < 2 ^ b) (h0 : 0 < b) (h9 : b ≤ 9000) (q : ∀ p H1, H p = none → Ex H H1 → H1 p = some (.tup [.int (x / y), .int (x % y)]) → Q (.ref p) H1) : rDivm [.int x, .int y] H Q :=
  ⟨x, y, rfl, wide_div h hb h0 h9, alloc q⟩
/-- xs.index(x), a list of ints -/
theorem r_index (h : IL K H a ns) (hx : x ∈ ns) (q : Q (.int ((ns.idxOf x : Nat) : Int)) H) : rIndex K (.ref a) [.int x] H Q := by
  have hi := List.idxOf_lt_length_of_mem hx
  refine ⟨a, _, .int x, ns.idxOf x, .int x, rfl, rfl, h, rfl, ?_, ?_, ?_, fun m z' hm hz => ?_, q⟩
  · rw [List.all_eq_true]
    intro v hv
    obtain ⟨n, _, rfl⟩ := List.mem_map.mp hv
    rfl
  · rw [List.getElem?_map, List.getElem?_eq_getElem hi, List.getElem_idxOf]
    rfl
  · show decide (x = x) = true
    exact decide_eq_true rfl
  · rw [List.getElem?_map] at hz
    cases e : ns[m]? with
    | none => rw [e] at hz; cases hz
    | some n =>
      rw [e] at hz
      cases hz
      show decide (n = x) = false
      refine decide_eq_false fun e2 => ?_
      subst e2
      exact absurd (idxOf_le e) (by omega)
/-- x in xs, a list of ints -/
theorem inV_int (x : Int) (ns : List Int) : inV (.int x) (ns.map V.int) = decide (x ∈ ns) := by
  unfold inV
  induction ns with
  | nil => rfl
  | cons n ns ih =>
    rw [List.map_cons, List.any_cons, ih]
    show ((n == x) || decide (x ∈ ns)) = _
    by_cases e : n = x
    · subst e; simp
    · have e2 : ¬ x = n := fun z => e z.symm
      simp [e, e2]
theorem flat_ints (ns : List Int) : (ns.map V.int).all flatV = true := by
  rw [List.all_eq_true]
  intro v hv
  obtain ⟨n, _, rfl⟩ := List.mem_map.mp hv
  rfl
theorem r_inL (h : IL K H a ns) (q : Q (.bl (decide (x ∈ ns))) H) : rIn K false (.int x) (.ref a) H Q :=
  ⟨a, _, rfl, .inl h, rfl, flat_ints ns, by rw [if_neg (by decide), inV_int]; exact q⟩
theorem r_ninL (h : IL K H a ns) (q : Q (.bl (!decide (x ∈ ns))) H) : rIn K true (.int x) (.ref a) H Q :=
  ⟨a, _, rfl, .inl h, rfl, flat_ints ns, by rw [if_pos rfl, inV_int]; exact q⟩
end
/-! ### two clauses -/
def rLc2 (J : It) (g : TG) (tt : TT) (wi1 : TI) (g1 : TG) (tt1 : TT) (te : TE) (vs vs1 : List Nat) (σ : L2.St) (Q : VK) (H1 : Hp) : Prop := ∀ D, H1 D = none → ∃ W : Nat → Nat → Hp → Prop, (∃ m, W 0 m (upd H1 D (.lst []))) ∧ ∀ i m H, W i m H →
  (J.stop i H ∧ Q (.ref D) H) ∨ (J.go i H ∧ ∃ Nx : Hp → Prop, (∀ H', Nx H' → ∃ m', m' < m ∧ W (i + 1) m' H') ∧ ∀ x H', J.yld i H x H' → g x (wipe σ vs) H' fun σ2 H2 => wipe σ2 vs = wipe σ vs ∧ tt σ2 H2 fun b H3 =>
    if b = true then wi1 σ2 H3 fun J1 H4 => ∃ W1 : Nat → Nat → Hp → Prop, (∃ m, W1 0 m H4) ∧ ∀ j k H, W1 j k H →
      (J1.stop j H ∧ Nx H) ∨ (J1.go j H ∧ ∃ Nx1 : Hp → Prop, (∀ H', Nx1 H' → ∃ k', k' < k ∧ W1 (j + 1) k' H') ∧ ∀ x H', J1.yld j H x H' → g1 x (wipe σ2 vs1) H' fun σ3 H5 => wipe σ3 vs1 = wipe σ2 vs1 ∧ tt1 σ3 H5 fun b H6 =>
        if b = true then te σ3 H6 fun y H7 => ∃ acc, H7 D = some (.lst acc) ∧ acc.length < sizeLine ∧ Nx1 (upd H7 D (.lst (acc ++ [y]))) else Nx1 H6)
    else Nx H3)
theorem st_lc2 {wi : TI} {g : TG} {tt : TT} {wi1 : TI} {g1 : TG} {tt1 : TT} {te : TE} {vs vs1 : List Nat} {σ : L2.St} {H : Hp} {Q : VK} (h : wi σ H fun J H1 => rLc2 J g tt wi1 g1 tt1 te vs vs1 σ Q H1) : tLc2 wi g tt wi1 g1 tt1 te vs vs1 σ H Q := h
section
variable {K : PySem.W.Frag} {σ : L2.St} {H : Hp} {Q : VK} {vs vs1 : List Nat} {j j1 m : Nat} {lo : Int} {wi1 : TI} {te : TE}
theorem t_yes {R : Bool → Hp → Prop} (h : R true H) : tYes σ H R := h
def flat (f : Nat → List V) (i : Nat) : List V := (List.range i).flatMap f
theorem flat_succ (f : Nat → List V) (i : Nat) : flat f (i + 1) = flat f i ++ f i := by
  unfold flat
  rw [List.range_succ, List.flatMap_append]
  simp
/-- [e for i in range(..) for x in (.., ..)], the turns change nothing; f i: what is told at the turn i -/
theorem r_lc2R (f : Nat → List V) (hf : ∀ i, i ≤ m → (flat f i).length ≤ 10000) (hk : ∀ i, i < m → (f i).length ≤ 10000) (hw : ∀ x, wipe ((wipe σ vs).set j (some x)) vs = wipe σ vs) (hw1 : ∀ x y, wipe ((wipe ((wipe σ vs).set j (some x)) vs1).set j1 (some y)) vs1 = wipe ((wipe σ vs).set j (some x)) vs1)
    (h1 : ∀ (i : Nat) (H1 : Hp) (R : It → Hp → Prop), i < m → Ex H H1 → (∀ a H2, Ex H1 H2 → SqT K H2 a (f i) → R (Itt K a) H2) → wi1 ((wipe σ vs).set j (some (.int (lo + (i : Int))))) H1 R)
    (he : ∀ (i : Nat) (y : V) (H1 : Hp) (Q' : VK), i < m → y ∈ f i → Ex H H1 → (∀ H2, Ex H1 H2 → Q' y H2) → te ((wipe ((wipe σ vs).set j (some (.int (lo + (i : Int))))) vs1).set j1 (some y)) H1 Q')
    (q : ∀ p H1, H p = none → Ex H H1 → H1 p = some (.lst (flat f m)) → Q (.ref p) H1) : rLc2 (Itr lo m) (gName j) tYes wi1 (gName j1) tYes te vs vs1 σ Q H := fun D hD => by
  refine ⟨fun i d H' => d = m - i ∧ i ≤ m ∧ Ex H H' ∧ H' D = some (.lst (flat f i)), ⟨m, by simp, Nat.zero_le _, Ex.new hD, upd_same⟩, ?_⟩
  rintro i d H' ⟨rfl, hi, e, h⟩
  rcases Nat.lt_or_ge i m with lt | ge
  · refine .inr ⟨lt, fun H'' => Ex H H'' ∧ H'' D = some (.lst (flat f (i + 1))), fun H'' p => ⟨m - (i + 1), by omega, rfl, lt, p⟩, ?_⟩
    rintro x H'' ⟨rfl, rfl⟩
    refine ⟨hw _, t_yes ?_⟩
    dsimp only
    rw [if_pos rfl]
    refine h1 i _ _ lt e fun a H4 e4 ha => ?_
    refine ⟨fun k d H' => d = (f i).length - k ∧ k ≤ (f i).length ∧ Ex H H' ∧ SqT K H' a (f i) ∧ H' D = some (.lst (flat f i ++ (f i).take k)), ⟨(f i).length, by simp, Nat.zero_le _, e.trans e4, ha, by rw [List.take_zero, List.append_nil]; exact e4 _ _ h⟩, ?_⟩
    rintro k d H5 ⟨rfl, hk', e5, ha5, h5⟩
    rcases Nat.lt_or_ge k (f i).length with lt2 | ge2
    · have hx := List.getElem?_eq_getElem lt2
      refine .inr ⟨⟨_, _, ha5, hx⟩, fun H'' => Ex H H'' ∧ SqT K H'' a (f i) ∧ H'' D = some (.lst (flat f i ++ (f i).take (k + 1))), fun H'' p => ⟨(f i).length - (k + 1), by omega, rfl, lt2, p⟩, ?_⟩
      rintro y H6 ⟨rfl, hy⟩
      have hy' := hy _ ha5
      refine ⟨hw1 _ _, t_yes ?_⟩
      dsimp only
      rw [if_pos rfl]
      refine he i y H6 _ lt (List.mem_of_getElem? hy') e5 fun H7 e7 => ?_
      have h7 := e7 _ _ h5
      have z1 := hf i hi
      have z2 := hk i lt
      refine ⟨_, h7, sz_lt (by rw [List.length_append, List.length_take]; omega), Ex.mut (e5.trans e7) hD, ?_, ?_⟩
      · exact tx_t (TX.upd h7) (ex_t e7 ha5)
      · rw [upd_same, take_snoc hy', List.append_assoc]
    · have e2 : k = (f i).length := by omega
      subst e2
      refine .inl ⟨⟨_, ha5, Nat.le_refl _⟩, e5, ?_⟩
      rw [h5, List.take_length, flat_succ]
  · have e2 : i = m := by omega
    subst e2
    exact .inl ⟨Nat.le_refl _, q D H' hD e h⟩
end
/-! ### [e for x in ints if t], the turns change nothing -/
section
variable {K : PySem.W.Frag} {σ : L2.St} {H : Hp} {Q : VK} {a : Addr} {ns : List Int} {vs : List Nat} {j : Nat} {tt : TT} {te : TE}
theorem r_cmIF (hl : IL K H a ns) (f : Int → Bool) (v : Int → V) (hz : ns.length ≤ 10000) (hw : ∀ x, wipe ((wipe σ vs).set j (some x)) vs = wipe σ vs)
    (ht : ∀ x, x ∈ ns → ∀ (H1 : Hp) (R : Bool → Hp → Prop), Ex H H1 → (∀ H2, Ex H1 H2 → R (f x) H2) → tt ((wipe σ vs).set j (some (.int x))) H1 R)
    (he : ∀ x, x ∈ ns → f x = true → ∀ (H1 : Hp) (Q' : VK), Ex H H1 → (∀ H2, Ex H1 H2 → Q' (v x) H2) → te ((wipe σ vs).set j (some (.int x))) H1 Q')
    (q : ∀ p H1, H p = none → Ex H H1 → H1 p = some (.lst ((ns.filter f).map v)) → Q (.ref p) H1) : rLc (Itl K a) (gName j) tt te vs σ Q H := by
  refine r_cmLA (xs := ns.map V.int) (fun i acc H' => Ex H H' ∧ acc = ((ns.take i).filter f).map v) (by rw [List.length_map]; omega) hw (fun i ys H' p => ex_l p.1 hl) (fun D hD o => ⟨Ex.new hD, rfl⟩) (fun i x H1 D acc hx hz' hacc p hall => ?_) fun D H1 ys hD h p _ => ?_
  · obtain ⟨e, rfl⟩ := p
    have hD : H D = none := ex_none fun o => (hall o).1
    rw [List.getElem?_map] at hx
    cases hn : ns[i]? with
    | none => rw [hn] at hx; cases hx
    | some n =>
      rw [hn] at hx
      cases hx
      have hi := (List.getElem?_eq_some_iff.mp hn).1
      have hm := List.mem_of_getElem? hn
      have tk := take_snoc hn
      refine ht n hm H1 _ e fun H2 e2 => ?_
      cases hf : f n with
      | true =>
        refine if_T (he n hm hf H2 _ (e.trans e2) fun H3 e3 => ?_)
        refine cm_yes ((e2.trans e3) _ _ hacc) hz' (by omega) fun o => ⟨ex_put ((e.trans e2).trans e3) hD, ?_⟩
        rw [tk, List.filter_append, List.map_append, List.filter_cons_of_pos hf, List.filter_nil]
        rfl
      | false =>
        refine if_F (cm_no (e2 _ _ hacc) hz' fun o => ⟨ex_put (e.trans e2) hD, ?_⟩)
        rw [tk, List.filter_append, List.map_append, List.filter_cons_of_neg (by rw [hf]; decide), List.filter_nil, List.map_nil, List.append_nil]
  · obtain ⟨e, rfl⟩ := p
    rw [List.length_map, List.take_length] at h
    exact q D H1 hD e h
end
/-- a method of a list -/
theorem r_met {K : PySem.W.Frag} {r : V → List V → Hp → VK → Prop} {t : TA} {σ : L2.St} {a : Addr} {xs : List V} {H : Hp} {Q : VK} (h : SqL K H a xs) (q : t σ H fun us H2 => r (.ref a) us H2 Q) : rApp K "list" r t σ (.ref a) H Q := ⟨.inl ⟨rfl, xs, h⟩, q⟩
/-- draws from up to 2 ^ 220 -/
def spTakeW : Sp := fun vs H Q _ => ∃ w n m, vs = [.ref w, .int m] ∧ 0 < m ∧ m < 2 ^ 220 ∧ Well H w n ∧ n < 2 ^ 30 ∧ ∀ r H', 0 ≤ r → r < m → ExW w H H' → Well H' w (n + 1) → Q (.int r) H'
/-- the last of a sequence, as a sequence -/
theorem cut_last {ns : List Int} : cutV (ns.map V.int) (some (-1)) none = (ns.drop (ns.length - 1)).map V.int := by
  rw [cut_map, HT.sIx_none]
  have e : HT.sIx ns.length 0 (some (-1)) = ns.length - 1 := by
    show (if (-1 : Int) < 0 then ((-1 : Int) + (ns.length : Int)).toNat else min (-1 : Int).toNat ns.length) = ns.length - 1
    rw [if_pos (by decide)]
    omega
  rw [e, List.take_of_length_le (by rw [List.length_drop]; exact Nat.le_refl _)]
/-! ### ranges downward -/
section
variable {σ : L2.St} {H : Hp} {D : Ends} {g : TG} {tb : TS} {ta : TA} {R : It → Hp → Prop} {i j lo c : Int} {m : Nat}
def rRng3 (vs : List V) (R : It → Hp → Prop) (H1 : Hp) : Prop := ∃ (i j c : Int) (n : Nat), vs = [.int i, .int j, .int c] ∧ RgC i j c n ∧ R (Itc i c n) H1
theorem st_rng3 (h : ta σ H fun us H1 => rRng3 us R H1) : iRng3 ta σ H R := h
theorem r_rngD (h : -(2 ^ 62) ≤ i ∧ i < 2 ^ 62 ∧ -(2 ^ 62) ≤ j ∧ j < 2 ^ 62) (q : R (Itc i (-1) (i - j).toNat) H) : rRng3 [.int i, .int j, .int (-1)] R H := ⟨i, j, -1, _, rfl, RgC.neg h.1 h.2.1 h.2.2.1 h.2.2.2, q⟩
theorem r_forC (Pv : Nat → L2.St → Hp → Prop) (h0 : Pv 0 σ H) (hs : ∀ i σ' H', i < m → Pv i σ' H' → g (.int (lo + (i : Nat) * c)) σ' H' fun σ2 H2 => tb { D with nx := Pv (i + 1), ct := Pv (i + 1), bk := D.nx } σ2 H2)
    (hd : ∀ σ' H', Pv m σ' H' → D.nx σ' H') : rFor (Itc lo c m) g tb D σ H := for_rangeC (lo := lo) (c := c) (n := m) Pv h0 hs hd
end
/-! ### the same over a tuple -/
section
variable {K : PySem.W.Frag} {σ : L2.St} {H : Hp} {Q : VK} {a : Addr} {xs : List V} {ns : List Int} {vs : List Nat} {j : Nat} {tt : TT} {te : TE}
theorem r_cmTA (S : Nat → List V → Hp → Prop) (hz : xs.length ≤ 100000) (hw : ∀ x, wipe ((wipe σ vs).set j (some x)) vs = wipe σ vs) (hl : ∀ i ys H', S i ys H' → SqT K H' a xs)
    (h0 : ∀ D, H D = none → ∀ o, S 0 [] (upd H D o))
    (he : ∀ i x H1 D acc, xs[i]? = some x → acc.length ≤ i → H1 D = some (.lst acc) → S i acc H1 → (∀ o, S i acc (upd H1 D o)) →
      tt ((wipe σ vs).set j (some x)) H1 fun b H2 => if b = true then te ((wipe σ vs).set j (some x)) H2 (fun y H3 => CmY S D i y H3) else CmP S D (i + 1) H2)
    (q : ∀ D H1 ys, H D = none → H1 D = some (.lst ys) → S xs.length ys H1 → (∀ o, S xs.length ys (upd H1 D o)) → Q (.ref D) H1) : rLc (Itt K a) (gName j) tt te vs σ Q H := fun D hD => by
  have at1 : ∀ {i : Nat} {ys : List V} {H' : Hp}, (∀ o, S i ys (upd H' D o)) → H' D = some (.lst ys) → S i ys H' := fun {i ys H'} h e => by
    have z := h (.lst ys)
    rw [upd_id e] at z
    exact z
  refine lc_tup (K := K) (a := a) (xs := xs) (fun i H' => CmP S D i H') ⟨[], Nat.le_refl _, fun o => by rw [upd_upd]; exact h0 D hD o, upd_same⟩ (fun i H' _ p => ?_) (fun i x H' hx p => ⟨hw x, ?_⟩) (fun H' p => ?_)
  · obtain ⟨ys, h1, h2, h3⟩ := p
    exact hl i ys H' (at1 h2 h3)
  · obtain ⟨ys, h1, h2, h3⟩ := p
    exact he i x H' D ys hx h1 h3 (at1 h2 h3) h2
  · obtain ⟨ys, h1, h2, h3⟩ := p
    exact q D H' ys hD h3 (at1 h2 h3) h2
theorem r_cmIFt (hl : IT K H a ns) (f : Int → Bool) (v : Int → V) (hz : ns.length ≤ 10000) (hw : ∀ x, wipe ((wipe σ vs).set j (some x)) vs = wipe σ vs)
    (ht : ∀ x, x ∈ ns → ∀ (H1 : Hp) (R : Bool → Hp → Prop), Ex H H1 → (∀ H2, Ex H1 H2 → R (f x) H2) → tt ((wipe σ vs).set j (some (.int x))) H1 R)
    (he : ∀ x, x ∈ ns → f x = true → ∀ (H1 : Hp) (Q' : VK), Ex H H1 → (∀ H2, Ex H1 H2 → Q' (v x) H2) → te ((wipe σ vs).set j (some (.int x))) H1 Q')
    (q : ∀ p H1, H p = none → Ex H H1 → H1 p = some (.lst ((ns.filter f).map v)) → Q (.ref p) H1) : rLc (Itt K a) (gName j) tt te vs σ Q H := by
  refine r_cmTA (xs := ns.map V.int) (fun i acc H' => Ex H H' ∧ acc = ((ns.take i).filter f).map v) (by rw [List.length_map]; omega) hw (fun i ys H' p => ex_t p.1 hl) (fun D hD o => ⟨Ex.new hD, rfl⟩) (fun i x H1 D acc hx hz' hacc p hall => ?_) fun D H1 ys hD h p _ => ?_
  · obtain ⟨e, rfl⟩ := p
    have hD : H D = none := ex_none fun o => (hall o).1
    rw [List.getElem?_map] at hx
    cases hn : ns[i]? with
    | none => rw [hn] at hx; cases hx
    | some n =>
      rw [hn] at hx
      cases hx
      have hi := (List.getElem?_eq_some_iff.mp hn).1
      have hm := List.mem_of_getElem? hn
      have tk := take_snoc hn
      refine ht n hm H1 _ e fun H2 e2 => ?_
      cases hf : f n with
      | true =>
        refine if_T (he n hm hf H2 _ (e.trans e2) fun H3 e3 => ?_)
        refine cm_yes ((e2.trans e3) _ _ hacc) hz' (by omega) fun o => ⟨ex_put ((e.trans e2).trans e3) hD, ?_⟩
        rw [tk, List.filter_append, List.map_append, List.filter_cons_of_pos hf, List.filter_nil]
        rfl
      | false =>
        refine if_F (cm_no (e2 _ _ hacc) hz' fun o => ⟨ex_put (e.trans e2) hD, ?_⟩)
        rw [tk, List.filter_append, List.map_append, List.filter_cons_of_neg (by rw [hf]; decide), List.filter_nil, List.map_nil, List.append_nil]
  · obtain ⟨e, rfl⟩ := p
    rw [List.length_map, List.take_length] at h
    exact q D H1 hD e h
end
theorem at_lastV {xs : List V} {x : V} (h : 0 < xs.length) (hx : xs[xs.length - 1]? = some x) : atI xs (-1) = some x := by
  have e : ixN xs.length (-1) = some (xs.length - 1) := by
    unfold ixN
    rw [if_neg (by decide), if_pos (by omega)]
    congr 1
    omega
  unfold atI
  rw [e]
  exact hx
end L2
/-! [e for x, y, z in zip(xs, ys, zs)], xs.extend(ys) -/
namespace L2
open PySem PySem.Spec PyProof.Rows Evl
theorem upd_comm {H : Hp} {a b : Addr} {o u : HO} (h : a ≠ b) : upd (upd H a o) b u = upd (upd H b u) a o := by
  funext x
  by_cases e1 : x = a
  · subst e1
    rw [upd_ne h, upd_same, upd_same]
  · by_cases e2 : x = b
    · subst e2
      rw [upd_same, upd_ne e1, upd_same]
    · rw [upd_ne e2, upd_ne e1, upd_ne e1, upd_ne e2]
section
variable {K : PySem.W.Frag} {σ : L2.St} {H : Hp} {Q : VK} {a b c : Addr} {xs ys zs : List V} {vs : List Nat} {m n o : Nat} {tt : TT} {te : TE} {k1 k2 k3 : SK}
theorem r_cmZ3A {N : Nat} (hN : min (min xs.length ys.length) zs.length = N) (S : Nat → List V → Hp → Prop) (hz : N ≤ 100000) (hw : ∀ x y z, wipe ((((wipe σ vs).set m (some x)).set n (some y)).set o (some z)) vs = wipe σ vs)
    (hl : ∀ i us H', S i us H' → k1.Sq K H' a xs ∧ k2.Sq K H' b ys ∧ k3.Sq K H' c zs) (hx : ∀ i us H' H1, S i us H' → Ex H' H1 → S i us H1)
    (h0 : ∀ D, H D = none → ∀ u, S 0 [] (upd H D u))
    (he : ∀ i x y z H1 D acc, xs[i]? = some x → ys[i]? = some y → zs[i]? = some z → acc.length ≤ i → H1 D = some (.lst acc) → S i acc H1 → (∀ u, S i acc (upd H1 D u)) →
      tt ((((wipe σ vs).set m (some x)).set n (some y)).set o (some z)) H1 fun b H2 => if b = true then te ((((wipe σ vs).set m (some x)).set n (some y)).set o (some z)) H2 (fun y H3 => CmY S D i y H3) else CmP S D (i + 1) H2)
    (q : ∀ D H1 us, H D = none → H1 D = some (.lst us) → S N us H1 → (∀ u, S N us (upd H1 D u)) → Q (.ref D) H1) : rLc (ItZ3 k1 k2 k3 K a b c) (gTup K 3 (gCons (gName m) (gCons (gName n) (gCons (gName o) gNil)))) tt te vs σ Q H := fun D hD => by
  have at1 : ∀ {i : Nat} {us : List V} {H' : Hp}, (∀ u, S i us (upd H' D u)) → H' D = some (.lst us) → S i us H' := fun {i us H'} h e => by
    have z := h (.lst us)
    rw [upd_id e] at z
    exact z
  refine ⟨fun i d H' => d = N - i ∧ i ≤ N ∧ CmP S D i H', ⟨_, rfl, Nat.zero_le _, [], Nat.le_refl _, fun u => by rw [upd_upd]; exact h0 D hD u, upd_same⟩, ?_⟩
  rintro i d H' ⟨rfl, hi, us, h1, h2, h3⟩
  have hq := hl i us H' (at1 h2 h3)
  rcases Nat.lt_or_ge i N with lt | ge
  · have ex := List.getElem?_eq_getElem (show i < xs.length by omega)
    have ey := List.getElem?_eq_getElem (show i < ys.length by omega)
    have ez := List.getElem?_eq_getElem (show i < zs.length by omega)
    refine .inr ⟨⟨xs, ys, zs, _, _, _, hq, ex, ey, ez⟩, CmP S D (i + 1), fun H1 q1 => ⟨N - (i + 1), by omega, rfl, lt, q1⟩, ?_⟩
    rintro v H1 ⟨T, x, y, z, rfl, hT, rfl, e1, e2, e3⟩
    have ne : T ≠ D := fun z => by rw [z, h3] at hT; cases hT
    have s2 : ∀ u, S i us (upd (upd H' T (.tup [x, y, z])) D u) := fun u => by
      rw [upd_comm ne]
      exact hx _ _ _ _ (h2 u) (Ex.new (by rw [upd_ne ne]; exact hT))
    have d2 : upd H' T (.tup [x, y, z]) D = some (.lst us) := by rw [upd_ne ne.symm]; exact h3
    refine r_tup3 (t_of upd_same) ⟨hw x y z, ?_⟩
    exact he i x y z _ D us (e1 xs hq.1) (e2 ys hq.2.1) (e3 zs hq.2.2) h1 d2 (at1 s2 d2) s2
  · have e : i = N := by omega
    subst e
    exact .inl ⟨⟨xs, ys, zs, hq, hN⟩, q D H' us hD h3 (at1 h2 h3) h2⟩
theorem r_ext {t : TA} (h : SqL K H a xs) (q : t σ H fun us H2 => rExtend (.ref a) us H2 Q) : rApp K "list" rExtend t σ (.ref a) H Q := ⟨.inl ⟨rfl, xs, h⟩, q⟩
theorem r_extd (h : H a = some (.lst xs)) (hb : H b = some (.lst ys)) (hz : xs.length + ys.length ≤ 100000) (q : ∀ H1, ExW a H H1 → H1 a = some (.lst (xs ++ ys)) → Q .non H1) : rExtend (.ref a) [.ref b] H Q := ⟨a, b, xs, ys, rfl, rfl, h, hb, sz_of hz, q _ ExW.upd upd_same⟩
end
end L2
namespace Lw
open PySem PySem.Spec PyProof.Rows L2 Evl

local macro_rules | `(tactic| walk_at "go") => `(tactic| repeat (first
  | with_reducible refine st_seq ?_ | with_reducible refine st_set ?_ | with_reducible refine st_asg ?_ | with_reducible refine st_ret ?_ | with_reducible refine st_drop ?_ | with_reducible refine st_if ?_
  | with_reducible refine st_c ?_ | ((with_reducible refine' st_v ?h ?_); (case h => exact rfl)) | with_reducible refine st_n ?_ | with_reducible refine st_cons ?_ | with_reducible refine st_op ?_ | with_reducible refine st_un ?_
  | with_reducible refine st_cb ?_ | with_reducible refine st_test ?_ | with_reducible refine st_call ?_ | with_reducible refine st_callK ?_ | with_reducible refine st_sl ?_ | with_reducible refine st_par ?_ | with_reducible refine st_par3 ?_ | with_reducible refine st_tru ?_
  | with_reducible refine st_and ?_ | with_reducible refine st_or ?_ | with_reducible refine st_not ?_ | with_reducible refine st_B ?_ | with_reducible refine st_andV ?_ | with_reducible refine st_orV ?_ | with_reducible refine st_notV ?_ | with_reducible refine st_ifE ?_
  | with_reducible refine st_part ?_ | with_reducible refine st_nop ?_ | with_reducible refine st_sub ?_ | with_reducible refine st_chain ?_ | with_reducible refine st_bl ?_ | with_reducible refine st_in ?_ | with_reducible refine r_truB ?_
  | with_reducible refine st_nameG ?_ | with_reducible refine if_T ?_ | with_reducible refine if_F ?_ | with_reducible refine if_nT ?_ | with_reducible refine if_nF ?_
  | with_reducible refine r_add ?_ | with_reducible refine r_0 ?_ | with_reducible refine r_neg ?_ | with_reducible refine r_intI ?_ | with_reducible refine r_intB ?_ | with_reducible refine r_abs ?_ | with_reducible refine r_max2 ?_ | with_reducible refine r_min2 ?_ | with_reducible refine r_eqI ?_ | with_reducible refine r_neI ?_
  | with_reducible refine st_nxt ?_ | with_reducible refine st_cnt ?_ | with_reducible refine st_brk ?_ | with_reducible refine st_retn ?_
  | with_reducible refine st_lstN ?_ | with_reducible refine st_tupN ?_
  | with_reducible refine st_for ?_ | with_reducible refine st_lc ?_ | with_reducible refine st_lc2 ?_ | with_reducible refine st_rng1 ?_ | with_reducible refine st_rng2 ?_ | with_reducible refine st_rng3 ?_ | with_reducible refine st_itL ?_ | with_reducible refine st_itT ?_ | with_reducible refine st_rev ?_ | with_reducible refine st_enumE ?_ | with_reducible refine st_zip3 ?_ | with_reducible refine st_lvals ?_ | with_reducible refine st_fld ?_ | with_reducible refine st_sfld ?_ | with_reducible refine st_meth ?_ | with_reducible refine st_make ?_ | with_reducible refine st_rg1 ?_ | with_reducible refine st_enumS ?_ | with_reducible refine st_dg1 ?_ | with_reducible refine st_dg2 ?_ | with_reducible refine st_dpop ?_ | with_reducible refine st_dset ?_ | with_reducible refine st_dc ?_ | with_reducible refine st_keys ?_ | with_reducible refine st_dget ?_ | with_reducible refine st_din ?_ | with_reducible refine st_dnin ?_ | with_reducible refine st_dput ?_ | with_reducible refine st_dnew ?_ | with_reducible refine st_lstRg ?_ | with_reducible refine st_rg2 ?_ | with_reducible refine r_twoI ?_ | with_reducible refine st_bm ?_ | with_reducible refine st_bm0 ?_
  | ((with_reducible refine' st_aug ?h ?_); (case h => exact rfl)) | with_reducible refine r_augI ?_ | with_reducible refine r_eqB ?_
  | dsimp only))
section
variable {P : Program} {w : World} {K : PySem.W.Frag} {mg : Str → Option Value} {base : Heap} {A : Ad}

def sp_ways_along (K : PySem.W.Frag) : Sp := fun vs H Q _ => ∃ a u n, vs = [.ref a, .int 0, .int 0, .int n] ∧ IT K H a u ∧ u.length ≤ 400 ∧ 1 ≤ n ∧ n ≤ 100000 ∧ ∀ p ys H1, H p = none → Ex H H1 → H1 p = some (.lst ys) → WkA K H1 ys (Pt.ring n u u.length) → Q (.ref p) H1
theorem ok_ways_along (T : Tx K mg A) : FnOk P w K mg base CX0 1 A.a_ways_along A.f_ways_along P_ways_along (sp_ways_along K) := by
  refine T.F_ways_along.ok sc_ways_along (fun vs H Q E h => ?_) (fun cdv A' outer s H vs Q E hr h => ?_)
  · obtain ⟨a, u, n, rfl, _⟩ := h
    rfl
  · obtain ⟨a, u, n, rfl, h2, zs, b1, b2, q⟩ := h
    refine ⟨_, (pss_cons (ps_set (i := 4) sc_ways_along.nd rfl (Or.inl rfl) (pe_op (op_addK K) (pe_op (op_addK K) (pe_lst (pa_cons (pv 1) pa_nil)) (pe_listRg rfl (by rfl) T.n_list (prg_2 (by rfl) T.n_range (pv 3) (pe_op op_sub (pe_op (op_addK K) (pv 3) (pe_callB (len_K K) (by rfl) T.n_len (by decide +kernel) (pa_cons (pv 0) pa_nil))) pe_int)))) (pe_lst (pa_cons (pv 2) pa_nil))))
      (pss_one (ps_ret (pe_lc (own := [("step", 5), ("room", 6), ("ahead", 7)]) rfl sc_ways_along.nd (pi_zip3 K skT skL skL (by rfl) T.n_zip (pa_cons (pv 0) (pa_cons (pv 4) (pa_cons (pe_slice (sl_K K) (pv 4) (po_some pe_int) po_none) pa_nil)))) (blkOk_by (own := [("step", 5), ("room", 6), ("ahead", 7)]) (N := N_ways_along) (sc := defScope s_ways_along) (by decide +kernel)) (fun _ _ _ _ _ => (pg_tupK (n := 3) K (by rfl) (pgs_cons (pg_name (i := 5) sc_ways_along.nd rfl (Or.inl rfl)) (pgs_cons (pg_name (i := 6) sc_ways_along.nd rfl (Or.inl rfl)) (pgs_cons (pg_name (i := 7) sc_ways_along.nd rfl (Or.inl rfl)) pgs_nil))) (by kernel_rfl) (by kernel_rfl))) (fun _ _ _ _ _ => pts_nil) (fun _ _ _ _ _ => (pe_cutE (pe_ifExp (pt_cmpR op_gt (pv 5) pe_int (nomark _)) (pe_tup (pa_cons (pv 6) (pa_cons (pv 5) (pa_cons (pv 7) pa_nil)))) (pe_tup (pa_cons (pv 7) (pa_cons (pe_un un_neg (pv 5)) (pa_cons (pv 6) pa_nil))))))))))), ?_⟩
    walk_at "go"
    refine r_newL (by simp) fun d1 H3 _ e3 k3 => ?_
    walk_at "go"
    refine r_lenT (ex_t e3 h2) ?_
    rw [List.length_map]
    walk_at "go"
    refine r_lstRg (by omega) (by omega) (by omega) (by omega) fun d2 H4 _ e4 k4 => ?_
    walk_at "go"
    have zr : (rgI n (n + (u.length : Int) - 1)).length ≤ 400 := by rw [rgI_len]; omega
    refine r_catL (e4 _ _ k3) k4 (by rw [List.length_map]; simp; omega) fun d3 H5 _ e5 k5 => ?_
    walk_at "go"
    refine r_newL (by simp) fun d4 H6 _ e6 k6 => ?_
    walk_at "go"
    refine r_catL (e6 _ _ k5) k6 (by rw [List.length_append, List.length_map]; simp; omega) fun P H7 hP e7 k7 => ?_
    have kP : H7 P = some (.lst ((Pt.places n u.length).map V.int)) := by
      rw [k7]
      unfold Pt.places
      rw [List.map_append, List.map_append]
      rfl
    have e8 := (((e3.trans e4).trans e5).trans e6).trans e7
    have s7 := ex_t e8 h2
    clear k3 k4 k5 k6 k7 e3 e4 e5 e6 e7 zr
    walk_at "go"
    refine r_slL (l_of kP) fun P2 H8 hP2 e10 k8 => ?_
    rw [cut_from (by decide)] at k8
    walk_at "go"
    have s8 := ex_t e10 s7
    have kP8 := e10 _ _ kP
    have e11 := e8.trans e10
    clear e8 e10 kP s7
    have lp := Pt.places_len n u.length
    refine r_zip3 (k1 := skT) (k2 := skL) (k3 := skL) s8 (l_of kP8) (l_of k8) (r_cmZ3A (k1 := skT) (k2 := skL) (k3 := skL) (N := u.length) (xs := u.map V.int) (ys := (Pt.places n u.length).map V.int) (zs := ((Pt.places n u.length).drop 1).map V.int)
      (by rw [List.length_map, List.length_map, List.length_map, List.length_drop]; omega)
      (fun i ys H' => Ex H8 H' ∧ WkA K H' ys (Pt.ring n u i)) (by omega) (fun _ _ _ => rfl) (fun i ys H' p => ⟨ex_t p.1 s8, ex_l p.1 (l_of kP8), ex_l p.1 (l_of k8)⟩) (fun i ys H' H1 p e => ⟨p.1.trans e, p.2.ex e⟩) (fun D hD o => ⟨Ex.new hD, WkA.nil⟩)
      (fun i x y z H1 D acc hx hy hz zacc hD p pall => ?_) fun D H1 ys hD h1 p _ => q D ys H1 (fresh_back e11 hD) (e11.trans p.1) h1 p.2)
    rw [List.getElem?_map] at hx hy hz
    cases hx1 : u[i]? with
    | none => rw [hx1] at hx; cases hx
    | some x1 =>
    cases hy1 : (Pt.places n u.length)[i]? with
    | none => rw [hy1] at hy; cases hy
    | some y1 =>
    cases hz1 : ((Pt.places n u.length).drop 1)[i]? with
    | none => rw [hz1] at hz; cases hz
    | some z1 =>
    rw [hx1] at hx
    rw [hy1] at hy
    rw [hz1] at hz
    cases hx
    cases hy
    cases hz
    have eqw : Pt.way n u i = Pt.wy y1 z1 x1 := by
      unfold Pt.way
      rw [List.getElem?_drop, Nat.add_comm] at hz1
      rw [List.getD_eq_getElem?_getD, List.getD_eq_getElem?_getD, List.getD_eq_getElem?_getD, hx1, hy1, hz1]
      rfl
    have li := (List.getElem?_eq_some_iff.mp hx1).1
    have hD8 : H8 D = none := ex_none fun o => (pall o).1
    have fin : ∀ (f : Addr) (H10 : Hp), Ex H1 H10 → IT K H10 f (Pt.wy y1 z1 x1) → CmY (fun i ys H' => Ex H8 H' ∧ WkA K H' ys (Pt.ring n u i)) D i (.ref f) H10 := fun f H10 e h => by
      refine cm_yes (e _ _ hD) zacc (by omega) fun o => ⟨ex_put (p.1.trans e) hD8, ?_⟩
      rw [Pt.ring_succ, eqw]
      have tx : TX H10 (upd H10 D o) := TX.upd (e _ _ hD)
      exact ((p.2.ex e).tx tx).snoc ⟨f, rfl, tx_t tx h⟩
    refine t_yes (if_T ?_)
    walk_at "go"
    refine st_cutE (fun v H' => Ex H1 H' ∧ WkV K H' v (Pt.wy y1 z1 x1)) ?_ ?_
    · walk_at "go"
      refine if_2 (fun h0 => ?_) fun h0 => ?_
      · walk_at "go"
        refine r_newT (by simp) fun f H10 _ e13 h10 => ?_
        refine ⟨e13, f, rfl, t_of ?_⟩
        rw [h10]
        unfold Pt.wy
        rw [if_pos (by omega)]
        rfl
      · walk_at "go"
        refine r_newT (by simp) fun f H10 _ e13 h10 => ?_
        refine ⟨e13, f, rfl, t_of ?_⟩
        rw [h10]
        unfold Pt.wy
        rw [if_neg (by omega)]
        rfl
    · rintro v H10 ⟨e13, f, rfl, hf⟩
      exact fin f H10 e13 hf
def sp_petals_of (K : PySem.W.Frag) : Sp := fun vs H Q _ => ∃ a xs ws, vs = [.ref a] ∧ SqL K H a xs ∧ WkA K H xs ws ∧ ws.length ≤ 100 ∧ (∀ u ∈ ws, u.length ≤ 400 ∧ Stp 4 u) ∧ ∀ q l H1, Ex H H1 → H q = none → H l = none → PtV K H1 q l (Pt.pet ws) → Q (.ref q) H1
theorem ok_petals_of (T : Tx K mg A) : FnOk P w K mg base CX0 2 A.a_petals_of A.f_petals_of P_petals_of (sp_petals_of K) := by
  refine T.F_petals_of.ok sc_petals_of (fun vs H Q E h => ?_) (fun cdv A' outer s H vs Q E hr h => ?_)
  · obtain ⟨a, xs, ws, rfl, _⟩ := h
    rfl
  · obtain ⟨a, xs, ws, rfl, ha, wa, zw, hs, q⟩ := h
    refine ⟨_, (pss_cons (ps_par (i := 1) (j := 2) (by rfl) sc_petals_of.nd rfl rfl (by decide) rfl rfl (pa_cons pe_int (pa_cons (pe_lst pa_nil) pa_nil)) (by rfl))
      (pss_cons (ps_for PassesOwn.never rfl (pi_listK K (pv 0)) (pg_name (i := 3) sc_petals_of.nd rfl (Or.inl rfl)) (pss_cons (ps_set (i := 4) sc_petals_of.nd rfl (Or.inl rfl) (pe_call (ok_straightened T) (hr.mono (by decide)) (by rfl) T.g_straightened T.F_straightened.kp T.b_straightened .nil pass0 (pa_cons (pv 3) pa_nil)))
      (pss_cons (ps_expr (pe_bmU K PySem.F.plainAttrs_list PySem.F.slot_list_extend PySem.F.type_list_extend mt_extend (pv 2) (pa_cons (pe_call (ok_ways_along T) (hr.mono (by decide)) (by rfl) T.g_ways_along T.F_ways_along.kp T.b_ways_along .nil pass0 (pa_cons (pv 4) (pa_cons pe_int (pa_cons pe_int (pa_cons (pv 1) pa_nil))))) pa_nil)))
      (pss_one (ps_aug (i := 1) sc_petals_of.nd rfl (Or.inl rfl) (pe_callB (max2_K rfl) (by rfl) T.n_max (by decide +kernel) (pa_cons pe_int (pa_cons (pe_op op_sub (pe_callB (len_K K) (by rfl) T.n_len (by decide +kernel) (pa_cons (pv 4) pa_nil)) pe_int) pa_nil))) ip_add)))))
      (pss_one (ps_ret (pe_tup (pa_cons (pv 1) (pa_cons (pv 2) pa_nil))))))), ?_⟩
    have ok : ∀ i, i ≤ ws.length → Pt.Ok (Pt.pet (ws.take i)) (i * 400) := Pt.pet_ok fun u hu => ⟨(hs u hu).2, (hs u hu).1⟩
    walk_at "go"
    refine r_newL (by simp) fun W H1 hW e1 h1 => ?_
    walk_at "go"
    refine ⟨_, _, rfl, ?_⟩
    walk_at "go"
    refine r_itL (ex_l e1 ha) (r_forL (xs := xs) (fun i σ' H' => ∃ ys v3 v4, Ex H H' ∧ H' W = some (.lst ys) ∧ WkA K H' ys (Pt.pet (ws.take i)).2 ∧
      σ' = [some (.ref a), some (.int (Pt.pet (ws.take i)).1), some (.ref W), v3, v4]) ⟨[], none, none, e1, h1, WkA.nil, rfl⟩ (fun i σ' H' _ p => ?_) (fun i x σ' H' hx p => ?_) (fun σ' H' p => ?_))
    · obtain ⟨ys, v3, v4, e, _⟩ := p
      exact ex_l e ha
    · obtain ⟨ys, v3, v4, e, hW1, wy, rfl⟩ := p
      obtain ⟨u, hu, c, rfl, hc⟩ := wa.get hx
      have hi := (List.getElem?_eq_some_iff.mp hu).1
      have ok1 := ok i (by omega)
      obtain ⟨zu, su⟩ := hs u (List.mem_of_getElem? hu)
      have zs : (Fg.rd u).length ≤ 400 := Nat.le_trans (Fg.rd_len u) zu
      have b1 := ok1.lo
      have b2 := ok1.hi
      have b3 := ok1.len
      rw [Pt.pet_take hu]
      generalize Pt.pet (ws.take i) = st at wy ok1 b1 b2 b3 ⊢
      obtain ⟨n, tr⟩ := st
      dsimp only at b1 b2 b3 wy
      walk_at "go"
      refine ⟨c, u, rfl, ex_t e hc, by omega, fun p1 H2 e2 h2 => ?_⟩
      walk_at "go"
      have hW2 := e2 _ _ hW1
      refine r_ext (l_of hW2) ?_
      walk_at "go"
      refine ⟨p1, Fg.rd u, n, rfl, h2, zs, b1, by omega, fun R rs H3 hR e3 hr3 wr => ?_⟩
      walk_at "go"
      have hW3 := e3 _ _ hW2
      have zy := wy.len
      have zr := wr.len
      rw [Pt.ring_len] at zr
      have nRW : R ≠ W := fun z => by rw [z, hW2] at hR; cases hR
      refine r_extd hW3 hr3 (by omega) fun H4 e4 k4 => ?_
      have tx := TX.w2 hW3 e4
      walk_at "go"
      refine r_lenT (tx_t tx (ex_t e3 h2)) ?_
      rw [List.length_map]
      walk_at "go"
      exact ⟨ys ++ rs, _, _, fun b o hb => e4 b o (e3 b o (e2 b o (e b o hb))) (ne_of_none hb hW), k4, ((wy.ex (e2.trans e3)).tx tx).app (wr.tx tx), rfl⟩
    · obtain ⟨ys, v3, v4, e, hW1, wy, rfl⟩ := p
      rw [wa.len, List.take_length] at wy
      rw [wa.len, List.take_length]
      walk_at "go"
      refine r_newT (by simp) fun t H2 ht e2 h2 => ?_
      exact q t W H2 (e.trans e2) (fresh_back e ht) hW ⟨ys, t_of h2, e2 _ _ hW1, wy.ex e2⟩
def sp_petals (K : PySem.W.Frag) : Sp := fun vs H Q _ => ∃ l a xs ws, vs = [.int l, .ref a] ∧ 1 ≤ l ∧ l ≤ 4 ∧ SqL K H a xs ∧ WkA K H xs ws ∧ ws.length ≤ 100 ∧ (∀ u ∈ ws, u.length ≤ 400 ∧ Stp l u) ∧ ∀ q p H1, Ex H H1 → H q = none → H p = none → PtV K H1 q p (Pt.pet ws) → Q (.ref q) H1
theorem ok_petals (T : Tx K mg A) : FnOk P w K mg base CX0 6 A.a_petals A.f_petals P_petals (sp_petals K) := by
  refine T.F_petals.ok sc_petals (fun vs H Q E h => ?_) (fun cdv A' outer s H vs Q E hr h => ?_)
  · obtain ⟨l, a, xs, ws, rfl, _⟩ := h
    rfl
  · obtain ⟨l, a, xs, ws, rfl, hl1, hl4, ha, wa, zw, hs, q⟩ := h
    refine ⟨_, (pss_cons (ps_expr (pe_call (ok_check_letters T) (hr.mono (by decide)) (by rfl) T.g_check_letters T.F_check_letters.kp T.b_check_letters .nil pass0 (pa_cons (pv 0) pa_nil)))
      (pss_cons (ps_expr (pe_call (ok_check_walks T) (hr.mono (by decide)) (by rfl) T.g_check_walks T.F_check_walks.kp T.b_check_walks .nil pass0 (pa_cons (pv 0) (pa_cons (pv 1) pa_nil))))
      (pss_one (ps_ret (pe_call (ok_petals_of T) (hr.mono (by decide)) (by rfl) T.g_petals_of T.F_petals_of.kp T.b_petals_of .nil pass0 (pa_cons (pv 1) pa_nil)))))), ?_⟩
    walk_at "go"
    refine ⟨l, rfl, hl1, hl4, ?_⟩
    walk_at "go"
    refine ⟨l, a, xs, ws, rfl, ha, wa, fun u hu => ⟨by have := (hs u hu).1; omega, (hs u hu).2⟩, fun H1 e1 => ?_⟩
    walk_at "go"
    refine ⟨a, xs, ws, rfl, ex_l e1 ha, wa.ex e1, zw, fun u hu => ⟨(hs u hu).1, stp_le (hs u hu).2 hl4⟩, fun t p H2 e2 ht hp pt => ?_⟩
    exact q t p H2 (e1.trans e2) (fresh_back e1 ht) (fresh_back e1 hp) pt
def sp__law_petals (K : PySem.W.Frag) : Sp := fun vs H Q _ => ∃ a xs ws, vs = [.ref a] ∧ SqL K H a xs ∧ WkA K H xs ws ∧ ws.length ≤ 100 ∧ (∀ u ∈ ws, u.length ≤ 400 ∧ Stp 4 u) ∧ ∀ q l H1, Ex H H1 → H q = none → H l = none → PtV K H1 q l (Pt.pet ws) → Q (.ref q) H1
theorem ok__law_petals (T : Tx K mg A) : FnOk P w K mg base CX0 2 A.a__law_petals A.f__law_petals P__law_petals (sp__law_petals K) := by
  refine T.F__law_petals.ok sc__law_petals (fun vs H Q E h => ?_) (fun cdv A' outer s H vs Q E hr h => ?_)
  · obtain ⟨a, xs, ws, rfl, _⟩ := h
    rfl
  · obtain ⟨a, xs, ws, rfl, ha, wa, zw, hs, q⟩ := h
    refine ⟨_, (pss_cons (ps_par (i := 1) (j := 2) (by rfl) sc__law_petals.nd rfl rfl (by decide) rfl rfl (pa_cons pe_int (pa_cons (pe_lst pa_nil) pa_nil)) (by rfl))
      (pss_cons (ps_for PassesOwn.never rfl (pi_listK K (pv 0)) (pg_name (i := 3) sc__law_petals.nd rfl (Or.inl rfl)) (pss_cons (ps_set (i := 4) sc__law_petals.nd rfl (Or.inl rfl) (pe_call (ok__law_straight T) (hr.mono (by decide)) (by rfl) T.g__law_straight T.F__law_straight.kp T.b__law_straight .nil pass0 (pa_cons (pv 3) pa_nil)))
      (pss_cons (ps_set (i := 5) sc__law_petals.nd rfl (Or.inl rfl) (pe_op (op_addK K) (pe_op (op_addK K) (pe_lst (pa_cons pe_int pa_nil)) (pe_listRg rfl (by rfl) T.n_list (prg_2 (by rfl) T.n_range (pv 1) (pe_op op_sub (pe_op (op_addK K) (pv 1) (pe_callB (len_K K) (by rfl) T.n_len (by decide +kernel) (pa_cons (pv 4) pa_nil))) pe_int)))) (pe_lst (pa_cons pe_int pa_nil))))
      (pss_cons (ps_for PassesOwn.never rfl (pi_enumE K skT (by rfl) T.n_enumerate (pa_cons (pv 4) pa_nil)) (pg_tupK K (by rfl) (pgs_cons (pg_name (i := 6) sc__law_petals.nd rfl (Or.inl rfl)) (pgs_cons (pg_name (i := 7) sc__law_petals.nd rfl (Or.inl rfl)) pgs_nil))) (pss_one (ps_if (pt_cmpR op_gt (pv 7) pe_int (nomark _)) (pss_one (ps_expr (pe_bmU K PySem.F.plainAttrs_list PySem.F.slot_list_append PySem.F.type_list_append mt_append (pv 2) (pa_cons (pe_tup (pa_cons (pe_ix (ix_K K) (pv 5) (pv 6) (fun _ _ => rfl)) (pa_cons (pv 7) (pa_cons (pe_ix (ix_K K) (pv 5) (pe_op (op_addK K) (pv 6) pe_int) (fun _ _ => rfl)) pa_nil)))) pa_nil)))) (pss_one (ps_expr (pe_bmU K PySem.F.plainAttrs_list PySem.F.slot_list_append PySem.F.type_list_append mt_append (pv 2) (pa_cons (pe_tup (pa_cons (pe_ix (ix_K K) (pv 5) (pe_op (op_addK K) (pv 6) pe_int) (fun _ _ => rfl)) (pa_cons (pe_op op_sub pe_int (pv 7)) (pa_cons (pe_ix (ix_K K) (pv 5) (pv 6) (fun _ _ => rfl)) pa_nil)))) pa_nil)))))))
      (pss_one (ps_set (i := 1) sc__law_petals.nd rfl (Or.inl rfl) (pe_op (op_addK K) (pv 1) (pe_callB (max2_K rfl) (by rfl) T.n_max (by decide +kernel) (pa_cons pe_int (pa_cons (pe_op op_sub (pe_callB (len_K K) (by rfl) T.n_len (by decide +kernel) (pa_cons (pv 4) pa_nil)) pe_int) pa_nil))))))))))
      (pss_one (ps_ret (pe_tup (pa_cons (pv 1) (pa_cons (pv 2) pa_nil))))))), ?_⟩
    have ok : ∀ i, i ≤ ws.length → Pt.Ok (Pt.pet (ws.take i)) (i * 400) := Pt.pet_ok fun u hu => ⟨(hs u hu).2, (hs u hu).1⟩
    walk_at "go"
    refine r_newL (by simp) fun W H1 hW e1 h1 => ?_
    walk_at "go"
    refine ⟨_, _, rfl, ?_⟩
    walk_at "go"
    refine r_itL (ex_l e1 ha) (r_forL (xs := xs) (fun i σ' H' => ∃ ys v3 v4 v5 v6 v7, Ex H H' ∧ H' W = some (.lst ys) ∧ WkA K H' ys (Pt.pet (ws.take i)).2 ∧
      σ' = [some (.ref a), some (.int (Pt.pet (ws.take i)).1), some (.ref W), v3, v4, v5, v6, v7]) ⟨[], none, none, none, none, none, e1, h1, WkA.nil, rfl⟩ (fun i σ' H' _ p => ?_) (fun i x σ' H' hx p => ?_) (fun σ' H' p => ?_))
    · obtain ⟨ys, v3, v4, v5, v6, v7, e, _⟩ := p
      exact ex_l e ha
    · obtain ⟨ys, v3, v4, v5, v6, v7, e, hW1, wy, rfl⟩ := p
      obtain ⟨u, hu, c, rfl, hc⟩ := wa.get hx
      have hi := (List.getElem?_eq_some_iff.mp hu).1
      have ok1 := ok i (by omega)
      obtain ⟨zu, su⟩ := hs u (List.mem_of_getElem? hu)
      have zs : (Fg.rd u).length ≤ 400 := Nat.le_trans (Fg.rd_len u) zu
      have b1 := ok1.lo
      have b2 := ok1.hi
      have b3 := ok1.len
      rw [Pt.pet_take hu]
      generalize Pt.pet (ws.take i) = st at wy ok1 b1 b2 b3 ⊢
      obtain ⟨n, tr⟩ := st
      dsimp only at b1 b2 b3 wy
      walk_at "go"
      refine ⟨c, u, rfl, ex_t e hc, by omega, fun p1 H2 e2 h2 => ?_⟩
      walk_at "go"
      refine r_newL (by simp) fun d1 H3 _ e3 k3 => ?_
      walk_at "go"
      refine r_lenT (ex_t e3 h2) ?_
      rw [List.length_map]
      walk_at "go"
      refine r_lstRg (by omega) (by omega) (by omega) (by omega) fun d2 H4 _ e4 k4 => ?_
      walk_at "go"
      have zr : (rgI n (n + ((Fg.rd u).length : Int) - 1)).length ≤ 400 := by rw [rgI_len]; omega
      refine r_catL (e4 _ _ k3) k4 (by rw [List.length_map]; simp; omega) fun d3 H5 _ e5 k5 => ?_
      walk_at "go"
      refine r_newL (by simp) fun d4 H6 _ e6 k6 => ?_
      walk_at "go"
      refine r_catL (e6 _ _ k5) k6 (by rw [List.length_append, List.length_map]; simp; omega) fun P H7 hP e7 k7 => ?_
      have hPW : P ≠ W := fun z => by
        rw [z, ((((e2.trans e3).trans e4).trans e5).trans e6) _ _ hW1] at hP
        cases hP
      have e8 := ((((e2.trans e3).trans e4).trans e5).trans e6).trans e7
      have kP : H7 P = some (.lst ((Pt.places n (Fg.rd u).length).map V.int)) := by
        rw [k7]
        unfold Pt.places
        rw [List.map_append, List.map_append]
        rfl
      have s8 := ex_t ((((e3.trans e4).trans e5).trans e6).trans e7) h2
      have W8 := e8 _ _ hW1
      have w8 := wy.ex e8
      have e11 := e.trans e8
      clear k3 k4 k5 k6 k7 e2 e3 e4 e5 e6 e7 e8 h2 hW1 wy e zr
      walk_at "go"
      have lp := Pt.places_len n (Fg.rd u).length
      refine r_enumE (k := skT) s8 (r_forE (k := skT) (xs := (Fg.rd u).map V.int)
        (fun j σ' H' => ∃ ys v6 v7, ExW W H7 H' ∧ H' W = some (.lst ys) ∧ WkA K H' ys (tr ++ Pt.ring n (Fg.rd u) j) ∧
          σ' = [some (.ref a), some (.int n), some (.ref W), some (.ref c), some (.ref p1), some (.ref P), v6, v7])
        ⟨ys, _, _, ExW.refl H7, W8, by rw [show Pt.ring n (Fg.rd u) 0 = [] from rfl, List.append_nil]; exact w8, rfl⟩ (fun j σ' H' _ p => ?_) (fun j x σ' H' H9 hx p e12 => ?_) (fun σ' H' p => ?_))
      · obtain ⟨ys', v6, v7, ew, hw', _⟩ := p
        exact exw_t ew W8 s8
      · obtain ⟨ys', v6, v7, ew, hw', wa', rfl⟩ := p
        rw [List.getElem?_map] at hx
        cases hx1 : (Fg.rd u)[j]? with
        | none => rw [hx1] at hx; cases hx
        | some x1 =>
        rw [hx1] at hx
        cases hx
        have hj := (List.getElem?_eq_some_iff.mp hx1).1
        have hy1 := List.getElem?_eq_getElem (show j < (Pt.places n (Fg.rd u).length).length by omega)
        have hz1 := List.getElem?_eq_getElem (show j + 1 < (Pt.places n (Fg.rd u).length).length by omega)
        generalize (Pt.places n (Fg.rd u).length)[j] = y1 at hy1
        generalize (Pt.places n (Fg.rd u).length)[j + 1] = z1 at hz1
        have eqw : Pt.way n (Fg.rd u) j = Pt.wy y1 z1 x1 := by
          unfold Pt.way
          rw [List.getD_eq_getElem?_getD, List.getD_eq_getElem?_getD, List.getD_eq_getElem?_getD, hx1, hy1, hz1]
          rfl
        have hw9 := e12 _ _ hw'
        have wa9 := wa'.ex e12
        have P9 := e12 _ _ (ew _ _ kP hPW)
        have at1 : atI ((Pt.places n (Fg.rd u).length).map V.int) (0 + (j : Int)) = some (.int y1) := at_int (by omega) (by rw [show (0 + (j : Int)).toNat = j by omega]; exact hy1)
        have at2 : atI ((Pt.places n (Fg.rd u).length).map V.int) (0 + (j : Int) + 1) = some (.int z1) := at_int (by omega) (by rw [show (0 + (j : Int) + 1).toNat = j + 1 by omega]; exact hz1)
        have zy : ys'.length ≤ 50000 := by
          rw [wa9.len, List.length_append, Pt.ring_len]
          omega
        -- the way is put behind
        have put : ∀ f H10, Ex H9 H10 → H10 f = some (.tup ((Pt.wy y1 z1 x1).map V.int)) → rAppend (.ref W) [.ref f] H10 (fun _ H11 => ∃ ys v6 v7, ExW W H7 H11 ∧ H11 W = some (.lst ys) ∧ WkA K H11 ys (tr ++ Pt.ring n (Fg.rd u) (j + 1)) ∧
            [some (V.ref a), some (V.int n), some (V.ref W), some (V.ref c), some (V.ref p1), some (V.ref P), some (V.int (0 + (j : Int))), some (V.int x1)] = [some (.ref a), some (.int n), some (.ref W), some (.ref c), some (.ref p1), some (.ref P), v6, v7]) := by
          intro f H10 e13 h10
          have hw10 := e13 _ _ hw9
          refine r_appd hw10 (by omega) fun H11 e14 h11 => ?_
          have tx := TX.w2 hw10 e14
          refine ⟨_, _, _, ((ew.trans (ExW.of e12)).trans (ExW.of e13)).trans e14, h11, ?_, rfl⟩
          rw [Pt.ring_succ, ← List.append_assoc, eqw]
          exact ((wa9.ex e13).tx tx).snoc ⟨f, rfl, tx_t tx (t_of h10)⟩
        walk_at "go"
        refine if_2 (fun h0 => ?_) fun h0 => ?_
        · walk_at "go"
          refine r_app (l_of hw9) ?_
          walk_at "go"
          refine r_ixL (l_of P9) at1 ?_
          walk_at "go"
          refine r_ixL (l_of P9) at2 ?_
          walk_at "go"
          refine r_newT (by simp) fun f H10 _ e13 h10 => ?_
          walk_at "go"
          refine put f H10 e13 ?_
          rw [h10]
          unfold Pt.wy
          rw [if_pos (by omega)]
          rfl
        · walk_at "go"
          refine r_app (l_of hw9) ?_
          walk_at "go"
          refine r_ixL (l_of P9) at2 ?_
          walk_at "go"
          refine r_ixL (l_of P9) at1 ?_
          walk_at "go"
          refine r_newT (by simp) fun f H10 _ e13 h10 => ?_
          walk_at "go"
          refine put f H10 e13 ?_
          rw [h10]
          unfold Pt.wy
          rw [if_neg (by omega), Int.zero_sub]
          rfl
      · obtain ⟨ys', v6, v7, ew, hw', wa', rfl⟩ := p
        rw [List.length_map] at wa'
        walk_at "go"
        refine r_lenT (exw_t ew W8 s8) ?_
        rw [List.length_map]
        walk_at "go"
        exact ⟨ys', _, _, _, _, _, fun b o hb => ew b o (e11 b o hb) (ne_of_none hb hW), hw', wa', rfl⟩
    · obtain ⟨ys, v3, v4, v5, v6, v7, e, hW1, wy, rfl⟩ := p
      rw [wa.len, List.take_length] at wy
      rw [wa.len, List.take_length]
      walk_at "go"
      refine r_newT (by simp) fun t H2 ht e2 h2 => ?_
      exact q t W H2 (e.trans e2) (fresh_back e ht) hW ⟨ys, t_of h2, e2 _ _ hW1, wy.ex e2⟩
end
end Lw
namespace Lw
open PySem PySem.Spec PyProof.Rows L2 Evl

local macro_rules | `(tactic| walk_at "go") => `(tactic| repeat (first
  | with_reducible refine st_seq ?_ | with_reducible refine st_set ?_ | with_reducible refine st_asg ?_ | with_reducible refine st_ret ?_ | with_reducible refine st_drop ?_ | with_reducible refine st_if ?_
  | with_reducible refine st_c ?_ | ((with_reducible refine' st_v ?h ?_); (case h => exact rfl)) | with_reducible refine st_n ?_ | with_reducible refine st_cons ?_ | with_reducible refine st_op ?_ | with_reducible refine st_un ?_
  | with_reducible refine st_cb ?_ | with_reducible refine st_test ?_ | with_reducible refine st_call ?_ | with_reducible refine st_callK ?_ | with_reducible refine st_sl ?_ | with_reducible refine st_par ?_ | with_reducible refine st_par3 ?_ | with_reducible refine st_tru ?_
  | with_reducible refine st_and ?_ | with_reducible refine st_or ?_ | with_reducible refine st_not ?_ | with_reducible refine st_B ?_ | with_reducible refine st_andV ?_ | with_reducible refine st_orV ?_ | with_reducible refine st_notV ?_ | with_reducible refine st_ifE ?_
  | with_reducible refine st_part ?_ | with_reducible refine st_nop ?_ | with_reducible refine st_sub ?_ | with_reducible refine st_chain ?_ | with_reducible refine st_bl ?_ | with_reducible refine st_in ?_ | with_reducible refine r_truB ?_
  | with_reducible refine st_nameG ?_ | with_reducible refine if_T ?_ | with_reducible refine if_F ?_ | with_reducible refine if_nT ?_ | with_reducible refine if_nF ?_
  | with_reducible refine r_add ?_ | with_reducible refine r_0 ?_ | with_reducible refine r_neg ?_ | with_reducible refine r_intI ?_ | with_reducible refine r_intB ?_ | with_reducible refine r_abs ?_ | with_reducible refine r_max2 ?_ | with_reducible refine r_min2 ?_ | with_reducible refine r_eqI ?_ | with_reducible refine r_neI ?_
  | with_reducible refine st_nxt ?_ | with_reducible refine st_cnt ?_ | with_reducible refine st_brk ?_ | with_reducible refine st_retn ?_
  | with_reducible refine st_lstN ?_ | with_reducible refine st_tupN ?_
  | with_reducible refine st_for ?_ | with_reducible refine st_lc ?_ | with_reducible refine st_lc2 ?_ | with_reducible refine st_rng1 ?_ | with_reducible refine st_rng2 ?_ | with_reducible refine st_rng3 ?_ | with_reducible refine st_itL ?_ | with_reducible refine st_itT ?_ | with_reducible refine st_rev ?_ | with_reducible refine st_enumE ?_ | with_reducible refine st_zip3 ?_ | with_reducible refine st_lvals ?_ | with_reducible refine st_fld ?_ | with_reducible refine st_sfld ?_ | with_reducible refine st_meth ?_ | with_reducible refine st_make ?_ | with_reducible refine st_rg1 ?_ | with_reducible refine st_enumS ?_ | with_reducible refine st_dg1 ?_ | with_reducible refine st_dg2 ?_ | with_reducible refine st_dpop ?_ | with_reducible refine st_dset ?_ | with_reducible refine st_dc ?_ | with_reducible refine st_keys ?_ | with_reducible refine st_dget ?_ | with_reducible refine st_din ?_ | with_reducible refine st_dnin ?_ | with_reducible refine st_dput ?_ | with_reducible refine st_dnew ?_ | with_reducible refine st_lstRg ?_ | with_reducible refine st_rg2 ?_ | with_reducible refine r_twoI ?_ | with_reducible refine st_bm ?_ | with_reducible refine st_bm0 ?_
  | ((with_reducible refine' st_aug ?h ?_); (case h => exact rfl)) | with_reducible refine r_augI ?_ | with_reducible refine r_eqB ?_
  | dsimp only))
section
variable {P : Program} {w : World} {K : PySem.W.Frag} {mg : Str → Option Value} {base : Heap} {A : Ad}

def sp__law_right (K : PySem.W.Frag) : Sp := fun vs H Q _ => ∃ w n, vs = [.ref w] ∧ Well H w n ∧ n ≤ 1000 ∧ ∀ H1, ExW w H H1 → Q (.bl true) H1
theorem ok__law_right (T : Tx K mg A) : FnG P w K mg base CX0 7 A.a__law_right A.f__law_right P__law_right (sp__law_right K) := by
  refine T.F__law_right.okG sc__law_right (fun vs H Q E h => ?_) (fun cdv A' outer s H vs Q E g hr h => ?_)
  · obtain ⟨w, n, rfl, _⟩ := h
    rfl
  · obtain ⟨w, n, rfl, hw, hn, q⟩ := h
    refine ⟨_, (pss_cons (ps_set (i := 1) sc__law_right.nd rfl (Or.inl rfl) (pe_op (op_addK K) pe_int (pe_call (ok__law_take T) (hr.mono (by decide)) (by rfl) T.g__law_take T.F__law_take.kp T.b__law_take .nil pass0 (pa_cons (pv 0) (pa_cons pe_int pa_nil)))))
      (pss_cons (ps_set (i := 2) sc__law_right.nd rfl (Or.inl rfl) (pe_call (ok__law_list T) (hr.mono (by decide)) (by rfl) T.g__law_list T.F__law_list.kp T.b__law_list .nil pass0 (pa_cons (pv 0) (pa_cons (pv 1) pa_nil))))
      (pss_cons (ps_par (i := 3) (j := 4) (by rfl) sc__law_right.nd rfl rfl (by decide) rfl rfl (pa_cons (pe_callB (repr_K K g hr) (by rfl) T.n_repr (by decide +kernel) (pa_cons (pe_call (ok__law_petals T) (hr.mono (by decide)) (by rfl) T.g__law_petals T.F__law_petals.kp T.b__law_petals .nil pass0 (pa_cons (pv 2) pa_nil)) pa_nil)) (pa_cons (pe_callTy (list_K K) (by rfl) T.n_list (by decide +kernel) (pa_cons (pv 2) pa_nil)) pa_nil)) (by rfl))
      (pss_cons (ps_set (i := 5) sc__law_right.nd rfl (Or.inl rfl) (pe_call (ok_petals T) (hr.mono (by decide)) (by rfl) T.g_petals T.F_petals.kp T.b_petals .nil pass0 (pa_cons (pv 1) (pa_cons (pv 4) pa_nil))))
      (pss_cons (ps_if (PW.pt (pw_or (pt_cmpR (op_neK K hr.units) (pe_callB (repr_K K g hr) (by rfl) T.n_repr (by decide +kernel) (pa_cons (pv 5) pa_nil)) (pv 3) (nomark _)) (pw_or1 (pt_cmpR (op_neK K hr.units) (pv 4) (pv 2) (nomark _))))) (pss_one (ps_ret pe_bl)) pss_nil)
      (pss_cons (ps_expr (pe_bmU K PySem.F.plainAttrs_list PySem.F.slot_list_append PySem.F.type_list_append mt_append (pe_ix (ix_K K) (pv 5) pe_int (fun _ _ => rfl)) (pa_cons pe_non pa_nil)))
      (pss_cons (ps_if (pt_cmpR (op_neK K hr.units) (pe_callB (repr_K K g hr) (by rfl) T.n_repr (by decide +kernel) (pa_cons (pe_callK0 (ok_petals T) (hr.mono (by decide)) (by rfl) T.g_petals T.F_petals.kp (kb_petals_walks_letters T.F_petals) pass0 (pk_cons (pv 4) (pk_cons (pv 1) pk_nil))) pa_nil)) (pv 3) (nomark _)) (pss_one (ps_ret pe_bl)) pss_nil)
      (pss_cons (ps_setLc (i := 6) (own := [("_law_walk_here", 8)]) rfl sc__law_right.nd rfl rfl (sw_true rfl rfl rfl (by decide +kernel)) (pi_listK K (pv 2)) (blkOk_by (own := [("_law_walk_here", 8)]) (N := N__law_right) (sc := defScope s__law_right) (by decide +kernel)) (fun _ _ _ _ _ => (pg_name (i := 8) sc__law_right.nd rfl (Or.inl rfl))) (fun _ _ _ _ _ => (pts_one (pt_cmpR (op_neK K hr.units) (pe_call (ok__law_straight T) (hr.mono (by decide)) (by rfl) T.g__law_straight T.F__law_straight.kp T.b__law_straight .nil pass0 (pa_cons (pv 8) pa_nil)) (pe_tup pa_nil) (nomark _)))) (fun _ _ _ _ _ => (pe_call (ok__law_straight T) (hr.mono (by decide)) (by rfl) T.g__law_straight T.F__law_straight.kp T.b__law_straight .nil pass0 (pa_cons (pv 8) pa_nil))))
      (pss_cons (ps_if (pt_cmpR (op_neK K hr.units) (pe_callB (repr_K K g hr) (by rfl) T.n_repr (by decide +kernel) (pa_cons (pe_call (ok_petals T) (hr.mono (by decide)) (by rfl) T.g_petals T.F_petals.kp T.b_petals .nil pass0 (pa_cons (pv 1) (pa_cons (pv 6) pa_nil))) pa_nil)) (pv 3) (nomark _)) (pss_one (ps_ret pe_bl)) pss_nil)
      (pss_cons (ps_expr (pe_bmU K PySem.F.plainAttrs_list PySem.F.slot_list_append PySem.F.type_list_append mt_append (pv 4) (pa_cons (pe_tup (pa_cons pe_int pa_nil)) pa_nil)))
      (pss_cons (ps_set (i := 7) sc__law_right.nd rfl (Or.inl rfl) (pe_call (ok_petals T) (hr.mono (by decide)) (by rfl) T.g_petals T.F_petals.kp T.b_petals .nil pass0 (pa_cons (pv 1) (pa_cons (pv 4) pa_nil))))
      (pss_cons (ps_if (pt_cmpR (op_neK K hr.units) (pe_callB (repr_K K g hr) (by rfl) T.n_repr (by decide +kernel) (pa_cons (pv 7) pa_nil)) (pe_callB (repr_K K g hr) (by rfl) T.n_repr (by decide +kernel) (pa_cons (pe_call (ok__law_petals T) (hr.mono (by decide)) (by rfl) T.g__law_petals T.F__law_petals.kp T.b__law_petals .nil pass0 (pa_cons (pe_op (op_addK K) (pv 2) (pe_lst (pa_cons (pe_tup (pa_cons pe_int pa_nil)) pa_nil))) pa_nil)) pa_nil)) (nomark _)) (pss_one (ps_ret pe_bl)) pss_nil)
      (pss_one (ps_ret (pe_and (pe_cmpR (op_eqK K hr.units) (pe_slice (sl_K K) (pe_ix (ix_K K) (pv 7) pe_int (fun _ _ => rfl)) po_none (po_some (pe_un un_neg pe_int))) (pe_slice (sl_K K) (pe_ix (ix_K K) (pv 5) pe_int (fun _ _ => rfl)) po_none (po_some (pe_un un_neg pe_int))) (nomark _)) (pe_one (pe_cmpR (op_eqK K hr.units) (pe_callB (repr_K K g hr) (by rfl) T.n_repr (by decide +kernel) (pa_cons (pe_call (ok_petals T) (hr.mono (by decide)) (by rfl) T.g_petals T.F_petals.kp T.b_petals .nil pass0 (pa_cons (pv 1) (pa_cons (pe_lst pa_nil) pa_nil))) pa_nil)) (pe_callB (repr_K K g hr) (by rfl) T.n_repr (by decide +kernel) (pa_cons (pe_tup (pa_cons pe_int (pa_cons (pe_lst pa_nil) pa_nil))) pa_nil)) (nomark _)))))))))))))))))), ?_⟩
    walk_at "go"
    refine ⟨w, n, 4, rfl, by omega, by omega, hw, by omega, fun r1 H1 r10 r14 e1 d1 => ?_⟩
    have s1 := (DrS.refl hw).on e1 d1
    clear e1 d1
    walk_at "go"
    refine ⟨w, _, 1 + r1, rfl, s1.well, by omega, by omega, by omega, fun D xs ws H2 s2 _ _ hD wa zw sw => ?_⟩
    have s3 := s1.on s2.ex s2.well
    have l1 : 1 ≤ 1 + r1 := by omega
    have l4 : 1 + r1 ≤ 4 := by omega
    generalize 1 + r1 = l at sw l1 l4 ⊢
    clear s1 s2 r10 r14
    have sw4 : ∀ u ∈ ws, u.length ≤ 400 ∧ Stp 4 u := fun u hu => ⟨by have := (sw u hu).2; omega, stp_le (sw u hu).1 l4⟩
    have swl : ∀ u ∈ ws, u.length ≤ 400 ∧ Stp l u := fun u hu => ⟨by have := (sw u hu).2; omega, (sw u hu).1⟩
    have ok := Pt.pet_ok' (ws := ws) (k := 60) fun u hu => ⟨(sw4 u hu).2, (sw u hu).2⟩
    have okb : ws.length * 60 ≤ 50000 := by omega
    walk_at "go"
    -- what is due
    refine ⟨D, xs, ws, rfl, l_of hD, wa, by omega, sw4, fun q1 p1 H3 e3 _ _ v3 => ?_⟩
    walk_at "go"
    refine r_repr v3.dp (shows_pt ok okb) ?_
    walk_at "go"
    refine r_lstL (l_of (e3 _ _ hD)) fun G H4 hG e4 h4 => ?_
    have s4 := s3.ext (e3.trans e4)
    have wa4 := wa.ex (e3.trans e4)
    have hD4 := e4 _ _ (e3 _ _ hD)
    have hG0 : H G = none := (s3.ext e3).fresh hG
    have hGw : G ≠ w := (s3.ext e3).well.ne hG
    have hGD : G ≠ D := fun e => by
      rw [e, e3 _ _ hD] at hG
      cases hG
    clear e3 e4 v3 hG s3 wa hD
    walk_at "go"
    refine ⟨_, _, rfl, ?_⟩
    walk_at "go"
    -- the petals of what is given
    refine ⟨l, G, xs, ws, rfl, l1, l4, l_of h4, wa4, by omega, swl, fun q2 p2 H5 e5 hq2 hp2 v5 => ?_⟩
    have s5 := s4.ext e5
    have wa5 := wa4.ex e5
    have hD5 := e5 _ _ hD4
    have h5 := e5 _ _ h4
    have hp20 : H p2 = none := s4.fresh hp2
    have hp2w : p2 ≠ w := s4.well.ne hp2
    have hp2D : p2 ≠ D := fun e => by
      rw [e, hD4] at hp2
      cases hp2
    have hp2G : p2 ≠ G := fun e => by
      rw [e, h4] at hp2
      cases hp2
    clear e5 s4 wa4 hD4 h4 hq2 hp2
    walk_at "go"
    refine r_repr v5.dp (shows_pt ok okb) ?_
    walk_at "go"
    refine same_neS ?_
    walk_at "go"
    refine same_neW (l_of h5) wa5 (l_of hD5) wa5 ?_
    walk_at "go"
    -- None behind what was told
    obtain ⟨ps, t5, k5, wp5⟩ := v5.ex
    refine r_ixT t5 rfl ?_
    refine r_app (l_of k5) ?_
    walk_at "go"
    have zps : ps.length ≤ 50000 := by rw [wp5.len]; have := ok.len; omega
    refine r_appd k5 (by omega) fun H6 e6 k6 => ?_
    have tx6 := TX.w2 k5 e6
    have s6 := s5.mut e6 hp20 hp2w
    have wa6 := wa5.tx tx6
    have hD6 := e6 _ _ hD5 (Ne.symm hp2D)
    have h6 := e6 _ _ h5 (Ne.symm hp2G)
    have t6 := tx_t tx6 t5
    have wp6 := wp5.tx tx6
    clear e6 tx6 s5 wa5 hD5 h5 t5 wp5 k5 v5
    walk_at "go"
    -- told again, by names
    refine ⟨l, G, xs, ws, rfl, l1, l4, l_of h6, wa6, by omega, swl, fun q3 p3 H7 e7 _ _ v7 => ?_⟩
    walk_at "go"
    refine r_repr v7.dp (shows_pt ok okb) ?_
    walk_at "go"
    refine same_neS ?_
    have s7 := s6.ext e7
    have wa7 := wa6.ex e7
    have hD7 := e7 _ _ hD6
    have h7 := e7 _ _ h6
    have t7 := ex_t e7 t6
    have k7 := e7 _ _ k6
    have wp7 := wp6.ex e7
    clear e7 v7 s6 wa6 hD6 h6 t6 k6 wp6
    walk_at "go"
    refine r_itL (l_of hD7) (r_cmLA (fun i acc H' => Ex H7 H' ∧ WkA K H' acc (((ws.take i).filter fun u => decide (Fg.rd u ≠ [])).map Fg.rd)) (by rw [wa7.len]; omega) (fun _ => rfl) (fun i ys H' p => ex_l p.1 (l_of hD7)) (fun B hB o => ⟨Ex.new hB, WkA.nil⟩)
      (fun i x H8 B acc hx hz hacc p hall => ?_) fun B H8 bs hB h8 p _ => ?_)
    · obtain ⟨e8, wacc⟩ := p
      have hB7 : H7 B = none := ex_none fun o => (hall o).1
      obtain ⟨u, hu, c, rfl, hc⟩ := wa7.get hx
      have hi := (List.getElem?_eq_some_iff.mp hu).1
      have zu : u.length ≤ 5000 := by have := (sw u (List.mem_of_getElem? hu)).2; omega
      have tk := take_snoc hu
      walk_at "go"
      refine ⟨c, u, rfl, ex_t e8 hc, zu, fun p H9 e9 h9 => ?_⟩
      walk_at "go"
      refine r_newT (by simp) fun t H10 _ e10 h10 => ?_
      walk_at "go"
      refine r_neT (ms := []) (ex_t e10 h9) (t_of h10) ?_
      have e11 := e9.trans e10
      clear e9 e10 h9 h10 p
      walk_at "go"
      refine ifn_2 (fun h0 => ?_) fun h0 => ?_
      · walk_at "go"
        refine ⟨c, u, rfl, ex_t (e8.trans e11) hc, zu, fun p H11 e12 h11 => ?_⟩
        have e13 := e11.trans e12
        have hB11 := e13 _ _ hacc
        refine cm_yes hB11 hz (by omega) fun o => ⟨ex_put (e8.trans e13) hB7, ?_⟩
        rw [tk, List.filter_append, List.map_append, List.filter_cons_of_pos (by simpa using h0), List.filter_nil]
        exact ((wacc.ex e13).tx (TX.upd hB11)).snoc ⟨p, rfl, tx_t (TX.upd hB11) h11⟩
      · have hB10 := e11 _ _ hacc
        refine cm_no hB10 hz fun o => ⟨ex_put (e8.trans e11) hB7, ?_⟩
        rw [tk, List.filter_append, List.map_append, List.filter_cons_of_neg (by simpa using h0), List.filter_nil, List.map_nil, List.append_nil]
        exact (wacc.ex e11).tx (TX.upd hB10)
    obtain ⟨e8, wbs⟩ := p
    have s8 := s7.ext e8
    have wa8 := wa7.ex e8
    have hD8 := e8 _ _ hD7
    have k8 := e8 _ _ k7
    have hg8 := e8 _ _ h7
    have t8 := ex_t e8 t7
    have wp8 := wp7.ex e8
    rw [wa7.len, List.take_length] at wbs
    have pb : Pt.pet ((ws.filter fun u => decide (Fg.rd u ≠ [])).map Fg.rd) = Pt.pet ws := Pt.pet_bare ws _
    have mb : ∀ u ∈ (ws.filter fun u => decide (Fg.rd u ≠ [])).map Fg.rd, u.length ≤ 400 ∧ Stp l u := fun u hu => by
      obtain ⟨v, hv, rfl⟩ := List.mem_map.mp hu
      obtain ⟨z1, z2⟩ := swl v (List.mem_filter.mp hv).1
      exact ⟨Nat.le_trans (Fg.rd_len v) z1, fun x hx => z2 x (Fg.mem_rd hx)⟩
    have zb : ((ws.filter fun u => decide (Fg.rd u ≠ [])).map Fg.rd).length ≤ 100 := by
      rw [List.length_map]
      exact Nat.le_trans (List.length_filter_le _ _) (by omega)
    clear e8 s7 wa7 hD7 h7 k7 t7 wp7 hB
    walk_at "go"
    -- of what is left of the walks alone
    refine ⟨l, B, bs, _, rfl, l1, l4, l_of h8, wbs, zb, mb, fun q4 p4 H9 e9 _ _ v9 => ?_⟩
    rw [pb] at v9
    walk_at "go"
    refine r_repr v9.dp (shows_pt ok okb) ?_
    walk_at "go"
    refine same_neS ?_
    walk_at "go"
    -- one walk more
    refine r_app (l_of (e9 _ _ hg8)) ?_
    walk_at "go"
    refine r_newT (by simp) fun o1 H10 _ e10 h10 => ?_
    have e11 := e9.trans e10
    have hg10 := e11 _ _ hg8
    have zx : xs.length ≤ 100 := by rw [wa8.len]; omega
    walk_at "go"
    refine r_appd hg10 (by omega) fun H11 e12 h11 => ?_
    have tx := TX.w2 hg10 e12
    have s11 := (s8.ext e11).mut e12 hG0 hGw
    have wa11 := (wa8.ex e11).tx tx
    have hD11 := e12 _ _ (e11 _ _ hD8) (Ne.symm hGD)
    have k11 := e12 _ _ (e11 _ _ k8) hp2G
    have t11 := tx_t tx (ex_t e11 t8)
    have wp11 := (wp8.ex e11).tx tx
    have wo11 : WkV K H11 (.ref o1) [1] := ⟨o1, rfl, tx_t tx (t_of h10)⟩
    have wg11 := wa11.snoc wo11
    clear tx e9 e10 e11 e12 h8 wbs v9 h10 hg10 s8 wa8 hD8 k8 hg8 t8 wp8 pb mb zb wo11
    walk_at "go"
    have sl1 : ∀ u ∈ ws ++ [[1]], u.length ≤ 400 ∧ Stp l u := fun u hu => by
      rcases List.mem_append.mp hu with hu | hu
      · exact swl u hu
      · rw [List.mem_singleton.mp hu]
        exact ⟨by simp, fun x hx => by rw [List.mem_singleton.mp hx]; omega⟩
    have ok1 := Pt.pet_ok' (ws := ws ++ [[1]]) (k := 60) fun u hu => ⟨stp_le (sl1 u hu).2 l4, by
      rcases List.mem_append.mp hu with hu | hu
      · exact (sw u hu).2
      · rw [List.mem_singleton.mp hu]
        simp⟩
    have okb1 : (ws ++ [[1]]).length * 60 ≤ 50000 := by rw [List.length_append]; simp; omega
    have zl : (ws ++ [[1]]).length ≤ 100 := by rw [List.length_append]; simp; omega
    refine ⟨l, G, _, _, rfl, l1, l4, l_of h11, wg11, zl, sl1, fun q5 p5 H12 e12 _ _ v12 => ?_⟩
    walk_at "go"
    refine r_repr v12.dp (shows_pt ok1 okb1) ?_
    walk_at "go"
    refine r_newT (by simp) fun o2 H13 _ e13 h13 => ?_
    walk_at "go"
    refine r_newL (by simp) fun o3 H14 _ e14 h14 => ?_
    have e15 := (e12.trans e13).trans e14
    have wo : WkA K H14 [.ref o2] [[1]] := WkA.snoc WkA.nil ⟨o2, rfl, t_of (e14 _ _ h13)⟩
    refine r_catL (e15 _ _ hD11) h14 (by simp; omega) fun o4 H15 _ e16 h15 => ?_
    walk_at "go"
    refine ⟨o4, _, _, rfl, l_of h15, ((wa11.ex e15).app wo).ex e16, zl, fun u hu => ⟨(sl1 u hu).1, stp_le (sl1 u hu).2 l4⟩, fun q6 p6 H16 e17 _ _ v16 => ?_⟩
    walk_at "go"
    refine r_repr v16.dp (shows_pt ok1 okb1) ?_
    walk_at "go"
    refine same_neS ?_
    walk_at "go"
    obtain ⟨x5, t12, k12, w12⟩ := v12.ex
    have pe : (Pt.pet (ws ++ [[1]])).2 = (Pt.pet ws).2 ++ [Pt.way (Pt.pet ws).1 [1] 0] := by
      rw [Pt.pet_snoc]
      rfl
    rw [pe] at w12
    obtain ⟨y5, y, rfl, w5⟩ := w12.split
    have e18 := ((e13.trans e14).trans e16).trans e17
    have e19 := e12.trans e18
    refine r_ixT (ex_t e18 t12) rfl ?_
    walk_at "go"
    refine r_slL (l_of (e18 _ _ k12)) fun c1 H17 _ e20 h20 => ?_
    rw [cut_init] at h20
    walk_at "go"
    refine r_ixT (ex_t (e19.trans e20) t11) rfl ?_
    walk_at "go"
    refine r_slL (l_of (e20 _ _ (e19 _ _ k11))) fun c2 H18 _ e21 h21 => ?_
    rw [cut_init] at h21
    walk_at "go"
    refine same_eqW (l_of (e21 _ _ h20)) (w5.ex ((e18.trans e20).trans e21)) (l_of h21) (wp11.ex ((e19.trans e20).trans e21)) ?_
    walk_at "go"
    refine r_newL (by simp) fun c3 H19 _ e22 h22 => ?_
    walk_at "go"
    refine ⟨l, c3, [], [], rfl, l1, l4, l_of h22, WkA.nil, by simp, fun u hu => (nomatch hu), fun q7 p7 H20 e23 _ _ v20 => ?_⟩
    have ok0 : Pt.Ok ((1 : Int), ([] : List (List Int))) 0 := ⟨by decide, by decide, by decide, fun u hu => (nomatch hu)⟩
    walk_at "go"
    refine r_repr v20.dp (shows_pt ok0 (by decide)) ?_
    walk_at "go"
    refine r_newL (by simp) fun c4 H21 _ e24 h24 => ?_
    walk_at "go"
    refine r_newT (by simp) fun c5 H22 _ e25 h25 => ?_
    walk_at "go"
    have v22 : PtV K H22 c5 c4 (1, []) := ⟨[], t_of h25, e25 _ _ h24, WkA.nil⟩
    refine r_repr v22.dp (shows_pt ok0 (by decide)) ?_
    walk_at "go"
    refine same_eqS ?_
    exact q H22 (s11.ext ((((((e19.trans e20).trans e21).trans e22).trans e23).trans e24).trans e25)).ex
end
end Lw
namespace Lw
open PySem PySem.Spec PyProof.Rows L2 Evl

local macro_rules | `(tactic| walk_at "go") => `(tactic| repeat (first
  | with_reducible refine st_seq ?_ | with_reducible refine st_set ?_ | with_reducible refine st_asg ?_ | with_reducible refine st_ret ?_ | with_reducible refine st_drop ?_ | with_reducible refine st_if ?_
  | with_reducible refine st_c ?_ | ((with_reducible refine' st_v ?h ?_); (case h => exact rfl)) | with_reducible refine st_n ?_ | with_reducible refine st_cons ?_ | with_reducible refine st_op ?_ | with_reducible refine st_un ?_
  | with_reducible refine st_cb ?_ | with_reducible refine st_test ?_ | with_reducible refine st_call ?_ | with_reducible refine st_callK ?_ | with_reducible refine st_sl ?_ | with_reducible refine st_par ?_ | with_reducible refine st_par3 ?_ | with_reducible refine st_tru ?_
  | with_reducible refine st_and ?_ | with_reducible refine st_or ?_ | with_reducible refine st_not ?_ | with_reducible refine st_B ?_ | with_reducible refine st_andV ?_ | with_reducible refine st_orV ?_ | with_reducible refine st_notV ?_ | with_reducible refine st_ifE ?_
  | with_reducible refine st_part ?_ | with_reducible refine st_nop ?_ | with_reducible refine st_sub ?_ | with_reducible refine st_chain ?_ | with_reducible refine st_bl ?_ | with_reducible refine st_in ?_ | with_reducible refine r_truB ?_
  | with_reducible refine st_nameG ?_ | with_reducible refine if_T ?_ | with_reducible refine if_F ?_ | with_reducible refine if_nT ?_ | with_reducible refine if_nF ?_
  | with_reducible refine r_add ?_ | with_reducible refine r_0 ?_ | with_reducible refine r_neg ?_ | with_reducible refine r_intI ?_ | with_reducible refine r_intB ?_ | with_reducible refine r_abs ?_ | with_reducible refine r_max2 ?_ | with_reducible refine r_min2 ?_ | with_reducible refine r_eqI ?_ | with_reducible refine r_neI ?_
  | with_reducible refine st_nxt ?_ | with_reducible refine st_cnt ?_ | with_reducible refine st_brk ?_ | with_reducible refine st_retn ?_
  | with_reducible refine st_lstN ?_ | with_reducible refine st_tupN ?_
  | with_reducible refine st_for ?_ | with_reducible refine st_lc ?_ | with_reducible refine st_lc2 ?_ | with_reducible refine st_rng1 ?_ | with_reducible refine st_rng2 ?_ | with_reducible refine st_rng3 ?_ | with_reducible refine st_itL ?_ | with_reducible refine st_itT ?_ | with_reducible refine st_rev ?_ | with_reducible refine st_enumE ?_ | with_reducible refine st_zip3 ?_ | with_reducible refine st_lvals ?_ | with_reducible refine st_fld ?_ | with_reducible refine st_sfld ?_ | with_reducible refine st_meth ?_ | with_reducible refine st_make ?_ | with_reducible refine st_rg1 ?_ | with_reducible refine st_enumS ?_ | with_reducible refine st_dg1 ?_ | with_reducible refine st_dg2 ?_ | with_reducible refine st_dpop ?_ | with_reducible refine st_dset ?_ | with_reducible refine st_dc ?_ | with_reducible refine st_keys ?_ | with_reducible refine st_dget ?_ | with_reducible refine st_din ?_ | with_reducible refine st_dnin ?_ | with_reducible refine st_dput ?_ | with_reducible refine st_dnew ?_ | with_reducible refine st_lstRg ?_ | with_reducible refine st_rg2 ?_ | with_reducible refine r_twoI ?_ | with_reducible refine st_bm ?_ | with_reducible refine st_bm0 ?_
  | ((with_reducible refine' st_aug ?h ?_); (case h => exact rfl)) | with_reducible refine r_augI ?_ | with_reducible refine r_eqB ?_
  | dsimp only))
section
variable {P : Program} {w : World} {K : PySem.W.Frag} {mg : Str → Option Value} {base : Heap} {A : Ad}

def sp_law (K : PySem.W.Frag) : Sp := fun vs H Q _ => ∃ (a : Addr) (ns : List Int), vs = [.ref a] ∧ SqL K H a (ns.map V.int) ∧ ns.length ≤ 63 ∧ ∀ H', Q (.bl true) H'
theorem ok_law (T : Tx K mg A) : FnG P w K mg base CX0 8 A.a_law A.f_law P_law (sp_law K) := by
  refine T.F_law.okG sc_law (fun vs H Q E h => ?_) (fun cdv A' outer s H vs Q E g hr h => ?_)
  · obtain ⟨a, ns, rfl, _⟩ := h
    rfl
  · obtain ⟨a, sc, rfl, hS, hlen, q⟩ := h
    refine ⟨_, (pss_cons (ps_for PassesOwn.never rfl (pi_range1 (by rfl) T.n_range (pa_cons (pe_callB (max2_K rfl) (by rfl) T.n_max (by decide +kernel) (pa_cons pe_int (pa_cons (pe_callB (min2_K rfl) (by rfl) T.n_min (by decide +kernel) (pa_cons pe_int (pa_cons (pe_callB (len_K K) (by rfl) T.n_len (by decide +kernel) (pa_cons (pv 0) pa_nil)) pa_nil))) pa_nil))) pa_nil)) (pg_name (i := 1) sc_law.nd rfl (Or.inl rfl)) (pss_one (ps_if (pt_not (pt_truK K (pe_callG (ok__law_right T) g (hr.mono (by decide)) (by rfl) T.g__law_right T.F__law_right.kp T.b__law_right .nil pass0 (pa_cons (pe_call (ok__law_well T) (hr.mono (by decide)) (by rfl) T.g__law_well T.F__law_well.kp T.b__law_well .nil pass0 (pa_cons (pv 0) (pa_cons (pv 1) pa_nil))) pa_nil)))) (pss_one (ps_ret pe_bl)) pss_nil)))
      (pss_one (ps_ret pe_bl))), ?_⟩
    walk_at "go"
    refine r_lenL hS ?_
    walk_at "go"
    rw [List.length_map]
    refine r_rng1 (by omega) (by omega) (r_forR (m := (max (1 : Int) (min 2 (sc.length : Int))).toNat) (fun i σ' H' => ∃ vk, Ex H H' ∧ σ' = [some (.ref a), vk]) ⟨none, Ex.refl H, rfl⟩ ?_ ?_)
    · rintro i σ' H1 hi ⟨vk, e1, rfl⟩
      walk_at "go"
      refine ⟨a, sc, _, rfl, ex_l e1 hS, hlen, by omega, by omega, fun w H2 hw e2 d2 => ?_⟩
      have hw0 : H w = none := fresh_back e1 hw
      walk_at "go"
      refine ⟨w, 0, rfl, d2, by omega, fun H3 e3 => ?_⟩
      refine r_truB (if_nT ?_)
      exact ⟨_, fun b o hb => e3 b o (e2 b o (e1 b o hb)) (ne_of_none hb hw0), rfl⟩
    · rintro σ' H' ⟨vk, e1, rfl⟩
      walk_at "go"
      exact q H'
end
theorem all_mk {l : PySem.W.OpenLaw} {w : World} {K : PySem.W.Frag} {h : Heap} {mg : Str → Option Value} {fa : Addr} {f_is_integer f_straightened f_ways_along f__law_well f__law_take f__law_straight f__law_steps f_is_letters f_is_step_of f_petals_of f__law_walk f__law_petals f_is_walk_of f_check_letters f__law_list f_check_walk f_check_walks f_petals f__law_right f_law : Addr} (X : K.In h) (G : h.Ns mainGlobals mg) (hfa : mg "law" = some (.ref fa))
    {od_is_integer an_is_integer od_straightened an_straightened od_ways_along an_ways_along od__law_well an__law_well od__law_take an__law_take od__law_straight an__law_straight od__law_steps an__law_steps od_is_letters an_is_letters od_is_step_of an_is_step_of od_petals_of an_petals_of od__law_walk an__law_walk od__law_petals an__law_petals od_is_walk_of an_is_walk_of od_check_letters an_check_letters od__law_list an__law_list od_check_walk an_check_walk od_check_walks an_check_walks od_petals an_petals od__law_right an__law_right od_law an_law : Option Addr} {sl_is_integer sl_straightened sl_ways_along sl__law_well sl__law_take sl__law_straight sl__law_steps sl_is_letters sl_is_step_of sl_petals_of sl__law_walk sl__law_petals sl_is_walk_of sl_check_letters sl__law_list sl_check_walk sl_check_walks sl_petals sl__law_right sl_law : Array (Option Value)} {oc_is_integer kV_is_integer dc_is_integer pm_is_integer cd_is_integer ct_is_integer oc_straightened kV_straightened dc_straightened pm_straightened cd_straightened ct_straightened oc_ways_along kV_ways_along dc_ways_along pm_ways_along cd_ways_along ct_ways_along oc__law_well kV__law_well dc__law_well pm__law_well cd__law_well ct__law_well oc__law_take kV__law_take dc__law_take pm__law_take cd__law_take ct__law_take oc__law_straight kV__law_straight dc__law_straight pm__law_straight cd__law_straight ct__law_straight oc__law_steps kV__law_steps dc__law_steps pm__law_steps cd__law_steps ct__law_steps oc_is_letters kV_is_letters dc_is_letters pm_is_letters cd_is_letters ct_is_letters oc_is_step_of kV_is_step_of dc_is_step_of pm_is_step_of cd_is_step_of ct_is_step_of oc_petals_of kV_petals_of dc_petals_of pm_petals_of cd_petals_of ct_petals_of oc__law_walk kV__law_walk dc__law_walk pm__law_walk cd__law_walk ct__law_walk oc__law_petals kV__law_petals dc__law_petals pm__law_petals cd__law_petals ct__law_petals oc_is_walk_of kV_is_walk_of dc_is_walk_of pm_is_walk_of cd_is_walk_of ct_is_walk_of oc_check_letters kV_check_letters dc_check_letters pm_check_letters cd_check_letters ct_check_letters oc__law_list kV__law_list dc__law_list pm__law_list cd__law_list ct__law_list oc_check_walk kV_check_walk dc_check_walk pm_check_walk cd_check_walk ct_check_walk oc_check_walks kV_check_walks dc_check_walks pm_check_walks cd_check_walks ct_check_walks oc_petals kV_petals dc_petals pm_petals cd_petals ct_petals oc__law_right kV__law_right dc__law_right pm__law_right cd__law_right ct__law_right oc_law kV_law dc_law pm_law cd_law ct_law : Value} {tc_MOST_LETTERS : Tok}
    (a_is_integer : PySem.W.nsIn K mainGlobals "is_integer" = some (some (.ref f_is_integer))) (l_is_integer : K.lookup f_is_integer = some ⟨oc_is_integer, od_is_integer, .func (PySem.W.fnOf "is_integer" "is_integer" (defArgs s_is_integer) (defBody s_is_integer) (defScope s_is_integer) .none kV_is_integer dc_is_integer pm_is_integer an_is_integer cd_is_integer ct_is_integer), sl_is_integer⟩) (c_is_integer : PySem.W.codeIn K cd_is_integer "is_integer" = true) (k_is_integer : PySem.W.keepIn K (.ref f_is_integer) = true)
    (a_straightened : PySem.W.nsIn K mainGlobals "straightened" = some (some (.ref f_straightened))) (l_straightened : K.lookup f_straightened = some ⟨oc_straightened, od_straightened, .func (PySem.W.fnOf "straightened" "straightened" (defArgs s_straightened) (defBody s_straightened) (defScope s_straightened) .none kV_straightened dc_straightened pm_straightened an_straightened cd_straightened ct_straightened), sl_straightened⟩) (c_straightened : PySem.W.codeIn K cd_straightened "straightened" = true) (k_straightened : PySem.W.keepIn K (.ref f_straightened) = true)
    (a_ways_along : PySem.W.nsIn K mainGlobals "ways_along" = some (some (.ref f_ways_along))) (l_ways_along : K.lookup f_ways_along = some ⟨oc_ways_along, od_ways_along, .func (PySem.W.fnOf "ways_along" "ways_along" (defArgs s_ways_along) (defBody s_ways_along) (defScope s_ways_along) .none kV_ways_along dc_ways_along pm_ways_along an_ways_along cd_ways_along ct_ways_along), sl_ways_along⟩) (c_ways_along : PySem.W.codeIn K cd_ways_along "ways_along" = true) (k_ways_along : PySem.W.keepIn K (.ref f_ways_along) = true)
    (a__law_well : PySem.W.nsIn K mainGlobals "_law_well" = some (some (.ref f__law_well))) (l__law_well : K.lookup f__law_well = some ⟨oc__law_well, od__law_well, .func (PySem.W.fnOf "_law_well" "_law_well" (defArgs s__law_well) (defBody s__law_well) (defScope s__law_well) .none kV__law_well dc__law_well pm__law_well an__law_well cd__law_well ct__law_well), sl__law_well⟩) (c__law_well : PySem.W.codeIn K cd__law_well "_law_well" = true) (k__law_well : PySem.W.keepIn K (.ref f__law_well) = true)
    (a__law_take : PySem.W.nsIn K mainGlobals "_law_take" = some (some (.ref f__law_take))) (l__law_take : K.lookup f__law_take = some ⟨oc__law_take, od__law_take, .func (PySem.W.fnOf "_law_take" "_law_take" (defArgs s__law_take) (defBody s__law_take) (defScope s__law_take) .none kV__law_take dc__law_take pm__law_take an__law_take cd__law_take ct__law_take), sl__law_take⟩) (c__law_take : PySem.W.codeIn K cd__law_take "_law_take" = true) (k__law_take : PySem.W.keepIn K (.ref f__law_take) = true)
    (a__law_straight : PySem.W.nsIn K mainGlobals "_law_straight" = some (some (.ref f__law_straight))) (l__law_straight : K.lookup f__law_straight = some ⟨oc__law_straight, od__law_straight, .func (PySem.W.fnOf "_law_straight" "_law_straight" (defArgs s__law_straight) (defBody s__law_straight) (defScope s__law_straight) .none kV__law_straight dc__law_straight pm__law_straight an__law_straight cd__law_straight ct__law_straight), sl__law_straight⟩) (c__law_straight : PySem.W.codeIn K cd__law_straight "_law_straight" = true) (k__law_straight : PySem.W.keepIn K (.ref f__law_straight) = true)
    (a__law_steps : PySem.W.nsIn K mainGlobals "_law_steps" = some (some (.ref f__law_steps))) (l__law_steps : K.lookup f__law_steps = some ⟨oc__law_steps, od__law_steps, .func (PySem.W.fnOf "_law_steps" "_law_steps" (defArgs s__law_steps) (defBody s__law_steps) (defScope s__law_steps) .none kV__law_steps dc__law_steps pm__law_steps an__law_steps cd__law_steps ct__law_steps), sl__law_steps⟩) (c__law_steps : PySem.W.codeIn K cd__law_steps "_law_steps" = true) (k__law_steps : PySem.W.keepIn K (.ref f__law_steps) = true)
    (a_is_letters : PySem.W.nsIn K mainGlobals "is_letters" = some (some (.ref f_is_letters))) (l_is_letters : K.lookup f_is_letters = some ⟨oc_is_letters, od_is_letters, .func (PySem.W.fnOf "is_letters" "is_letters" (defArgs s_is_letters) (defBody s_is_letters) (defScope s_is_letters) .none kV_is_letters dc_is_letters pm_is_letters an_is_letters cd_is_letters ct_is_letters), sl_is_letters⟩) (c_is_letters : PySem.W.codeIn K cd_is_letters "is_letters" = true) (k_is_letters : PySem.W.keepIn K (.ref f_is_letters) = true)
    (a_is_step_of : PySem.W.nsIn K mainGlobals "is_step_of" = some (some (.ref f_is_step_of))) (l_is_step_of : K.lookup f_is_step_of = some ⟨oc_is_step_of, od_is_step_of, .func (PySem.W.fnOf "is_step_of" "is_step_of" (defArgs s_is_step_of) (defBody s_is_step_of) (defScope s_is_step_of) .none kV_is_step_of dc_is_step_of pm_is_step_of an_is_step_of cd_is_step_of ct_is_step_of), sl_is_step_of⟩) (c_is_step_of : PySem.W.codeIn K cd_is_step_of "is_step_of" = true) (k_is_step_of : PySem.W.keepIn K (.ref f_is_step_of) = true)
    (a_petals_of : PySem.W.nsIn K mainGlobals "petals_of" = some (some (.ref f_petals_of))) (l_petals_of : K.lookup f_petals_of = some ⟨oc_petals_of, od_petals_of, .func (PySem.W.fnOf "petals_of" "petals_of" (defArgs s_petals_of) (defBody s_petals_of) (defScope s_petals_of) .none kV_petals_of dc_petals_of pm_petals_of an_petals_of cd_petals_of ct_petals_of), sl_petals_of⟩) (c_petals_of : PySem.W.codeIn K cd_petals_of "petals_of" = true) (k_petals_of : PySem.W.keepIn K (.ref f_petals_of) = true)
    (a__law_walk : PySem.W.nsIn K mainGlobals "_law_walk" = some (some (.ref f__law_walk))) (l__law_walk : K.lookup f__law_walk = some ⟨oc__law_walk, od__law_walk, .func (PySem.W.fnOf "_law_walk" "_law_walk" (defArgs s__law_walk) (defBody s__law_walk) (defScope s__law_walk) .none kV__law_walk dc__law_walk pm__law_walk an__law_walk cd__law_walk ct__law_walk), sl__law_walk⟩) (c__law_walk : PySem.W.codeIn K cd__law_walk "_law_walk" = true) (k__law_walk : PySem.W.keepIn K (.ref f__law_walk) = true)
    (a__law_petals : PySem.W.nsIn K mainGlobals "_law_petals" = some (some (.ref f__law_petals))) (l__law_petals : K.lookup f__law_petals = some ⟨oc__law_petals, od__law_petals, .func (PySem.W.fnOf "_law_petals" "_law_petals" (defArgs s__law_petals) (defBody s__law_petals) (defScope s__law_petals) .none kV__law_petals dc__law_petals pm__law_petals an__law_petals cd__law_petals ct__law_petals), sl__law_petals⟩) (c__law_petals : PySem.W.codeIn K cd__law_petals "_law_petals" = true) (k__law_petals : PySem.W.keepIn K (.ref f__law_petals) = true)
    (a_is_walk_of : PySem.W.nsIn K mainGlobals "is_walk_of" = some (some (.ref f_is_walk_of))) (l_is_walk_of : K.lookup f_is_walk_of = some ⟨oc_is_walk_of, od_is_walk_of, .func (PySem.W.fnOf "is_walk_of" "is_walk_of" (defArgs s_is_walk_of) (defBody s_is_walk_of) (defScope s_is_walk_of) .none kV_is_walk_of dc_is_walk_of pm_is_walk_of an_is_walk_of cd_is_walk_of ct_is_walk_of), sl_is_walk_of⟩) (c_is_walk_of : PySem.W.codeIn K cd_is_walk_of "is_walk_of" = true) (k_is_walk_of : PySem.W.keepIn K (.ref f_is_walk_of) = true)
    (a_check_letters : PySem.W.nsIn K mainGlobals "check_letters" = some (some (.ref f_check_letters))) (l_check_letters : K.lookup f_check_letters = some ⟨oc_check_letters, od_check_letters, .func (PySem.W.fnOf "check_letters" "check_letters" (defArgs s_check_letters) (defBody s_check_letters) (defScope s_check_letters) .none kV_check_letters dc_check_letters pm_check_letters an_check_letters cd_check_letters ct_check_letters), sl_check_letters⟩) (c_check_letters : PySem.W.codeIn K cd_check_letters "check_letters" = true) (k_check_letters : PySem.W.keepIn K (.ref f_check_letters) = true)
    (a__law_list : PySem.W.nsIn K mainGlobals "_law_list" = some (some (.ref f__law_list))) (l__law_list : K.lookup f__law_list = some ⟨oc__law_list, od__law_list, .func (PySem.W.fnOf "_law_list" "_law_list" (defArgs s__law_list) (defBody s__law_list) (defScope s__law_list) .none kV__law_list dc__law_list pm__law_list an__law_list cd__law_list ct__law_list), sl__law_list⟩) (c__law_list : PySem.W.codeIn K cd__law_list "_law_list" = true) (k__law_list : PySem.W.keepIn K (.ref f__law_list) = true)
    (a_check_walk : PySem.W.nsIn K mainGlobals "check_walk" = some (some (.ref f_check_walk))) (l_check_walk : K.lookup f_check_walk = some ⟨oc_check_walk, od_check_walk, .func (PySem.W.fnOf "check_walk" "check_walk" (defArgs s_check_walk) (defBody s_check_walk) (defScope s_check_walk) .none kV_check_walk dc_check_walk pm_check_walk an_check_walk cd_check_walk ct_check_walk), sl_check_walk⟩) (c_check_walk : PySem.W.codeIn K cd_check_walk "check_walk" = true) (k_check_walk : PySem.W.keepIn K (.ref f_check_walk) = true)
    (a_check_walks : PySem.W.nsIn K mainGlobals "check_walks" = some (some (.ref f_check_walks))) (l_check_walks : K.lookup f_check_walks = some ⟨oc_check_walks, od_check_walks, .func (PySem.W.fnOf "check_walks" "check_walks" (defArgs s_check_walks) (defBody s_check_walks) (defScope s_check_walks) .none kV_check_walks dc_check_walks pm_check_walks an_check_walks cd_check_walks ct_check_walks), sl_check_walks⟩) (c_check_walks : PySem.W.codeIn K cd_check_walks "check_walks" = true) (k_check_walks : PySem.W.keepIn K (.ref f_check_walks) = true)
    (a_petals : PySem.W.nsIn K mainGlobals "petals" = some (some (.ref f_petals))) (l_petals : K.lookup f_petals = some ⟨oc_petals, od_petals, .func (PySem.W.fnOf "petals" "petals" (defArgs s_petals) (defBody s_petals) (defScope s_petals) .none kV_petals dc_petals pm_petals an_petals cd_petals ct_petals), sl_petals⟩) (c_petals : PySem.W.codeIn K cd_petals "petals" = true) (k_petals : PySem.W.keepIn K (.ref f_petals) = true)
    (a__law_right : PySem.W.nsIn K mainGlobals "_law_right" = some (some (.ref f__law_right))) (l__law_right : K.lookup f__law_right = some ⟨oc__law_right, od__law_right, .func (PySem.W.fnOf "_law_right" "_law_right" (defArgs s__law_right) (defBody s__law_right) (defScope s__law_right) .none kV__law_right dc__law_right pm__law_right an__law_right cd__law_right ct__law_right), sl__law_right⟩) (c__law_right : PySem.W.codeIn K cd__law_right "_law_right" = true) (k__law_right : PySem.W.keepIn K (.ref f__law_right) = true)
    (a_law : PySem.W.nsIn K mainGlobals "law" = some (some (.ref f_law))) (l_law : K.lookup f_law = some ⟨oc_law, od_law, .func (PySem.W.fnOf "law" "law" (defArgs s_law) (defBody s_law) (defScope s_law) .none kV_law dc_law pm_law an_law cd_law ct_law), sl_law⟩) (c_law : PySem.W.codeIn K cd_law "law" = true) (k_law : PySem.W.keepIn K (.ref f_law) = true)
    (z_all : PySem.W.nsIn K mainGlobals "all" = some none)
    (z_bool : PySem.W.nsIn K mainGlobals "bool" = some none)
    (z_enumerate : PySem.W.nsIn K mainGlobals "enumerate" = some none)
    (z_int : PySem.W.nsIn K mainGlobals "int" = some none)
    (z_isinstance : PySem.W.nsIn K mainGlobals "isinstance" = some none)
    (z_len : PySem.W.nsIn K mainGlobals "len" = some none)
    (z_list : PySem.W.nsIn K mainGlobals "list" = some none)
    (z_max : PySem.W.nsIn K mainGlobals "max" = some none)
    (z_min : PySem.W.nsIn K mainGlobals "min" = some none)
    (z_range : PySem.W.nsIn K mainGlobals "range" = some none)
    (z_repr : PySem.W.nsIn K mainGlobals "repr" = some none)
    (z_tuple : PySem.W.nsIn K mainGlobals "tuple" = some none)
    (z_zip : PySem.W.nsIn K mainGlobals "zip" = some none)
    (v_MOST_LETTERS : PySem.W.nsIn K mainGlobals "MOST_LETTERS" = some (some (.int 4 tc_MOST_LETTERS)))
    : ∃ fd : FuncData, (∀ (s : Shared) (v : Value), BindsTo s fd ⟨[v], []⟩ [("_law_script", v)]) ∧ ∀ base : Heap, K.In base → base.Ns mainGlobals mg → FnG l.prog w K mg base CX0 8 fa fd ["_law_script"] (sp_law K) := by
  have e := hfa.symm.trans (PySem.W.mg_of X G a_law)
  cases e
  have F_is_integer := fun_mk (st := s_is_integer) l_is_integer c_is_integer k_is_integer
  have F_straightened := fun_mk (st := s_straightened) l_straightened c_straightened k_straightened
  have F_ways_along := fun_mk (st := s_ways_along) l_ways_along c_ways_along k_ways_along
  have F__law_well := fun_mk (st := s__law_well) l__law_well c__law_well k__law_well
  have F__law_take := fun_mk (st := s__law_take) l__law_take c__law_take k__law_take
  have F__law_straight := fun_mk (st := s__law_straight) l__law_straight c__law_straight k__law_straight
  have F__law_steps := fun_mk (st := s__law_steps) l__law_steps c__law_steps k__law_steps
  have F_is_letters := fun_mk (st := s_is_letters) l_is_letters c_is_letters k_is_letters
  have F_is_step_of := fun_mk (st := s_is_step_of) l_is_step_of c_is_step_of k_is_step_of
  have F_petals_of := fun_mk (st := s_petals_of) l_petals_of c_petals_of k_petals_of
  have F__law_walk := fun_mk (st := s__law_walk) l__law_walk c__law_walk k__law_walk
  have F__law_petals := fun_mk (st := s__law_petals) l__law_petals c__law_petals k__law_petals
  have F_is_walk_of := fun_mk (st := s_is_walk_of) l_is_walk_of c_is_walk_of k_is_walk_of
  have F_check_letters := fun_mk (st := s_check_letters) l_check_letters c_check_letters k_check_letters
  have F__law_list := fun_mk (st := s__law_list) l__law_list c__law_list k__law_list
  have F_check_walk := fun_mk (st := s_check_walk) l_check_walk c_check_walk k_check_walk
  have F_check_walks := fun_mk (st := s_check_walks) l_check_walks c_check_walks k_check_walks
  have F_petals := fun_mk (st := s_petals) l_petals c_petals k_petals
  have F__law_right := fun_mk (st := s__law_right) l__law_right c__law_right k__law_right
  have F_law := fun_mk (st := s_law) l_law c_law k_law
  have b_is_integer := F_is_integer.binds (ps := P_is_integer) fun _ _ _ _ _ _ us hl => match us, hl with | [_], _ => rfl
  have b_straightened := F_straightened.binds (ps := P_straightened) fun _ _ _ _ _ _ us hl => match us, hl with | [_], _ => rfl
  have b_ways_along := F_ways_along.binds (ps := P_ways_along) fun _ _ _ _ _ _ us hl => match us, hl with | [_, _, _, _], _ => rfl
  have b__law_well := F__law_well.binds (ps := P__law_well) fun _ _ _ _ _ _ us hl => match us, hl with | [_, _], _ => rfl
  have b__law_take := F__law_take.binds (ps := P__law_take) fun _ _ _ _ _ _ us hl => match us, hl with | [_, _], _ => rfl
  have b__law_straight := F__law_straight.binds (ps := P__law_straight) fun _ _ _ _ _ _ us hl => match us, hl with | [_], _ => rfl
  have b__law_steps := F__law_steps.binds (ps := P__law_steps) fun _ _ _ _ _ _ us hl => match us, hl with | [_], _ => rfl
  have b_is_letters := F_is_letters.binds (ps := P_is_letters) fun _ _ _ _ _ _ us hl => match us, hl with | [_], _ => rfl
  have b_is_step_of := F_is_step_of.binds (ps := P_is_step_of) fun _ _ _ _ _ _ us hl => match us, hl with | [_, _], _ => rfl
  have b_petals_of := F_petals_of.binds (ps := P_petals_of) fun _ _ _ _ _ _ us hl => match us, hl with | [_], _ => rfl
  have b__law_walk := F__law_walk.binds (ps := P__law_walk) fun _ _ _ _ _ _ us hl => match us, hl with | [_, _, _], _ => rfl
  have b__law_petals := F__law_petals.binds (ps := P__law_petals) fun _ _ _ _ _ _ us hl => match us, hl with | [_], _ => rfl
  have b_is_walk_of := F_is_walk_of.binds (ps := P_is_walk_of) fun _ _ _ _ _ _ us hl => match us, hl with | [_, _], _ => rfl
  have b_check_letters := F_check_letters.binds (ps := P_check_letters) fun _ _ _ _ _ _ us hl => match us, hl with | [_], _ => rfl
  have b__law_list := F__law_list.binds (ps := P__law_list) fun _ _ _ _ _ _ us hl => match us, hl with | [_, _], _ => rfl
  have b_check_walk := F_check_walk.binds (ps := P_check_walk) fun _ _ _ _ _ _ us hl => match us, hl with | [_, _], _ => rfl
  have b_check_walks := F_check_walks.binds (ps := P_check_walks) fun _ _ _ _ _ _ us hl => match us, hl with | [_, _], _ => rfl
  have b_petals := F_petals.binds (ps := P_petals) fun _ _ _ _ _ _ us hl => match us, hl with | [_, _], _ => rfl
  have b__law_right := F__law_right.binds (ps := P__law_right) fun _ _ _ _ _ _ us hl => match us, hl with | [_], _ => rfl
  have b_law := F_law.binds (ps := P_law) fun _ _ _ _ _ _ us hl => match us, hl with | [_], _ => rfl
  have T : Tx K mg ⟨f_is_integer, _, f_straightened, _, f_ways_along, _, f__law_well, _, f__law_take, _, f__law_straight, _, f__law_steps, _, f_is_letters, _, f_is_step_of, _, f_petals_of, _, f__law_walk, _, f__law_petals, _, f_is_walk_of, _, f_check_letters, _, f__law_list, _, f_check_walk, _, f_check_walks, _, f_petals, _, f__law_right, _, fa, _⟩ := {
    g_is_integer := PySem.W.mg_of X G a_is_integer, F_is_integer := F_is_integer, b_is_integer := b_is_integer,
    g_straightened := PySem.W.mg_of X G a_straightened, F_straightened := F_straightened, b_straightened := b_straightened,
    g_ways_along := PySem.W.mg_of X G a_ways_along, F_ways_along := F_ways_along, b_ways_along := b_ways_along,
    g__law_well := PySem.W.mg_of X G a__law_well, F__law_well := F__law_well, b__law_well := b__law_well,
    g__law_take := PySem.W.mg_of X G a__law_take, F__law_take := F__law_take, b__law_take := b__law_take,
    g__law_straight := PySem.W.mg_of X G a__law_straight, F__law_straight := F__law_straight, b__law_straight := b__law_straight,
    g__law_steps := PySem.W.mg_of X G a__law_steps, F__law_steps := F__law_steps, b__law_steps := b__law_steps,
    g_is_letters := PySem.W.mg_of X G a_is_letters, F_is_letters := F_is_letters, b_is_letters := b_is_letters,
    g_is_step_of := PySem.W.mg_of X G a_is_step_of, F_is_step_of := F_is_step_of, b_is_step_of := b_is_step_of,
    g_petals_of := PySem.W.mg_of X G a_petals_of, F_petals_of := F_petals_of, b_petals_of := b_petals_of,
    g__law_walk := PySem.W.mg_of X G a__law_walk, F__law_walk := F__law_walk, b__law_walk := b__law_walk,
    g__law_petals := PySem.W.mg_of X G a__law_petals, F__law_petals := F__law_petals, b__law_petals := b__law_petals,
    g_is_walk_of := PySem.W.mg_of X G a_is_walk_of, F_is_walk_of := F_is_walk_of, b_is_walk_of := b_is_walk_of,
    g_check_letters := PySem.W.mg_of X G a_check_letters, F_check_letters := F_check_letters, b_check_letters := b_check_letters,
    g__law_list := PySem.W.mg_of X G a__law_list, F__law_list := F__law_list, b__law_list := b__law_list,
    g_check_walk := PySem.W.mg_of X G a_check_walk, F_check_walk := F_check_walk, b_check_walk := b_check_walk,
    g_check_walks := PySem.W.mg_of X G a_check_walks, F_check_walks := F_check_walks, b_check_walks := b_check_walks,
    g_petals := PySem.W.mg_of X G a_petals, F_petals := F_petals, b_petals := b_petals,
    g__law_right := PySem.W.mg_of X G a__law_right, F__law_right := F__law_right, b__law_right := b__law_right,
    g_law := PySem.W.mg_of X G a_law, F_law := F_law, b_law := b_law,
    n_all := PySem.W.mg_none_of X G z_all,
    n_bool := PySem.W.mg_none_of X G z_bool,
    n_enumerate := PySem.W.mg_none_of X G z_enumerate,
    n_int := PySem.W.mg_none_of X G z_int,
    n_isinstance := PySem.W.mg_none_of X G z_isinstance,
    n_len := PySem.W.mg_none_of X G z_len,
    n_list := PySem.W.mg_none_of X G z_list,
    n_max := PySem.W.mg_none_of X G z_max,
    n_min := PySem.W.mg_none_of X G z_min,
    n_range := PySem.W.mg_none_of X G z_range,
    n_repr := PySem.W.mg_none_of X G z_repr,
    n_tuple := PySem.W.mg_none_of X G z_tuple,
    n_zip := PySem.W.mg_none_of X G z_zip,
    c_MOST_LETTERS := ⟨_, PySem.W.mg_of X G v_MOST_LETTERS⟩ }
  exact ⟨PySem.W.fnOf "law" "law" (defArgs s_law) (defBody s_law) (defScope s_law) .none kV_law dc_law pm_law an_law cd_law ct_law, fun s v => .of_eq rfl, fun base _ _ => ok_law T⟩

end Lw
open PySem PySem.W PyProof.Rows
set_option maxHeartbeats 0 in
theorem PySem.Challenge.cw_walkclubs_k10_petals_ring_by_ring_holds : PySem.Challenge.rw_walkclubs_k10_petals_ring_by_ring.Holds := by
  w_on; o_law; k_head; (case hw => w_witness2)
  k_fill
  refine L2.walk_quiet (l := PySem.Challenge.rw_walkclubs_k10_petals_ring_by_ring) (n := 63) (k := 8) (x := "_law_script") (CX := fun _ => L2.CX0) (sp := fun w => Lw.sp_law _) rfl (by decide) rfl ⟨rfl, by decide, by decide⟩ (fun w h Y => PySem.W.kIn_of Y) ?F (fun _ _ a ns hl _ hS => ⟨a, ns, rfl, hS, hl, fun _ => rfl⟩) (fun _ _ _ _ _ h => h)
  case F =>
    intro w mg fa h KX G hmg
    refine' Lw.all_mk KX G hmg ?a_is_integer ?l_is_integer ?c_is_integer ?k_is_integer ?a_straightened ?l_straightened ?c_straightened ?k_straightened ?a_ways_along ?l_ways_along ?c_ways_along ?k_ways_along ?a__law_well ?l__law_well ?c__law_well ?k__law_well ?a__law_take ?l__law_take ?c__law_take ?k__law_take ?a__law_straight ?l__law_straight ?c__law_straight ?k__law_straight ?a__law_steps ?l__law_steps ?c__law_steps ?k__law_steps ?a_is_letters ?l_is_letters ?c_is_letters ?k_is_letters ?a_is_step_of ?l_is_step_of ?c_is_step_of ?k_is_step_of ?a_petals_of ?l_petals_of ?c_petals_of ?k_petals_of ?a__law_walk ?l__law_walk ?c__law_walk ?k__law_walk ?a__law_petals ?l__law_petals ?c__law_petals ?k__law_petals ?a_is_walk_of ?l_is_walk_of ?c_is_walk_of ?k_is_walk_of ?a_check_letters ?l_check_letters ?c_check_letters ?k_check_letters ?a__law_list ?l__law_list ?c__law_list ?k__law_list ?a_check_walk ?l_check_walk ?c_check_walk ?k_check_walk ?a_check_walks ?l_check_walks ?c_check_walks ?k_check_walks ?a_petals ?l_petals ?c_petals ?k_petals ?a__law_right ?l__law_right ?c__law_right ?k__law_right ?a_law ?l_law ?c_law ?k_law ?z_all ?z_bool ?z_enumerate ?z_int ?z_isinstance ?z_len ?z_list ?z_max ?z_min ?z_range ?z_repr ?z_tuple ?z_zip ?v_MOST_LETTERS
    (case a_is_integer => k_is); (case l_is_integer => k_is); (case c_is_integer => k_is); (case k_is_integer => k_is); (case a_straightened => k_is); (case l_straightened => k_is); (case c_straightened => k_is); (case k_straightened => k_is); (case a_ways_along => k_is); (case l_ways_along => k_is); (case c_ways_along => k_is); (case k_ways_along => k_is); (case a__law_well => k_is); (case l__law_well => k_is); (case c__law_well => k_is); (case k__law_well => k_is); (case a__law_take => k_is); (case l__law_take => k_is); (case c__law_take => k_is); (case k__law_take => k_is); (case a__law_straight => k_is); (case l__law_straight => k_is); (case c__law_straight => k_is); (case k__law_straight => k_is); (case a__law_steps => k_is); (case l__law_steps => k_is); (case c__law_steps => k_is); (case k__law_steps => k_is); (case a_is_letters => k_is); (case l_is_letters => k_is); (case c_is_letters => k_is); (case k_is_letters => k_is); (case a_is_step_of => k_is); (case l_is_step_of => k_is); (case c_is_step_of => k_is); (case k_is_step_of => k_is); (case a_petals_of => k_is); (case l_petals_of => k_is); (case c_petals_of => k_is); (case k_petals_of => k_is); (case a__law_walk => k_is); (case l__law_walk => k_is); (case c__law_walk => k_is); (case k__law_walk => k_is); (case a__law_petals => k_is); (case l__law_petals => k_is); (case c__law_petals => k_is); (case k__law_petals => k_is); (case a_is_walk_of => k_is); (case l_is_walk_of => k_is); (case c_is_walk_of => k_is); (case k_is_walk_of => k_is); (case a_check_letters => k_is); (case l_check_letters => k_is); (case c_check_letters => k_is); (case k_check_letters => k_is); (case a__law_list => k_is); (case l__law_list => k_is); (case c__law_list => k_is); (case k__law_list => k_is); (case a_check_walk => k_is); (case l_check_walk => k_is); (case c_check_walk => k_is); (case k_check_walk => k_is); (case a_check_walks => k_is); (case l_check_walks => k_is); (case c_check_walks => k_is); (case k_check_walks => k_is); (case a_petals => k_is); (case l_petals => k_is); (case c_petals => k_is); (case k_petals => k_is); (case a__law_right => k_is); (case l__law_right => k_is); (case c__law_right => k_is); (case k__law_right => k_is); (case a_law => k_is); (case l_law => k_is); (case c_law => k_is); (case k_law => k_is); (case z_all => k_is); (case z_bool => k_is); (case z_enumerate => k_is); (case z_int => k_is); (case z_isinstance => k_is); (case z_len => k_is); (case z_list => k_is); (case z_max => k_is); (case z_min => k_is); (case z_range => k_is); (case z_repr => k_is); (case z_tuple => k_is); (case z_zip => k_is); (case v_MOST_LETTERS => k_is)

#print axioms PySem.Challenge.cw_walkclubs_k10_petals_ring_by_ring_holds
