import PyProof.Rows.All
import Wide.All
import OpenK.AllK
import Wide.FinOn
import HandS.ForMost
import HandS.Flow
import HandS.IsInst
import HandS.Style
import HandS.TupAny
import HandS.TupMul
import HandS.Wide
import HandS.Evl
import HandS.SortKw
import PyProof.ReprReads
import HandS.Zip
import PyProof.ReprLen
import KE.GoesNew
import KE.GoesMore
import KE.GoesEnum
import PyProof.ReprRoads
import HandS.Conv
import PyProof.ReprBulk
import HandS.WideMore
import HandS.WideBits
import PySem.Challenge.RW_walkclubs_k05_walks_in_their_order
set_option Elab.async false
set_option linter.all false
set_option maxRecDepth 100000
set_option maxHeartbeats 4000000
/-! rules that the layer lacks: ** of wide ints, tuple * any int, t[::-1] of a tuple, a call of keywords alone -/
namespace HT
open PySem PySem.Spec PyProof.Rows
section
variable {prog : Program} {w : World} {A : Around} {E : Value → Shared → Prop} {s : Shared}
theorem wk_pick (xs : Array Value) : ((List.range xs.size).filterMap fun (k : Nat) => xs[((((xs.size : Nat) : Int) - 1) + (k : Int) * (-1)).toNat]?).toArray = xs.toList.reverse.toArray := by
  have e : (List.range xs.size).filterMap (fun (k : Nat) => xs[((((xs.size : Nat) : Int) - 1) + (k : Int) * (-1)).toNat]?) = ((List.range xs.size).map fun k => xs.size - 1 - k).filterMap (xs[·]?) := by
    rw [List.filterMap_map]
    have e0 : (fun (k : Nat) => xs[((((xs.size : Nat) : Int) - 1) + (k : Int) * (-1)).toNat]?) = ((xs[·]?) ∘ fun k => xs.size - 1 - k) := by
      funext k
      have e1 : ((((xs.size : Nat) : Int) - 1) + (k : Int) * (-1)).toNat = xs.size - 1 - k := by omega
      show xs[((((xs.size : Nat) : Int) - 1) + (k : Int) * (-1)).toNat]? = xs[xs.size - 1 - k]?
      rw [e1]
    rw [e0]
  rw [e, PySem.W.krv_range, List.filterMap_reverse, PySem.W.krv_all]
theorem wk_places (n : Nat) : Builtin.Slice.slicePlaces ((n : Int) - 1) (-1) (-1) = n := by
  unfold Builtin.Slice.slicePlaces
  rw [if_neg (by decide)]
  by_cases h : n = 0
  · subst h
    rfl
  · rw [if_pos (by omega), show (- -1 : Int) = 1 from rfl, Int.ediv_one]
    omega
theorem wk_applied {sl : Addr} {vs : Value} {n : Nat} {Q : Int × Int × Nat → Shared → Prop} (hs : s.heap.IsSliceOf sl .none .none vs) (ps : IsPart vs (some (-1)))
    (h : Q ((n : Int) - 1, -1, n) s) : wpAny (model prog w) A (Builtin.Slice.sliceApplied (.ref sl) (pure (n : Int))) Q E s := by
  obtain ⟨os, hos, hcs, hds⟩ := id hs
  unfold Builtin.Slice.sliceApplied Builtin.Slice.sliceFields
  refine wpAny_bind (wpAny_bind (wpAny_field hos hds (x := .none) rfl (wpAny_bind (wpAny_field hos hds (x := .none) rfl (wpAny_bind (wpAny_field hos hds (x := vs) rfl (wpAny_pure ?_)))))))
  refine wpAny_bind (slicePart_ ps ?_)
  show wpAny _ _ (if ((-1 : Int) == 0) = true then _ else _) _ _ s
  rw [if_neg (by decide)]
  refine wpAny_bind (slicePart_none (wpAny_bind (slicePart_none (wpAny_bind (wpAny_pure ?_)))))
  show wpAny _ _ (pure (((n : Int) - 1), (-1 : Int), Builtin.Slice.slicePlaces ((n : Int) - 1) (-1) (-1))) _ _ s
  rw [wk_places]
  exact wpAny_pure h
theorem wk_getItem_tuple_rev {t sl : Addr} {items : Array Value} {vs : Value} {Q : Value → Shared → Prop} (ht : IsTup s.heap t items) (hs : s.heap.IsSliceOf sl .none .none vs) (ps : IsPart vs (some (-1)))
    (h : Q (.ref s.heap.objs.size) { s with heap := s.heap.push { cls := .type "tuple", data := .seq items.toList.reverse.toArray } })
    (hsz : items.size ≤ sizeLine) : wpAny (model prog w) A (getItem (.ref t) (.ref sl)) Q E s := by
  have htake : sizeOk (.seq items.toList.reverse.toArray) := by
    show items.toList.reverse.toArray.size ≤ sizeLine
    rw [List.size_toArray, List.length_reverse, Array.length_toList]
    exact hsz
  obtain ⟨os, hos, hcs, hds⟩ := id hs
  have hTs : s.TypeIs (.ref sl) "slice" := ⟨os, hos, hcs⟩
  unfold getItem
  try with_reducible refine wpAny_holding ?_
  first | refine wpAny_bind (wpAny_pure ?_) | skip
  refine wpAny_bind (wpAny_sequenceKey ht.typeIs (by decide) ?_)
  refine wpAny_bind (wpAny_callSpecial?_slot (name := Str.ofString "__getitem__") ht.typeIs PyProof.Rows.slot_tuple_getitem
    (wpAny_call_entry PyProof.Rows.slot_tuple_getitem ht.typeIs entry_tuple_getitem ?_ (args_tuple_getitem _ _)))
  show wpAny _ _ (Builtin.Tuple.tupleItemsOf (.ref t) >>= _) _ _ s
  refine wpAny_bind (tupleItemsOf_ ht ?_)
  refine wpAny_bind (wpAny_typeOf hTs ?_)
  rw [if_pos (by decide)]
  refine wpAny_bind (wk_applied hs ps ?_)
  have hno : ¬ (((((items.size : Nat) : Int) - 1) == 0 && (-1 : Int) == 1 && items.size == items.size) = true) := by
    intro q
    rw [Bool.and_eq_true, Bool.and_eq_true] at q
    exact absurd q.1.2 (by decide)
  show wpAny _ _ (if ((((items.size : Nat) : Int) - 1) == 0 && (-1 : Int) == 1 && items.size == items.size) = true then _ else _) _ _ s
  rw [if_neg hno, wk_pick]
  first
    | exact wpAny_bind (m := Builtin.Tuple.tupleExact _) (wpAny_newObj_type (wpAny_pure ⟨_, rfl, wpAny_pure h⟩) htake)
    | exact wpAny_bind (m := Builtin.Tuple.tupleExact _) (wpAny_newObj_type (wpAny_bind (wpAny_pure (wpAny_pure ⟨_, rfl, wpAny_pure h⟩))) htake)
    | exact wpAny_bind (wpAny_bind (m := Builtin.Tuple.tupleExact _) (wpAny_newObj_type (wpAny_pure (wpAny_pure ⟨_, rfl, wpAny_pure h⟩)) htake))
    | exact wpAny_bind (wpAny_bind (m := Builtin.Tuple.tupleExact _) (wpAny_newObj_type (wpAny_pure ⟨_, rfl, wpAny_pure h⟩) htake))
end
end HT
namespace L2
open PySem PySem.Spec PyProof.Rows HT
/-! ### ** -/
def CPowW (i j : Int) : Prop := 0 ≤ j ∧ (Builtin.Int.intBits i : Int) * j ≤ 2 ^ 27
section
variable {X : Cx}
theorem op_powW : OpR X (binaryOp .Pow) (rI CPowW fun i j => .int (i ^ j.toNat)) := opI fun _ _ _ _ _ _ _ hc q => pow_int hc.1 hc.2 q
end
theorem wide_bits {i : Int} {a : Nat} (h0 : 0 < a) (ha : i.natAbs < 2 ^ a) : Builtin.Int.intBits i ≤ a := by
  have x := PySem.Flt.log2_lt_of h0 ha
  unfold Builtin.Int.intBits
  split <;> omega
theorem wide_pow {i : Int} {a k : Nat} (h0 : 0 < a) (ha : i.natAbs < 2 ^ a) (h : a * k ≤ 134217728) : CPowW i (k : Int) := by
  refine ⟨by omega, ?_⟩
  have x := wide_bits h0 ha
  have y : Builtin.Int.intBits i * k ≤ a * k := Nat.mul_le_mul_right k x
  have z : ((Builtin.Int.intBits i * k : Nat) : Int) ≤ 2 ^ 27 := by
    have : Builtin.Int.intBits i * k ≤ 134217728 := Nat.le_trans y h
    have e : (2 : Int) ^ 27 = 134217728 := by decide
    rw [e]
    omega
  rw [Int.natCast_mul] at z
  exact z
/-! ### tuple * int, any -/
theorem wk_tuple_same (l : Addr) (items : Array Value) (n : Nat) (dd : Option Addr) (sl : Array (Option Value)) (x : Int) (u : Tok) (c0 : (decide (x < -(2 ^ 63)) || decide (x ≥ 2 ^ 63)) = false) (c1 : (items.isEmpty || x == 1) = true) :
    Meets (Builtin.«tuple.__mul__» ⟨[.ref l, .int x u], []⟩) (fun _ R s => s.heap.get? l = some { cls := .type "tuple", dict := dd, data := .seq items n, slots := sl } ∧ R (.ok (.ret (Value.ref l))) s) :=
  .of_wp fun prog w A R s h => by
    obtain ⟨hp, g, d, tk, os⟩ := s
    obtain ⟨hl, h⟩ := h
    have f1 := AutoSeq1.idx_int
    wp_walk using wpAny_loadPart' hl
    repeat (first
      | (refine wpAny_ite_false (decide_eq_false (by rw [c0]; exact Bool.false_ne_true)) ?_; wp_walk using wpAny_loadPart' hl)
      | (refine wpAny_ite_true (decide_eq_true c1) ?_; wp_walk using wpAny_loadPart' hl))
    exact ⟨_, rfl, h⟩
theorem wk_tuple_none (l : Addr) (items : Array Value) (n : Nat) (dd : Option Addr) (sl : Array (Option Value)) (x : Int) (u : Tok) (c0 : (decide (x < -(2 ^ 63)) || decide (x ≥ 2 ^ 63)) = false) (c1 : (items.isEmpty || x == 1) = false) (c2 : (decide (x ≤ 0) || items.isEmpty) = true) :
    Meets (Builtin.«tuple.__mul__» ⟨[.ref l, .int x u], []⟩) (fun _ R s => s.heap.get? l = some { cls := .type "tuple", dict := dd, data := .seq items n, slots := sl } ∧
      R (.ok (.ret (Value.ref s.heap.objs.size))) { s with heap := s.heap.push { cls := Value.type "tuple", data := Data.seq #[] }, toks := s.toks }) :=
  .of_wp fun prog w A R s h => by
    obtain ⟨hp, g, d, tk, os⟩ := s
    obtain ⟨hl, h⟩ := h
    have f1 := AutoSeq1.idx_int
    wp_walk using wpAny_loadPart' hl
    repeat (first
      | (refine wpAny_ite_false (decide_eq_false (by rw [c0]; exact Bool.false_ne_true)) ?_; wp_walk using wpAny_loadPart' hl)
      | (refine wpAny_ite_false (decide_eq_false (by rw [c1]; exact Bool.false_ne_true)) ?_; wp_walk using wpAny_loadPart' hl)
      | (refine wpAny_ite_true (decide_eq_true c2) ?_; wp_walk using wpAny_loadPart' hl))
    exact ⟨_, rfl, h⟩
def rRepTA (K : PySem.W.Frag) : R2 := fun x y H Q => ∃ l k xs, x = .ref l ∧ y = .int k ∧ SqT K H l xs ∧ 0 ≤ k ∧ k ≤ 1000 ∧ xs.length ≤ 1000 ∧
  (xs = [] ∨ k = 1 → Q (.ref l) H) ∧ (¬ (xs = [] ∨ k = 1) → ∀ p, H p = none → Q (.ref p) (upd H p (.tup (List.replicate k.toNat xs).flatten)))
section
variable {X : Cx}
theorem op_repTA : OpR X (binaryOp .Mult) (rRepTA X.K) := by
  intro pins s σ H x y v u Q I rx ry h
  obtain ⟨l, k, xs, rfl, rfl, hT, h1, h2, hz, q1, q2⟩ := h
  by_cases h2k : 2 ≤ k ∧ xs ≠ []
  · exact op_repT pins s σ H _ _ v u Q I rx ry ⟨l, k, xs, rfl, rfl, hT, h2k.2, h2k.1, h2, hz, q2 (fun z => z.elim h2k.2 fun e => by have := h2k.1; omega)⟩
  · cases rx
    obtain ⟨t, rfl⟩ := ry
    obtain ⟨its, r, ⟨⟨cls, dd, data, sl⟩, ho, hc, n, hd⟩, hs⟩ := I.tuple hT
    simp only at hc hd
    subst hc hd
    have hle : its.length = xs.length := r.length.symm
    have c0 : (decide (k < -(2 ^ 63)) || decide (k ≥ 2 ^ 63)) = false := by
      rw [decide_eq_false (by omega), decide_eq_false (by omega)] <;> rfl
    have hi : its.toArray.isEmpty = decide (xs = []) := by
      cases its with
      | nil =>
        have e : xs = [] := List.eq_nil_of_length_eq_zero (by simpa using hle.symm)
        subst e
        rfl
      | cons a b =>
        have e : xs ≠ [] := fun z => by
          subst z
          simp at hle
        rw [decide_eq_false e]
        rfl
    by_cases hw : xs = [] ∨ k = 1
    · have c1 : (its.toArray.isEmpty || k == 1) = true := by
        rw [hi]
        rcases hw with e | e
        · simp [e]
        · simp [e]
      refine wpAny_binaryOp_repeat_ref (T := "tuple") (U := "int") (by decide) ⟨_, ho, rfl⟩ (fun s' => typeIs_int s' k t) noFill_tuple_mul F.fills_int_mul F.slot_int_rmul repeat_tuple F.slot_int_index.lookup
        (call_meets F.slot_int_rmul (typeIs_int s k t) F.entry_int_rmul (F.args_int_rmul_2 _ _) (int_rmul_tuple k t l its.toArray n dd sl)
          ⟨ho, rfl, ⟨_, ho, rfl⟩, call_meets F.slot_tuple_mul ⟨_, ho, rfl⟩ F.entry_tuple_mul (F.args_tuple_mul_2 _ _) (wk_tuple_same l its.toArray n dd sl k t c0 c1) ⟨ho, ?_⟩⟩)
      exact ⟨.ref l, H, I, rfl, q1 hw⟩
    · have hne : xs ≠ [] := fun e => hw (.inl e)
      have hk0 : k = 0 := by
        have h3 : ¬ 2 ≤ k := fun z => h2k ⟨z, hne⟩
        have h4 : k ≠ 1 := fun z => hw (.inr z)
        omega
      have c1 : (its.toArray.isEmpty || k == 1) = false := by
        rw [hi, decide_eq_false hne, hk0]
        rfl
      have c2 : (decide (k ≤ 0) || its.toArray.isEmpty) = true := by
        rw [hk0]
        rfl
      refine wpAny_binaryOp_repeat_ref (T := "tuple") (U := "int") (by decide) ⟨_, ho, rfl⟩ (fun s' => typeIs_int s' k t) noFill_tuple_mul F.fills_int_mul F.slot_int_rmul repeat_tuple F.slot_int_index.lookup
        (call_meets F.slot_int_rmul (typeIs_int s k t) F.entry_int_rmul (F.args_int_rmul_2 _ _) (int_rmul_tuple k t l its.toArray n dd sl)
          ⟨ho, rfl, ⟨_, ho, rfl⟩, call_meets F.slot_tuple_mul ⟨_, ho, rfl⟩ F.entry_tuple_mul (F.args_tuple_mul_2 _ _) (wk_tuple_none l its.toArray n dd sl k t c0 c1 c2) ⟨ho, ?_⟩⟩)
      refine ⟨.ref s.heap.objs.size, _, I.laid (t' := s.toks) (o := .tup (List.replicate k.toNat xs).flatten) (fun b ob q => Heap.get?_push_of_some _ q) (Nat.le_refl _) ?_, rfl, q2 hw _ (I.hok.fresh (Nat.le_refl _))⟩
      subst hk0
      exact ⟨Nat.zero_le _, [], .nil, IsTup.new _ _⟩
/-! ### t[::-1] -/
def tRevT (K : PySem.W.Frag) (te : TE) : TE := fun σ H Q => te σ H fun x H1 => ∃ a xs, x = .ref a ∧ SqT K H1 a xs ∧ ∀ p, H1 p = none → Q (.ref p) (upd H1 p (.tup xs.reverse))
theorem pe_revT {e : Expr} {te : TE} {k : Nat} {p1 p2 p3 pos : Pos} (he : PE X e te) : PE X (.Subscript e (.Slice none none (some (.UnaryOp .USub (.Constant (.int 1) k p1) p2)) p3) pos) (tRevT X.K te) := by
  refine ⟨fun pins s σ H Q I h => ?_⟩
  refine Subscript_ (thn (he.run pins s σ H _ I h) fun v s1 ⟨x, H1, I1, r1, q1⟩ => ?_)
  obtain ⟨a, xs, ex, hx, q⟩ := q1
  subst ex
  cases r1
  have hst : PO X (some (.UnaryOp .USub (.Constant (.int 1) k p1) p2)) (tPart (tUn (rU fun i => .int (-i)) (tC (.int 1)))) := po_some (pe_un un_neg pe_int)
  refine wpAny_Slice (thn (po_none.run pins s1 σ H1 (fun o H2 => o = none ∧ H2 = H1) I1 ⟨rfl, rfl⟩) fun vl s2 ⟨l, H2, I2, pl, el, e2⟩ => ?_)
  subst el e2
  cases pl
  refine thn (po_none.run pins s2 σ H2 (fun o H3 => o = none ∧ H3 = H2) I2 ⟨rfl, rfl⟩) fun vu s3 ⟨u, H3, I3, pu, eu, e3⟩ => ?_
  subst eu e3
  cases pu
  refine thn (hst.run pins s3 σ H3 (fun o H4 => o = some (-1) ∧ H4 = H3) I3 ⟨1, rfl, -1, rfl, rfl, rfl⟩) fun vs s4 ⟨o, H4, I4, ps, eo, e4⟩ => ?_
  subst eo e4
  have I5 : Inv X pins σ H4 { s4 with heap := s4.heap.push { cls := .type "slice", data := .fields #[.none, .none, vs] } } := I4.kept (t' := s4.toks) fun b ob q => Heap.get?_push_of_some _ q
  obtain ⟨its, r, ht, hz⟩ := I5.tuple hx
  have hlen := r.length
  show wpAny (model X.prog X.w) X.A (subscriptTail e (.Slice none none (some (.UnaryOp .USub (.Constant (.int 1) k p1) p2)) p3) (.ref a) (.ref s4.heap.objs.size)) (EP X pins σ Q) X.xe { s4 with heap := s4.heap.push { cls := .type "slice", data := .fields #[.none, .none, vs] } }
  refine tail_any (ops := [.ref a, .ref s4.heap.objs.size]) ht.typeIs (PyProof.Rows.slot_tuple_getitem.lookup) ?_ (by with_unfolding_all rfl)
  refine wk_getItem_tuple_rev ht (Heap.IsSliceOf.new _ .none .none vs) ps ?_ (by rw [List.size_toArray]; omega)
  refine ⟨.ref _, _, I5.laid (t' := s4.toks) (o := .tup xs.reverse) (fun b ob q => Heap.get?_push_of_some _ q) (Nat.le_refl _) ?_, rfl, q _ (I5.hok.fresh (Nat.le_refl _))⟩
  exact ⟨by rw [List.length_reverse]; exact hz, _, r.reverse, IsTup.new _ _⟩
end
/-! ### f(k = v, ..) -/
section
variable {X : Cx} {CX : CXT} {k : Nat} {f : Addr} {fd : FuncData} {ps ks : List Str} {sp : Sp} {E : XK} {x : Str} {p pos : Pos} {kws : List Keyword} {tk : TA} {g : List Value → List Value → List Value} {gV : List V → List V → List V}
theorem pe_callK0 (F : FnOk X.prog X.w X.K X.mg X.base CX k f fd ps sp) (hr : Room k X.A) (hg : Gl X x) (hm : X.mg x = some (.ref f)) (hk : PySem.W.keepIn X.K (.ref f) = true) (hb : KBinds X.K fd ps ks g gV) (hx : Passes CX X E)
    (hkw : PK X kws tk) (hall : (backToKw pos (keywordEach kws X.env)).all (·.1.isSome) = true := by rfl) (hks : (backToKw pos (keywordEach kws X.env)).filterMap (·.1) = ks := by rfl)
    (hdb : (x == ("__debug__" : Str)) = false := by decide)
    (hpl : ((backTo pos (starEach [] X.env)).any (·.1) || (backToKw pos (keywordEach kws X.env)).any (·.1.isNone)) = false := by rfl) :
    PE X (.Call (.Name x p) [] kws pos) (tCallK sp gV E tNil tk) := by
  refine ⟨fun pins s σ H Q I h => ?_⟩
  refine wpAny_Call_Name_kw (ld_glob I hg hm ?_ hdb)
  refine PySem.W.callWith_KW0 (h₀ := X.base) I.ok.mod.kin hk hall ?_ hpl
  refine thn (hkw.run pos pins s σ H _ I h) fun ws s2 ⟨zs, H2, I2, rz, q2⟩ => ⟨I2.kIn, ?_⟩
  rw [hks]
  exact run_fnk (us := []) (vs := []) F hr hb hx I2 .nil rz q2
end
end L2
/-! operators that go by what they meet: ints, lists, tuples -/
namespace L2
open PySem PySem.Spec PyProof.Rows Evl
def rAddI : R2 := rI0 fun i j => .int (i + j)
def rSubI : R2 := rI0 fun i j => .int (i - j)
def rMulI : R2 := rI CMul fun i j => .int (i * j)
def rMulJ : R2 := rI CMulW fun i j => .int (i * j)
def rModI : R2 := rI (fun _ j => 0 < j) fun i j => .int (i % j)
def rAddU (K : PySem.W.Frag) : R2 := fun x y H Q => rAddI x y H Q ∨ rCat x y H Q ∨ rCatA K x y H Q
def rMulU (K : PySem.W.Frag) : R2 := fun x y H Q => rMulI x y H Q ∨ rMulJ x y H Q ∨ rRep x y H Q ∨ rRepTA K x y H Q
def rEqU (K : PySem.W.Frag) : R2 := fun x y H Q => rEq x y H Q ∨ rEqD K x y H Q
def rNeU (K : PySem.W.Frag) : R2 := fun x y H Q => rNe x y H Q ∨ rNeD K x y H Q
def rSlU (K : PySem.W.Frag) : V → Option Int → Option Int → Hp → VK → Prop := fun x lo hi H Q => rSlL K x lo hi H Q ∨ rSlA K x lo hi H Q
section
variable {X : Cx}
theorem op_addU : OpR X (binaryOp .Add) (rAddU X.K) := op_add.or (op_cat.or op_catA)
theorem op_mulU : OpR X (binaryOp .Mult) (rMulU X.K) := op_mul.or (op_mulW.or (op_rep.or op_repTA))
theorem op_eqU (hu : X.A.units + 64 < cLine) : OpR X (compareOp .Eq) (rEqU X.K) := op_eq.or (op_eqD hu)
theorem op_neU (hu : X.A.units + 64 < cLine) : OpR X (compareOp .NotEq) (rNeU X.K) := op_ne.or (op_neD hu)
theorem sl_U : SlR X (rSlU X.K) := sl_list.or sl_tupA
def tRevU (K : PySem.W.Frag) (te : TE) : TE := fun σ H Q => te σ H fun x H1 => (∃ a xs, x = .ref a ∧ SqL K H1 a xs ∧ ∀ p, H1 p = none → Q (.ref p) (upd H1 p (.lst xs.reverse))) ∨ (∃ a xs, x = .ref a ∧ SqT K H1 a xs ∧ ∀ p, H1 p = none → Q (.ref p) (upd H1 p (.tup xs.reverse)))
/-- the reading of a part may be parted: what it gives is one of two -/
theorem pe_revU {e : Expr} {te : TE} {k : Nat} {p1 p2 p3 pos : Pos} (he : PE X e te) : PE X (.Subscript e (.Slice none none (some (.UnaryOp .USub (.Constant (.int 1) k p1) p2)) p3) pos) (tRevU X.K te) := by
  refine ⟨fun pins s σ H Q I h => ?_⟩
  refine Subscript_ (thn (he.run pins s σ H _ I h) fun v s1 ⟨x, H1, I1, r1, q1⟩ => ?_)
  have hst : PO X (some (.UnaryOp .USub (.Constant (.int 1) k p1) p2)) (tPart (tUn (rU fun i => .int (-i)) (tC (.int 1)))) := po_some (pe_un un_neg pe_int)
  refine wpAny_Slice (thn (po_none.run pins s1 σ H1 (fun o H2 => o = none ∧ H2 = H1) I1 ⟨rfl, rfl⟩) fun vl s2 ⟨l, H2, I2, pl, el, e2⟩ => ?_)
  subst el e2
  cases pl
  refine thn (po_none.run pins s2 σ H2 (fun o H3 => o = none ∧ H3 = H2) I2 ⟨rfl, rfl⟩) fun vu s3 ⟨u, H3, I3, pu, eu, e3⟩ => ?_
  subst eu e3
  cases pu
  refine thn (hst.run pins s3 σ H3 (fun o H4 => o = some (-1) ∧ H4 = H3) I3 ⟨1, rfl, -1, rfl, rfl, rfl⟩) fun vs s4 ⟨o, H4, I4, ps, eo, e4⟩ => ?_
  subst eo e4
  have I5 : Inv X pins σ H4 { s4 with heap := s4.heap.push { cls := .type "slice", data := .fields #[.none, .none, vs] } } := I4.kept (t' := s4.toks) fun b ob q => Heap.get?_push_of_some _ q
  rcases q1 with ⟨a, xs, ex, hx, q⟩ | ⟨a, xs, ex, hx, q⟩
  · subst ex
    cases r1
    obtain ⟨its, r, ht, hz⟩ := I5.list hx
    have hlen := r.length
    show wpAny (model X.prog X.w) X.A (subscriptTail e (.Slice none none (some (.UnaryOp .USub (.Constant (.int 1) k p1) p2)) p3) (.ref a) (.ref s4.heap.objs.size)) (EP X pins σ Q) X.xe { s4 with heap := s4.heap.push { cls := .type "slice", data := .fields #[.none, .none, vs] } }
    refine tail_any (ops := [.ref a, .ref s4.heap.objs.size]) ht.isList.typeIs (PySem.slot_list_getitem.lookup) ?_ (by with_unfolding_all rfl)
    refine wpAny_getItem_list_slice ht.isList (Heap.IsSliceOf.new _ .none .none vs) .none .none ps (by decide) ?_ (by rw [List.size_toArray]; omega)
    rw [PySem.W.krv_pick]
    refine ⟨.ref _, _, I5.laid (t' := s4.toks) (o := .lst xs.reverse) (fun b ob q => Heap.get?_push_of_some _ q) (Nat.le_refl _) ?_, rfl, q _ (I5.hok.fresh (Nat.le_refl _))⟩
    exact ⟨by rw [List.length_reverse]; exact hz, _, 0, r.reverse, Heap.get?_push_size _ rfl⟩
  · subst ex
    cases r1
    obtain ⟨its, r, ht, hz⟩ := I5.tuple hx
    have hlen := r.length
    show wpAny (model X.prog X.w) X.A (subscriptTail e (.Slice none none (some (.UnaryOp .USub (.Constant (.int 1) k p1) p2)) p3) (.ref a) (.ref s4.heap.objs.size)) (EP X pins σ Q) X.xe { s4 with heap := s4.heap.push { cls := .type "slice", data := .fields #[.none, .none, vs] } }
    refine tail_any (ops := [.ref a, .ref s4.heap.objs.size]) ht.typeIs (PyProof.Rows.slot_tuple_getitem.lookup) ?_ (by with_unfolding_all rfl)
    refine HT.wk_getItem_tuple_rev ht (Heap.IsSliceOf.new _ .none .none vs) ps ?_ (by rw [List.size_toArray]; omega)
    refine ⟨.ref _, _, I5.laid (t' := s4.toks) (o := .tup xs.reverse) (fun b ob q => Heap.get?_push_of_some _ q) (Nat.le_refl _) ?_, rfl, q _ (I5.hok.fresh (Nat.le_refl _))⟩
    exact ⟨by rw [List.length_reverse]; exact hz, _, r.reverse, IsTup.new _ _⟩
end

/-! ### heaps -/
abbrev IT (K : PySem.W.Frag) (H : Hp) (a : Addr) (ns : List Int) : Prop := SqT K H a (ns.map V.int)
abbrev IL (K : PySem.W.Frag) (H : Hp) (a : Addr) (ns : List Int) : Prop := SqL K H a (ns.map V.int)
/-- all but what stands at w is as it was -/
def ExW (w : Addr) (H H' : Hp) : Prop := ∀ a o, H a = some o → a ≠ w → H' a = some o
theorem ExW.refl {w : Addr} (H : Hp) : ExW w H H := fun _ _ h _ => h
theorem ExW.trans {w : Addr} {H H1 H2 : Hp} (a : ExW w H H1) (b : ExW w H1 H2) : ExW w H H2 := fun x o h n => b x o (a x o h n) n
theorem ExW.of {w : Addr} {H H' : Hp} (e : Ex H H') : ExW w H H' := fun a o h _ => e a o h
theorem ExW.upd {w : Addr} {H : Hp} {o : HO} : ExW w H (upd H w o) := fun a u h n => by
  rw [upd_ne n]
  exact h
theorem exw_t {K : PySem.W.Frag} {w : Addr} {H H' : Hp} {a : Addr} {xs ys : List V} (e : ExW w H H') (hw : H w = some (.lst ys)) (h : SqT K H a xs) : SqT K H' a xs := by
  rcases h with (h | ⟨o, h⟩) | h
  · exact .inl (.inl (e _ _ h (ne_of h hw (by intro z; cases z))))
  · exact .inl (.inr ⟨o, e _ _ h (ne_of h hw (by intro z; cases z))⟩)
  · exact .inr h
theorem exw_l {K : PySem.W.Frag} {w : Addr} {H H' : Hp} {a : Addr} {xs : List V} (e : ExW w H H') (hw : a ≠ w) (h : SqL K H a xs) : SqL K H' a xs := by
  rcases h with (h | ⟨o, h⟩) | h
  · exact .inl (.inl (e _ _ h hw))
  · exact .inl (.inr ⟨o, e _ _ h hw⟩)
  · exact .inr h
/-- a new object, the heap behind it unnamed -/
theorem alloc {H : Hp} {o : HO} {Q : VK} (h : ∀ p H1, H p = none → Ex H H1 → H1 p = some o → Q (.ref p) H1) : ∀ p, H p = none → Q (.ref p) (upd H p o) :=
  fun p hp => h p _ hp (Ex.new hp) upd_same
theorem t_of {K : PySem.W.Frag} {H : Hp} {a : Addr} {xs : List V} (h : H a = some (.tup xs)) : SqT K H a xs := .inl (.inl h)
theorem l_of {K : PySem.W.Frag} {H : Hp} {a : Addr} {xs : List V} (h : H a = some (.lst xs)) : SqL K H a xs := .inl (.inl h)
/-- a tuple of the heap is no list of it -/
theorem t_ne {K : PySem.W.Frag} {H : Hp} {a w : Addr} {xs ys : List V} (h : H a = some (.tup xs)) (hw : H w = some (.lst ys)) : a ≠ w := ne_of h hw (by intro z; cases z)
/-- data of ints -/
theorem dp_ints {K : PySem.W.Frag} {H : Hp} : ∀ ns : List Int, DpAll K H (ns.map V.int) (ns.map PyData.int)
  | [] => .nil
  | n :: r => .cons (.int n) (dp_ints r)
theorem dp_t {K : PySem.W.Frag} {H : Hp} {a : Addr} {ns : List Int} (h : IT K H a ns) : Dp K H (.ref a) (.tuple (ns.map .int)) := .tup h (dp_ints ns)
theorem dp_l {K : PySem.W.Frag} {H : Hp} {a : Addr} {ns : List Int} (h : IL K H a ns) : Dp K H (.ref a) (.list (ns.map .int)) := .lst h (dp_ints ns)
end L2
namespace L2
open PySem PySem.Spec PyProof.Rows Evl
/-! ### == of sequences of ints -/
theorem eqvAll_ints : ∀ ns ms : List Int, PyData.eqvAll (ns.map .int) (ms.map .int) = decide (ns = ms)
  | [], [] => by simp [PyData.eqvAll]
  | [], m :: ms => by simp [PyData.eqvAll]
  | n :: ns, [] => by simp [PyData.eqvAll]
  | n :: ns, m :: ms => by
    rw [List.map_cons, List.map_cons, PyData.eqvAll, eqvAll_ints ns ms, PyData.eqv]
    by_cases h : n = m
    · subst h
      simp
    · simp [h]
theorem eqv_tints (ns ms : List Int) : PyData.eqv (.tuple (ns.map .int)) (.tuple (ms.map .int)) = decide (ns = ms) := by rw [PyData.eqv, eqvAll_ints]
theorem eqv_lints (ns ms : List Int) : PyData.eqv (.list (ns.map .int)) (.list (ms.map .int)) = decide (ns = ms) := by rw [PyData.eqv, eqvAll_ints]
theorem canLay_ints : ∀ ns : List Int, PyData.canLayAll0 (ns.map .int) = true
  | [] => by simp [PyData.canLayAll0]
  | n :: ns => by
    rw [List.map_cons, PyData.canLayAll0, canLay_ints ns]
    simp [PyData.canLay0]
theorem depth_ints : ∀ ns : List Int, PyData.depthAll (ns.map .int) = 0
  | [] => by simp [PyData.depthAll]
  | n :: ns => by
    rw [List.map_cons, PyData.depthAll, depth_ints ns]
    simp [PyData.depth]
theorem shaped_t (ns : List Int) : SeqAt.shaped (.tuple (ns.map .int)) = true := by
  unfold SeqAt.shaped
  rw [PyData.canLay0, canLay_ints, PyData.depth, depth_ints]
  rfl
theorem shaped_l (ns : List Int) : SeqAt.shaped (.list (ns.map .int)) = true := by
  unfold SeqAt.shaped
  rw [PyData.canLay0, canLay_ints, PyData.depth, depth_ints]
  rfl
section
variable {K : PySem.W.Frag} {H : Hp} {Q : VK} {a b : Addr} {ns ms : List Int}
theorem r_eqT (ha : IT K H a ns) (hb : IT K H b ms) (q : Q (.bl (decide (ns = ms))) H) : rEqU K (.ref a) (.ref b) H Q :=
  .inr ⟨_, _, dp_t ha, dp_t hb, shaped_t ns, shaped_t ms, by rw [eqv_tints]; exact q⟩
theorem r_neT (ha : IT K H a ns) (hb : IT K H b ms) (q : Q (.bl (!decide (ns = ms))) H) : rNeU K (.ref a) (.ref b) H Q :=
  .inr ⟨_, _, dp_t ha, dp_t hb, shaped_t ns, shaped_t ms, by rw [eqv_tints]; exact q⟩
theorem r_eqL (ha : IL K H a ns) (hb : IL K H b ms) (q : Q (.bl (decide (ns = ms))) H) : rEqU K (.ref a) (.ref b) H Q :=
  .inr ⟨_, _, dp_l ha, dp_l hb, shaped_l ns, shaped_l ms, by rw [eqv_lints]; exact q⟩
theorem r_neL (ha : IL K H a ns) (hb : IL K H b ms) (q : Q (.bl (!decide (ns = ms))) H) : rNeU K (.ref a) (.ref b) H Q :=
  .inr ⟨_, _, dp_l ha, dp_l hb, shaped_l ns, shaped_l ms, by rw [eqv_lints]; exact q⟩
theorem r_eqI {i j : Int} (q : Q (.bl (decide (i = j))) H) : rEqU K (.int i) (.int j) H Q := .inl ⟨rfl, by
  have e : decide ((V.int i) = V.int j) = decide (i = j) := by simp
  rw [e]
  exact q⟩
theorem r_neI {i j : Int} (q : Q (.bl (!decide (i = j))) H) : rNeU K (.int i) (.int j) H Q := .inl ⟨rfl, by
  have e : decide ((V.int i) = V.int j) = decide (i = j) := by simp
  rw [e]
  exact q⟩
theorem r_add {i j : Int} (q : Q (.int (i + j)) H) : rAddU K (.int i) (.int j) H Q := .inl ⟨i, j, rfl, rfl, q⟩
theorem r_mul {i j : Int} (h : CMul i j) (q : Q (.int (i * j)) H) : rMulU K (.int i) (.int j) H Q := .inl ⟨i, j, rfl, rfl, h, q⟩
theorem r_mulW {i j : Int} (h : CMulW i j) (q : Q (.int (i * j)) H) : rMulU K (.int i) (.int j) H Q := .inr (.inl ⟨i, j, rfl, rfl, h, q⟩)
/-- the tuple of both -/
theorem r_catT {xs ys : List V} (ha : SqT K H a xs) (hb : SqT K H b ys) (hz : xs.length + ys.length ≤ 100000) (q : ∀ p H1, Ex H H1 → SqT K H1 p (xs ++ ys) → Q (.ref p) H1) : rAddU K (.ref a) (.ref b) H Q := by
  refine .inr (.inr ⟨a, b, xs, ys, rfl, rfl, ha, hb, sz_of hz, fun e => ?_, fun _ e => ?_, fun _ _ => alloc fun p H1 _ e h => q p H1 e (t_of h)⟩)
  · subst e
    exact q b H (Ex.refl H) hb
  · subst e
    refine q a H (Ex.refl H) ?_
    rw [List.append_nil]
    exact ha
theorem r_catL {xs ys : List V} (ha : H a = some (.lst xs)) (hb : H b = some (.lst ys)) (hz : xs.length + ys.length ≤ 100000) (q : ∀ p H1, H p = none → Ex H H1 → H1 p = some (.lst (xs ++ ys)) → Q (.ref p) H1) : rAddU K (.ref a) (.ref b) H Q :=
  .inr (.inl ⟨a, b, xs, ys, rfl, rfl, ha, hb, sz_of hz, alloc q⟩)
theorem r_repT {xs : List V} {k : Int} (ha : SqT K H a xs) (h0 : 0 ≤ k) (hk : k ≤ 1000) (hz : xs.length ≤ 1000) (q : ∀ p H1, Ex H H1 → SqT K H1 p (List.replicate k.toNat xs).flatten → Q (.ref p) H1) : rMulU K (.ref a) (.int k) H Q := by
  refine .inr (.inr (.inr ⟨a, k, xs, rfl, rfl, ha, h0, hk, hz, fun e => ?_, fun _ => alloc fun p H1 _ e h => q p H1 e (t_of h)⟩))
  refine q a H (Ex.refl H) ?_
  rcases e with e | e
  · subst e
    have e2 : (List.replicate k.toNat ([] : List V)).flatten = [] := by simp
    rw [e2]
    exact ha
  · subst e
    have e2 : (List.replicate (1 : Int).toNat xs).flatten = xs := by simp
    rw [e2]
    exact ha
/-- a tuple's part -/
theorem r_slT {xs : List V} {lo hi : Option Int} (ha : SqT K H a xs) (q : ∀ p H1, Ex H H1 → SqT K H1 p (cutV xs lo hi) → Q (.ref p) H1) : rSlU K (.ref a) lo hi H Q := by
  refine .inr ⟨a, xs, rfl, ha, fun e => ?_, fun _ => alloc fun p H1 _ e h => q p H1 e (t_of h)⟩
  refine q a H (Ex.refl H) ?_
  have e2 : cutV xs lo hi = xs := by
    unfold cutV
    rw [e.1, e.2, List.drop_zero, Nat.sub_zero, List.take_length]
  rw [e2]
  exact ha
theorem r_slL {xs : List V} {lo hi : Option Int} (ha : SqL K H a xs) (q : ∀ p H1, H p = none → Ex H H1 → H1 p = some (.lst (cutV xs lo hi)) → Q (.ref p) H1) : rSlU K (.ref a) lo hi H Q := .inl ⟨a, xs, rfl, ha, alloc q⟩
end
theorem cut_map {ns : List Int} {lo hi : Option Int} : cutV (ns.map V.int) lo hi = ((ns.drop (HT.sIx ns.length 0 lo)).take (HT.sIx ns.length ns.length hi - HT.sIx ns.length 0 lo)).map V.int := by
  unfold cutV
  rw [List.length_map, List.map_take, List.map_drop]
theorem sIx_int {n d : Nat} {v : Int} (h : 0 ≤ v) : HT.sIx n d (some v) = min v.toNat n := by
  obtain ⟨k, rfl⟩ := Int.eq_ofNat_of_zero_le h
  exact HT.sIx_nat n d k
/-- xs[:k] -/
theorem cut_to {ns : List Int} {k : Int} (h : 0 ≤ k) : cutV (ns.map V.int) none (some k) = (ns.take k.toNat).map V.int := by
  rw [cut_map, HT.sIx_none, sIx_int h, List.drop_zero, Nat.sub_zero]
  congr 1
  rw [Nat.min_def]
  split
  · rfl
  · rw [List.take_of_length_le (Nat.le_refl _), List.take_of_length_le (by omega)]
/-- xs[k:] -/
theorem cut_from {ns : List Int} {k : Int} (h : 0 ≤ k) : cutV (ns.map V.int) (some k) none = (ns.drop k.toNat).map V.int := by
  rw [cut_map, HT.sIx_none, sIx_int h]
  congr 1
  by_cases hk : k.toNat ≤ ns.length
  · rw [Nat.min_eq_left hk, List.take_of_length_le (by rw [List.length_drop]; exact Nat.le_refl _)]
  · rw [Nat.min_eq_right (by omega), List.drop_of_length_le (Nat.le_refl _), List.drop_of_length_le (by omega)]
    simp
/-- an item at a place from 0 on -/
theorem at_int {ns : List Int} {i : Int} {x : Int} (h0 : 0 ≤ i) (hx : ns[i.toNat]? = some x) : atI (ns.map V.int) i = some (.int x) := by
  have e : i = ((i.toNat : Nat) : Int) := by omega
  rw [e]
  exact atI_nat (by rw [List.getElem?_map, hx]; rfl)
theorem at_last {ns : List Int} {x : Int} (hx : ns.getLast? = some x) : atI (ns.map V.int) (-1) = some (.int x) := by
  obtain ⟨ys, rfl⟩ := List.getLast?_eq_some_iff.mp hx
  rw [List.map_append]
  exact atI_last _ _
/-! ### the draws' three ints -/
structure Well (H : Hp) (w : Addr) (n : Nat) : Prop where
  ex : ∃ a b c : Int, H w = some (.lst [.int a, .int b, .int c]) ∧ 0 ≤ a ∧ 0 ≤ b ∧ b.natAbs < 2 ^ 160 ∧ 0 ≤ c ∧ c ≤ n
theorem Well.mono {H H' : Hp} {w : Addr} {n : Nat} (h : Well H w n) (e : Ex H H') : Well H' w n := by
  obtain ⟨a, b, c, h1, h2⟩ := h.ex
  exact ⟨a, b, c, e _ _ h1, h2⟩
theorem Well.more {H : Hp} {w : Addr} {n m : Nat} (h : Well H w n) (e : n ≤ m) : Well H w m := by
  obtain ⟨a, b, c, h1, h2, h3, h4, h5, h6⟩ := h.ex
  exact ⟨a, b, c, h1, h2, h3, h4, h5, by omega⟩
theorem Well.t {K : PySem.W.Frag} {H H' : Hp} {w a : Addr} {n : Nat} {xs : List V} (h : Well H w n) (e : ExW w H H') (t : SqT K H a xs) : SqT K H' a xs := by
  obtain ⟨_, _, _, h1, _⟩ := h.ex
  exact exw_t e h1 t
theorem Well.ne {H : Hp} {w p : Addr} {n : Nat} (h : Well H w n) (hp : H p = none) : p ≠ w := by
  obtain ⟨_, _, _, h1, _⟩ := h.ex
  exact fun e => by
    subst e
    rw [hp] at h1
    cases h1
/-- from what is drawn on -/
def spTake : Sp := fun vs H Q _ => ∃ w n m, vs = [.ref w, .int m] ∧ 0 < m ∧ m < 2 ^ 60 ∧ Well H w n ∧ n < 2 ^ 30 ∧ ∀ r H', 0 ≤ r → r < m → ExW w H H' → Well H' w (n + 1) → Q (.int r) H'
theorem small_t {n : Nat} (h : n ≤ 100000) : n ≤ sizeLine := sz_of h
end L2
namespace L2
open PySem PySem.Spec PyProof.Rows Evl
theorem ty_t {K : PySem.W.Frag} {H : Hp} {a : Addr} {xs : List V} (h : SqT K H a xs) : TyX K H (.ref a) (.type "tuple") := by
  rcases h with (h | ⟨o, h⟩) | ⟨o, its, n, h, c, _⟩
  · exact .base (.tup h)
  · exact .fTuple h
  · exact .kTuple h c
theorem ty_l {K : PySem.W.Frag} {H : Hp} {a : Addr} {xs : List V} (h : SqL K H a xs) : TyX K H (.ref a) (.type "list") := by
  rcases h with (h | ⟨o, h⟩) | ⟨o, its, n, h, c, _⟩
  · exact .base (.lst h)
  · exact .base (.frz h)
  · exact .kList h c
/-! ### comprehensions whose turns change nothing -/
section
variable {K : PySem.W.Frag} {σ : L2.St} {H : Hp} {te tl : TE} {Q : VK} {j : Nat} {vs : List Nat} {a : Addr} {xs ys : List V}
theorem take_snoc {α : Type} {l : List α} {i : Nat} {y : α} (h : l[i]? = some y) : l.take (i + 1) = l.take i ++ [y] := by
  rw [List.take_add_one, h]
  rfl
/-- what one turn does -/
theorem cm_turn {H0 H' : Hp} {D : Addr} {i : Nat} {y : V} {σ2 : L2.St} (hy : ys[i]? = some y) (hz : ys.length ≤ 100000) (hD : H0 D = none) (p : Ex H0 H' ∧ H' D = some (.lst (ys.take i)))
    (he : ∀ Q' : VK, (∀ H2, Ex H' H2 → Q' y H2) → te σ2 H' Q') :
    te σ2 H' fun y H4 => ∃ acc, H4 D = some (.lst acc) ∧ acc.length < sizeLine ∧ (Ex H0 (upd H4 D (.lst (acc ++ [y]))) ∧ (upd H4 D (.lst (acc ++ [y]))) D = some (.lst (ys.take (i + 1)))) := by
  refine he _ fun H2 e2 => ⟨ys.take i, e2 _ _ p.2, ?_, Ex.mut (p.1.trans e2) hD, ?_⟩
  · have := (List.getElem?_eq_some_iff.mp hy).1
    rw [List.length_take]
    exact Nat.lt_of_le_of_lt (Nat.min_le_left _ _) (Nat.lt_of_lt_of_le this (sz_of hz))
  · rw [upd_same, take_snoc hy]
theorem cm_tup (hl : ∀ R : VK, (∀ a H1, Ex H H1 → SqT K H1 a xs → R (.ref a) H1) → tl σ H R) (hxy : ys.length = xs.length) (hz : ys.length ≤ 100000) (hw : ∀ x, wipe ((wipe σ vs).set j (some x)) vs = wipe σ vs)
    (he : ∀ (i : Nat) (x y : V) (H1 : Hp), xs[i]? = some x → ys[i]? = some y → Ex H H1 → ∀ Q' : VK, (∀ H2, Ex H1 H2 → Q' y H2) → te ((wipe σ vs).set j (some x)) H1 Q')
    (q : ∀ D H1, H D = none → Ex H H1 → H1 D = some (.lst ys) → Q (.ref D) H1) : tLc (iTup K tl) (gName j) tYes te vs σ H Q := by
  refine hl _ fun a H1 e1 ht => ⟨a, rfl, ⟨xs, ht⟩, fun D hD => ?_⟩
  refine lc_tup (K := K) (a := a) (xs := xs) (fun i H' => Ex H1 H' ∧ H' D = some (.lst (ys.take i))) ⟨Ex.new hD, by rw [upd_same]; rfl⟩ (fun i H' _ p => ex_t p.1 ht) (fun i x H' hx p => ⟨hw x, ?_⟩) (fun H' p => q D H' ?_ (e1.trans p.1) ?_)
  · have hi : i < ys.length := by rw [hxy]; exact (List.getElem?_eq_some_iff.mp hx).1
    exact cm_turn (List.getElem?_eq_getElem hi) hz hD p fun Q' k => he i x _ H' hx (List.getElem?_eq_getElem hi) (e1.trans p.1) Q' k
  · exact fresh_back e1 hD
  · rw [p.2, ← hxy, List.take_length]
theorem cm_list (hl : ∀ R : VK, (∀ a H1, Ex H H1 → SqL K H1 a xs → R (.ref a) H1) → tl σ H R) (hxy : ys.length = xs.length) (hz : ys.length ≤ 100000) (hw : ∀ x, wipe ((wipe σ vs).set j (some x)) vs = wipe σ vs)
    (he : ∀ (i : Nat) (x y : V) (H1 : Hp), xs[i]? = some x → ys[i]? = some y → Ex H H1 → ∀ Q' : VK, (∀ H2, Ex H1 H2 → Q' y H2) → te ((wipe σ vs).set j (some x)) H1 Q')
    (q : ∀ D H1, H D = none → Ex H H1 → H1 D = some (.lst ys) → Q (.ref D) H1) : tLc (iList K tl) (gName j) tYes te vs σ H Q := by
  refine hl _ fun a H1 e1 ht => ⟨a, rfl, ⟨xs, ht⟩, fun D hD => ?_⟩
  refine lc_list (K := K) (a := a) (xs := xs) (fun i H' => Ex H1 H' ∧ H' D = some (.lst (ys.take i))) ⟨Ex.new hD, by rw [upd_same]; rfl⟩ (fun i H' _ p => ex_l p.1 ht) (fun i x H' hx p => ⟨hw x, ?_⟩) (fun H' p => q D H' ?_ (e1.trans p.1) ?_)
  · have hi : i < ys.length := by rw [hxy]; exact (List.getElem?_eq_some_iff.mp hx).1
    exact cm_turn (List.getElem?_eq_getElem hi) hz hD p fun Q' k => he i x _ H' hx (List.getElem?_eq_getElem hi) (e1.trans p.1) Q' k
  · exact fresh_back e1 hD
  · rw [p.2, ← hxy, List.take_length]
/-- [e for i in range(n) if t] -/
theorem cm_rngF {ta : TA} {tt : TT} {n : Int} (f : Nat → Bool) (v : Nat → V) (hl : ∀ R : List V → Hp → Prop, (∀ H1, Ex H H1 → R [.int n] H1) → ta σ H R) (hn : n ≤ 50000) (hlo : -100000 ≤ n) (hw : ∀ x, wipe ((wipe σ vs).set j (some x)) vs = wipe σ vs)
    (ht : ∀ (i : Nat) H1, (i : Int) < n → Ex H H1 → ∀ Q' : Bool → Hp → Prop, (∀ H2, Ex H1 H2 → Q' (f i) H2) → tt ((wipe σ vs).set j (some (.int (i : Int)))) H1 Q')
    (he : ∀ (i : Nat) H1, (i : Int) < n → f i = true → Ex H H1 → ∀ Q' : VK, (∀ H2, Ex H1 H2 → Q' (v i) H2) → te ((wipe σ vs).set j (some (.int (i : Int)))) H1 Q')
    (q : ∀ D H1, H D = none → Ex H H1 → H1 D = some (.lst (given n.toNat f v)) → Q (.ref D) H1) : tLc (iRng1 ta) (gName j) tt te vs σ H Q := by
  refine hl _ fun H1 e1 => ⟨n, rfl, by omega, by omega, fun D hD => ?_⟩
  refine lc_range (lo := 0) (n := n.toNat) (fun i H' => Ex H1 H' ∧ H' D = some (.lst (given i f v))) ⟨Ex.new hD, by rw [upd_same]; rfl⟩ (fun i H' hi p => ?_) (fun H' p => q D H' ?_ (e1.trans p.1) p.2)
  · rw [show (0 : Int) + (i : Int) = (i : Int) by omega]
    refine ⟨hw _, ht i H' (by omega) (e1.trans p.1) _ fun H2 e2 => ?_⟩
    cases hf : f i with
    | false =>
      refine iteF ⟨p.1.trans e2, ?_⟩
      rw [given_no hf]
      exact e2 _ _ p.2
    | true =>
      refine iteT (he i H2 (by omega) hf ((e1.trans p.1).trans e2) _ fun H3 e3 => ⟨given i f v, e3 _ _ (e2 _ _ p.2), ?_, Ex.mut ((p.1.trans e2).trans e3) hD, ?_⟩)
      · have := given_len i f v
        exact sz_lt (by omega)
      · rw [upd_same, given_yes hf]
  · exact fresh_back e1 hD
/-- [e for i in range(n)], the turns change the heap: S is what stands between them, P what is said of an item -/
theorem cm_rngS {ta : TA} {n : Int} (S : Nat → Hp → Prop) (Pr : V → Prop) (hn : n ≤ 50000) (hlo : -100000 ≤ n) (hw : ∀ x, wipe ((wipe σ vs).set j (some x)) vs = wipe σ vs)
    (hl : ∀ R : List V → Hp → Prop, (∀ H1, S 0 H1 → R [.int n] H1) → ta σ H R)
    (hnew : ∀ i H1 D o, S i H1 → H1 D = none → S i (upd H1 D o))
    (he : ∀ (i : Nat) H1 D acc, (i : Int) < n → S i H1 → H1 D = some (.lst acc) → (∀ o, S i (upd H1 D o)) →
      ∀ Q' : VK, (∀ y H2, Pr y → H2 D = some (.lst acc) → (∀ o, S (i + 1) (upd H2 D o)) → Q' y H2) → te ((wipe σ vs).set j (some (.int (i : Int)))) H1 Q')
    (q : ∀ D H1 ys, ys.length = n.toNat → (∀ y ∈ ys, Pr y) → S n.toNat H1 → (∀ o, S n.toNat (upd H1 D o)) → H1 D = some (.lst ys) → Q (.ref D) H1) : tLc (iRng1 ta) (gName j) tYes te vs σ H Q := by
  refine hl _ fun H1 s1 => ⟨n, rfl, by omega, by omega, fun D hD => ?_⟩
  refine lc_range (lo := 0) (n := n.toNat) (fun i H' => ∃ ys : List V, ys.length = i ∧ (∀ y ∈ ys, Pr y) ∧ S i H' ∧ (∀ o, S i (upd H' D o)) ∧ H' D = some (.lst ys)) ⟨[], rfl, (fun _ h => by cases h), hnew 0 H1 D _ s1 hD, fun o => by rw [upd_upd]; exact hnew 0 H1 D o s1 hD, upd_same⟩ (fun i H' hi p => ?_) (fun H' p => ?_)
  · obtain ⟨ys, h1, h2, h3, h4, h5⟩ := p
    rw [show (0 : Int) + (i : Int) = (i : Int) by omega]
    refine ⟨hw _, ?_⟩
    refine he i H' D ys (by omega) h3 h5 h4 _ fun y H2 z1 z2 z3 => ?_
    refine ⟨ys, z2, sz_lt (by omega), ys ++ [y], by rw [List.length_append, h1]; rfl, fun x hx => ?_, z3 _, fun o => by rw [upd_upd]; exact z3 o, upd_same⟩
    rcases List.mem_append.mp hx with hx | hx
    · exact h2 x hx
    · rw [List.mem_singleton.mp hx]
      exact z1
  · obtain ⟨ys, h1, h2, h3, h4, h5⟩ := p
    exact q D H' ys h1 h2 h3 h4 h5
end
end L2
namespace L2
open PySem PySem.Spec PyProof.Rows Evl
section
variable {K : PySem.W.Frag} {σ : L2.St} {H : Hp} {te tl : TE} {t : TA} {Q : VK} {a : Addr} {xs ys : List V}
theorem st_lst (h : t σ H fun xs H1 => xs.length ≤ 100000 ∧ ∀ p H2, H1 p = none → Ex H1 H2 → H2 p = some (.lst xs) → Q (.ref p) H2) (mono : ∀ A B : List V → Hp → Prop, (∀ xs H, A xs H → B xs H) → t σ H A → t σ H B) : tLst t σ H Q :=
  mono _ _ (fun xs H1 z => ⟨sz_of z.1, alloc z.2⟩) h
theorem st_nil (h : ∀ p H2, H p = none → Ex H H2 → H2 p = some (.lst []) → Q (.ref p) H2) : tLst tNil σ H Q := ⟨Nat.zero_le _, alloc h⟩
/-- tuple(xs), xs a list | a tuple -/
theorem r_tuL {R : VK} (ha : SqL K H a xs) (q : ∀ p H1, H p = none → Ex H H1 → SqT K H1 p xs → R (.ref p) H1) :
    ∃ p ys, [V.ref a] = [.ref p] ∧ ((SqL K H p ys ∧ ∀ l, H l = none → R (.ref l) (upd H l (.tup ys))) ∨ (SqT K H p ys ∧ R (.ref p) H)) :=
  ⟨a, xs, rfl, .inl ⟨ha, alloc fun p H1 hp e h => q p H1 hp e (t_of h)⟩⟩
/-- list(xs) -/
theorem r_liL {R : VK} (ha : SqL K H a xs ∨ SqT K H a xs) (q : ∀ p H1, H p = none → Ex H H1 → H1 p = some (.lst xs) → R (.ref p) H1) :
    ∃ p ys, [V.ref a] = [.ref p] ∧ (SqL K H p ys ∨ SqT K H p ys) ∧ ∀ l, H l = none → R (.ref l) (upd H l (.lst ys)) := ⟨a, xs, rfl, ha, alloc q⟩
/-- xs[::-1] -/
theorem st_revL {te : TE} {a : Addr} {xs : List V} (he : ∀ R : VK, R (.ref a) H → te σ H R) (ha : SqL K H a xs) (q : ∀ p H1, H p = none → Ex H H1 → H1 p = some (.lst xs.reverse) → Q (.ref p) H1) : tRevU K te σ H Q := he _ (.inl ⟨a, xs, rfl, ha, alloc q⟩)
theorem st_revT {te : TE} {a : Addr} {xs : List V} (he : ∀ R : VK, R (.ref a) H → te σ H R) (ha : SqT K H a xs) (q : ∀ p H1, H p = none → Ex H H1 → H1 p = some (.tup xs.reverse) → Q (.ref p) H1) : tRevU K te σ H Q := he _ (.inr ⟨a, xs, rfl, ha, alloc q⟩)
theorem he_var {i : Nat} (h : σ[i]? = some (some (.ref a))) : ∀ R : VK, R (.ref a) H → tVar i σ H R := fun _ r => ⟨_, h, r⟩
end
end L2
namespace L2
open PySem PySem.Spec PyProof.Rows Evl
section
variable {K : PySem.W.Frag} {σ : L2.St} {H : Hp} {te tl ta tb : TE} {t tr : TA} {Q : VK} {D : Ends} {tu tw : TS} {g : TG} {tc : TT}
theorem st_seq (h : tu { D with nx := tw D } σ H) : tSeq tu tw D σ H := h
theorem st_asg (h : te σ H fun x H1 => g x σ H1 D.nx) : tAsg te g D σ H := h
theorem st_set {i : Nat} (h : te σ H fun x H1 => D.nx (σ.set i (some x)) H1) : tAsg te (gName i) D σ H := h
theorem st_ret (h : te σ H D.rt) : tRet te D σ H := h
theorem st_drop (h : te σ H fun _ H1 => D.nx σ H1) : tDrop te D σ H := h
theorem st_if (h : tc σ H fun b H1 => if b = true then tu D σ H1 else tw D σ H1) : tIfS tc tu tw D σ H := h
theorem st_cb {r : List V → Hp → VK → Prop} (h : t σ H fun vs H1 => r vs H1 Q) : tCB r t σ H Q := h
theorem st_cons {R : List V → Hp → Prop} (h : ta σ H fun x H1 => tr σ H1 fun xs H2 => R (x :: xs) H2) : tCons ta tr σ H R := h
theorem st_op {r : R2} (h : ta σ H fun x H1 => tb σ H1 fun y H2 => r x y H2 Q) : tOp r ta tb σ H Q := h
theorem st_un {r : V → Hp → VK → Prop} (h : ta σ H fun x H1 => r x H1 Q) : tUn r ta σ H Q := h
theorem st_test {R : Bool → Hp → Prop} (h : te σ H fun x H1 => ∃ k, x = .bl k ∧ R k H1) : tTest te σ H R := h
theorem st_call {sp : Sp} {dvs : List V} {E : XK} (h : t σ H fun vs H1 => sp (vs ++ dvs) H1 Q E) : tCall sp dvs E t σ H Q := h
theorem st_sl {r : V → Option Int → Option Int → Hp → VK → Prop} {lo hi : TO} (h : te σ H fun x H1 => lo σ H1 fun l H2 => hi σ H2 fun u H3 => r x l u H3 Q) : tSl r te lo hi σ H Q := h
theorem st_tup (h : t σ H fun xs H1 => xs.length ≤ sizeLine ∧ ∀ p, H1 p = none → Q (.ref p) (upd H1 p (.tup xs))) : tTup t σ H Q := h
theorem st_par {i j : Nat} (h : t σ H fun vs H1 => ∃ v w, vs = [v, w] ∧ D.nx ((σ.set i (some v)).set j (some w)) H1) : tPar i j t D σ H := h
end
end L2
namespace L2
open PySem PySem.Spec PyProof.Rows Evl
section
variable {K : PySem.W.Frag} {H : Hp} {Q : VK} {a : Addr} {xs : List V} {i j : Int} {v : V}
theorem r_ixL (h : SqL K H a xs) (e : atI xs i = some v) (q : Q v H) : rIx K (.ref a) (.int i) H Q := .inl ⟨a, xs, i, v, rfl, rfl, h, e, q⟩
theorem r_ixT (h : SqT K H a xs) (e : atI xs i = some v) (q : Q v H) : rIx K (.ref a) (.int i) H Q := .inr (.inl ⟨a, xs, i, v, rfl, rfl, h, e, q⟩)
theorem r_I {C : Int → Int → Prop} {g : Int → Int → V} (h : C i j) (q : Q (g i j) H) : rI C g (.int i) (.int j) H Q := ⟨i, j, rfl, rfl, h, q⟩
theorem r_0 {g : Int → Int → V} (q : Q (g i j) H) : rI0 g (.int i) (.int j) H Q := ⟨i, j, rfl, rfl, q⟩
theorem r_test {b : Bool} {R : Bool → Hp → Prop} (q : R b H) : ∃ k, V.bl b = .bl k ∧ R k H := ⟨b, rfl, q⟩
theorem r_set {R : Hp → Prop} {k : Nat} (h : H a = some (.lst xs)) (e : ixN xs.length i = some k) (q : R (upd H a (.lst (xs.set k v)))) : rSetL (.ref a) (.int i) v H R := ⟨a, xs, i, k, rfl, rfl, h, e, q⟩
end
/-- if by what is known of the answer -/
theorem if_t {c : Prop} [Decidable c] {A B : Prop} (hc : c) (h : A) : if decide c = true then A else B := by
  rw [decide_eq_true hc]
  exact h
theorem if_f {c : Prop} [Decidable c] {A B : Prop} (hc : ¬ c) (h : B) : if decide c = true then A else B := by
  rw [decide_eq_false hc]
  exact h
theorem if_2 {c : Prop} [Decidable c] {A B : Prop} (h1 : c → A) (h2 : ¬ c → B) : if decide c = true then A else B := by
  by_cases hc : c
  · exact if_t hc (h1 hc)
  · exact if_f hc (h2 hc)
/-- the same for a test not .. -/
theorem ifn_2 {c : Prop} [Decidable c] {A B : Prop} (h1 : ¬ c → A) (h2 : c → B) : if (!decide c) = true then A else B := by
  by_cases hc : c
  · rw [decide_eq_true hc]
    exact h2 hc
  · rw [decide_eq_false hc]
    exact h1 hc
end L2
namespace L2
open PySem PySem.Spec PyProof.Rows Evl
theorem st_c {v : V} {σ : L2.St} {H : Hp} {Q : VK} (q : Q v H) : tC v σ H Q := q
theorem st_v {i : Nat} {v : V} {σ : L2.St} {H : Hp} {Q : VK} (h : σ[i]? = some (some v)) (q : Q v H) : tVar i σ H Q := ⟨v, h, q⟩
theorem st_n {σ : L2.St} {H : Hp} {R : List V → Hp → Prop} (q : R [] H) : tNil σ H R := q
end L2
namespace L2
open PySem PySem.Spec PyProof.Rows Evl
theorem r_setG {H : Hp} {a : Addr} {xs : List V} {i : Int} {v : V} {R : Hp → Prop} {k : Nat} (h : H a = some (.lst xs)) (e : ixN xs.length i = some k) (q : ∀ H1, ExW a H H1 → H1 a = some (.lst (xs.set k v)) → R H1) : rSetL (.ref a) (.int i) v H R :=
  ⟨a, xs, i, k, rfl, rfl, h, e, q _ ExW.upd upd_same⟩
end L2
/-! the rules that lean on the written part, with that part named: so they fit within a comprehension's block, too -/
namespace L2
open PySem PySem.Spec PyProof.Rows Evl
section
variable {X : Cx} {K : PySem.W.Frag}
theorem op_addK (K : PySem.W.Frag) (h : X.K = K := by rfl) : OpR X (binaryOp .Add) (rAddU K) := h ▸ op_addU
theorem op_mulK (K : PySem.W.Frag) (h : X.K = K := by rfl) : OpR X (binaryOp .Mult) (rMulU K) := h ▸ op_mulU
theorem op_eqK (K : PySem.W.Frag) (hu : X.A.units + 64 < cLine) (h : X.K = K := by rfl) : OpR X (compareOp .Eq) (rEqU K) := h ▸ op_eqU hu
theorem op_neK (K : PySem.W.Frag) (hu : X.A.units + 64 < cLine) (h : X.K = K := by rfl) : OpR X (compareOp .NotEq) (rNeU K) := h ▸ op_neU hu
theorem op_inK (K : PySem.W.Frag) (h : X.K = K := by rfl) : OpR X (compareOp .In) (rIn K false) := h ▸ op_in_seq
theorem op_notInK (K : PySem.W.Frag) (h : X.K = K := by rfl) : OpR X (compareOp .NotIn) (rIn K true) := h ▸ op_notIn_seq
theorem ix_K (K : PySem.W.Frag) (h : X.K = K := by rfl) : IxR X (rIx K) := h ▸ ix_seq
theorem sl_K (K : PySem.W.Frag) (h : X.K = K := by rfl) : SlR X (rSlU K) := h ▸ sl_U
def rLenU (K : PySem.W.Frag) : List V → Hp → VK → Prop := fun xs H Q => ∃ p ys, xs = [.ref p] ∧ (SqL K H p ys ∨ SqT K H p ys) ∧ Q (.int ys.length) H
def rTupU (K : PySem.W.Frag) : List V → Hp → VK → Prop := fun xs H Q => ∃ p ys, xs = [.ref p] ∧ ((SqL K H p ys ∧ ∀ l, H l = none → Q (.ref l) (upd H l (.tup ys))) ∨ (SqT K H p ys ∧ Q (.ref p) H))
def rLstU (K : PySem.W.Frag) : List V → Hp → VK → Prop := fun xs H Q => ∃ p ys, xs = [.ref p] ∧ (SqL K H p ys ∨ SqT K H p ys) ∧ ∀ l, H l = none → Q (.ref l) (upd H l (.lst ys))
def rAbs : List V → Hp → VK → Prop := fun xs H Q => ∃ i, xs = [.int i] ∧ Q (.int (if i < 0 then -i else i)) H
def rMax2 : List V → Hp → VK → Prop := fun xs H Q => ∃ i j, xs = [.int i, .int j] ∧ Q (.int (if j > i then j else i)) H
def rMin2 : List V → Hp → VK → Prop := fun xs H Q => ∃ i j, xs = [.int i, .int j] ∧ Q (.int (if j < i then j else i)) H
def rInt1 : List V → Hp → VK → Prop := fun xs H Q => (∃ i, xs = [.int i] ∧ Q (.int i) H) ∨ ∃ k, xs = [.bl k] ∧ Q (.int (if k then 1 else 0)) H
theorem len_K (K : PySem.W.Frag) (h : X.K = K := by rfl) : CallR X (.builtin "len") (rLenU K) := h ▸ call_len_seq
theorem tuple_K (K : PySem.W.Frag) (h : X.K = K := by rfl) : CallR X (.type "tuple") (rTupU K) := h ▸ call_tuple_of
theorem list_K (K : PySem.W.Frag) (h : X.K = K := by rfl) : CallR X (.type "list") (rLstU K) := h ▸ call_list_of
theorem abs_K : CallR X (.builtin "abs") rAbs := call_abs
theorem max2_K (hc : X.calm = true) : CallR X (.builtin "max") rMax2 := call_max2 hc
theorem min2_K (hc : X.calm = true) : CallR X (.builtin "min") rMin2 := call_min2 hc
theorem int_K : CallR X (.type "int") rInt1 := call_int1
theorem all_K (K : PySem.W.Frag) (hc : X.calm = true) (h : X.K = K := by rfl) : CallR X (.builtin "all") (rAll K) := h ▸ cr_all hc
theorem any_K (K : PySem.W.Frag) (hc : X.calm = true) (h : X.K = K := by rfl) : CallR X (.builtin "any") (rAny K) := h ▸ cr_any hc
theorem sum_K (K : PySem.W.Frag) (hc : X.calm = true) (h : X.K = K := by rfl) : CallR X (.builtin "sum") (rSum K) := h ▸ cr_sum hc
theorem maxl_K (K : PySem.W.Frag) (hc : X.calm = true) (h : X.K = K := by rfl) : CallR X (.builtin "max") (rMax K) := h ▸ cr_max hc
theorem minl_K (K : PySem.W.Frag) (hc : X.calm = true) (h : X.K = K := by rfl) : CallR X (.builtin "min") (rMin K) := h ▸ cr_min hc
theorem isi_K (K : PySem.W.Frag) (h : X.K = K := by rfl) : CallR X (.builtin "isinstance") (rIsi K) := h ▸ call_isi
theorem pe_revK (K : PySem.W.Frag) {e : Expr} {te : TE} {k : Nat} {p1 p2 p3 pos : Pos} (he : PE X e te) (h : X.K = K := by rfl) : PE X (.Subscript e (.Slice none none (some (.UnaryOp .USub (.Constant (.int 1) k p1) p2)) p3) pos) (tRevU K te) := h ▸ pe_revU he
theorem pi_listK (K : PySem.W.Frag) {tg l : Expr} {tl : TE} (hl : PE X l tl) (h : X.K = K := by rfl) : PI X tg l (iList K tl) := h ▸ pi_list hl
theorem pi_tupK (K : PySem.W.Frag) {tg l : Expr} {tl : TE} (hl : PE X l tl) (h : X.K = K := by rfl) : PI X tg l (iTup K tl) := h ▸ pi_tup hl
def tTruU (K : PySem.W.Frag) (ta : TE) : TT := fun σ H Q => ta σ H fun x H' => ∃ k, TruV K x H' k ∧ Q k H'
theorem pt_truK (K : PySem.W.Frag) {a : Expr} {ta : TE} (ha : PE X a ta) (he : ∀ whole, isTrue a X.env whole = (do let v ← whole; standAt a.pos; holding [v] (truthy v)) := by intro _; rfl) (h : X.K = K := by rfl) : PT X a (tTruU K ta) := h ▸ pt_truth ha he
theorem pg_tupK (K : PySem.W.Frag) {es : List Expr} {k : Nat} {t : TGs} {n : Nat} {pos : Pos} (hc : X.calm = true) (h : PGs X es t) (hn : (assignEach es X.env).length = n := by rfl) (hst : (assignEach es X.env).findIdx? (·.1) = none := by rfl) (hK : X.K = K := by rfl) : PG X (.Tuple es k pos) (gTup K n t) := hK ▸ pg_tup hc h hn hst
theorem pe_bmU (K : PySem.W.Frag) {T : String} {name : Str} {id : String} {r : V → List V → Hp → VK → Prop} {o e : Expr} {es : List Expr} {to : TE} {t : TA} {apos cpos : Pos}
    (pa : PlainAttrs T) (slot : Slot T name id) (hty : typeOf (.builtin id) = pure (.type "method_descriptor")) (hm : MtR X id r) (ho : PE X o to) (ha : PA X (e :: es) t)
    (hbase : attributeBase o name X.env (eval o X.env) = eval o X.env := by rfl)
    (hfew : ((backTo cpos (starEach (e :: es) X.env)).all (fun x => !x.1) && (backToKw cpos (keywordEach [] X.env)).all (fun x => x.1.isSome) && decide ((e :: es).length + ([] : List Keyword).length + (if ([] : List Keyword).isEmpty then 0 else 1) < 30)) = true := by rfl)
    (hline : (apos.endLine == cpos.line) = true := by rfl) (hs : starEach (e :: es) X.env = (false, eval e X.env) :: starEach es X.env := by rfl) (hplain : (backTo cpos (starEach es X.env)).any (·.1) = false := by rfl) (h : X.K = K := by rfl) :
    PE X (.Call (.Attribute o name apos) (e :: es) [] cpos) (tBM K T r to t) := h ▸ pe_bm pa slot hty hm ho ha hbase hfew hline hs hplain
theorem pe_bm0U (K : PySem.W.Frag) {T : String} {name : Str} {id : String} {r : V → List V → Hp → VK → Prop} {o : Expr} {to : TE} {apos cpos : Pos}
    (pa : PlainAttrs T) (slot : Slot T name id) (hty : typeOf (.builtin id) = pure (.type "method_descriptor")) (hm : MtR X id r) (ho : PE X o to)
    (hbase : attributeBase o name X.env (eval o X.env) = eval o X.env := by rfl) (hline : (apos.endLine == cpos.line) = true := by rfl) (h : X.K = K := by rfl) : PE X (.Call (.Attribute o name apos) [] [] cpos) (tBM0 K T r to) := h ▸ pe_bm0 pa slot hty hm ho hbase hline
end
section
variable {K : PySem.W.Frag} {σ : L2.St} {H : Hp} {Q : VK} {a : Addr} {xs : List V}
theorem r_lenL (h : SqL K H a xs) (q : Q (.int (xs.length : Int)) H) : rLenU K [.ref a] H Q := ⟨a, xs, rfl, .inl h, q⟩
theorem r_lenT (h : SqT K H a xs) (q : Q (.int (xs.length : Int)) H) : rLenU K [.ref a] H Q := ⟨a, xs, rfl, .inr h, q⟩
theorem r_tupL (ha : SqL K H a xs) (q : ∀ p H1, H p = none → Ex H H1 → SqT K H1 p xs → Q (.ref p) H1) : rTupU K [.ref a] H Q := r_tuL ha q
theorem r_tupT (ha : SqT K H a xs) (q : Q (.ref a) H) : rTupU K [.ref a] H Q := ⟨a, xs, rfl, .inr ⟨ha, q⟩⟩
theorem r_lstL (ha : SqL K H a xs) (q : ∀ p H1, H p = none → Ex H H1 → H1 p = some (.lst xs) → Q (.ref p) H1) : rLstU K [.ref a] H Q := r_liL (.inl ha) q
theorem r_lstT (ha : SqT K H a xs) (q : ∀ p H1, H p = none → Ex H H1 → H1 p = some (.lst xs) → Q (.ref p) H1) : rLstU K [.ref a] H Q := r_liL (.inr ha) q
theorem r_abs {i : Int} (q : Q (.int ((i.natAbs : Nat) : Int)) H) : rAbs [.int i] H Q := ⟨i, rfl, by
  have e : (if i < 0 then -i else i) = ((i.natAbs : Nat) : Int) := by split <;> omega
  rw [e]
  exact q⟩
theorem r_max2 {i j : Int} (q : Q (.int (max i j)) H) : rMax2 [.int i, .int j] H Q := ⟨i, j, rfl, by
  have e : (if j > i then j else i) = max i j := by split <;> omega
  rw [e]
  exact q⟩
theorem r_min2 {i j : Int} (q : Q (.int (min i j)) H) : rMin2 [.int i, .int j] H Q := ⟨i, j, rfl, by
  have e : (if j < i then j else i) = min i j := by split <;> omega
  rw [e]
  exact q⟩
theorem r_intI {i : Int} (q : Q (.int i) H) : rInt1 [.int i] H Q := .inl ⟨i, rfl, q⟩
theorem r_intB {b : Bool} (q : Q (.int (if b then 1 else 0)) H) : rInt1 [.bl b] H Q := .inr ⟨b, rfl, q⟩
theorem r_sum {ns : List Int} (h : IL K H a ns) (q : Q (.int ns.sum) H) : rSum K [.ref a] H Q := ⟨a, ns, rfl, h, q⟩
theorem r_all {bs : List Bool} (h : SqL K H a (bs.map V.bl)) (q : Q (.bl (bs.all id)) H) : rAll K [.ref a] H Q := ⟨a, bs, rfl, h, q⟩
theorem r_isiI {i : Int} {n : String} {b : Bool} (hb : PySem.W.kitOne K (.type "int") (.type n) = some b) (q : Q (.bl b) H) : rIsi K [.int i, .ty n] H Q := ⟨_, _, _, _, b, rfl, .ty _, .base (.int i), hb, q⟩
theorem r_isiT {n : String} {b : Bool} (h : SqT K H a xs) (hb : PySem.W.kitOne K (.type "tuple") (.type n) = some b) (q : Q (.bl b) H) : rIsi K [.ref a, .ty n] H Q := ⟨_, _, _, _, b, rfl, .ty _, ty_t h, hb, q⟩
end
end L2
namespace L2
open PySem PySem.Spec PyProof.Rows Evl
section
variable {K : PySem.W.Frag} {σ : L2.St} {H : Hp} {Q : VK} {i j : Int} {D : Ends} {tc tc2 : TT}
theorem st_bl {b : Bool} {R : Bool → Prop} (q : R b) : ∃ k, V.bl b = V.bl k ∧ R k := ⟨b, rfl, q⟩
theorem st_in {R : Int → Prop} (q : R i) : ∃ k, V.int i = V.int k ∧ R k := ⟨i, rfl, q⟩
theorem r_neg {g : Int → V} (q : Q (g i) H) : rU g (.int i) H Q := ⟨i, rfl, q⟩
theorem r_mod (h : 0 < j) {g : Int → Int → V} (q : Q (g i j) H) : rI (fun _ j => 0 < j) g (.int i) (.int j) H Q := ⟨i, j, rfl, rfl, h, q⟩
theorem r_div {b : Nat} (h : 0 < j) (hb : j.natAbs < 2 ^ b) (h0 : 0 < b) (h9 : b ≤ 9000) {g : Int → Int → V} (q : Q (g i j) H) : rI CDivW g (.int i) (.int j) H Q := ⟨i, j, rfl, rfl, wide_div h hb h0 h9, q⟩
theorem r_pow {a k : Nat} (h0 : 0 < a) (ha : i.natAbs < 2 ^ a) (h : a * k ≤ 134217728) {g : Int → Int → V} (q : Q (g i (k : Int)) H) : rI CPowW g (.int i) (.int (k : Int)) H Q := ⟨i, _, rfl, rfl, wide_pow h0 ha h, q⟩
theorem st_tru {K : PySem.W.Frag} {ta : TE} {R : Bool → Hp → Prop} (h : ta σ H fun x H' => ∃ k, TruV K x H' k ∧ R k H') : tTruU K ta σ H R := h
theorem r_truB {b : Bool} {R : Bool → Prop} (q : R b) : ∃ k, TruV K (.bl b) H k ∧ R k := ⟨b, rfl, q⟩
theorem r_truL {a : Addr} {xs : List V} {R : Bool → Prop} (h : SqL K H a xs) (q : R (!xs.isEmpty)) : ∃ k, TruV K (.ref a) H k ∧ R k := ⟨_, .inl ⟨xs, h, rfl⟩, q⟩
theorem r_truT {a : Addr} {xs : List V} {R : Bool → Prop} (h : SqT K H a xs) (q : R (!xs.isEmpty)) : ∃ k, TruV K (.ref a) H k ∧ R k := ⟨_, .inr (.inl ⟨xs, h, rfl⟩), q⟩
theorem st_and {R : Bool → Hp → Prop} (h : tc σ H fun c H1 => if c = true then tc2 σ H1 R else R false H1) : tAnd tc tc2 σ H R := h
theorem st_or {R : Bool → Hp → Prop} (h : tc σ H fun c H1 => if c = true then R true H1 else tc2 σ H1 R) : tOr tc tc2 σ H R := h
theorem st_not {R : Bool → Hp → Prop} (h : tc σ H fun c H1 => R (!c) H1) : tNot tc σ H R := h
theorem st_B {te : TE} {R : Bool → Hp → Prop} (h : te σ H fun x H1 => ∃ c, x = .bl c ∧ R c H1) : tB te σ H R := h
theorem st_andV {ta tb : TE} (h : ta σ H fun x H1 => ∃ c, x = .bl c ∧ if c = true then tb σ H1 Q else Q (.bl false) H1) : tAndV ta tb σ H Q := h
theorem st_orV {ta tb : TE} (h : ta σ H fun x H1 => ∃ c, x = .bl c ∧ if c = true then Q (.bl true) H1 else tb σ H1 Q) : tOrV ta tb σ H Q := h
theorem st_notV {ta : TE} (h : ta σ H fun x H1 => ∃ c, x = .bl c ∧ Q (.bl (!c)) H1) : tNotV ta σ H Q := h
theorem st_ifE {ta tb : TE} (h : tc σ H fun c H1 => if c = true then ta σ H1 Q else tb σ H1 Q) : tIf tc ta tb σ H Q := h
theorem st_part {te : TE} {R : Option Int → Hp → Prop} (h : te σ H fun x H1 => ∃ i, x = .int i ∧ R (some i) H1) : tPart te σ H R := h
theorem st_nop {R : Option Int → Hp → Prop} (h : R none H) : tNoPart σ H R := h
theorem st_sub {to ti : TE} {t : TSet} {v : V} {R : St → Hp → Prop} (h : to σ H fun o H1 => ti σ H1 fun i H2 => t o i v H2 fun H3 => R σ H3) : gSub to ti t v σ H R := h
theorem st_callK {sp : Sp} {gV : List V → List V → List V} {E : XK} {t tk : TA} (h : t σ H fun vs H1 => tk σ H1 fun zs H2 => sp (gV vs zs) H2 Q E) : tCallK sp gV E t tk σ H Q := h
theorem if_T {A B : Prop} (h : A) : if true = true then A else B := h
theorem if_F {A B : Prop} (h : B) : if false = true then A else B := h
theorem if_nT {A B : Prop} (h : B) : if (!true) = true then A else B := h
theorem if_nF {A B : Prop} (h : A) : if (!false) = true then A else B := h
theorem st_nameG {i : Nat} {v : V} {R : St → Hp → Prop} (h : R (σ.set i (some v)) H) : gName i v σ H R := h
theorem st_chain {ta tb tc : TE} {r r' : R2} (h : ta σ H fun x H1 => tb σ H1 fun y H2 => r x y H2 fun z H3 => ∃ k, z = .bl k ∧ (if k = true then tc σ H3 fun w' H4 => r' y w' H4 Q else Q (.bl false) H3)) : tChain r r' ta tb tc σ H Q := h
end
end L2
namespace L2
section
variable {σ : L2.St} {H : Hp} {D : Ends}
theorem st_nxt (h : D.nx σ H) : tNext D σ H := h
theorem st_cnt (h : D.ct σ H) : tCont D σ H := h
theorem st_brk (h : D.bk σ H) : tBreak D σ H := h
theorem st_retn (h : D.rt .non H) : tRetN D σ H := h
end
end L2
namespace L2
open PySem PySem.Spec PyProof.Rows Evl
section
variable {σ : L2.St} {H : Hp} {t : TA} {Q : VK} {xs : List V}
def rNewL (xs : List V) (H : Hp) (Q : VK) : Prop := xs.length ≤ sizeLine ∧ ∀ p, H p = none → Q (.ref p) (upd H p (.lst xs))
def rNewT (xs : List V) (H : Hp) (Q : VK) : Prop := xs.length ≤ sizeLine ∧ ∀ p, H p = none → Q (.ref p) (upd H p (.tup xs))
theorem st_lstN (h : t σ H fun xs H1 => rNewL xs H1 Q) : tLst t σ H Q := h
theorem st_tupN (h : t σ H fun xs H1 => rNewT xs H1 Q) : tTup t σ H Q := h
theorem r_newL (hz : xs.length ≤ 100000) (q : ∀ p H1, H p = none → Ex H H1 → H1 p = some (.lst xs) → Q (.ref p) H1) : rNewL xs H Q := ⟨sz_of hz, alloc q⟩
theorem r_newT (hz : xs.length ≤ 100000) (q : ∀ p H1, H p = none → Ex H H1 → H1 p = some (.tup xs) → Q (.ref p) H1) : rNewT xs H Q := ⟨sz_of hz, alloc q⟩
end
end L2
namespace L2
open PySem PySem.Spec PyProof.Rows Evl
section
variable {σ : L2.St} {H : Hp} {D : Ends} {c : TT} {tb : TS}
theorem st_while (W : Nat → L2.St → Hp → Prop) (m0 : Nat) (h0 : W m0 σ H)
    (hs : ∀ m σ' H', W m σ' H' → c σ' H' fun b H1 => if b = true then ∃ N : L2.St → Hp → Prop, (∀ σ2 H2, N σ2 H2 → ∃ m', m' < m ∧ W m' σ2 H2) ∧ tb { D with nx := N, ct := N, bk := D.nx } σ' H1 else D.nx σ' H1) : tWhile c tb D σ H :=
  ⟨W, ⟨m0, h0⟩, hs⟩
theorem wh_in {W : Nat → L2.St → Hp → Prop} {m : Nat} (h : tb { D with nx := fun σ2 H2 => ∃ m', m' < m ∧ W m' σ2 H2, ct := fun σ2 H2 => ∃ m', m' < m ∧ W m' σ2 H2, bk := D.nx } σ H) :
    ∃ N : L2.St → Hp → Prop, (∀ σ2 H2, N σ2 H2 → ∃ m', m' < m ∧ W m' σ2 H2) ∧ tb { D with nx := N, ct := N, bk := D.nx } σ H := ⟨_, fun _ _ h => h, h⟩
end
end L2
/-! loops and comprehensions by what is walked -/
namespace L2
open PySem PySem.Spec PyProof.Rows Evl
def rFor (J : It) (g : TG) (tb : TS) (D : Ends) (σ : L2.St) (H1 : Hp) : Prop := ∃ W : Nat → Nat → L2.St → Hp → Prop, (∃ m, W 0 m σ H1) ∧ ∀ i m σ H, W i m σ H →
  (J.stop i H ∧ D.nx σ H) ∨ (J.go i H ∧ ∃ N : L2.St → Hp → Prop, (∀ σ' H', N σ' H' → ∃ m', m' < m ∧ W (i + 1) m' σ' H') ∧ ∀ x H', J.yld i H x H' → g x σ H' fun σ2 H2 => tb { D with nx := N, ct := N, bk := D.nx } σ2 H2)
def rLc (J : It) (g : TG) (tt : TT) (te : TE) (vs : List Nat) (σ : L2.St) (Q : VK) (H1 : Hp) : Prop := ∀ D, H1 D = none → ∃ W : Nat → Nat → Hp → Prop, (∃ m, W 0 m (upd H1 D (.lst []))) ∧ ∀ i m H, W i m H →
  (J.stop i H ∧ Q (.ref D) H) ∨ (J.go i H ∧ ∃ Nx : Hp → Prop, (∀ H', Nx H' → ∃ m', m' < m ∧ W (i + 1) m' H') ∧ ∀ x H', J.yld i H x H' → g x (wipe σ vs) H' fun σ2 H2 => wipe σ2 vs = wipe σ vs ∧ tt σ2 H2 fun b H3 =>
    if b = true then te σ2 H3 fun y H4 => ∃ acc, H4 D = some (.lst acc) ∧ acc.length < sizeLine ∧ Nx (upd H4 D (.lst (acc ++ [y]))) else Nx H3)
def rRng1 (vs : List V) (R : It → Hp → Prop) (H1 : Hp) : Prop := ∃ j : Int, vs = [.int j] ∧ -(2 ^ 62) ≤ j ∧ j < 2 ^ 62 ∧ R (Itr 0 j.toNat) H1
def rRng2 (vs : List V) (R : It → Hp → Prop) (H1 : Hp) : Prop := ∃ i j : Int, vs = [.int i, .int j] ∧ (-(2 ^ 62) ≤ i ∧ i < 2 ^ 62 ∧ -(2 ^ 62) ≤ j ∧ j < 2 ^ 62) ∧ R (Itr i (j - i).toNat) H1
def rItL (K : PySem.W.Frag) (x : V) (R : It → Hp → Prop) (H1 : Hp) : Prop := ∃ a, x = .ref a ∧ (∃ xs, SqL K H1 a xs) ∧ R (Itl K a) H1
def rItT (K : PySem.W.Frag) (x : V) (R : It → Hp → Prop) (H1 : Hp) : Prop := ∃ a, x = .ref a ∧ (∃ xs, SqT K H1 a xs) ∧ R (Itt K a) H1
def rRev (K : PySem.W.Frag) (x : V) (H1 : Hp) (Q : VK) : Prop := (∃ a xs, x = .ref a ∧ SqL K H1 a xs ∧ ∀ p, H1 p = none → Q (.ref p) (upd H1 p (.lst xs.reverse))) ∨ (∃ a xs, x = .ref a ∧ SqT K H1 a xs ∧ ∀ p, H1 p = none → Q (.ref p) (upd H1 p (.tup xs.reverse)))
def rApp (K : PySem.W.Frag) (T : String) (r : V → List V → Hp → VK → Prop) (t : TA) (σ : L2.St) (x : V) (H1 : Hp) (Q : VK) : Prop := tyV K T x H1 ∧ t σ H1 fun xs H2 => r x xs H2 Q
def rApp0 (K : PySem.W.Frag) (T : String) (r : V → List V → Hp → VK → Prop) (x : V) (H1 : Hp) (Q : VK) : Prop := tyV K T x H1 ∧ r x [] H1 Q
section
variable {K : PySem.W.Frag} {σ : L2.St} {H : Hp} {Q : VK} {D : Ends} {g : TG} {tb : TS} {wi : TI} {ta : TA} {te tl : TE} {tt : TT} {vs : List Nat} {R : It → Hp → Prop} {a : Addr} {xs ys : List V} {j : Nat} {n lo : Int}
theorem st_for (h : wi σ H fun J H1 => rFor J g tb D σ H1) : tFor wi g tb D σ H := h
theorem st_lc (h : wi σ H fun J H1 => rLc J g tt te vs σ Q H1) : tLc wi g tt te vs σ H Q := h
theorem st_rng1 (h : ta σ H fun us H1 => rRng1 us R H1) : iRng1 ta σ H R := h
theorem st_rng2 (h : ta σ H fun us H1 => rRng2 us R H1) : iRng2 ta σ H R := h
theorem st_itL (h : tl σ H fun x H1 => rItL K x R H1) : iList K tl σ H R := h
theorem st_itT (h : tl σ H fun x H1 => rItT K x R H1) : iTup K tl σ H R := h
theorem st_rev (h : te σ H fun x H1 => rRev K x H1 Q) : tRevU K te σ H Q := h
theorem st_bm {T : String} {r : V → List V → Hp → VK → Prop} {t : TA} (h : te σ H fun x H1 => rApp K T r t σ x H1 Q) : tBM K T r te t σ H Q := h
theorem st_bm0 {T : String} {r : V → List V → Hp → VK → Prop} (h : te σ H fun x H1 => rApp0 K T r x H1 Q) : tBM0 K T r te σ H Q := h
theorem r_rng1 (h1 : n < 2 ^ 62) (h0 : -(2 ^ 62) ≤ n) (q : R (Itr 0 n.toNat) H) : rRng1 [.int n] R H := ⟨n, rfl, h0, h1, q⟩
theorem r_rng2 (h : -(2 ^ 62) ≤ lo ∧ lo < 2 ^ 62 ∧ -(2 ^ 62) ≤ n ∧ n < 2 ^ 62) (q : R (Itr lo (n - lo).toNat) H) : rRng2 [.int lo, .int n] R H := ⟨lo, n, rfl, h, q⟩
theorem r_itL (h : SqL K H a xs) (q : R (Itl K a) H) : rItL K (.ref a) R H := ⟨a, rfl, ⟨xs, h⟩, q⟩
theorem r_itT (h : SqT K H a xs) (q : R (Itt K a) H) : rItT K (.ref a) R H := ⟨a, rfl, ⟨xs, h⟩, q⟩
theorem r_revL (h : SqL K H a xs) (q : ∀ p H1, H p = none → Ex H H1 → H1 p = some (.lst xs.reverse) → Q (.ref p) H1) : rRev K (.ref a) H Q := .inl ⟨a, xs, rfl, h, alloc q⟩
theorem r_revT (h : SqT K H a xs) (q : ∀ p H1, H p = none → Ex H H1 → H1 p = some (.tup xs.reverse) → Q (.ref p) H1) : rRev K (.ref a) H Q := .inr ⟨a, xs, rfl, h, alloc q⟩
/-- xs.append(v): the argument is read first -/
theorem r_app {t : TA} (h : SqL K H a xs) (q : t σ H fun us H2 => rAppend (.ref a) us H2 Q) : rApp K "list" rAppend t σ (.ref a) H Q := ⟨.inl ⟨rfl, xs, h⟩, q⟩
theorem r_appd {v : V} (h : H a = some (.lst xs)) (hz : xs.length < 100000) (q : ∀ H1, ExW a H H1 → H1 a = some (.lst (xs ++ [v])) → Q .non H1) : rAppend (.ref a) [v] H Q := ⟨a, xs, v, rfl, rfl, h, sz_lt hz, q _ ExW.upd upd_same⟩
theorem r_pop {v : V} (h : H a = some (.lst (xs ++ [v]))) (q : ∀ H1, ExW a H H1 → H1 a = some (.lst xs) → Q v H1) : rApp0 K "list" rPop (.ref a) H Q := by
  refine ⟨.inl ⟨rfl, _, l_of h⟩, a, _, v, rfl, rfl, h, by simp, ?_⟩
  refine q _ ExW.upd ?_
  rw [upd_same]
  simp
/-! ### for -/
theorem r_forR {m : Nat} (Pv : Nat → L2.St → Hp → Prop) (h0 : Pv 0 σ H) (hs : ∀ i σ' H', i < m → Pv i σ' H' → g (.int (lo + i)) σ' H' fun σ2 H2 => tb { D with nx := Pv (i + 1), ct := Pv (i + 1), bk := D.nx } σ2 H2)
    (hd : ∀ σ' H', Pv m σ' H' → D.nx σ' H') : rFor (Itr lo m) g tb D σ H := for_range (lo := lo) (n := m) Pv h0 hs hd
theorem r_forL (Pv : Nat → L2.St → Hp → Prop) (h0 : Pv 0 σ H) (hl : ∀ i σ' H', i ≤ xs.length → Pv i σ' H' → SqL K H' a xs)
    (hs : ∀ i x σ' H', xs[i]? = some x → Pv i σ' H' → g x σ' H' fun σ2 H2 => tb { D with nx := Pv (i + 1), ct := Pv (i + 1), bk := D.nx } σ2 H2) (hd : ∀ σ' H', Pv xs.length σ' H' → D.nx σ' H') : rFor (Itl K a) g tb D σ H := for_list Pv h0 hl hs hd
theorem r_forT (Pv : Nat → L2.St → Hp → Prop) (h0 : Pv 0 σ H) (hl : ∀ i σ' H', i ≤ xs.length → Pv i σ' H' → SqT K H' a xs)
    (hs : ∀ i x σ' H', xs[i]? = some x → Pv i σ' H' → g x σ' H' fun σ2 H2 => tb { D with nx := Pv (i + 1), ct := Pv (i + 1), bk := D.nx } σ2 H2) (hd : ∀ σ' H', Pv xs.length σ' H' → D.nx σ' H') : rFor (Itt K a) g tb D σ H := for_tup Pv h0 hl hs hd
/-! ### comprehensions whose turns change nothing -/
theorem r_cmT (ht : SqT K H a xs) (hxy : ys.length = xs.length) (hz : ys.length ≤ 100000) (hw : ∀ x, wipe ((wipe σ vs).set j (some x)) vs = wipe σ vs)
    (he : ∀ (i : Nat) (x y : V) (H1 : Hp), xs[i]? = some x → ys[i]? = some y → Ex H H1 → ∀ Q' : VK, (∀ H2, Ex H1 H2 → Q' y H2) → te ((wipe σ vs).set j (some x)) H1 Q')
    (q : ∀ p H1, H p = none → Ex H H1 → H1 p = some (.lst ys) → Q (.ref p) H1) : rLc (Itt K a) (gName j) tYes te vs σ Q H := fun D hD =>
  lc_tup (K := K) (a := a) (xs := xs) (fun i H' => Ex H H' ∧ H' D = some (.lst (ys.take i))) ⟨Ex.new hD, by rw [upd_same]; rfl⟩ (fun i H' _ p => ex_t p.1 ht) (fun i x H' hx p => ⟨hw x, by
    have hi : i < ys.length := by rw [hxy]; exact (List.getElem?_eq_some_iff.mp hx).1
    exact cm_turn (List.getElem?_eq_getElem hi) hz hD p fun Q' k => he i x _ H' hx (List.getElem?_eq_getElem hi) p.1 Q' k⟩) (fun H' p => q D H' hD p.1 (by rw [p.2, ← hxy, List.take_length]))
theorem r_cmL (ht : SqL K H a xs) (hxy : ys.length = xs.length) (hz : ys.length ≤ 100000) (hw : ∀ x, wipe ((wipe σ vs).set j (some x)) vs = wipe σ vs)
    (he : ∀ (i : Nat) (x y : V) (H1 : Hp), xs[i]? = some x → ys[i]? = some y → Ex H H1 → ∀ Q' : VK, (∀ H2, Ex H1 H2 → Q' y H2) → te ((wipe σ vs).set j (some x)) H1 Q')
    (q : ∀ p H1, H p = none → Ex H H1 → H1 p = some (.lst ys) → Q (.ref p) H1) : rLc (Itl K a) (gName j) tYes te vs σ Q H := fun D hD =>
  lc_list (K := K) (a := a) (xs := xs) (fun i H' => Ex H H' ∧ H' D = some (.lst (ys.take i))) ⟨Ex.new hD, by rw [upd_same]; rfl⟩ (fun i H' _ p => ex_l p.1 ht) (fun i x H' hx p => ⟨hw x, by
    have hi : i < ys.length := by rw [hxy]; exact (List.getElem?_eq_some_iff.mp hx).1
    exact cm_turn (List.getElem?_eq_getElem hi) hz hD p fun Q' k => he i x _ H' hx (List.getElem?_eq_getElem hi) p.1 Q' k⟩) (fun H' p => q D H' hD p.1 (by rw [p.2, ← hxy, List.take_length]))
theorem r_cmR {m : Nat} (hxy : ys.length = m) (hz : ys.length ≤ 100000) (hw : ∀ x, wipe ((wipe σ vs).set j (some x)) vs = wipe σ vs)
    (he : ∀ (i : Nat) (y : V) (H1 : Hp), i < m → ys[i]? = some y → Ex H H1 → ∀ Q' : VK, (∀ H2, Ex H1 H2 → Q' y H2) → te ((wipe σ vs).set j (some (.int (lo + (i : Int))))) H1 Q')
    (q : ∀ p H1, H p = none → Ex H H1 → H1 p = some (.lst ys) → Q (.ref p) H1) : rLc (Itr lo m) (gName j) tYes te vs σ Q H := fun D hD =>
  lc_range (lo := lo) (n := m) (fun i H' => Ex H H' ∧ H' D = some (.lst (ys.take i))) ⟨Ex.new hD, by rw [upd_same]; rfl⟩ (fun i H' hi' p => ⟨hw _, by
    have hi : i < ys.length := by rw [hxy]; exact hi'
    exact cm_turn (List.getElem?_eq_getElem hi) hz hD p fun Q' k => he i _ H' hi' (List.getElem?_eq_getElem hi) p.1 Q' k⟩) (fun H' p => q D H' hD p.1 (by rw [p.2, ← hxy, List.take_length]))
/-- [e for i in range(..) if t] -/
theorem r_cmRF {m : Nat} (f : Nat → Bool) (v : Nat → V) (hz : m ≤ 100000) (hw : ∀ x, wipe ((wipe σ vs).set j (some x)) vs = wipe σ vs)
    (ht : ∀ (i : Nat) H1, i < m → Ex H H1 → ∀ Q' : Bool → Hp → Prop, (∀ H2, Ex H1 H2 → Q' (f i) H2) → tt ((wipe σ vs).set j (some (.int (lo + (i : Int))))) H1 Q')
    (he : ∀ (i : Nat) H1, i < m → f i = true → Ex H H1 → ∀ Q' : VK, (∀ H2, Ex H1 H2 → Q' (v i) H2) → te ((wipe σ vs).set j (some (.int (lo + (i : Int))))) H1 Q')
    (q : ∀ p H1, H p = none → Ex H H1 → H1 p = some (.lst (given m f v)) → Q (.ref p) H1) : rLc (Itr lo m) (gName j) tt te vs σ Q H := fun D hD => by
  refine lc_range (lo := lo) (n := m) (fun i H' => Ex H H' ∧ H' D = some (.lst (given i f v))) ⟨Ex.new hD, by rw [upd_same]; rfl⟩ (fun i H' hi p => ⟨hw _, ?_⟩) (fun H' p => q D H' hD p.1 p.2)
  refine ht i H' hi p.1 _ fun H2 e2 => ?_
  cases hf : f i with
  | false =>
    refine if_F ⟨p.1.trans e2, ?_⟩
    rw [given_no hf]
    exact e2 _ _ p.2
  | true =>
    refine if_T (he i H2 hi hf (p.1.trans e2) _ fun H3 e3 => ⟨given i f v, e3 _ _ (e2 _ _ p.2), ?_, Ex.mut ((p.1.trans e2).trans e3) hD, ?_⟩)
    · have := given_len i f v
      exact Nat.lt_of_le_of_lt this (Nat.lt_of_lt_of_le hi (sz_of hz))
    · rw [upd_same, given_yes hf]
/-- [e for i in range(..)], a turn may change the heap: S is what stands between the turns, Pr what is said of an item -/
theorem r_cmRS {m : Nat} (S : Nat → Hp → Prop) (Pr : V → Prop) (hm : m ≤ 100000) (hw : ∀ x, wipe ((wipe σ vs).set j (some x)) vs = wipe σ vs) (h0 : S 0 H)
    (hnew : ∀ i H1 D o, S i H1 → H1 D = none → S i (upd H1 D o))
    (he : ∀ (i : Nat) H1 D acc, i < m → S i H1 → H1 D = some (.lst acc) → (∀ o, S i (upd H1 D o)) →
      ∀ Q' : VK, (∀ y H2, Pr y → H2 D = some (.lst acc) → (∀ o, S (i + 1) (upd H2 D o)) → Q' y H2) → te ((wipe σ vs).set j (some (.int (lo + (i : Int))))) H1 Q')
    (q : ∀ D H1 ys, H D = none → ys.length = m → (∀ y ∈ ys, Pr y) → S m H1 → H1 D = some (.lst ys) → Q (.ref D) H1) : rLc (Itr lo m) (gName j) tYes te vs σ Q H := fun D hD => by
  refine lc_range (lo := lo) (n := m) (fun i H' => ∃ ys : List V, ys.length = i ∧ (∀ y ∈ ys, Pr y) ∧ S i H' ∧ (∀ o, S i (upd H' D o)) ∧ H' D = some (.lst ys)) ⟨[], rfl, (fun _ h => by cases h), hnew 0 H D _ h0 hD, fun o => by rw [upd_upd]; exact hnew 0 H D o h0 hD, upd_same⟩ (fun i H' hi p => ?_) (fun H' p => ?_)
  · obtain ⟨ys, h1, h2, h3, h4, h5⟩ := p
    refine ⟨hw _, ?_⟩
    refine he i H' D ys hi h3 h5 h4 _ fun y H2 z1 z2 z3 => ?_
    refine ⟨ys, z2, sz_lt (by omega), ys ++ [y], by rw [List.length_append, h1]; rfl, fun x hx => ?_, z3 _, fun o => by rw [upd_upd]; exact z3 o, upd_same⟩
    rcases List.mem_append.mp hx with hx | hx
    · exact h2 x hx
    · rw [List.mem_singleton.mp hx]
      exact z1
  · obtain ⟨ys, h1, h2, h3, h4, h5⟩ := p
    exact q D H' ys hD h1 h2 h3 h5
end
end L2
namespace L2
open PySem PySem.Spec PyProof.Rows Evl
section
variable {K : PySem.W.Frag} {H : Hp} {Q : VK} {a : Addr} {xs : List V}
theorem r_repL {k : Int} (h : H a = some (.lst xs)) (h0 : 0 ≤ k) (hk : k ≤ 100000) (hz : xs.length * k.toNat ≤ 100000) (q : ∀ p H1, H p = none → Ex H H1 → H1 p = some (.lst (List.replicate k.toNat xs).flatten) → Q (.ref p) H1) : rMulU K (.ref a) (.int k) H Q :=
  .inr (.inr (.inl ⟨a, k, xs, rfl, rfl, h, by omega, by omega, sz_of hz, alloc q⟩))
/-! ### draws: what stands between -/
/-- all but the well is as it was; n draws are done -/
structure DrS (w : Addr) (H0 : Hp) (n : Nat) (H : Hp) : Prop where
  ex : ExW w H0 H
  well : Well H w n
theorem Well.upd {H : Hp} {w D : Addr} {n : Nat} {o : HO} (h : Well H w n) (hD : D ≠ w) : Well (upd H D o) w n := by
  obtain ⟨a, b, c, h1, h2⟩ := h.ex
  exact ⟨a, b, c, by rw [upd_ne hD.symm]; exact h1, h2⟩
theorem DrS.new {w D : Addr} {H0 H : Hp} {n : Nat} {o : HO} (h : DrS w H0 n H) (hD : H D = none) : DrS w H0 n (upd H D o) :=
  ⟨fun a u e ha => by rw [upd_ne (ne_of_none (h.ex a u e ha) hD)]; exact h.ex a u e ha, h.well.upd (h.well.ne hD)⟩
theorem DrS.at {w D : Addr} {H0 H : Hp} {n : Nat} (h : ∀ o, DrS w H0 n (L2.upd H D o)) : D ≠ w ∧ H0 D = none := by
  have hw : D ≠ w := fun e => by
    obtain ⟨a, b, c, h1, _⟩ := (h (.lst [])).well.ex
    rw [← e, upd_same] at h1
    cases h1
  refine ⟨hw, ?_⟩
  cases e : H0 D with
  | none => rfl
  | some u =>
    have h1 := (h (.lst [])).ex D u e hw
    have h2 := (h (.tup [])).ex D u e hw
    rw [upd_same] at h1 h2
    rw [← h1] at h2
    cases h2
theorem DrS.put {w D : Addr} {H0 H : Hp} {n : Nat} {o : HO} (h : DrS w H0 n H) (hD : D ≠ w) (h0 : H0 D = none) : DrS w H0 n (L2.upd H D o) :=
  ⟨fun a u e ha => by rw [upd_ne (ne_of_none e h0)]; exact h.ex a u e ha, h.well.upd hD⟩
theorem DrS.on {w : Addr} {H0 H H1 : Hp} {n m : Nat} (h : DrS w H0 n H) (e : ExW w H H1) (k : Well H1 w m) : DrS w H0 m H1 := ⟨h.ex.trans e, k⟩
theorem DrS.ext {w : Addr} {H0 H H1 : Hp} {n : Nat} (h : DrS w H0 n H) (e : Ex H H1) : DrS w H0 n H1 := ⟨h.ex.trans (.of e), h.well.mono e⟩
theorem DrS.more {w : Addr} {H0 H : Hp} {n m : Nat} (h : DrS w H0 n H) (e : n ≤ m) : DrS w H0 m H := ⟨h.ex, h.well.more e⟩
theorem DrS.t {w : Addr} {H0 H : Hp} {n : Nat} {a : Addr} {xs : List V} {k : Nat} (h : DrS w H0 n H) (h0 : Well H0 w k) (t : SqT K H0 a xs) : SqT K H a xs := h0.t h.ex t
end
/-- all items are ints of which so much is said -/
theorem ints_of {P : Int → Prop} : ∀ ys : List V, (∀ y ∈ ys, ∃ z, y = .int z ∧ P z) → ∃ ns : List Int, ys = ns.map V.int ∧ ∀ z ∈ ns, P z
  | [], _ => ⟨[], rfl, fun _ h => by cases h⟩
  | y :: ys, h => by
    obtain ⟨ns, e, k⟩ := ints_of ys fun x hx => h x (List.mem_cons_of_mem _ hx)
    obtain ⟨z, e2, k2⟩ := h y List.mem_cons_self
    refine ⟨z :: ns, by rw [e, e2]; rfl, fun x hx => ?_⟩
    rcases List.mem_cons.mp hx with rfl | hx
    · exact k2
    · exact k x hx
end L2
/-! walks of steps: pairs left out -/
namespace Fg
abbrev Wk := List Int
/-- what is kept, the last one first -/
def stp (st : Wk) (x : Int) : Wk := match st with
  | [] => [x]
  | y :: r => if y = -x then r else x :: y :: r
def run (st : Wk) (u : Wk) : Wk := u.foldl stp st
def rd (u : Wk) : Wk := (run [] u).reverse
def bk (u : Wk) : Wk := (u.map fun x => -x).reverse
/-- no step beside its opposite one (of what is kept) -/
def Red : Wk → Prop
  | [] => True
  | [_] => True
  | x :: y :: r => y ≠ -x ∧ Red (y :: r)
theorem Red.tail {x : Int} {r : Wk} (h : Red (x :: r)) : Red r := by
  cases r with
  | nil => trivial
  | cons y r => exact h.2
theorem red_stp {st : Wk} (x : Int) (h : Red st) : Red (stp st x) := by
  cases st with
  | nil => trivial
  | cons y r =>
    show Red (if y = -x then r else x :: y :: r)
    by_cases e : y = -x
    · rw [if_pos e]
      exact h.tail
    · rw [if_neg e]
      exact ⟨e, h⟩
theorem red_run : ∀ (u : Wk) {st : Wk}, Red st → Red (run st u)
  | [], _, h => h
  | x :: u, _, h => red_run u (red_stp x h)
theorem run_append (st u v : Wk) : run st (u ++ v) = run (run st u) v := List.foldl_append
/-- a step and its opposite one are as nothing -/
theorem stp_pair {st : Wk} (x : Int) (h : Red st) : stp (stp st x) (-x) = st := by
  cases st with
  | nil =>
    show (if x = - -x then [] else [-x, x]) = []
    rw [if_pos (by omega)]
  | cons y r =>
    show stp (if y = -x then r else x :: y :: r) (-x) = y :: r
    by_cases e : y = -x
    · rw [if_pos e]
      cases r with
      | nil => rw [e]; rfl
      | cons z r =>
        show (if z = - -x then r else -x :: z :: r) = y :: z :: r
        have hz : z ≠ -y := h.1
        rw [if_neg (by rw [e] at hz; exact hz), e]
    · rw [if_neg e]
      show (if x = - -x then y :: r else -x :: x :: y :: r) = y :: r
      rw [if_pos (by omega)]
/-- the same from all -/
def Eqv (u v : Wk) : Prop := ∀ st, Red st → run st u = run st v
theorem Eqv.refl (u : Wk) : Eqv u u := fun _ _ => rfl
theorem Eqv.symm {u v : Wk} (h : Eqv u v) : Eqv v u := fun st r => (h st r).symm
theorem Eqv.trans {u v w : Wk} (h : Eqv u v) (k : Eqv v w) : Eqv u w := fun st r => (h st r).trans (k st r)
theorem Eqv.app {u v a b : Wk} (h : Eqv u v) (k : Eqv a b) : Eqv (u ++ a) (v ++ b) := fun st r => by
  rw [run_append, run_append, h st r]
  exact k _ (red_run v r)
theorem eqv_pair (x : Int) : Eqv [x, -x] [] := fun st r => stp_pair x r
theorem eqv_cut (u v : Wk) (x : Int) : Eqv (u ++ [x, -x] ++ v) (u ++ v) := by
  have h := ((Eqv.refl u).app (eqv_pair x)).app (Eqv.refl v)
  rw [List.append_nil] at h
  exact h
theorem rd_eq {u v : Wk} (h : Eqv u v) : rd u = rd v := by
  unfold rd
  rw [h [] trivial]
theorem rd_snoc (u : Wk) (x : Int) : rd (u ++ [x]) = (stp (rd u).reverse x).reverse := by
  unfold rd
  rw [run_append, List.reverse_reverse]
  rfl
theorem run_snoc (st u : Wk) (x : Int) : run st (u ++ [x]) = stp (run st u) x := by
  rw [run_append]
  rfl
/-- what is left is the same -/
theorem eqv_rd : ∀ (n : Nat) (u : Wk), u.length = n → Eqv (rd u) u
  | 0, u, h => by
    have e : u = [] := List.eq_nil_of_length_eq_zero h
    subst e
    exact .refl _
  | n + 1, u, h => by
    obtain ⟨m, x, rfl⟩ : ∃ m x, u = m ++ [x] := ⟨u.dropLast, u.getLast (by intro e; subst e; cases h), (List.dropLast_concat_getLast _).symm⟩
    have ih := eqv_rd n m (by rw [List.length_append] at h; simpa using h)
    have hr : Red (rd m).reverse := by
      unfold rd
      rw [List.reverse_reverse]
      exact red_run m trivial
    intro st r
    rw [rd_snoc, run_snoc, ← ih st r]
    generalize hq : (rd m).reverse = q at hr
    have hm : rd m = q.reverse := by rw [← hq, List.reverse_reverse]
    rw [hm]
    cases q with
    | nil => rfl
    | cons y q =>
      show run st (if y = -x then q else x :: y :: q).reverse = stp (run st (y :: q).reverse) x
      by_cases e : y = -x
      · rw [if_pos e, List.reverse_cons, run_snoc, e]
        have k := stp_pair (-x) (red_run q.reverse r)
        rw [Int.neg_neg] at k
        exact k.symm
      · rw [if_neg e, List.reverse_cons, run_snoc]
theorem eqv_of_rd {u v : Wk} (h : rd u = rd v) : Eqv u v := (eqv_rd _ u rfl).symm.trans (h ▸ eqv_rd _ v rfl)
theorem rd_rd (u : Wk) : rd (rd u) = rd u := rd_eq (eqv_rd _ u rfl)
theorem rd_app (u v : Wk) : rd (rd u ++ rd v) = rd (u ++ v) := rd_eq ((eqv_rd _ u rfl).app (eqv_rd _ v rfl))
theorem bk_app (u v : Wk) : bk (u ++ v) = bk v ++ bk u := by unfold bk; rw [List.map_append, List.reverse_append]
theorem bk_bk (u : Wk) : bk (bk u) = u := by
  unfold bk
  rw [List.map_reverse, List.reverse_reverse, List.map_map]
  have e : ((fun x : Int => -x) ∘ fun x => -x) = id := funext fun x => by show - -x = x; omega
  rw [e, List.map_id]
theorem bk_len (u : Wk) : (bk u).length = u.length := by unfold bk; rw [List.length_reverse, List.length_map]
theorem eqv_bk : ∀ u : Wk, Eqv (u ++ bk u) []
  | [] => .refl _
  | x :: u => by
    have e : bk (x :: u) = bk u ++ [-x] := by
      unfold bk
      rw [List.map_cons, List.reverse_cons]
    rw [e]
    have h := ((Eqv.refl [x]).app (eqv_bk u)).app (Eqv.refl [-x])
    rw [List.append_nil] at h
    refine Eqv.trans ?_ (eqv_pair x)
    have e2 : (x :: u) ++ (bk u ++ [-x]) = [x] ++ (u ++ bk u) ++ [-x] := by simp
    rw [e2]
    exact h
theorem eqv_kb (u : Wk) : Eqv (bk u ++ u) [] := by
  have h := eqv_bk (bk u)
  rw [bk_bk] at h
  exact h
theorem Eqv.bk {u v : Wk} (h : Eqv u v) : Eqv (Fg.bk u) (Fg.bk v) := by
  -- back u ~ back u, v, back v ~ back u, u, back v ~ back v
  have h1 : Eqv (Fg.bk u) (Fg.bk u ++ (v ++ Fg.bk v)) := by
    have k := (Eqv.refl (Fg.bk u)).app (eqv_bk v).symm
    rw [List.append_nil] at k
    exact k
  have h2 : Eqv (Fg.bk u ++ (v ++ Fg.bk v)) (Fg.bk u ++ (u ++ Fg.bk v)) := (Eqv.refl _).app (h.symm.app (.refl _))
  have h3 : Eqv (Fg.bk u ++ (u ++ Fg.bk v)) (Fg.bk v) := by
    rw [← List.append_assoc]
    have k := (eqv_kb u).app (Eqv.refl (Fg.bk v))
    exact k
  exact (h1.trans h2).trans h3
/-- straight: no pair side by side -/
def Str (u : Wk) : Prop := ∀ i x, u[i]? = some x → u[i + 1]? ≠ some (-x)
theorem str_nil : Str [] := fun i x h => by simp at h
theorem str_snoc {u : Wk} {x : Int} (h : Str u) (hl : u.getLast? ≠ some (-x)) : Str (u ++ [x]) := by
  intro i z hz e
  by_cases hi : i + 1 < u.length
  · rw [List.getElem?_append_left (by omega)] at hz
    rw [List.getElem?_append_left hi] at e
    exact h i z hz e
  · by_cases hi2 : i + 1 = u.length
    · rw [List.getElem?_append_left (by omega)] at hz
      rw [List.getElem?_append_right (by omega), hi2, Nat.sub_self] at e
      have e' : x = -z := Option.some.inj e
      apply hl
      rw [List.getLast?_eq_getElem?]
      have e3 : u.length - 1 = i := by omega
      rw [e3, hz, e']
      congr 1
      omega
    · rw [List.getElem?_eq_none (by rw [List.length_append]; simp; omega)] at e
      cases e
theorem str_init {u : Wk} {x : Int} (h : Str (u ++ [x])) : Str u ∧ u.getLast? ≠ some (-x) := by
  refine ⟨fun i z hz e => ?_, fun e => ?_⟩
  · have l2 : i + 1 < u.length := (List.getElem?_eq_some_iff.mp e).1
    refine h i z ?_ ?_
    · rw [List.getElem?_append_left (by omega)]
      exact hz
    · rw [List.getElem?_append_left l2]
      exact e
  · rw [List.getLast?_eq_getElem?] at e
    have l1 : u.length - 1 < u.length := (List.getElem?_eq_some_iff.mp e).1
    refine h (u.length - 1) (-x) ?_ ?_
    · rw [List.getElem?_append_left l1]
      exact e
    · rw [show u.length - 1 + 1 = u.length by omega, List.getElem?_append_right (Nat.le_refl _), Nat.sub_self, Int.neg_neg]
      rfl
/-- a straight one stays -/
theorem rd_of_str : ∀ (n : Nat) (u : Wk), u.length = n → Str u → rd u = u
  | 0, u, h, _ => by
    have e : u = [] := List.eq_nil_of_length_eq_zero h
    subst e
    rfl
  | n + 1, u, h, s => by
    obtain ⟨m, x, rfl⟩ : ∃ m x, u = m ++ [x] := ⟨u.dropLast, u.getLast (by intro e; subst e; cases h), (List.dropLast_concat_getLast _).symm⟩
    obtain ⟨s1, s2⟩ := str_init s
    have ih := rd_of_str n m (by rw [List.length_append] at h; simpa using h) s1
    rw [rd_snoc, ih]
    generalize hq : m.reverse = q
    have hm : m = q.reverse := by rw [← hq, List.reverse_reverse]
    cases q with
    | nil => rw [hm]; rfl
    | cons y q =>
      have hl : m.getLast? = some y := by rw [hm, List.reverse_cons, List.getLast?_append]; rfl
      have hy : y ≠ -x := fun e => s2 (by rw [hl, e])
      show (if y = -x then q else x :: y :: q).reverse = m ++ [x]
      rw [if_neg hy, List.reverse_cons, ← hm]
theorem str_of_red : ∀ {st : Wk}, Red st → Str st.reverse
  | [], _ => str_nil
  | [x], _ => str_snoc (u := []) (x := x) str_nil (by simp)
  | x :: y :: r, h => by
    rw [List.reverse_cons]
    refine str_snoc (str_of_red h.2) ?_
    rw [List.reverse_cons, List.getLast?_append]
    intro e
    exact h.1 (Option.some.inj e)
theorem str_rd (u : Wk) : Str (rd u) := str_of_red (red_run u trivial)
theorem rd_str {u : Wk} (h : Str u) : rd u = u := rd_of_str _ u rfl h
theorem str_bk {u : Wk} (h : Str u) : Str (bk u) := by
  intro i x hx e
  unfold bk at hx e
  have l1 : i + 1 < u.length := by
    have := (List.getElem?_eq_some_iff.mp e).1
    simpa using this
  rw [List.getElem?_reverse (by simpa using (by omega : i < u.length)), List.getElem?_map] at hx
  rw [List.getElem?_reverse (by simpa using l1), List.getElem?_map] at e
  simp only [List.length_map] at hx e
  cases h1 : u[u.length - 1 - i]? with
  | none => rw [h1] at hx; cases hx
  | some z =>
    rw [h1] at hx
    have ez : -z = x := Option.some.inj hx
    cases h2 : u[u.length - 1 - (i + 1)]? with
    | none => rw [h2] at e; cases e
    | some y =>
      rw [h2] at e
      have ey : -y = -x := Option.some.inj e
      refine h (u.length - 1 - (i + 1)) y h2 ?_
      rw [show u.length - 1 - (i + 1) + 1 = u.length - 1 - i by omega, h1]
      congr 1
      omega
theorem rd_bk (u : Wk) : rd (bk u) = bk (rd u) := by
  rw [← rd_str (str_bk (str_rd u))]
  exact rd_eq (eqv_rd _ u rfl).symm.bk
theorem rd_len_le : ∀ (n : Nat) (u : Wk), u.length = n → (rd u).length ≤ u.length
  | 0, u, h => by
    have e : u = [] := List.eq_nil_of_length_eq_zero h
    subst e
    exact Nat.le_refl _
  | n + 1, u, h => by
    obtain ⟨m, x, rfl⟩ : ∃ m x, u = m ++ [x] := ⟨u.dropLast, u.getLast (by intro e; subst e; cases h), (List.dropLast_concat_getLast _).symm⟩
    have ih := rd_len_le n m (by rw [List.length_append] at h; simpa using h)
    rw [rd_snoc]
    generalize hq : (rd m).reverse = q
    have hm : rd m = q.reverse := by rw [← hq, List.reverse_reverse]
    rw [hm] at ih
    rw [List.length_append]
    cases q with
    | nil =>
      show 1 ≤ m.length + 1
      omega
    | cons y q =>
      show (if y = -x then q else x :: y :: q).reverse.length ≤ m.length + 1
      rw [List.length_reverse] at ih ⊢
      rw [List.length_cons] at ih
      split
      · omega
      · simp only [List.length_cons]
        omega
theorem rd_len (u : Wk) : (rd u).length ≤ u.length := rd_len_le _ u rfl
/-- u so many times -/
def rep : Nat → Wk → Wk
  | 0, _ => []
  | k + 1, u => rep k u ++ u
theorem rep_flat (k : Nat) (u : Wk) : (List.replicate k u).flatten = rep k u := by
  induction k with
  | zero => rfl
  | succ k ih =>
    rw [List.replicate_succ', List.flatten_append, ih]
    show rep k u ++ (u ++ []) = rep k u ++ u
    rw [List.append_nil]
theorem rep_len (k : Nat) (u : Wk) : (rep k u).length = k * u.length := by
  induction k with
  | zero => simp [rep]
  | succ k ih =>
    show (rep k u ++ u).length = (k + 1) * u.length
    rw [List.length_append, ih, Nat.succ_mul]
theorem eqv_rep {u v : Wk} (h : Eqv u v) : ∀ k, Eqv (rep k u) (rep k v)
  | 0 => .refl _
  | k + 1 => (eqv_rep h k).app h
end Fg
namespace Fg
/-- so many steps at the end of one are opposite to those ahead of the other -/
def Opp (u v : Wk) (s : Nat) : Prop := s ≤ u.length ∧ s ≤ v.length ∧ ∀ j, j < s → ∀ x y, u[u.length - 1 - j]? = some x → v[j]? = some y → x = -y
theorem opp_zero (u v : Wk) : Opp u v 0 := ⟨Nat.zero_le _, Nat.zero_le _, fun j h => absurd h (Nat.not_lt_zero j)⟩
theorem opp_succ {u v : Wk} {s : Nat} {x y : Int} (h : Opp u v s) (hu : s < u.length) (hv : s < v.length) (hx : u[u.length - 1 - s]? = some x) (hy : v[s]? = some y) (e : x = -y) : Opp u v (s + 1) := by
  refine ⟨hu, hv, fun j hj a b ha hb => ?_⟩
  by_cases hjs : j < s
  · exact h.2.2 j hjs a b ha hb
  · have : j = s := by omega
    subst this
    rw [hx] at ha
    rw [hy] at hb
    cases ha
    cases hb
    exact e
theorem eqv_opp {u v : Wk} : ∀ {s : Nat}, Opp u v s → Eqv (u ++ v) (u.take (u.length - s) ++ v.drop s)
  | 0, _ => by
    rw [Nat.sub_zero, List.take_length, List.drop_zero]
    exact .refl _
  | s + 1, h => by
    have h0 : Opp u v s := ⟨by have := h.1; omega, by have := h.2.1; omega, fun j hj => h.2.2 j (by omega)⟩
    refine (eqv_opp h0).trans ?_
    have hu : u.length - 1 - s < u.length := by have := h.1; omega
    have hv : s < v.length := h.2.1
    have e := h.2.2 s (by omega) u[u.length - 1 - s] v[s] (List.getElem?_eq_getElem hu) (List.getElem?_eq_getElem hv)
    have e1 : u.take (u.length - s) = u.take (u.length - (s + 1)) ++ [u[u.length - 1 - s]] := by
      have k : u.length - s = (u.length - 1 - s) + 1 := by have := h.1; omega
      have k2 : u.length - (s + 1) = u.length - 1 - s := by omega
      rw [k, k2, List.take_add_one, List.getElem?_eq_getElem hu]
      rfl
    have e2 : v.drop s = v[s] :: v.drop (s + 1) := List.drop_eq_getElem_cons hv
    rw [e1, e2, e]
    have e3 : u.take (u.length - (s + 1)) ++ [-v[s]] ++ (v[s] :: v.drop (s + 1)) = u.take (u.length - (s + 1)) ++ [-v[s], - -v[s]] ++ v.drop (s + 1) := by
      rw [Int.neg_neg]
      simp
    rw [e3]
    exact eqv_cut _ _ _
theorem str_take {u : Wk} (n : Nat) (h : Str u) : Str (u.take n) := by
  intro i x hx e
  have l2 : i + 1 < (u.take n).length := (List.getElem?_eq_some_iff.mp e).1
  rw [List.length_take] at l2
  rw [List.getElem?_take, if_pos (by omega)] at hx e
  exact h i x hx e
theorem str_drop {u : Wk} (n : Nat) (h : Str u) : Str (u.drop n) := by
  intro i x hx e
  rw [List.getElem?_drop] at hx e
  exact h (n + i) x hx (by rw [← e]; congr 1)
theorem str_app {u v : Wk} (hu : Str u) (hv : Str v) (h : ∀ x y, u.getLast? = some x → v.head? = some y → y ≠ -x) : Str (u ++ v) := by
  intro i x hx e
  by_cases h1 : i + 1 < u.length
  · rw [List.getElem?_append_left (by omega)] at hx
    rw [List.getElem?_append_left h1] at e
    exact hu i x hx e
  · by_cases h2 : i < u.length
    · rw [List.getElem?_append_left h2] at hx
      rw [List.getElem?_append_right (by omega)] at e
      have e0 : i + 1 - u.length = 0 := by omega
      rw [e0] at e
      refine h x (-x) ?_ ?_ rfl
      · rw [List.getLast?_eq_getElem?, show u.length - 1 = i by omega, hx]
      · rw [List.head?_eq_getElem?, e]
    · rw [List.getElem?_append_right (by omega)] at hx
      rw [List.getElem?_append_right (by omega)] at e
      have e0 : i + 1 - u.length = (i - u.length) + 1 := by omega
      rw [e0] at e
      exact hv _ x hx e
theorem join_ok {u v : Wk} {s : Nat} (hu : Str u) (hv : Str v) (h : Opp u v s) (hend : s < u.length → s < v.length → ∀ x y, u[u.length - 1 - s]? = some x → v[s]? = some y → x ≠ -y) :
    u.take (u.length - s) ++ v.drop s = rd (u ++ v) := by
  have hs : Str (u.take (u.length - s) ++ v.drop s) := by
    refine str_app (str_take _ hu) (str_drop _ hv) fun x y hx hy e => ?_
    rw [List.getLast?_eq_getElem?, List.length_take] at hx
    rw [List.head?_eq_getElem?, List.getElem?_drop] at hy
    have hx0 := (List.getElem?_eq_some_iff.mp hx).1
    rw [List.length_take] at hx0
    have hy0 := (List.getElem?_eq_some_iff.mp hy).1
    rw [List.getElem?_take, if_pos (by omega)] at hx
    have k1 : min (u.length - s) u.length - 1 = u.length - 1 - s := by omega
    rw [k1] at hx
    refine hend (by omega) (by omega) x y hx (by simpa using hy) (by omega)
  rw [rd_eq (eqv_opp h), rd_str hs]
theorem rd_rep_rd (u : Wk) (k : Nat) : rd (rep k (rd u)) = rd (rep k u) := rd_eq (eqv_rep (eqv_rd _ u rfl) k)
theorem rd_app_l (u v : Wk) : rd (rd u ++ v) = rd (u ++ v) := rd_eq ((eqv_rd _ u rfl).app (.refl v))
theorem rd_app_r (u v : Wk) : rd (u ++ rd v) = rd (u ++ v) := rd_eq ((Eqv.refl u).app (eqv_rd _ v rfl))
/-- one pair out -/
theorem rd_out {u : Wk} {i : Nat} {x y : Int} (hx : u[i]? = some x) (hy : u[i + 1]? = some y) (e : x = -y) : rd (u.take i ++ u.drop (i + 2)) = rd u := by
  have h1 := (List.getElem?_eq_some_iff.mp hx).1
  have h2 := (List.getElem?_eq_some_iff.mp hy).1
  have e1 : u = u.take i ++ [x, -x] ++ u.drop (i + 2) := by
    have k : u.drop i = x :: y :: u.drop (i + 2) := by
      rw [List.drop_eq_getElem_cons h1, List.drop_eq_getElem_cons h2]
      rw [List.getElem?_eq_getElem h1] at hx
      rw [List.getElem?_eq_getElem h2] at hy
      rw [Option.some.inj hx, Option.some.inj hy]
    have k2 : -x = y := by omega
    rw [k2]
    conv => lhs; rw [← List.take_append_drop i u, k]
    simp
  conv => rhs; rw [e1]
  exact (rd_eq (eqv_cut _ _ x)).symm
/-- no pair: straight -/
theorem str_of_none {u : Wk} (h : ∀ i x y, u[i]? = some x → u[i + 1]? = some y → x ≠ -y) : Str u := fun i x hx e => h i x (-x) hx e (by omega)
theorem mem_stp {st : Wk} {x y : Int} (h : y ∈ stp st x) : y ∈ st ∨ y = x := by
  cases st with
  | nil => exact .inr (List.mem_singleton.mp h)
  | cons z r =>
    have h' : y ∈ (if z = -x then r else x :: z :: r) := h
    split at h'
    · exact .inl (List.mem_cons_of_mem _ h')
    · rcases List.mem_cons.mp h' with e | e
      · exact .inr e
      · exact .inl e
theorem mem_run : ∀ (u : Wk) {st : Wk} {y : Int}, y ∈ run st u → y ∈ st ∨ y ∈ u
  | [], _, _, h => .inl h
  | x :: u, st, y, h => by
    rcases mem_run u (st := stp st x) h with k | k
    · rcases mem_stp k with k | k
      · exact .inl k
      · exact .inr (by rw [k]; exact List.mem_cons_self)
    · exact .inr (List.mem_cons_of_mem _ k)
theorem mem_rd {u : Wk} {y : Int} (h : y ∈ rd u) : y ∈ u := by
  rcases mem_run u (List.mem_reverse.mp h) with k | k
  · cases k
  · exact k
theorem mem_bk {u : Wk} {y : Int} (h : y ∈ bk u) : -y ∈ u := by
  unfold bk at h
  obtain ⟨x, hx, e⟩ := List.mem_map.mp (List.mem_reverse.mp h)
  rw [← e, Int.neg_neg]
  exact hx
theorem mem_rep : ∀ {k : Nat} {u : Wk} {y : Int}, y ∈ rep k u → y ∈ u
  | 0, _, _, h => by cases h
  | k + 1, _, _, h => by
    rcases List.mem_append.mp h with h | h
    · exact mem_rep h
    · exact h
theorem rep_nil : ∀ k : Nat, rep k [] = []
  | 0 => rfl
  | k + 1 => by
    show rep k [] ++ [] = []
    rw [rep_nil k]
    rfl
theorem rep_one (u : Wk) : rep 1 u = u := by
  show [] ++ u = u
  rfl
theorem rd_nil : rd [] = [] := rfl
theorem rd_app_bk (u : Wk) : rd (u ++ bk u) = [] := rd_eq (eqv_bk u)
theorem rd_bk_app (u : Wk) : rd (bk u ++ u) = [] := rd_eq (eqv_kb u)
end Fg
/-! what the words of several laws say -/
namespace L2
open PySem PySem.Spec PyProof.Rows Evl
/-- steps of so many letters -/
def Stp (l : Int) (ns : List Int) : Prop := ∀ x ∈ ns, x ≠ 0 ∧ -l ≤ x ∧ x ≤ l
theorem bk_rev (ns : List Int) : Fg.bk ns = ns.reverse.map fun x => -x := by unfold Fg.bk; rw [List.map_reverse]
theorem bk_get {ns : List Int} {k : Nat} {x y : V} (hx : ((ns.map V.int).reverse)[k]? = some x) (hy : ((Fg.bk ns).map V.int)[k]? = some y) : ∃ z, x = .int z ∧ y = .int (-z) := by
  rw [← List.map_reverse, List.getElem?_map] at hx
  rw [List.getElem?_map, bk_rev, List.getElem?_map] at hy
  cases hn : ns.reverse[k]? with
  | none => rw [hn] at hx; cases hx
  | some z =>
    rw [hn] at hx hy
    cases hx
    cases hy
    exact ⟨z, rfl, rfl⟩
/-- the walk so many times, back for a number below 0 -/
def pw (ns : List Int) (k : Int) : List Int := Fg.rd (Fg.rep k.natAbs (if 0 ≤ k then ns else Fg.bk ns))
theorem abs_if (k : Int) : (if k < 0 then -k else k) = ((k.natAbs : Nat) : Int) := by
  split <;> omega
theorem stp_of_mem {l : Int} {ns ms : List Int} (h : Stp l ns) (k : ∀ x ∈ ms, x ∈ ns) : Stp l ms := fun x hx => h x (k x hx)
theorem given_ints (m : Nat) (f : Nat → Bool) : given m f (fun i => V.int (0 + (i : Int))) = (((List.range m).filter f).map fun i => ((i : Nat) : Int)).map V.int := by
  unfold given
  rw [List.map_map]
  congr 1
  funext i
  show V.int (0 + (i : Int)) = V.int (i : Int)
  rw [Int.zero_add]
theorem pw_rd (ns : List Int) (k : Int) : pw (Fg.rd ns) k = pw ns k := by
  unfold pw
  split
  · exact Fg.rd_rep_rd ns _
  · rw [← Fg.rd_bk]
    exact Fg.rd_rep_rd _ _
theorem pw_zero (ns : List Int) : pw ns 0 = [] := rfl
theorem pw_one (ns : List Int) : pw ns 1 = Fg.rd ns := by
  show Fg.rd (Fg.rep 1 ns) = Fg.rd ns
  rw [Fg.rep_one]
theorem pw_nil (k : Int) : pw [] k = [] := by
  unfold pw
  have e : (if 0 ≤ k then ([] : List Int) else Fg.bk []) = [] := by split <;> rfl
  rw [e, Fg.rep_nil]
  rfl
theorem stp_rd {ns : List Int} (h : Stp 4 ns) : Stp 4 (Fg.rd ns) := fun x hx => h x (Fg.mem_rd hx)
theorem stp_bk {ns : List Int} (h : Stp 4 ns) : Stp 4 (Fg.bk ns) := fun x hx => by
  have := h _ (Fg.mem_bk hx)
  omega
theorem stp_pw {ns : List Int} {k : Int} (h : Stp 4 ns) : Stp 4 (pw ns k) := by
  unfold pw
  refine stp_rd fun x hx => ?_
  have := Fg.mem_rep hx
  split at this
  · exact h x this
  · exact stp_bk h x this
theorem str_pw (ns : List Int) (k : Int) : Fg.Str (pw ns k) := Fg.str_rd _
theorem pw_len {ns : List Int} {k : Int} (h : ns.length ≤ 60) (hlo : -20 ≤ k) (hhi : k ≤ 20) : (pw ns k).length ≤ 1200 := by
  unfold pw
  refine Nat.le_trans (Fg.rd_len _) ?_
  rw [Fg.rep_len]
  have e : (if 0 ≤ k then ns else Fg.bk ns).length ≤ 60 := by
    split
    · exact h
    · rw [Fg.bk_len]
      exact h
  exact Nat.le_trans (Nat.mul_le_mul (by omega : k.natAbs ≤ 20) e) (by decide)
theorem rd60 {ns : List Int} (h : ns.length ≤ 60) : (Fg.rd ns).length ≤ 60 := Nat.le_trans (Fg.rd_len ns) h
theorem stp_nil : Stp 4 [] := fun x hx => by cases hx
theorem stp_le {l : Int} {ns : List Int} (h : Stp l ns) (e : l ≤ 4) : Stp 4 ns := fun x hx => by
  have := h x hx
  omega
end L2
/-! leads, cores, roots -/
namespace Fg
theorem tw_len {p : Nat → Bool} : ∀ (m s : Nat), s ≤ m → (∀ j, j < s → p j = true) → (s < m → p s = false) → ((List.range m).takeWhile p).length = s := by
  intro m s hs h1 h2
  have e : List.range m = List.range s ++ (List.range (m - s)).map (s + ·) := by
    have k : m = s + (m - s) := by omega
    conv => lhs; rw [k]
    rw [List.range_add]
  rw [e, List.takeWhile_append_of_pos (fun a ha => h1 a (List.mem_range.mp ha)), List.length_append, List.length_range]
  by_cases h : s < m
  · have k : m - s = (m - s - 1) + 1 := by omega
    rw [k, List.range_succ_eq_map, List.map_cons, List.takeWhile_cons_of_neg (by rw [Nat.add_zero, h2 h]; exact Bool.false_ne_true)]
    rfl
  · have k : m - s = 0 := by omega
    rw [k]
    rfl
def mt (u : Wk) (j : Nat) : Bool := decide (u.getD j 0 = -(u.getD (u.length - 1 - j) 0))
/-- how many steps the lead has -/
def ld (u : Wk) : Nat := ((List.range (u.length / 2)).takeWhile (mt u)).length
theorem ld_eq {u : Wk} {s : Nat} (h : s ≤ u.length / 2) (h1 : ∀ j, j < s → mt u j = true) (h2 : s < u.length / 2 → mt u s = false) : ld u = s := tw_len _ s h h1 h2
theorem ld_le (u : Wk) : ld u ≤ u.length / 2 := by
  unfold ld
  have h := (List.takeWhile_sublist (mt u) (l := List.range (u.length / 2))).length_le
  rw [List.length_range] at h
  exact h
theorem ld_mt {u : Wk} {j : Nat} (h : j < ld u) : mt u j = true := by
  have hl := ld_le u
  have hs := List.takeWhile_prefix (mt u) (l := List.range (u.length / 2))
  have hm : ((List.range (u.length / 2)).takeWhile (mt u))[j]'h ∈ (List.range (u.length / 2)).takeWhile (mt u) := List.getElem_mem h
  have e : ((List.range (u.length / 2)).takeWhile (mt u))[j]'h = j := by
    rw [hs.getElem h, List.getElem_range]
  have hall := List.all_takeWhile (p := mt u) (l := List.range (u.length / 2))
  rw [List.all_eq_true] at hall
  have k := hall _ hm
  rw [e] at k
  exact k
theorem mt_of {u : Wk} {j : Nat} {x y : Int} (hx : u[j]? = some x) (hy : u[u.length - 1 - j]? = some y) : mt u j = decide (x = -y) := by
  unfold mt
  rw [List.getD_eq_getElem?_getD, List.getD_eq_getElem?_getD, hx, hy]
  rfl
/-- beyond the lead nothing fits -/
theorem ld_end {u : Wk} (h : ld u < u.length / 2) : mt u (ld u) = false := by
  cases e : mt u (ld u) with
  | false => rfl
  | true =>
    exfalso
    -- then the lead would be longer
    have hmono : ∀ j, j < ld u + 1 → mt u j = true := fun j hj => by
      rcases Nat.lt_or_ge j (ld u) with k | k
      · exact ld_mt k
      · have : j = ld u := by omega
        rw [this]
        exact e
    -- the first s that does not fit, or the half
    have : ∃ s, ld u + 1 ≤ s ∧ s ≤ u.length / 2 ∧ (∀ j, j < s → mt u j = true) ∧ (s < u.length / 2 → mt u s = false) := by
      have go : ∀ (d s : Nat), u.length / 2 - s = d → ld u + 1 ≤ s → s ≤ u.length / 2 → (∀ j, j < s → mt u j = true) → ∃ s, ld u + 1 ≤ s ∧ s ≤ u.length / 2 ∧ (∀ j, j < s → mt u j = true) ∧ (s < u.length / 2 → mt u s = false) := by
        intro d
        induction d with
        | zero => exact fun s hd h1 h2 h3 => ⟨s, h1, h2, h3, fun z => absurd z (by omega)⟩
        | succ d ih =>
          intro s hd h1 h2 h3
          cases k : mt u s with
          | false => exact ⟨s, h1, h2, h3, fun _ => k⟩
          | true =>
            refine ih (s + 1) (by omega) (by omega) (by omega) fun j hj => ?_
            rcases Nat.lt_or_ge j s with z | z
            · exact h3 j z
            · have : j = s := by omega
              rw [this]
              exact k
      exact go _ (ld u + 1) rfl (Nat.le_refl _) h hmono
    obtain ⟨s, s1, s2, s3, s4⟩ := this
    have := ld_eq s2 s3 s4
    omega
theorem ld_str {u : Wk} (h : Str u) (hn : u ≠ []) : ld u ≤ (u.length - 1) / 2 := by
  have hl := ld_le u
  have hp : 0 < u.length := List.length_pos_iff.mpr hn
  refine Nat.le_of_not_lt fun z => ?_
  -- then it is the half of an even number
  have e1 : ld u = u.length / 2 := by omega
  have e2 : u.length = 2 * (u.length / 2) := by omega
  have hj : u.length / 2 - 1 < ld u := by omega
  have k := ld_mt hj
  have l1 : u.length / 2 - 1 < u.length := by omega
  have l2 : u.length - 1 - (u.length / 2 - 1) < u.length := by omega
  rw [mt_of (List.getElem?_eq_getElem l1) (List.getElem?_eq_getElem l2)] at k
  have k2 := of_decide_eq_true k
  refine h (u.length / 2 - 1) _ (List.getElem?_eq_getElem l1) ?_
  have e3 : u.length / 2 - 1 + 1 = u.length - 1 - (u.length / 2 - 1) := by omega
  rw [e3, List.getElem?_eq_getElem l2, k2, Int.neg_neg]
def lead (u : Wk) : Wk := u.take (ld u)
def mid (u : Wk) : Wk := (u.drop (ld u)).take (u.length - ld u - ld u)
/-- so many steps ahead are those at the end turned back -/
theorem take_bk {u : Wk} {s : Nat} (hs : s ≤ u.length) : u.take s = bk (u.drop (u.length - s)) ↔ ∀ j, j < s → mt u j = true := by
  have len1 : (u.take s).length = s := by rw [List.length_take]; omega
  have len2 : (bk (u.drop (u.length - s))).length = s := by rw [bk_len, List.length_drop]; omega
  have at2 : ∀ j, j < s → (bk (u.drop (u.length - s)))[j]? = (u[u.length - 1 - j]?).map fun x => -x := fun j hj => by
    unfold bk
    rw [List.getElem?_reverse (by rw [List.length_map, List.length_drop]; omega), List.getElem?_map, List.length_map, List.length_drop, List.getElem?_drop]
    congr 2
    omega
  constructor
  · intro e j hj
    have l1 : j < u.length := by omega
    have l2 : u.length - 1 - j < u.length := by omega
    rw [mt_of (List.getElem?_eq_getElem l1) (List.getElem?_eq_getElem l2)]
    have k : (u.take s)[j]? = (bk (u.drop (u.length - s)))[j]? := by rw [e]
    rw [at2 j hj, List.getElem?_take, if_pos hj, List.getElem?_eq_getElem l1, List.getElem?_eq_getElem l2] at k
    exact decide_eq_true (Option.some.inj k)
  · intro h
    apply List.ext_getElem?
    intro j
    by_cases hj : j < s
    · have l1 : j < u.length := by omega
      have l2 : u.length - 1 - j < u.length := by omega
      have k := h j hj
      rw [mt_of (List.getElem?_eq_getElem l1) (List.getElem?_eq_getElem l2)] at k
      rw [at2 j hj, List.getElem?_take, if_pos hj, List.getElem?_eq_getElem l1, List.getElem?_eq_getElem l2, of_decide_eq_true k]
      rfl
    · rw [List.getElem?_eq_none (by omega), List.getElem?_eq_none (by omega)]
theorem take_bk_ld {u : Wk} {s : Nat} (hs : s ≤ u.length / 2) : (u.take s = bk (u.drop (u.length - s))) ↔ s ≤ ld u := by
  rw [take_bk (by omega)]
  constructor
  · intro h
    refine Nat.le_of_not_lt fun z => ?_
    have := ld_end (u := u) (by omega)
    rw [h (ld u) z] at this
    cases this
  · exact fun h j hj => ld_mt (by omega)
/-! ### once round -/
def Per (u : Wk) (l : Nat) : Prop := rep (u.length / l) (u.take l) = u
instance (u : Wk) (l : Nat) : Decidable (Per u l) := inferInstanceAs (Decidable (_ = _))
structure Om (u : Wk) (l : Nat) : Prop where
  pos : 1 ≤ l
  le : l ≤ u.length
  per : Per u l
  least : ∀ k, 1 ≤ k → k < l → ¬ Per u k
theorem per_full (u : Wk) (h : u ≠ []) : Per u u.length := by
  unfold Per
  rw [Nat.div_self (List.length_pos_iff.mpr h), List.take_length, rep_one]
theorem per_len {u : Wk} {l : Nat} (h : Per u l) (hl : l ≤ u.length) : u.length / l * l = u.length := by
  have e := congrArg List.length h
  rw [rep_len, List.length_take, Nat.min_eq_left hl] at e
  exact e
/-- so many times the part -/
def Tm (u : Wk) (t : Nat) : Prop := rep t (u.take (u.length / t)) = u
theorem tm_one (u : Wk) : Tm u 1 := by
  unfold Tm
  rw [Nat.div_one, List.take_length, rep_one]
theorem om_tm {u : Wk} {l : Nat} (h : Om u l) : Tm u (u.length / l) ∧ u.length / (u.length / l) = l ∧ 1 ≤ u.length / l ∧ u.length / l ≤ u.length := by
  have e := per_len h.per h.le
  have hp := h.pos
  have h1 : 1 ≤ u.length / l := Nat.div_pos h.le hp
  have e2 : u.length / (u.length / l) = l := by
    apply Nat.div_eq_of_eq_mul_right h1
    exact e.symm
  refine ⟨?_, e2, h1, Nat.div_le_self _ _⟩
  unfold Tm
  rw [e2]
  exact h.per
theorem tm_le {u : Wk} {l t : Nat} (h : Om u l) (ht : Tm u t) (h1 : 1 ≤ t) (h2 : t ≤ u.length) : t ≤ u.length / l := by
  have e : t * (u.length / t) = u.length := by
    have k := congrArg List.length ht
    rw [rep_len, List.length_take, Nat.min_eq_left (Nat.div_le_self _ _)] at k
    exact k
  have hl : 1 ≤ u.length / t := Nat.div_pos h2 h1
  have ht2 : u.length / (u.length / t) = t := by
    apply Nat.div_eq_of_eq_mul_right hl
    rw [Nat.mul_comm]
    exact e.symm
  have hp : Per u (u.length / t) := by
    unfold Per
    rw [ht2]
    exact ht
  have hge : l ≤ u.length / t := Nat.le_of_not_lt fun z => h.least _ hl z hp
  have hp2 := h.pos
  rw [← ht2]
  exact Nat.div_le_div_left hge hp2
end Fg
namespace L2
open PySem PySem.Spec PyProof.Rows Evl
section
variable {K : PySem.W.Frag} {σ : L2.St} {H H' : Hp} {Q : VK} {D : Ends} {te : TE} {a : Addr} {xs : List V}
def rAug (i : Nat) (x : V) (ti : TIp) (D : Ends) (σ : L2.St) (y : V) (H1 : Hp) : Prop := ti x y H1 fun z H2 => D.nx (σ.set i (some z)) H2
theorem st_aug {i : Nat} {x : V} {ti : TIp} (hx : σ[i]? = some (some x)) (h : te σ H fun y H1 => rAug i x ti D σ y H1) : tAug i te ti D σ H := ⟨x, hx, h⟩
theorem r_augI {i : Nat} {x y : Int} {f : Int → Int → Int} (h : D.nx (σ.set i (some (.int (f x y)))) H) : rAug i (.int x) (ipI f) D σ (.int y) H := ⟨x, y, rfl, rfl, h⟩
/-- a, b = t -/
theorem r_tup2 {i j : Nat} {x y : V} {R : L2.St → Hp → Prop} (h : SqT K H a [x, y]) (q : R ((σ.set i (some x)).set j (some y)) H) : gTup K 2 (gCons (gName i) (gCons (gName j) gNil)) (.ref a) σ H R := ⟨a, _, rfl, h, rfl, x, [y], rfl, y, [], rfl, rfl, q⟩
theorem at_negI {ns : List Int} {k : Nat} {x : Int} (hk : k < ns.length) (hx : ns[ns.length - 1 - k]? = some x) : atI (ns.map V.int) (-1 - (k : Int)) = some (.int x) := by
  have e : ixN (ns.map V.int).length (-1 - (k : Int)) = some (ns.length - 1 - k) := by
    unfold ixN
    rw [List.length_map, if_neg (by omega), if_pos (by omega)]
    congr 1
    omega
  unfold atI
  rw [e]
  show (ns.map V.int)[ns.length - 1 - k]? = _
  rw [List.getElem?_map, hx]
  rfl
theorem cut_mid {ns : List Int} {lo hi : Int} (h0 : 0 ≤ lo) (h1 : 0 ≤ hi) (h2 : hi ≤ ns.length) : cutV (ns.map V.int) (some lo) (some hi) = ((ns.drop lo.toNat).take (hi.toNat - lo.toNat)).map V.int := by
  rw [cut_map, sIx_int h0, sIx_int h1]
  congr 1
  rw [Nat.min_eq_left (by omega : hi.toNat ≤ ns.length)]
  by_cases h : lo.toNat ≤ ns.length
  · rw [Nat.min_eq_left h]
  · rw [Nat.min_eq_right (by omega), List.drop_of_length_le (Nat.le_refl _), List.drop_of_length_le (by omega)]
    simp
theorem r_eqB {x y : Bool} (q : Q (.bl (decide (x = y))) H) : rEqU K (.bl x) (.bl y) H Q := .inl ⟨rfl, by
  have e : decide ((V.bl x) = V.bl y) = decide (x = y) := by simp
  rw [e]
  exact q⟩
/-- a tuple of two walks -/
structure P2 (K : PySem.W.Frag) (H : Hp) (q : Addr) (u v : List Int) : Prop where
  ex : ∃ a b, SqT K H q [.ref a, .ref b] ∧ IT K H a u ∧ IT K H b v
theorem P2.mono {q : Addr} {u v : List Int} (h : P2 K H q u v) (e : Ex H H') : P2 K H' q u v := by
  obtain ⟨a, b, h1, h2, h3⟩ := h.ex
  exact ⟨a, b, ex_t e h1, ex_t e h2, ex_t e h3⟩
/-- a tuple of a walk and a number -/
structure P1N (K : PySem.W.Frag) (H : Hp) (q : Addr) (u : List Int) (t : Int) : Prop where
  ex : ∃ a, SqT K H q [.ref a, .int t] ∧ IT K H a u
theorem P1N.mono {q : Addr} {u : List Int} {t : Int} (h : P1N K H q u t) (e : Ex H H') : P1N K H' q u t := by
  obtain ⟨a, h1, h2⟩ := h.ex
  exact ⟨a, ex_t e h1, ex_t e h2⟩
/-- the tuples stay -/
def TX (H H' : Hp) : Prop := ∀ a xs, H a = some (.tup xs) ∨ (∃ o, H a = some (.frz o (.tup xs))) → H' a = H a
theorem TX.refl (H : Hp) : TX H H := fun _ _ _ => rfl
theorem TX.trans {H H1 H2 : Hp} (a : TX H H1) (b : TX H1 H2) : TX H H2 := fun x xs h => by
  have e := a x xs h
  rw [← e] at h
  rw [b x xs h, e]
theorem TX.of (e : Ex H H') : TX H H' := fun a xs h => by
  rcases h with h | ⟨o, h⟩
  · rw [h, e _ _ h]
  · rw [h, e _ _ h]
theorem TX.w {w : Addr} {n : Nat} (e : ExW w H H') (k : Well H w n) : TX H H' := fun a xs h => by
  obtain ⟨_, _, _, h1, _⟩ := k.ex
  rcases h with h | ⟨o, h⟩
  · rw [h, e _ _ h (ne_of h h1 (by intro z; cases z))]
  · rw [h, e _ _ h (ne_of h h1 (by intro z; cases z))]
theorem tx_t (e : TX H H') (h : SqT K H a xs) : SqT K H' a xs := by
  rcases h with (h | ⟨o, h⟩) | h
  · exact .inl (.inl (by rw [e _ _ (.inl h)]; exact h))
  · exact .inl (.inr ⟨o, by rw [e _ _ (.inr ⟨o, h⟩)]; exact h⟩)
  · exact .inr h
theorem DrS.tx {w : Addr} {n k : Nat} (h : DrS w H n H') (h0 : Well H w k) : TX H H' := .w h.ex h0
end
theorem str_one (x : Int) : Fg.Str [x] := Fg.str_snoc (u := []) Fg.str_nil (by simp)
theorem om_unique {u : List Int} {l k : Nat} (h1 : Fg.Om u l) (h2 : Fg.Om u k) : l = k := by
  rcases Nat.lt_trichotomy l k with h | h | h
  · exact absurd h1.per (h2.least l h1.pos h)
  · exact h
  · exact absurd h2.per (h1.least k h2.pos h)
/-- what the root of a straight walk is -/
def RootIs (ns u : List Int) (t : Int) : Prop := (Fg.mid ns = [] ∧ u = [] ∧ t = 0) ∨ (Fg.mid ns ≠ [] ∧ ∃ l, Fg.Om (Fg.mid ns) l ∧ u = Fg.lead ns ++ (Fg.mid ns).take l ++ Fg.bk (Fg.lead ns) ∧ t = (((Fg.mid ns).length / l : Nat) : Int))
theorem rootIs_unique {ns u v : List Int} {t s : Int} (h1 : RootIs ns u t) (h2 : RootIs ns v s) : u = v ∧ t = s := by
  rcases h1 with ⟨e1, rfl, rfl⟩ | ⟨n1, l, o1, rfl, rfl⟩
  · rcases h2 with ⟨_, rfl, rfl⟩ | ⟨n2, _⟩
    · exact ⟨rfl, rfl⟩
    · exact absurd e1 n2
  · rcases h2 with ⟨e2, _⟩ | ⟨n2, k, o2, rfl, rfl⟩
    · exact absurd e2 n1
    · have := om_unique o1 o2
      subst this
      exact ⟨rfl, rfl⟩
theorem lead_len (ns : List Int) : (Fg.lead ns).length ≤ ns.length := by
  unfold Fg.lead
  rw [List.length_take]
  exact Nat.min_le_right _ _
theorem mid_len (ns : List Int) : (Fg.mid ns).length ≤ ns.length := by
  unfold Fg.mid
  rw [List.length_take, List.length_drop]
  omega
theorem root_len {ns u : List Int} {t : Int} (h : RootIs ns u t) : u.length ≤ 3 * ns.length := by
  rcases h with ⟨_, rfl, _⟩ | ⟨_, l, _, rfl, _⟩
  · exact Nat.zero_le _
  · have h1 := lead_len ns
    have h2 := mid_len ns
    rw [List.length_append, List.length_append, Fg.bk_len, List.length_take]
    omega
end L2
/-! promises of defs that are entered where no text of an object is being written: repr of data can be told there -/
namespace L2
open PySem PySem.Spec PyProof.Rows
/-- no object's text is under way -/
def Quiet (A : Around) : Prop := A.guards = some []
structure FnG (P : Program) (w : World) (K : PySem.W.Frag) (mg : Str → Option Value) (base : Heap) (CX : CXT) (k : Nat) (f : Addr) (fd : FuncData) (ps : List Str) (sp : Sp) : Prop where
  len : ∀ xs H Q E, sp xs H Q E → xs.length = ps.length
  run : ∀ (A : Around), Quiet A → Room k A → ∀ (outer : List Env) (s : Shared) (H : Hp), Env0 P w K mg base A outer s H →
    ∀ (args : Args) (us : List Value) (xs : List V), BindsTo s fd args (ps.zip us) → Vals xs us → ∀ (Q : VK) (E : XK), sp xs H Q E →
    codeAny (model P w) A (.call (.ref f) args) (CR CX outer P w H s Q E) s
section
variable {P : Program} {w : World} {K : PySem.W.Frag} {mg : Str → Option Value} {base : Heap} {CX : CXT} {k : Nat} {f : Addr} {fd : FuncData} {ps : List Str} {sp : Sp}
theorem FnOk.quiet (F : FnOk P w K mg base CX k f fd ps sp) : FnG P w K mg base CX k f fd ps sp :=
  ⟨F.len, fun A _ hr outer s H e0 args us xs hb hv Q E h => F.run A outer s H args us xs Q E hr e0 hb hv h⟩
theorem FnG.room {j : Nat} (F : FnG P w K mg base CX j f fd ps sp) (h : j ≤ k) : FnG P w K mg base CX k f fd ps sp :=
  ⟨F.len, fun A g hr => F.run A g (hr.mono h)⟩
/-- a def of the text, by its body; nothing is being written where it is entered, so nothing is within -/
theorem fnG_of {name qual : Str} {params : Arguments} {body : List Stmt} {scope : Scope} {dV kV doc pm cdv ct oc : Value} {an od : Option Addr} {osl : Array (Option Value)} {N : List Str}
    (lk : K.lookup f = some ⟨oc, od, .func (PySem.W.fnOf name qual params body scope dV kV doc pm an cdv ct), osl⟩)
    (code : PySem.W.codeIn K cdv qual = true) (S : FnScope N ps scope) (len : ∀ xs H Q E, sp xs H Q E → xs.length = ps.length)
    (inner : ∀ (A : Around), Quiet (A.deeper (envOfC qual scope 0 f cdv)) → ∀ (outer : List Env) (s : Shared) (H : Hp) (xs : List V) (Q : VK) (E : XK),
      Room k (A.deeper (envOfC qual scope s.heap.objs.size f cdv)) → sp xs H Q E →
      ∃ t, PSs (cxOf CX P w K mg base N qual scope f cdv A outer s H E) body t ∧ t { nx := fun _ H' => Q .non H', rt := Q } (start N xs) H) :
    FnG P w K mg base CX (k + 1) f (PySem.W.fnOf name qual params body scope dV kV doc pm an cdv ct) ps sp := by
  refine ⟨len, fun A g hr outer s H e0 args us xs hb hv Q E hsp => ?_⟩
  have inK : K.In s.heap := e0.mod.kin.keeps fun c oc e => (e0.bs c oc e).1
  have nolim : s.heap.NoLimit := e0.mod.nolimit.keeps fun c oc e => (e0.bs c oc e).1
  refine codeAny_call_function hr.depth (inK _ _ lk) rfl S.co S.gen rfl (PySem.W.codeRec_of inK code) (hb _ _ _ _ ?_)
  refine wpAny_newFunctionEnv_cells S.kind ?kinds fun env he s1 x => ?_
  case kinds =>
    intro y hy
    cases S.par y.1 (List.of_mem_zip (show (y.1, y.2) ∈ ps.zip us from hy)).1 with
    | inl q => exact Or.inl q
    | inr q => exact Or.inr ⟨q, PySem.W.cellsFrom_some _ _ _ (Or.inl q)⟩
  cases he
  refine ⟨nolim.keeps x.toInCall.keep, codeAny_func ?_⟩
  have hd := inner A g outer s H xs Q E (hr.deeper _) hsp
  have I : Inv (cxOf CX P w K mg base N qual scope f cdv A outer s H E) [] (start N xs) H s1 :=
    inv_start S hr.hd e0 (len _ _ _ _ hsp) hv x
  have over : ∀ σ' H' v u s', Inv (cxOf CX P w K mg base N qual scope f cdv A outer s H E) [] σ' H' s' → RelV v u → Q v H' → CE outer P w H s Q u s' :=
    fun σ' H' v u s' J rv q => ⟨v, H', J.os, J.bare, J.base, J.hok, rv, q⟩
  obtain ⟨t, ht, hq⟩ := hd
  refine wpAny_mono (ht.run [] s1 (start N xs) H _ I hq) (fun fl s' hs => ?_) fun _ _ hs => hs
  match fl, hs with
  | .ret u, ⟨v, σ', H', J, rv, q⟩ => exact over σ' H' v u s' J rv q
  | .next, ⟨σ', H', J, q⟩ => exact over σ' H' .non .none s' J rfl q
  | .brk, ⟨_, _, _, q⟩ => exact False.elim q
  | .cont, ⟨_, _, _, q⟩ => exact False.elim q
end
section
variable {P : Program} {w : World} {K : PySem.W.Frag} {mg : Str → Option Value} {base : Heap}
theorem Fun.okG {x qual : Str} {st : Stmt} {f : Addr} {fd : FuncData} {N ps : List Str} {k : Nat} {sp : Sp} (F : Fun K x qual st f fd) (S : FnScope N ps (defScope st))
    (len : ∀ xs H Q E, sp xs H Q E → xs.length = ps.length)
    (inner : ∀ (cdv : Value) (A : Around) (outer : List Env) (s : Shared) (H : Hp) (xs : List V) (Q : VK) (E : XK),
      Quiet A → Room k (A.deeper (envOfC qual (defScope st) s.heap.objs.size f cdv)) → sp xs H Q E →
      ∃ t, PSs (cxOf CX0 P w K mg base N qual (defScope st) f cdv A outer s H E).nox (defBody st) t ∧ t { nx := fun _ H' => Q .non H', rt := Q } (start N xs) H) :
    FnG P w K mg base CX0 (k + 1) f fd ps sp := by
  obtain ⟨oc, od, kV, doc, pm, an, cdv, ct, osl, e, lk, code⟩ := F.ex
  subst e
  refine fnG_of lk code S len fun A g outer s H xs Q E hr hsp => ?_
  obtain ⟨t, body, q⟩ := inner cdv A outer s H xs Q E g hr hsp
  exact ⟨t, body.nox, q⟩
end
section
variable {X : Cx} {CX : CXT} {k : Nat} {f : Addr} {fd : FuncData} {ps : List Str} {sp : Sp} {dvs : List V} {ds : List Value} {E : XK} {x : Str} {p pos : Pos} {e : Expr} {es : List Expr} {t : TA}
/-- f(..) of such a def, from where nothing is being written -/
theorem pe_callG (F : FnG X.prog X.w X.K X.mg X.base CX k f fd ps sp) (g : Quiet X.A) (hr : Room k X.A) (hg : Gl X x) (hm : X.mg x = some (.ref f))
    (hk : PySem.W.keepIn X.K (.ref f) = true) (hb : Binds X.K fd ps ds) (hd : Vals dvs ds) (hx : Passes CX X E) (ha : PA X (e :: es) t)
    (hdb : (x == ("__debug__" : Str)) = false := by decide) (he : starEach (e :: es) X.env = (false, eval e X.env) :: starEach es X.env := by rfl)
    (hpl : (backTo pos (starEach es X.env)).any (·.1) = false := by rfl) :
    PE X (.Call (.Name x p) (e :: es) [] pos) (tCall sp dvs E t) := by
  constructor
  intro pins s σ H Q I h
  refine wpAny_Call_Name_kw (ld_glob I hg hm ?_ hdb)
  refine PySem.W.callWith_K (h₀ := X.base) I.ok.mod.kin hk (thn (ha.run pos pins s σ H _ I h) fun us s1 got => ?_) he hpl
  obtain ⟨xs, H1, J, r, q⟩ := got
  have r2 : Vals (xs ++ dvs) (us ++ ds) := r.append hd
  have hl : (us ++ ds).length = ps.length := r2.length.symm.trans (F.len _ _ _ _ q)
  refine ⟨J.kIn, wpAny_call (codeAny_mono (F.run X.A g hr X.stack s1 H1 J.env0 ⟨us, []⟩ (us ++ ds) (xs ++ dvs) (hb s1 us J.kIn hl) r2 Q E q) fun res s' hq => ?_)⟩
  match res, hq with
  | .error v, hq => exact hx pins σ H1 s1 v s' J hq
  | .ok (.ret u), hq => exact J.after hq
  | .ok .next, hq => exact False.elim hq
  | .ok .brk, hq => exact False.elim hq
  | .ok .cont, hq => exact False.elim hq
end
/-! ### the end -/
section
variable {P : Program} {w : World} {K : PySem.W.Frag} {mg mb : Str → Option Value} {CX : CXT} {k : Nat} {fa a : Addr} {fd : FuncData} {x : Str} {sp : Sp} {s₁ : Shared} {us : List Value} {ns : List Int}
/-- from a heap in which nothing but the script is tracked -/
theorem quiet_call (KX : K.In s₁.heap) (hns : s₁.heap.Ns mainGlobals mg) (hb : s₁.heap.Ns builtinsNs mb) (hbb : ∀ y : Str, y ≠ "__name__" → mb y = bootBuiltins y)
    (hlim : s₁.heap.NoLimit) (hg : s₁.gens = #[]) (hr : Room k callerA) (F : ∀ base : Heap, K.In base → base.Ns mainGlobals mg → FnG P w K mg base CX k fa fd [x] sp)
    (hbind : ∀ (s : Shared) (u : Value), BindsTo s fd ⟨[u], []⟩ [(x, u)]) (hCX : ∀ H e s', CX [] H s₁ (fun _ _ _ => False) e s' → False)
    (H : Hp) (hO : Only H) (hS : sp [.ref a] H (fun v _ => v = .bl true) fun _ _ _ => False) (hok : HOk P w H s₁.heap)
    (noA : ∀ c (o : Obj) es ep, s₁.heap.get? c = some o → o.data = .dict es ep → H c = none) (noK : ∀ c o, K.lookup c = some o → H c = none) :
    codeAny (model P w) callerA (.call (.ref fa) ⟨[.ref a], []⟩) (fun r s' => r = .ok (.ret (.bool true)) ∧ OldK s₁.heap s'.heap ∧ s'.os = s₁.os ∧ AllBare s'.gens) s₁ := by
  have shown : ∀ {c : Addr} {m : Str → Option Value}, s₁.heap.Ns c m → (hidT s₁.heap H).Ns c m := by
    rintro c m ⟨o, es, ep, e, d, r⟩
    exact ⟨o, es, ep, hidT_get e (noA c o es ep e d), d, r⟩
  have inK : K.In (hidT s₁.heap H) := fun c o e => hidT_get (KX c o e) (noK c o e)
  have lim : (hidT s₁.heap H).NoLimit := by
    obtain ⟨mc, q1, q2⟩ := hlim
    exact ⟨mc, shown q1, q2⟩
  have e0 : Env0 P w K mg (hidT s₁.heap H) callerA [] s₁ H :=
    { frames := rfl, mod := ⟨inK, shown hns, ⟨mb, shown hb, hbb⟩, lim⟩, bs := fun c o e => of_hidT e, bsz := Nat.le_of_eq (hidT_size _ _), funs := trivial,
      frf := fun c hc => (nomatch (show c ∈ ([] : List Addr) from hc)), hok := hok, bare := .of_eq hg }
  have go := (F _ inK (shown hns)).run callerA rfl hr [] s₁ H e0 ⟨[.ref a], []⟩ [.ref a] [.ref a] (hbind s₁ (.ref a)) (.cons rfl .nil) _ _ hS
  refine codeAny_mono go fun res s' h => ?_
  match res, h with
  | .error e, h => exact (hCX H e s' h).elim
  | .ok .next, h => exact False.elim h
  | .ok .brk, h => exact False.elim h
  | .ok .cont, h => exact False.elim h
  | .ok (.ret u), ⟨v, H', os, bare, un, hok', r', q⟩ =>
    cases (show v = .bl true from q)
    cases (show u = Value.bool true from r')
    refine ⟨rfl, OldK.of_keep fun c o e => ?_, os, bare⟩
    match q : H c with
    | none => exact un.keep c o e q (fun z => nomatch (show c ∈ ([] : List Addr) from z)) (by simp)
    | some u =>
      rcases hO c with z | ⟨ob, ys, z⟩
      · exact nomatch q.symm.trans z
      · obtain ⟨e2, _⟩ := hok' c _ (un.frzs c ob _ z)
        obtain ⟨e1, _⟩ := hok c _ z
        cases e.symm.trans e1
        exact e2
theorem law_quiet (KX : K.In s₁.heap) (hns : s₁.heap.Ns mainGlobals mg) (hb : s₁.heap.Ns builtinsNs mb) (hbb : ∀ y : Str, y ≠ "__name__" → mb y = bootBuiltins y)
    (hlim : s₁.heap.NoLimit) (hg : s₁.gens = #[]) (ha : s₁.heap.get? a = some { cls := .type "list", data := .seq us.toArray }) (hi : IntsAre us ns) (hl : ns.length ≤ sizeLine)
    (hr : Room k callerA) (F : ∀ base : Heap, K.In base → base.Ns mainGlobals mg → FnG P w K mg base CX k fa fd [x] sp)
    (hbind : ∀ (s : Shared) (u : Value), BindsTo s fd ⟨[u], []⟩ [(x, u)]) (hCX : ∀ H e s', CX [] H s₁ (fun _ _ _ => False) e s' → False)
    (hsp : ∀ H : Hp, Only H → SqL K H a (ns.map V.int) → sp [.ref a] H (fun v _ => v = .bl true) fun _ _ _ => False) :
    codeAny (model P w) callerA (.call (.ref fa) ⟨[.ref a], []⟩) (fun r s' => r = .ok (.ret (.bool true)) ∧ OldK s₁.heap s'.heap ∧ s'.os = s₁.os ∧ AllBare s'.gens) s₁ := by
  have rv := vals_ints hi
  have lz := hi.length
  have lz2 : (ns.map V.int).length ≤ sizeLine := by rw [List.length_map]; exact hl
  match hk : K.lookup a with
  | some o =>
    cases ha.symm.trans (KX a o hk)
    refine quiet_call KX hns hb hbb hlim hg hr F hbind hCX (fun _ => none) (fun _ => .inl rfl) (hsp _ (fun _ => .inl rfl) ?_) (fun c u z => nomatch z) (fun _ _ _ _ _ _ => rfl) fun _ _ _ => rfl
    exact .inr ⟨_, us.toArray, _, hk, rfl, rfl, rfl, by rw [List.size_toArray, lz]; exact hl, by simpa using rv⟩
  | none =>
    let o₁ : Obj := { cls := .type "list", data := .seq us.toArray }
    let H₁ : Hp := fun c => if c = a then some (.frz o₁ (.lst (ns.map V.int))) else none
    have at_a : H₁ a = some (.frz o₁ (.lst (ns.map V.int))) := if_pos rfl
    have off : ∀ c, c ≠ a → H₁ c = none := fun c h => if_neg h
    have only : Only H₁ := fun c => by
      by_cases h : c = a
      · cases h; exact .inr ⟨_, _, at_a⟩
      · exact .inl (off c h)
    refine quiet_call KX hns hb hbb hlim hg hr F hbind hCX H₁ only (hsp _ only (.inl (.inr ⟨o₁, at_a⟩))) (fun c u z => ?_) (fun c o es ep e d => ?_) fun c o e => ?_
    · by_cases h : c = a
      · cases h
        cases at_a.symm.trans z
        exact ⟨ha, lz2, us, _, rv, ha⟩
      · exact nomatch (off c h).symm.trans z
    · refine off c fun h => ?_
      cases h
      cases ha.symm.trans e
      exact nomatch (show Data.seq us.toArray _ = Data.dict es ep from d)
    · refine off c fun h => ?_
      cases h
      exact nomatch hk.symm.trans e
end
theorem walk_quiet {l : PySem.W.OpenLaw} {n k : Nat} {q : Program} {loose : List Str} {XP : (Str → Option Value) → Heap → Prop} {YP : World → Heap → Prop} {d : DefRec} {K : Params → PySem.W.Frag} {CX : World → CXT} {sp : World → Sp} {x : Str}
    (hn : l.most = some n) (hn2 : n ≤ sizeLine) (hdf : d.params.defaults = []) (hr : Room k callerA) (hY : ∀ (w : World) (h : Heap), YP w h → (K w.params).In h)
    (F : ∀ (w : World) (mg : Str → Option Value) (fa : Addr) (h : Heap), (K w.params).In h → h.Ns mainGlobals mg → mg d.name = some (.ref fa) → ∃ fd : FuncData,
      (∀ (s : Shared) (u : Value), BindsTo s fd ⟨[u], []⟩ [(x, u)]) ∧ ∀ base : Heap, (K w.params).In base → base.Ns mainGlobals mg → FnG l.prog w (K w.params) mg base (CX w) k fa fd [x] (sp w))
    (hsp : ∀ (w : World) (H : Hp) (a : Addr) (ns : List Int), ns.length ≤ n → Only H → SqL (K w.params) H a (ns.map V.int) → sp w [.ref a] H (fun v _ => v = .bl true) fun _ _ _ => False)
    (hCX : ∀ (w : World) (H : Hp) (s : Shared) (e : Value) (s' : Shared), CX w [] H s (fun _ _ _ => False) e s' → False) :
    PySem.W.WalkO q loose XP YP l.row.toRowW d [] (fun f vs => PySem.call f vs) := by
  refine Att.attach_call hn hdf fun w s₀ s₁ mg mb fa o pm cd doc a vs ns G Y ho hd hcd hmg hobj hints hlen hg => ?_
  have inK := hY w _ Y
  obtain ⟨fd, hb, hF⟩ := F w mg fa _ inK G.T.g hmg
  exact law_quiet inK G.T.g G.T.b G.T.builtins G.T.nolimit hg hobj hints (Nat.le_trans hlen hn2) hr hF hb (fun H e s' => hCX w H s₁ e s') fun H hO hS => hsp w H a ns hlen hO hS
/-! ### an expression cut off from what follows: both ways of a conditional expression come to one word -/
def tCutE (t : TE) : TE := fun σ H Q => ∃ M : VK, t σ H M ∧ ∀ x H1, M x H1 → Q x H1
theorem pe_cutE {X : Cx} {e : Expr} {t : TE} (h : PE X e t) : PE X e (tCutE t) := by
  constructor
  rintro pins s σ H Q I ⟨M, h1, h2⟩
  refine thn (h.run pins s σ H M I h1) fun v s1 got => ?_
  obtain ⟨x, H1, J, r, q⟩ := got
  exact ⟨x, H1, J, r, h2 x H1 q⟩
theorem st_cutE {t : TE} {σ : L2.St} {H : Hp} {Q : VK} (M : VK) (h : t σ H M) (k : ∀ x H1, M x H1 → Q x H1) : tCutE t σ H Q := ⟨M, h, k⟩
end L2
/-! what is walked in pairs and in threes: lists and tuples, mixed -/
namespace L2
open PySem PySem.Spec PyProof.Rows Evl
/-- a kind of sequence: how it stands in the abstract heap and in the heap, and its iterator -/
structure SK where
  Sq : PySem.W.Frag → Hp → Addr → List V → Prop
  Is : Heap → Addr → Array Value → Prop
  It : Heap → Addr → Addr → Nat → Prop
  o : Addr → Obj
  seen : ∀ {X : Cx} {pins : List (Addr × Obj)} {σ : L2.St} {H : Hp} {s : Shared} {a : Addr} {xs : List V}, Inv X pins σ H s → Sq X.K H a xs → ∃ its : List Value, Vals xs its ∧ Is s.heap a its.toArray
  one : ∀ {X : Cx} {pins : List (Addr × Obj)} {σ : L2.St} {H : Hp} {s : Shared} {a : Addr} {xs ys : List V}, Inv X pins σ H s → Sq X.K H a xs → Sq X.K H a ys → xs = ys
  lt : ∀ {h : Heap} {a : Addr} {its : Array Value}, Is h a its → a < h.objs.size
  draws : ∀ {P : Program} {w : World} {A : Around} (_ : A.handled = none) (it a : Addr) (_ : a ≠ it) (its : Array Value), Draws P w A it [it, a] its.size (fun i v => its[i]? = some v) (fun i h => It h it a i ∧ Is h a its)
  begins : ∀ (a : Addr) (its : Array Value), Begins (.ref a) (o a) fun h => Is h a its
  it0 : ∀ {h : Heap} {it a : Addr}, h.get? it = some (o a) → It h it a 0
  live : ∀ {h : Heap} {it a : Addr} {i : Nat}, It h it a i → ∃ ob, h.get? it = some ob ∧ ∀ v, ob.data ≠ .cell v
  keep : ∀ {h h' : Heap} {it a : Addr} {i : Nat}, It h it a i → (∀ ob, h.get? it = some ob → h'.get? it = some ob) → It h' it a i
def skL : SK where
  Sq := SqL
  Is := fun h a its => h.IsList a its
  It := fun h it a i => h.IsListIter it a i
  o := fun a => { cls := .type "list_iterator", data := .fields #[.ref a, .int 0 0] }
  seen := fun I q => let ⟨its, rv, p, _⟩ := I.list q; ⟨its, rv, p.isList⟩
  one := fun I q r => I.list_inj q r
  lt := fun h => let ⟨_, e, _⟩ := h; Heap.lt_size e
  draws := fun hh it a hne its => Draws.list hh it a hne its
  begins := fun a its => begins_list a its
  it0 := fun e => ⟨_, e, rfl, rfl⟩
  live := fun h => let ⟨ob, e, _, d⟩ := h; ⟨ob, e, fun v q => nomatch d.symm.trans q⟩
  keep := fun h k => h.at k
def skT : SK where
  Sq := SqT
  Is := fun h a its => h.IsTuple a its
  It := fun h it a i => h.IsTupleIter it a i
  o := fun a => { cls := .type "tuple_iterator", data := .fields #[.ref a, .int 0 0] }
  seen := fun I q => let ⟨its, rv, p, _⟩ := I.tuple q; ⟨its, rv, p⟩
  one := fun I q r => I.tuple_inj q r
  lt := fun h => let ⟨_, e, _⟩ := h; Heap.lt_size e
  draws := fun hh it a hne its => Draws.tuple hh it a hne its
  begins := fun a its => begins_tuple a its
  it0 := fun e => ⟨_, e, rfl, rfl⟩
  live := fun h => let ⟨ob, e, _, d⟩ := h; ⟨ob, e, fun v q => nomatch d.symm.trans q⟩
  keep := fun h k => h.at k
/-- the items, counted from k0, in new pairs -/
def ItE (k : SK) (K : PySem.W.Frag) (k0 : Int) (a : Addr) : It where
  go := fun i H => ∃ (xs : List V) (x : V), k.Sq K H a xs ∧ xs[i]? = some x
  yld := fun i H v H' => ∃ T x, v = .ref T ∧ H T = none ∧ H' = upd H T (.tup [.int (k0 + (i : Int)), x]) ∧ ∀ xs, k.Sq K H a xs → xs[i]? = some x
  stop := fun i H => ∃ xs : List V, k.Sq K H a xs ∧ xs.length = i
/-- a new tuple, the iterators' cells turned -/
theorem Inv.pairNew {X : Cx} {pins : List (Addr × Obj)} {σ : L2.St} {H : Hp} {s : Shared} {h' : Heap} {tk : Nat} {ch : List Addr} {T : Addr} {xs : List V} {us : List Value} (I : Inv X pins σ H s)
    (hk : ∀ b o, b ∉ ch → s.heap.get? b = some o → h'.get? b = some o) (hf : ∀ b ∈ ch, FpOk X pins H b) (hT : s.heap.objs.size ≤ T) (hz : xs.length ≤ 100) (rv : Vals xs us) (ht : h'.IsTuple T us.toArray) :
    Inv X pins σ (upd H T (.tup xs)) { s with heap := h', toks := tk } :=
  I.turnedNew (t' := tk) (ch := ch) hk hf hT ⟨Nat.le_trans hz (by decide), us, rv, ht⟩
theorem turn_enumE {P : Program} {w : World} {K : PySem.W.Frag} {elts : List Expr} {kk : Nat} {tpos : Pos} (k : SK) (k0 : Int) (a e it : Addr) :
    Turn P w K (.Tuple elts kk tpos) (ItE k K k0 a) [e, it] e (fun i h => (∃ old, IsEnum h e it (k0 + (i : Int)) old) ∧ k.It h it a i ∧ e ≠ it ∧ a ≠ it ∧ e ≠ a) where
  mem := List.mem_cons_self ..
  obj := by
    rintro i h ⟨⟨old, he⟩, hi, _⟩ b hb
    rcases List.mem_cons.mp hb with z | hb
    · subst z; exact ⟨_, he, fun v q => nomatch q⟩
    · cases List.mem_singleton.mp hb
      exact k.live hi
  keep := by
    rintro i h h' ⟨⟨old, he⟩, hi, hne⟩ q
    exact ⟨⟨old, q e (List.mem_cons_self ..) _ he⟩, k.keep hi fun o z => q it (List.mem_cons_of_mem _ (List.mem_cons_self ..)) o z, hne⟩
  item := by
    intro X hP hw hK hc i pins s σ H E I hf st hg
    cases hP; cases hw; cases hK
    obtain ⟨⟨old, he⟩, hi, n1, n2, n3⟩ := st
    obtain ⟨xs, x, hq, hx⟩ := hg
    obtain ⟨its, rv, p⟩ := k.seen I hq
    obtain ⟨u, hu, ru⟩ := rv.get hx
    have hlt : i < its.toArray.size := by
      obtain ⟨z, _⟩ := List.getElem?_eq_some_iff.mp hu
      simpa using z
    have D := k.draws (P := X.prog) (w := X.w) (A := X.A.in1) (I.ok.hd hc) it a n2 its.toArray
    have W := GoesN.enumFrom (elts := elts) (x1 := kk) (pos := tpos) k0 D e n1 (by simp [n1, n3]) (List.mem_cons_self ..)
    refine W.goes i s _ E hlt ⟨⟨old, he⟩, hi, p⟩ fun v h' tk hY hS hk _ => ?_
    obtain ⟨T, t, y, rfl, hT, hy, ht⟩ := hY
    have hy' : its[i]? = some y := by simpa using hy
    cases hu.symm.trans hy'
    have el : e < s.heap.objs.size := Heap.lt_size he
    have il : it < s.heap.objs.size := by obtain ⟨ob, z, _⟩ := k.live hi; exact Heap.lt_size z
    refine ⟨.ref T, _, I.pairNew (ch := [e, it]) (xs := [.int (k0 + (i : Int)), x]) hk hf hT (show 2 ≤ 100 by decide) (.cons ⟨t, rfl⟩ (.cons ru .nil)) ht, rfl, ⟨T, x, rfl, I.hok.fresh hT, rfl, fun ys hys => by rw [k.one I hys hq]; exact hx⟩, ⟨?_, hS.2.1, n1, n2, n3⟩, fun b hb => ?_⟩
    · exact hS.1
    · have bl : b < s.heap.objs.size := by
        rcases List.mem_cons.mp hb with z | hb
        · exact z ▸ el
        · exact (List.mem_singleton.mp hb) ▸ il
      rw [upd_ne (Nat.ne_of_lt (Nat.lt_of_lt_of_le bl hT))]
      exact (hf b hb).1
  done := by
    intro X hP hw hK hc i pins s σ H E I hf st hg
    cases hP; cases hw; cases hK
    obtain ⟨⟨old, he⟩, hi, n1, n2, n3⟩ := st
    obtain ⟨xs, hq, rfl⟩ := hg
    obtain ⟨its, rv, p⟩ := k.seen I hq
    have D := k.draws (P := X.prog) (w := X.w) (A := X.A.in1) (I.ok.hd hc) it a n2 its.toArray
    have W := GoesN.enumFrom (elts := elts) (x1 := kk) (pos := tpos) k0 D e n1 (by simp [n1, n3]) (List.mem_cons_self ..)
    have hl : its.toArray.size = xs.length := by rw [List.size_toArray, rv.length]
    exact W.stops s (fun s1 => Inv X pins σ H s1) E (by rw [hl]; exact ⟨⟨old, he⟩, hi, p⟩) fun h' tk hk _ => I.turnedL (t' := tk) hk hf
  self := fun A i s Q E st h => let ⟨⟨_, he⟩, _⟩ := st; wpAny_pyIter_enum he h

/-! ### the call of enumerate -/
theorem enum1_typeCall (v : Value) : checkTypeCall "enumerate" ⟨[v], []⟩ = pure () := F.typeCall_enumerate_1 v
set_option maxHeartbeats 1000000 in
theorem enum1_meets {v : Value} {o : Obj} {G : Heap → Prop} (B : Begins v o G) :
    Meets (Builtin.«enumerate.__new__» ⟨[.type "enumerate", v], []⟩) (fun _ R s => G s.heap ∧
      R (.ok (.ret (.ref (s.heap.push o).objs.size)))
        { s with heap := (s.heap.push o).push { cls := .type "enumerate", data := .fields #[.none, .bool false, .ref s.heap.objs.size, rawInt 0, .none, .none] } }) := by
  refine .of_wp fun prog w A R s hs => ?_
  obtain ⟨hp, gens, drawn, tk, os⟩ := s
  obtain ⟨hG, hR⟩ := hs
  have hsub := sub_enumerate
  have q1 : ∀ {A' : Around} {E' : Value → Shared → Prop} {R' : Value → Shared → Prop}, R' (.ref hp.objs.size) ⟨hp.push o, gens, drawn, tk, os⟩ → wpAny (model prog w) A' (pyIter v) R' E' ⟨hp, gens, drawn, tk, os⟩ :=
    fun q => B.iter prog w _ _ ⟨hp, gens, drawn, tk, os⟩ _ hG q
  wp_walk using q1
  refine wpAny_stack_any fun st => wpAny_pure ?_
  split
  · rename_i c _ _ _ _ _
    cases (c == Value.type "enumerate")
    all_goals
      wp_walk using q1
      exact ⟨_, rfl, hR⟩
  · wp_walk using q1
    exact ⟨_, rfl, hR⟩
section
variable {prog : Program} {w : World} {A : Around} {E : Value → Shared → Prop} {s : Shared}
theorem enum1_call {v : Value} {o : Obj} {G : Heap → Prop} {Q : Value → Shared → Prop} (B : Begins v o G) (hG : G s.heap)
    (h : ∀ h', IsEnum h' (s.heap.objs.size + 1) s.heap.objs.size 0 .none → h'.get? s.heap.objs.size = some o →
      (∀ b ob, s.heap.get? b = some ob → h'.get? b = some ob) → Q (.ref (s.heap.objs.size + 1)) { s with heap := h' }) :
    wpAny (model prog w) A (call (.type "enumerate") [v]) Q E s := by
  refine callType_new F.called_enumerate (by decide) (enum1_typeCall _) (F.newCall_enumerate_1 _) (fun ob => F.args_object_init_2 ob _) F.entry_enumerate_new (enum1_meets B) ⟨hG, ?_⟩
  have z1 : (s.heap.push o).objs.size = s.heap.objs.size + 1 := Heap.size_push ..
  let oe : Obj := { cls := .type "enumerate", data := .fields #[.none, .bool false, .ref s.heap.objs.size, rawInt 0, .none, .none] }
  have he : ((s.heap.push o).push oe).get? (s.heap.push o).objs.size = some oe := Heap.get?_push_size (s.heap.push o) rfl
  rw [z1] at he
  show _ ∧ _
  rw [z1]
  exact ⟨⟨oe, he, rfl⟩, h _ he (Heap.get?_push_of_some _ (Heap.get?_push_size _ B.free)) fun b ob e => Heap.get?_push_of_some _ (Heap.get?_push_of_some _ e)⟩
end
def iEnumE (k : SK) (K : PySem.W.Frag) (ta : TA) : TI := fun σ H R => ta σ H fun vs H1 => ∃ a xs, vs = [.ref a] ∧ k.Sq K H1 a xs ∧ R (ItE k K 0 a) H1
theorem pi_enumE {X : Cx} (K : PySem.W.Frag) (k : SK) {e : Expr} {ta : TA} {p pos tpos : Pos} {elts : List Expr} {kk : Nat} (hg : Gl X "enumerate") (hm : X.mg "enumerate" = none) (ha : PA X [e] ta)
    (hs : starEach [e] X.env = [(false, eval e X.env)] := by rfl) (h : X.K = K := by rfl) :
    PI X (.Tuple elts kk tpos) (.Call (.Name "enumerate" p) [e] [] pos) (iEnumE k K ta) := by
  cases h
  constructor
  intro pins s σ H R I h
  refine Call_ (ld_blt I hg hm boot_enumerate (PyProof.Rows.callWith_type1 (thn (ha.run pos pins s σ H _ I h) fun us s1 got => ?_) hs rfl))
  obtain ⟨vs, H1, J, r, a, xs, ex, hq, q⟩ := got
  subst ex
  obtain ⟨u, rfl, ru⟩ : ∃ u, us = [u] ∧ u = Value.ref a := by
    cases r with
    | cons r0 rr =>
      cases rr
      exact ⟨_, rfl, r0⟩
  subst ru
  obtain ⟨its, rv, p'⟩ := k.seen J hq
  have al := k.lt p'
  refine enum1_call (k.begins a its.toArray) p' fun h' he hi hk => wpAny_pyIter_enum he ?_
  refine ⟨s1.heap.objs.size + 1, [s1.heap.objs.size + 1, s1.heap.objs.size], _, _, H1, rfl, J.kept (t' := s1.toks) hk, turn_enumE k 0 a (s1.heap.objs.size + 1) s1.heap.objs.size,
    ⟨⟨.none, he⟩, k.it0 hi, Nat.succ_ne_self _, Nat.ne_of_lt al, Nat.ne_of_gt (Nat.lt_succ_of_lt al)⟩, fun b hb => ?_, q⟩
  have hle : s1.heap.objs.size ≤ b := by
    rcases List.mem_cons.mp hb with z | hb
    · exact z ▸ Nat.le_succ _
    · exact (List.mem_singleton.mp hb) ▸ Nat.le_refl _
  exact J.fpOk hle (J.hok.fresh hle)

/-! ### three beside one another -/
def ItZ3 (k1 k2 k3 : SK) (K : PySem.W.Frag) (a b c : Addr) : It where
  go := fun i H => ∃ (xs ys zs : List V) (x y z : V), (k1.Sq K H a xs ∧ k2.Sq K H b ys ∧ k3.Sq K H c zs) ∧ xs[i]? = some x ∧ ys[i]? = some y ∧ zs[i]? = some z
  yld := fun i H v H' => ∃ T x y z, v = .ref T ∧ H T = none ∧ H' = upd H T (.tup [x, y, z]) ∧ (∀ xs, k1.Sq K H a xs → xs[i]? = some x) ∧ (∀ ys, k2.Sq K H b ys → ys[i]? = some y) ∧ ∀ zs, k3.Sq K H c zs → zs[i]? = some z
  stop := fun i H => ∃ xs ys zs : List V, (k1.Sq K H a xs ∧ k2.Sq K H b ys ∧ k3.Sq K H c zs) ∧ min (min xs.length ys.length) zs.length = i
structure Z3 (k1 k2 k3 : SK) (z TI TO i1 i2 i3 a b c : Addr) (i : Nat) (h : Heap) : Prop where
  zp : IsZip h z TI TO .none
  its : IsTupOf3 h TI (.ref i1) (.ref i2) (.ref i3)
  outs : ∃ v1 v2 v3, IsTupOf3 h TO v1 v2 v3
  one : k1.It h i1 a i
  two : k2.It h i2 b i
  three : k3.It h i3 c i
theorem mem6 {b z t o x y u : Addr} (h : b ∈ [z, t, o, x, y, u]) : b = z ∨ b = t ∨ b = o ∨ b = x ∨ b = y ∨ b = u := by simpa using h
theorem Z3.lt {k1 k2 k3 : SK} {z TI TO i1 i2 i3 a b c : Addr} {i : Nat} {h : Heap} (t : Z3 k1 k2 k3 z TI TO i1 i2 i3 a b c i h) : ∀ q ∈ [z, TI, TO, i1, i2, i3], q < h.objs.size := fun q hq => by
  obtain ⟨v1, v2, v3, ho⟩ := t.outs
  rcases mem6 hq with e | e | e | e | e | e
  · exact e ▸ Heap.lt_size t.zp
  · exact e ▸ Heap.lt_size t.its
  · exact e ▸ Heap.lt_size ho
  · obtain ⟨o, g, _⟩ := k1.live t.one
    exact e ▸ Heap.lt_size g
  · obtain ⟨o, g, _⟩ := k2.live t.two
    exact e ▸ Heap.lt_size g
  · obtain ⟨o, g, _⟩ := k3.live t.three
    exact e ▸ Heap.lt_size g
theorem turn_zip3 {P : Program} {w : World} {K : PySem.W.Frag} {elts : List Expr} {kk : Nat} {tpos : Pos} (k1 k2 k3 : SK) {z TI TO i1 i2 i3 a b c : Addr} (S : ZipSep3 z TI TO i1 i2 i3 [i1, a] [i2, b] [i3, c])
    (n1 : a ≠ i1) (n2 : b ≠ i2) (n3 : c ≠ i3) :
    Turn P w K (.Tuple elts kk tpos) (ItZ3 k1 k2 k3 K a b c) [z, TI, TO, i1, i2, i3] z (Z3 k1 k2 k3 z TI TO i1 i2 i3 a b c) where
  mem := List.mem_cons_self ..
  obj := fun i h t q hq => by
    obtain ⟨v1, v2, v3, ho⟩ := t.outs
    rcases mem6 hq with e | e | e | e | e | e
    · exact e ▸ ⟨_, t.zp, fun v q => nomatch q⟩
    · exact e ▸ ⟨_, t.its, fun v q => nomatch q⟩
    · exact e ▸ ⟨_, ho, fun v q => nomatch q⟩
    · exact e ▸ k1.live t.one
    · exact e ▸ k2.live t.two
    · exact e ▸ k3.live t.three
  keep := fun i h h' t q => by
    obtain ⟨v1, v2, v3, ho⟩ := t.outs
    have m : ∀ d, d ∈ [z, TI, TO, i1, i2, i3] → ∀ o, h.get? d = some o → h'.get? d = some o := q
    exact ⟨m z (by simp) _ t.zp, m TI (by simp) _ t.its, ⟨v1, v2, v3, m TO (by simp) _ ho⟩, k1.keep t.one (m i1 (by simp)), k2.keep t.two (m i2 (by simp)), k3.keep t.three (m i3 (by simp))⟩
  item := by
    intro X hP hw hK hc i pins s σ H E I hf t hg
    cases hP; cases hw; cases hK
    obtain ⟨xs, ys, zs, x, y, u, ⟨qa, qb, qc⟩, hx, hy, hu⟩ := hg
    obtain ⟨as, ra, pa⟩ := k1.seen I qa
    obtain ⟨bs, rb, pb⟩ := k2.seen I qb
    obtain ⟨cs, rc, pc⟩ := k3.seen I qc
    obtain ⟨u1, g1, r1⟩ := ra.get hx
    obtain ⟨u2, g2, r2⟩ := rb.get hy
    obtain ⟨u3, g3, r3⟩ := rc.get hu
    have W := GoesN.zip3 (elts := elts) (x1 := kk) (pos := tpos) S (k1.draws (P := X.prog) (w := X.w) (A := X.A.in1) (I.ok.hd hc) i1 a n1 as.toArray) (k2.draws (A := X.A.in1) (I.ok.hd hc) i2 b n2 bs.toArray) (k3.draws (A := X.A.in1) (I.ok.hd hc) i3 c n3 cs.toArray)
    have l1 := (List.getElem?_eq_some_iff.mp g1).1
    have l2 := (List.getElem?_eq_some_iff.mp g2).1
    have l3 := (List.getElem?_eq_some_iff.mp g3).1
    have hlt : i < min (min as.toArray.size bs.toArray.size) cs.toArray.size := by
      rw [List.size_toArray, List.size_toArray, List.size_toArray]
      omega
    have sub : ∀ q ∈ [z, TO, i1, i2, i3], q ∈ [z, TI, TO, i1, i2, i3] := fun q hq => by
      have e : q = z ∨ q = TO ∨ q = i1 ∨ q = i2 ∨ q = i3 := by simpa using hq
      rcases e with e | e | e | e | e <;> (rw [e]; simp)
    refine W.goes i s _ E hlt ⟨t.zp, t.its, t.outs, ⟨t.one, pa⟩, ⟨t.two, pb⟩, ⟨t.three, pc⟩⟩ fun v h' tk hY hS hk _ => ?_
    obtain ⟨T, w1, w2, w3, rfl, hT, e1, e2, e3, ht⟩ := hY
    have e1' : as[i]? = some w1 := by simpa using e1
    have e2' : bs[i]? = some w2 := by simpa using e2
    have e3' : cs[i]? = some w3 := by simpa using e3
    cases g1.symm.trans e1'
    cases g2.symm.trans e2'
    cases g3.symm.trans e3'
    refine ⟨.ref T, _, I.pairNew (ch := [z, TO, i1, i2, i3]) (xs := [x, y, u]) hk (fun q hq => hf q (sub q hq)) hT (show 3 ≤ 100 by decide) (.cons r1 (.cons r2 (.cons r3 .nil))) ht, rfl,
      ⟨T, x, y, u, rfl, I.hok.fresh hT, rfl, fun l hl => by rw [k1.one I hl qa]; exact hx, fun l hl => by rw [k2.one I hl qb]; exact hy, fun l hl => by rw [k3.one I hl qc]; exact hu⟩, ?_, fun q hq => ?_⟩
    · exact ⟨hS.1, hS.2.1, hS.2.2.1, hS.2.2.2.1.1, hS.2.2.2.2.1.1, hS.2.2.2.2.2.1⟩
    · rw [upd_ne (Nat.ne_of_lt (Nat.lt_of_lt_of_le (t.lt q hq) hT))]
      exact (hf q hq).1
  done := by
    intro X hP hw hK hc i pins s σ H E I hf t hg
    cases hP; cases hw; cases hK
    obtain ⟨xs, ys, zs, ⟨qa, qb, qc⟩, rfl⟩ := hg
    obtain ⟨as, ra, pa⟩ := k1.seen I qa
    obtain ⟨bs, rb, pb⟩ := k2.seen I qb
    obtain ⟨cs, rc, pc⟩ := k3.seen I qc
    have W := GoesN.zip3 (elts := elts) (x1 := kk) (pos := tpos) S (k1.draws (P := X.prog) (w := X.w) (A := X.A.in1) (I.ok.hd hc) i1 a n1 as.toArray) (k2.draws (A := X.A.in1) (I.ok.hd hc) i2 b n2 bs.toArray) (k3.draws (A := X.A.in1) (I.ok.hd hc) i3 c n3 cs.toArray)
    have hl : min (min as.toArray.size bs.toArray.size) cs.toArray.size = min (min xs.length ys.length) zs.length := by
      rw [List.size_toArray, List.size_toArray, List.size_toArray, ra.length, rb.length, rc.length]
    have sub : ∀ q ∈ [z, TO, i1, i2, i3], q ∈ [z, TI, TO, i1, i2, i3] := fun q hq => by
      have e : q = z ∨ q = TO ∨ q = i1 ∨ q = i2 ∨ q = i3 := by simpa using hq
      rcases e with e | e | e | e | e <;> (rw [e]; simp)
    exact W.stops s (fun s1 => Inv X pins σ H s1) E (by rw [hl]; exact ⟨t.zp, t.its, t.outs, ⟨t.one, pa⟩, ⟨t.two, pb⟩, ⟨t.three, pc⟩⟩) fun h' tk hk _ => I.turnedL (t' := tk) hk fun q hq => hf q (sub q hq)
  self := fun A i s Q E t h => wpAny_pyIter_zip t.zp h
def iZip3 (k1 k2 k3 : SK) (K : PySem.W.Frag) (ta : TA) : TI := fun σ H R => ta σ H fun vs H1 => ∃ a b c xs ys zs, vs = [.ref a, .ref b, .ref c] ∧ (k1.Sq K H1 a xs ∧ k2.Sq K H1 b ys ∧ k3.Sq K H1 c zs) ∧ R (ItZ3 k1 k2 k3 K a b c) H1
theorem pi_zip3 {X : Cx} (K : PySem.W.Frag) (k1 k2 k3 : SK) {e e2 e3 : Expr} {ta : TA} {p pos tpos : Pos} {elts : List Expr} {kk : Nat} (hg : Gl X "zip") (hm : X.mg "zip" = none) (ha : PA X [e, e2, e3] ta)
    (hs : starEach [e, e2, e3] X.env = (false, eval e X.env) :: starEach [e2, e3] X.env := by rfl) (hpl : (backTo pos (starEach [e2, e3] X.env)).any (·.1) = false := by rfl) (h : X.K = K := by rfl) :
    PI X (.Tuple elts kk tpos) (.Call (.Name "zip" p) [e, e2, e3] [] pos) (iZip3 k1 k2 k3 K ta) := by
  cases h
  constructor
  intro pins s σ H R I h
  refine Call_ (ld_blt I hg hm PyProof.Rows.boot_zip (PyProof.Rows.callWith_type1 (thn (ha.run pos pins s σ H _ I h) fun us s1 got => ?_) hs hpl))
  obtain ⟨vs, H1, J, r, a, b, c, xs, ys, zs, ex, ⟨qa, qb, qc⟩, q⟩ := got
  subst ex
  obtain rfl : us = [Value.ref a, Value.ref b, Value.ref c] := by
    cases r with
    | cons r0 r => cases r with
      | cons r1 r => cases r with
        | cons r2 r =>
          cases r
          rw [show _ = Value.ref a from r0, show _ = Value.ref b from r1, show _ = Value.ref c from r2]
  obtain ⟨as, ra, pa⟩ := k1.seen J qa
  obtain ⟨bs, rb, pb⟩ := k2.seen J qb
  obtain ⟨cs, rc, pc⟩ := k3.seen J qc
  have la := k1.lt pa
  have lb := k2.lt pb
  have lc := k3.lt pc
  have one : ∀ {d : Addr}, d < s1.heap.objs.size → ∀ b ∈ [d], b < s1.heap.objs.size := fun hd b hb => (List.mem_singleton.mp hb) ▸ hd
  refine zip_begins3 (k1.begins a as.toArray) (k2.begins b bs.toArray) (k3.begins c cs.toArray) pa pb pc fun h' hz hTI hTO o1 o2 o3 _ hk => wpAny_pyIter_zip hz ?_
  refine ⟨s1.heap.objs.size + 5, [s1.heap.objs.size + 5, s1.heap.objs.size + 3, s1.heap.objs.size + 4, s1.heap.objs.size, s1.heap.objs.size + 1, s1.heap.objs.size + 2], _, _, H1, rfl, J.kept (t' := s1.toks) hk,
    turn_zip3 k1 k2 k3 (zip_sep3 (one la) (one lb) (one lc)) (Nat.ne_of_lt la) (Nat.ne_of_lt (Nat.lt_of_lt_of_le lb (Nat.le_add_right _ _))) (Nat.ne_of_lt (Nat.lt_of_lt_of_le lc (Nat.le_add_right _ _))),
    ⟨hz, hTI, ⟨_, _, _, hTO⟩, k1.it0 o1, k2.it0 o2, k3.it0 o3⟩, fun d hd => ?_, q⟩
  have hle : s1.heap.objs.size ≤ d := by
    rcases mem6 hd with e | e | e | e | e | e
    · exact e ▸ Nat.le_add_right _ _
    · exact e ▸ Nat.le_add_right _ _
    · exact e ▸ Nat.le_add_right _ _
    · exact e ▸ Nat.le_refl _
    · exact e ▸ Nat.le_add_right _ _
    · exact e ▸ Nat.le_add_right _ _
  exact J.fpOk hle (J.hok.fresh hle)

section
variable {K : PySem.W.Frag} {σ : L2.St} {H : Hp} {Q : VK} {D : Ends} {tb : TS} {ta : TA} {R : It → Hp → Prop} {k k1 k2 k3 : SK} {a b c : Addr} {xs ys zs : List V} {k0 : Int} {m n o : Nat}
def rItE (k : SK) (K : PySem.W.Frag) (vs : List V) (R : It → Hp → Prop) (H1 : Hp) : Prop := ∃ a xs, vs = [.ref a] ∧ k.Sq K H1 a xs ∧ R (ItE k K 0 a) H1
def rItZ3 (k1 k2 k3 : SK) (K : PySem.W.Frag) (vs : List V) (R : It → Hp → Prop) (H1 : Hp) : Prop := ∃ a b c xs ys zs, vs = [.ref a, .ref b, .ref c] ∧ (k1.Sq K H1 a xs ∧ k2.Sq K H1 b ys ∧ k3.Sq K H1 c zs) ∧ R (ItZ3 k1 k2 k3 K a b c) H1
theorem st_enumE (h : ta σ H fun us H1 => rItE k K us R H1) : iEnumE k K ta σ H R := h
theorem st_zip3 (h : ta σ H fun us H1 => rItZ3 k1 k2 k3 K us R H1) : iZip3 k1 k2 k3 K ta σ H R := h
theorem r_enumE (h : k.Sq K H a xs) (q : R (ItE k K 0 a) H) : rItE k K [.ref a] R H := ⟨a, xs, rfl, h, q⟩
theorem r_zip3 (h1 : k1.Sq K H a xs) (h2 : k2.Sq K H b ys) (h3 : k3.Sq K H c zs) (q : R (ItZ3 k1 k2 k3 K a b c) H) : rItZ3 k1 k2 k3 K [.ref a, .ref b, .ref c] R H := ⟨a, b, c, xs, ys, zs, rfl, ⟨h1, h2, h3⟩, q⟩
theorem r_tup3 {i j l : Nat} {x y z : V} {R : L2.St → Hp → Prop} (h : SqT K H a [x, y, z]) (q : R (((σ.set i (some x)).set j (some y)).set l (some z)) H) : gTup K 3 (gCons (gName i) (gCons (gName j) (gCons (gName l) gNil))) (.ref a) σ H R :=
  ⟨a, _, rfl, h, rfl, x, [y, z], rfl, y, [z], rfl, z, [], rfl, rfl, q⟩
/-- for i, x in enumerate(xs) -/
theorem r_forE (Pv : Nat → L2.St → Hp → Prop) (h0 : Pv 0 σ H) (hl : ∀ i σ' H', i ≤ xs.length → Pv i σ' H' → k.Sq K H' a xs)
    (hs : ∀ i x σ' H' H1, xs[i]? = some x → Pv i σ' H' → Ex H' H1 → tb { D with nx := Pv (i + 1), ct := Pv (i + 1), bk := D.nx } ((σ'.set m (some (.int (k0 + (i : Int))))).set n (some x)) H1)
    (hd : ∀ σ' H', Pv xs.length σ' H' → D.nx σ' H') : rFor (ItE k K k0 a) (gTup K 2 (gCons (gName m) (gCons (gName n) gNil))) tb D σ H := by
  refine ⟨fun i d σ H => d = xs.length - i ∧ i ≤ xs.length ∧ Pv i σ H, ⟨_, rfl, Nat.zero_le _, h0⟩, ?_⟩
  rintro i d σ H ⟨rfl, hi, p⟩
  have hq := hl i σ H hi p
  rcases Nat.lt_or_ge i xs.length with lt | ge
  · have hx := List.getElem?_eq_getElem lt
    refine .inr ⟨⟨xs, _, hq, hx⟩, Pv (i + 1), fun σ' H' q => ⟨xs.length - (i + 1), by omega, rfl, lt, q⟩, ?_⟩
    rintro v H' ⟨T, x, rfl, hT, rfl, e⟩
    exact r_tup2 (t_of upd_same) (hs i x σ H _ (e xs hq) p (Ex.new hT))
  · have e : xs.length = i := by omega
    refine .inl ⟨⟨xs, hq, e⟩, hd σ H (by rw [e]; exact p)⟩
/-- for x, y, z in zip(xs, ys, zs) -/
theorem r_forZ3 {N : Nat} (hN : min (min xs.length ys.length) zs.length = N) (Pv : Nat → L2.St → Hp → Prop) (h0 : Pv 0 σ H)
    (hl : ∀ i σ' H', i ≤ N → Pv i σ' H' → k1.Sq K H' a xs ∧ k2.Sq K H' b ys ∧ k3.Sq K H' c zs)
    (hs : ∀ i x y z σ' H' H1, xs[i]? = some x → ys[i]? = some y → zs[i]? = some z → Pv i σ' H' → Ex H' H1 →
      tb { D with nx := Pv (i + 1), ct := Pv (i + 1), bk := D.nx } (((σ'.set m (some x)).set n (some y)).set o (some z)) H1)
    (hd : ∀ σ' H', Pv N σ' H' → D.nx σ' H') : rFor (ItZ3 k1 k2 k3 K a b c) (gTup K 3 (gCons (gName m) (gCons (gName n) (gCons (gName o) gNil)))) tb D σ H := by
  refine ⟨fun i d σ H => d = N - i ∧ i ≤ N ∧ Pv i σ H, ⟨_, rfl, Nat.zero_le _, h0⟩, ?_⟩
  rintro i d σ H ⟨rfl, hi, p⟩
  have hq := hl i σ H hi p
  rcases Nat.lt_or_ge i N with lt | ge
  · have hx := List.getElem?_eq_getElem (show i < xs.length by omega)
    have hy := List.getElem?_eq_getElem (show i < ys.length by omega)
    have hz := List.getElem?_eq_getElem (show i < zs.length by omega)
    refine .inr ⟨⟨xs, ys, zs, _, _, _, hq, hx, hy, hz⟩, Pv (i + 1), fun σ' H' q => ⟨N - (i + 1), by omega, rfl, lt, q⟩, ?_⟩
    rintro v H' ⟨T, x, y, z, rfl, hT, rfl, e1, e2, e3⟩
    exact r_tup3 (t_of upd_same) (hs i x y z σ H _ (e1 xs hq.1) (e2 ys hq.2.1) (e3 zs hq.2.2) p (Ex.new hT))
  · have e : i = N := by omega
    exact .inl ⟨⟨xs, ys, zs, hq, by rw [hN, e]⟩, hd σ H (by rw [← e]; exact p)⟩
end
/-! ### repr of data -/
/-- the text of data that fits -/
structure Shows (d : PyData) : Prop where
  can : PyData.showable d = true
  plain : PyData.hasDict d = false
  depth : PyData.depth d ≤ 50
  fits : d.shown.length ≤ sizeLine
def rRepr (K : PySem.W.Frag) : List V → Hp → VK → Prop := fun xs H Q => ∃ a d, xs = [.ref a] ∧ Dp K H (.ref a) d ∧ Shows d ∧ Q (.str d.shown) H
theorem repr_K {X : Cx} (K : PySem.W.Frag) (g : Quiet X.A) {k : Nat} (hr : Room k X.A) (h : X.K = K := by rfl) : CallR X (.builtin "repr") (rRepr K) := by
  cases h
  intro pins s σ H xs us Q I r h
  obtain ⟨a, d, rfl, hd, sd, q⟩ := h
  obtain ⟨u, rfl, ru⟩ : ∃ u, us = [u] ∧ RelV (.ref a) u := by
    cases r with
    | cons r0 rr =>
      cases rr
      exact ⟨_, rfl, r0⟩
  cases (show u = Value.ref a from ru)
  obtain ⟨as, rd⟩ := Dp.reads I d _ _ hd ru
  have hu : X.A.units + (d.depth + 1) < cLine := by
    have h1 := sd.depth
    have h2 := hr.units
    omega
  exact repr_of_reads' rd sd.can (fun e => nomatch (sd.plain.symm.trans e)) g hu (fun _ _ e => e) (fun h' u tk hk => ⟨.str d.shown, H, I.kept (t' := tk) hk, ⟨u, rfl⟩, q⟩) sd.fits
section
variable {K : PySem.W.Frag} {H : Hp} {Q : VK} {a b : Addr} {d : PyData}
theorem r_repr (h : Dp K H (.ref a) d) (sd : Shows d) (q : Q (.str d.shown) H) : rRepr K [.ref a] H Q := ⟨a, d, rfl, h, sd, q⟩
theorem r_eqS {x y : Str} (q : Q (.bl (decide (x = y))) H) : rEqU K (.str x) (.str y) H Q := .inl ⟨rfl, by
  have e : decide ((V.str x) = V.str y) = decide (x = y) := by simp
  rw [e]
  exact q⟩
theorem r_neS {x y : Str} (q : Q (.bl (!decide (x = y))) H) : rNeU K (.str x) (.str y) H Q := .inl ⟨rfl, by
  have e : decide ((V.str x) = V.str y) = decide (x = y) := by simp
  rw [e]
  exact q⟩
/-- two things that read alike -/
theorem r_eqD {e : PyData} (ha : Dp K H (.ref a) d) (hb : Dp K H (.ref b) e) (s1 : SeqAt.shaped d = true) (s2 : SeqAt.shaped e = true) (q : Q (.bl (PyData.eqv d e)) H) : rEqU K (.ref a) (.ref b) H Q := .inr ⟨d, e, ha, hb, s1, s2, q⟩
theorem r_neD {e : PyData} (ha : Dp K H (.ref a) d) (hb : Dp K H (.ref b) e) (s1 : SeqAt.shaped d = true) (s2 : SeqAt.shaped e = true) (q : Q (.bl (!PyData.eqv d e)) H) : rNeU K (.ref a) (.ref b) H Q := .inr ⟨d, e, ha, hb, s1, s2, q⟩
end
/-! ### data of ints, in sequences -/
/-- a list of sequences -/
def dWs (ws : List (List Int)) : List PyData := ws.map fun w => .tuple (w.map .int)
theorem dWs_lay : ∀ ws, PyData.canLayAll0 (dWs ws) = true
  | [] => rfl
  | w :: ws => by
    show (PyData.canLayAll0 (w.map .int) && PyData.canLayAll0 (dWs ws)) = true
    rw [canLay_ints, dWs_lay ws]
    rfl
theorem dWs_depth : ∀ ws, PyData.depthAll (dWs ws) ≤ 1
  | [] => Nat.zero_le _
  | w :: ws => by
    have h := dWs_depth ws
    show max (PyData.depth (.tuple (w.map .int))) (PyData.depthAll (dWs ws)) ≤ 1
    rw [PyData.depth, depth_ints]
    omega
theorem dWs_eqv : ∀ us ws, PyData.eqvAll (dWs us) (dWs ws) = decide (us = ws)
  | [], [] => by simp [dWs, PyData.eqvAll]
  | [], _ :: _ => by simp [dWs, PyData.eqvAll]
  | _ :: _, [] => by simp [dWs, PyData.eqvAll]
  | u :: us, w :: ws => by
    show (PyData.eqv (.tuple (u.map .int)) (.tuple (w.map .int)) && PyData.eqvAll (dWs us) (dWs ws)) = _
    rw [eqv_tints, dWs_eqv us ws]
    by_cases h : u = w
    · subst h; simp
    · simp [h]
theorem shaped_dWs (ws : List (List Int)) : SeqAt.shaped (.list (dWs ws)) = true := by
  unfold SeqAt.shaped
  have h := dWs_depth ws
  rw [PyData.canLay0, dWs_lay, PyData.depth]
  simp
  omega
theorem shaped_dWsT (ws : List (List Int)) : SeqAt.shaped (.tuple (dWs ws)) = true := by
  unfold SeqAt.shaped
  have h := dWs_depth ws
  rw [PyData.canLay0, dWs_lay, PyData.depth]
  simp
  omega

/-! ### list(range(..)) -/
section
variable {K : PySem.W.Frag} {σ : L2.St} {H : Hp} {Q : VK} {ta tb : TE} {te : L2.St → Hp → (Int → Int → Hp → Prop) → Prop} {R : Int → Int → Hp → Prop} {i j : Int}
def rLstRg (a b : Int) (H1 : Hp) (Q : VK) : Prop := RgOk a b ∧ ∀ q, H1 q = none → Q (.ref q) (upd H1 q (.lst (rgV a b)))
def rTwoI (x y : V) (H2 : Hp) (R : Int → Int → Hp → Prop) : Prop := ∃ i j, x = .int i ∧ y = .int j ∧ R i j H2
theorem st_lstRg (h : te σ H fun a b H1 => rLstRg a b H1 Q) : tLstRg te σ H Q := h
theorem st_rg2 (h : ta σ H fun x H1 => tb σ H1 fun y H2 => rTwoI x y H2 R) : tRg2 ta tb σ H R := h
theorem r_twoI (q : R i j H) : rTwoI (.int i) (.int j) H R := ⟨i, j, rfl, rfl, q⟩
/-- the ints from a on, below b -/
def rgI (a b : Int) : List Int := (List.range (b - a).toNat).map fun i => a + (i : Nat)
theorem rgI_len (a b : Int) : (rgI a b).length = (b - a).toNat := by
  unfold rgI
  rw [List.length_map, List.length_range]
theorem r_lstRg (h0 : 0 ≤ i) (h1 : j ≤ 16777216) (h2 : i ≤ 16777216) (h3 : 0 ≤ j) (q : ∀ p H1, H p = none → Ex H H1 → H1 p = some (.lst ((rgI i j).map V.int)) → Q (.ref p) H1) : rLstRg i j H Q := by
  refine ⟨RgOk.of_le h0 h1 h2 h3, fun p hp => ?_⟩
  refine q p _ hp (Ex.new hp) ?_
  rw [upd_same]
  unfold rgV rgI
  rw [List.map_map]
  rfl
end
end L2
/-! lists of sequences of ints, and data of them that can be written out -/
namespace L2
open PySem PySem.Spec PyProof.Rows Evl
section
variable {K : PySem.W.Frag} {σ : L2.St} {H H' : Hp} {Q : VK} {a : Addr} {xs ys : List V} {ws us : List (List Int)} {x : V} {u : List Int}
/-- a tuple of ints -/
def WkV (K : PySem.W.Frag) (H : Hp) (x : V) (w : List Int) : Prop := ∃ a, x = .ref a ∧ IT K H a w
/-- such tuples, one behind the other -/
structure WkA (K : PySem.W.Frag) (H : Hp) (xs : List V) (ws : List (List Int)) : Prop where
  len : xs.length = ws.length
  at' : ∀ (i : Nat) x w, xs[i]? = some x → ws[i]? = some w → WkV K H x w
theorem WkV.tx (h : WkV K H x u) (e : TX H H') : WkV K H' x u := by
  obtain ⟨a, rfl, h1⟩ := h
  exact ⟨a, rfl, tx_t e h1⟩
theorem WkA.tx (h : WkA K H xs ws) (e : TX H H') : WkA K H' xs ws := ⟨h.len, fun i x w h1 h2 => (h.at' i x w h1 h2).tx e⟩
theorem WkA.ex (h : WkA K H xs ws) (e : Ex H H') : WkA K H' xs ws := h.tx (.of e)
theorem WkA.nil : WkA K H [] [] := ⟨rfl, fun i x w h => by simp at h⟩
theorem WkA.get (h : WkA K H xs ws) {i : Nat} (hx : xs[i]? = some x) : ∃ w, ws[i]? = some w ∧ WkV K H x w := by
  have hi := (List.getElem?_eq_some_iff.mp hx).1
  rw [h.len] at hi
  exact ⟨_, List.getElem?_eq_getElem hi, h.at' i _ _ hx (List.getElem?_eq_getElem hi)⟩
theorem WkA.snoc (h : WkA K H xs ws) (hx : WkV K H x u) : WkA K H (xs ++ [x]) (ws ++ [u]) := by
  refine ⟨by rw [List.length_append, List.length_append, h.len]; rfl, fun i y w h1 h2 => ?_⟩
  rcases Nat.lt_or_ge i xs.length with lt | ge
  · rw [List.getElem?_append_left lt] at h1
    rw [List.getElem?_append_left (h.len ▸ lt)] at h2
    exact h.at' i y w h1 h2
  · rw [List.getElem?_append_right ge] at h1
    rw [List.getElem?_append_right (h.len ▸ ge)] at h2
    have e : i - xs.length = 0 := by
      have := (List.getElem?_eq_some_iff.mp h1).1
      simp at this
      omega
    rw [e] at h1
    rw [← h.len, e] at h2
    cases h1
    cases h2
    exact hx
theorem WkA.set (h : WkA K H xs ws) (hx : WkV K H x u) (k : Nat) : WkA K H (xs.set k x) (ws.set k u) := by
  refine ⟨by rw [List.length_set, List.length_set, h.len], fun i y w h1 h2 => ?_⟩
  rw [List.getElem?_set] at h1 h2
  by_cases e : k = i
  · rw [if_pos e] at h1 h2
    split at h1
    · cases h1
      split at h2
      · cases h2
        exact hx
      · cases h2
    · cases h1
  · rw [if_neg e] at h1 h2
    exact h.at' i y w h1 h2
theorem WkA.app {us : List (List Int)} (h : WkA K H xs ws) (k : WkA K H ys us) : WkA K H (xs ++ ys) (ws ++ us) := by
  refine ⟨by rw [List.length_append, List.length_append, h.len, k.len], fun i y w h1 h2 => ?_⟩
  rcases Nat.lt_or_ge i xs.length with lt | ge
  · rw [List.getElem?_append_left lt] at h1
    rw [List.getElem?_append_left (h.len ▸ lt)] at h2
    exact h.at' i y w h1 h2
  · rw [List.getElem?_append_right ge] at h1
    rw [List.getElem?_append_right (h.len ▸ ge), ← h.len] at h2
    exact k.at' _ y w h1 h2
theorem dp_wks : ∀ {xs : List V} {ws : List (List Int)}, WkA K H xs ws → DpAll K H xs (dWs ws)
  | [], [], _ => .nil
  | [], _ :: _, h => by have := h.len; simp at this
  | _ :: _, [], h => by have := h.len; simp at this
  | x :: xs, w :: ws, h => by
    obtain ⟨a, rfl, h1⟩ := h.at' 0 x w rfl rfl
    exact .cons (dp_t h1) (dp_wks ⟨by have := h.len; simpa using this, fun i y u e1 e2 => h.at' (i + 1) y u (by simpa using e1) (by simpa using e2)⟩)
theorem dp_wl (hl : SqL K H a xs) (h : WkA K H xs ws) : Dp K H (.ref a) (.list (dWs ws)) := .lst hl (dp_wks h)
theorem dp_wt (hl : SqT K H a xs) (h : WkA K H xs ws) : Dp K H (.ref a) (.tuple (dWs ws)) := .tup hl (dp_wks h)
theorem eqv_dWs : PyData.eqv (.list (dWs us)) (.list (dWs ws)) = decide (us = ws) := by rw [PyData.eqv, dWs_eqv]
theorem eqv_dWsT : PyData.eqv (.tuple (dWs us)) (.tuple (dWs ws)) = decide (us = ws) := by rw [PyData.eqv, dWs_eqv]
/-- == of lists of sequences -/
theorem r_eqW {b : Addr} (ha : SqL K H a xs) (wa : WkA K H xs ws) (hb : SqL K H b ys) (wb : WkA K H ys us) (q : Q (.bl (decide (ws = us))) H) : rEqU K (.ref a) (.ref b) H Q :=
  r_eqD (dp_wl ha wa) (dp_wl hb wb) (shaped_dWs _) (shaped_dWs _) (by rw [eqv_dWs]; exact q)
theorem r_neW {b : Addr} (ha : SqL K H a xs) (wa : WkA K H xs ws) (hb : SqL K H b ys) (wb : WkA K H ys us) (q : Q (.bl (!decide (ws = us))) H) : rNeU K (.ref a) (.ref b) H Q :=
  r_neD (dp_wl ha wa) (dp_wl hb wb) (shaped_dWs _) (shaped_dWs _) (by rw [eqv_dWs]; exact q)
/-- what stood at a list is written anew: the tuples stay -/
theorem TX.upd {D : Addr} {o : HO} (h : H D = some (.lst xs)) : TX H (upd H D o) := fun a ys q => by
  rw [upd_ne (fun e => by subst e; rcases q with q | ⟨o', q⟩ <;> (rw [h] at q; cases q))]
theorem TX.w2 {D : Addr} (h : H D = some (.lst xs)) (e : ExW D H H') : TX H H' := fun a ys q => by
  have hne : a ≠ D := fun e => by subst e; rcases q with q | ⟨o', q⟩ <;> (rw [h] at q; cases q)
  rcases q with q | ⟨o', q⟩
  · rw [q, e a _ q hne]
  · rw [q, e a _ q hne]
/-- [e for i in range(..)], a turn may change the heap: S tells of the items so far -/
theorem r_cmRA {vs : List Nat} {j : Nat} {te : TE} {lo : Int} {m : Nat} (S : Nat → List V → Hp → Prop) (hm : m ≤ 100000) (hw : ∀ x, wipe ((wipe σ vs).set j (some x)) vs = wipe σ vs)
    (h0 : ∀ D, H D = none → ∀ o, S 0 [] (L2.upd H D o))
    (he : ∀ i H1 D acc, i < m → acc.length = i → H1 D = some (.lst acc) → (∀ o, S i acc (L2.upd H1 D o)) →
      ∀ Q' : VK, (∀ y H2, H2 D = some (.lst acc) → (∀ o, S (i + 1) (acc ++ [y]) (L2.upd H2 D o)) → Q' y H2) → te ((wipe σ vs).set j (some (.int (lo + (i : Int))))) H1 Q')
    (q : ∀ D H1 ys, H D = none → ys.length = m → H1 D = some (.lst ys) → (∀ o, S m ys (L2.upd H1 D o)) → Q (.ref D) H1) : rLc (Itr lo m) (gName j) tYes te vs σ Q H := fun D hD => by
  refine lc_range (lo := lo) (n := m) (fun i H' => ∃ ys : List V, ys.length = i ∧ (∀ o, S i ys (L2.upd H' D o)) ∧ H' D = some (.lst ys)) ⟨[], rfl, fun o => by rw [upd_upd]; exact h0 D hD o, upd_same⟩ (fun i H' hi p => ?_) (fun H' p => ?_)
  · obtain ⟨ys, h1, h4, h5⟩ := p
    refine ⟨hw _, ?_⟩
    refine he i H' D ys hi h1 h5 h4 _ fun y H2 z2 z3 => ?_
    exact ⟨ys, z2, sz_lt (by omega), ys ++ [y], by rw [List.length_append, h1]; rfl, fun o => by rw [upd_upd]; exact z3 o, upd_same⟩
  · obtain ⟨ys, h1, h4, h5⟩ := p
    exact q D H' ys hD h1 h5 h4
end
theorem upd_id {H : Hp} {D : Addr} {o : HO} (h : H D = some o) : upd H D o = H := by
  funext a
  by_cases e : a = D
  · subst e
    rw [upd_same, h]
  · rw [upd_ne e]
/-! ### texts that fit -/
theorem int_short {i : Int} (h : i.natAbs < 10 ^ 12) : PyData.leavesShort 13 (.int i) = true := by
  rw [PyData.leavesShort, decide_eq_true_eq]
  have e := int_text_length_le10 (k := 12) (by decide) h
  show (Str.ofString (toString i)).length ≤ 13
  rw [PySem.ofString_length]
  exact e
theorem int_can {i : Int} (h : i.natAbs < 10 ^ 12) : PyData.showable (.int i) = true := by
  rw [PyData.showable, decide_eq_true_eq]
  by_cases h0 : i.natAbs = 0
  · rw [h0]; decide
  · have := (Nat.log2_lt h0 (k := 40)).mpr (Nat.lt_of_lt_of_le h (by decide))
    omega
/-- all ints small -/
def Sml (ns : List Int) : Prop := ∀ x ∈ ns, x.natAbs < 10 ^ 12
theorem sml_short : ∀ {ns : List Int}, Sml ns → PyData.leavesShortAll 13 (ns.map .int) = true
  | [], _ => rfl
  | n :: ns, h => by
    rw [List.map_cons, PyData.leavesShortAll, int_short (h n List.mem_cons_self), sml_short fun x hx => h x (List.mem_cons_of_mem _ hx)]
    rfl
theorem sml_can : ∀ {ns : List Int}, Sml ns → PyData.showableAll (ns.map .int) = true
  | [], _ => rfl
  | n :: ns, h => by
    rw [List.map_cons, PyData.showableAll, int_can (h n List.mem_cons_self), sml_can fun x hx => h x (List.mem_cons_of_mem _ hx)]
    rfl
theorem ints_plain : ∀ ns : List Int, PyData.hasDictAll (ns.map .int) = false
  | [] => rfl
  | n :: ns => by
    rw [List.map_cons, PyData.hasDictAll, ints_plain ns]
    rfl
theorem ints_bulk : ∀ ns : List Int, PyData.bulkAll (ns.map .int) = ns.length
  | [] => rfl
  | n :: ns => by
    rw [List.map_cons, PyData.bulkAll, ints_bulk ns, PyData.bulk, List.length_cons]
    omega
theorem wks_short : ∀ {ws : List (List Int)}, (∀ w ∈ ws, Sml w) → PyData.leavesShortAll 13 (dWs ws) = true
  | [], _ => rfl
  | w :: ws, h => by
    show (PyData.leavesShortAll 13 (w.map .int) && PyData.leavesShortAll 13 (dWs ws)) = true
    rw [sml_short (h w List.mem_cons_self), wks_short fun x hx => h x (List.mem_cons_of_mem _ hx)]
    rfl
theorem wks_can : ∀ {ws : List (List Int)}, (∀ w ∈ ws, Sml w) → PyData.showableAll (dWs ws) = true
  | [], _ => rfl
  | w :: ws, h => by
    show (PyData.showableAll (w.map .int) && PyData.showableAll (dWs ws)) = true
    rw [sml_can (h w List.mem_cons_self), wks_can fun x hx => h x (List.mem_cons_of_mem _ hx)]
    rfl
theorem wks_plain : ∀ ws : List (List Int), PyData.hasDictAll (dWs ws) = false
  | [] => rfl
  | w :: ws => by
    show (PyData.hasDictAll (w.map .int) || PyData.hasDictAll (dWs ws)) = false
    rw [ints_plain, wks_plain ws]
    rfl
theorem wks_bulk {n : Nat} : ∀ {ws : List (List Int)}, (∀ w ∈ ws, w.length ≤ n) → PyData.bulkAll (dWs ws) ≤ ws.length * (n + 1)
  | [], _ => Nat.zero_le _
  | w :: ws, h => by
    have h1 := wks_bulk (n := n) (ws := ws) fun x hx => h x (List.mem_cons_of_mem _ hx)
    have h2 := h w List.mem_cons_self
    have e : PyData.bulkAll (dWs (w :: ws)) = PyData.bulkAll (w.map .int) + 1 + PyData.bulkAll (dWs ws) := rfl
    rw [e, ints_bulk, List.length_cons, Nat.add_mul]
    omega
theorem Shows.of {d : PyData} (h1 : PyData.showable d = true) (h2 : PyData.hasDict d = false) (h3 : PyData.depth d ≤ 50) (h4 : PyData.leavesShort 13 d = true) (h5 : PyData.bulk d ≤ 2 ^ 20) : Shows d :=
  ⟨h1, h2, h3, by
    have h := PyData.shown_le_bulk 13 (by decide) d h4
    have e : sizeLine = 16777216 := by decide
    omega⟩
/-! ### more of draws -/
theorem DrS.refl {w : Addr} {H : Hp} {n : Nat} (h : Well H w n) : DrS w H n H := ⟨ExW.refl H, h⟩
/-- something of our own is changed between the draws -/
theorem DrS.mut {w f : Addr} {H0 H H1 : Hp} {n : Nat} (h : DrS w H0 n H) (e : ExW f H H1) (h0 : H0 f = none) (hf : f ≠ w) : DrS w H0 n H1 := by
  refine ⟨fun a o ha hw => e a o (h.ex a o ha hw) (ne_of_none ha h0), ?_⟩
  obtain ⟨a, b, c, h1, h2⟩ := h.well.ex
  exact ⟨a, b, c, e w _ h1 (Ne.symm hf), h2⟩
theorem fresh_w {w p : Addr} {H H1 : Hp} (e : ExW w H H1) (hw : p ≠ w) (hp : H1 p = none) : H p = none := by
  cases h : H p with
  | none => rfl
  | some o =>
    rw [e p o h hw] at hp
    cases hp
theorem DrS.fresh {w p : Addr} {H0 H : Hp} {n : Nat} (h : DrS w H0 n H) (hp : H p = none) : H0 p = none := fresh_w h.ex (h.well.ne hp) hp
theorem ixN_in {n : Nat} {i : Int} (h0 : 0 ≤ i) (h : i.toNat < n) : ixN n i = some i.toNat := by
  unfold ixN
  rw [if_pos h0, if_pos (by omega)]
theorem atI_at {xs : List V} {i : Int} {x : V} (h0 : 0 ≤ i) (hx : xs[i.toNat]? = some x) : atI xs i = some x := by
  have e : i = ((i.toNat : Nat) : Int) := by omega
  rw [e]
  exact atI_nat hx
/-! ### [e for x in xs if t], each turn told by S -/
def CmP (S : Nat → List V → Hp → Prop) (D : Addr) (i : Nat) (H' : Hp) : Prop := ∃ ys : List V, ys.length ≤ i ∧ (∀ o, S i ys (upd H' D o)) ∧ H' D = some (.lst ys)
def CmY (S : Nat → List V → Hp → Prop) (D : Addr) (i : Nat) (y : V) (H' : Hp) : Prop := ∃ acc, H' D = some (.lst acc) ∧ acc.length < sizeLine ∧ CmP S D (i + 1) (upd H' D (.lst (acc ++ [y])))
theorem cm_yes {S : Nat → List V → Hp → Prop} {D : Addr} {i : Nat} {y : V} {H' : Hp} {acc : List V} (h : H' D = some (.lst acc)) (hz : acc.length ≤ i) (hi : i < 100000) (s : ∀ o, S (i + 1) (acc ++ [y]) (upd H' D o)) : CmY S D i y H' :=
  ⟨acc, h, sz_lt (by omega), acc ++ [y], by rw [List.length_append]; simpa using hz, fun o => by rw [upd_upd]; exact s o, upd_same⟩
theorem cm_no {S : Nat → List V → Hp → Prop} {D : Addr} {i : Nat} {H' : Hp} {acc : List V} (h : H' D = some (.lst acc)) (hz : acc.length ≤ i) (s : ∀ o, S (i + 1) acc (upd H' D o)) : CmP S D (i + 1) H' := ⟨acc, by omega, s, h⟩
section
variable {K : PySem.W.Frag} {σ : L2.St} {H : Hp} {Q : VK} {a : Addr} {xs : List V} {vs : List Nat} {j : Nat} {tt : TT} {te : TE}
theorem r_cmLA (S : Nat → List V → Hp → Prop) (hz : xs.length ≤ 100000) (hw : ∀ x, wipe ((wipe σ vs).set j (some x)) vs = wipe σ vs) (hl : ∀ i ys H', S i ys H' → SqL K H' a xs)
    (h0 : ∀ D, H D = none → ∀ o, S 0 [] (upd H D o))
    (he : ∀ i x H1 D acc, xs[i]? = some x → acc.length ≤ i → H1 D = some (.lst acc) → S i acc H1 → (∀ o, S i acc (upd H1 D o)) →
      tt ((wipe σ vs).set j (some x)) H1 fun b H2 => if b = true then te ((wipe σ vs).set j (some x)) H2 (fun y H3 => CmY S D i y H3) else CmP S D (i + 1) H2)
    (q : ∀ D H1 ys, H D = none → H1 D = some (.lst ys) → S xs.length ys H1 → (∀ o, S xs.length ys (upd H1 D o)) → Q (.ref D) H1) : rLc (Itl K a) (gName j) tt te vs σ Q H := fun D hD => by
  have at1 : ∀ {i : Nat} {ys : List V} {H' : Hp}, (∀ o, S i ys (upd H' D o)) → H' D = some (.lst ys) → S i ys H' := fun {i ys H'} h e => by
    have z := h (.lst ys)
    rw [upd_id e] at z
    exact z
  refine lc_list (K := K) (a := a) (xs := xs) (fun i H' => CmP S D i H') ⟨[], Nat.le_refl _, fun o => by rw [upd_upd]; exact h0 D hD o, upd_same⟩ (fun i H' _ p => ?_) (fun i x H' hx p => ⟨hw x, ?_⟩) (fun H' p => ?_)
  · obtain ⟨ys, h1, h2, h3⟩ := p
    exact hl i ys H' (at1 h2 h3)
  · obtain ⟨ys, h1, h2, h3⟩ := p
    exact he i x H' D ys hx h1 h3 (at1 h2 h3) h2
  · obtain ⟨ys, h1, h2, h3⟩ := p
    exact q D H' ys hD h3 (at1 h2 h3) h2
end
/-- xs[:-1] -/
theorem cut_init (xs : List V) (x : V) : cutV (xs ++ [x]) none (some (-1)) = xs := by
  unfold cutV
  rw [HT.sIx_none, List.drop_zero, Nat.sub_zero]
  have e : HT.sIx (xs ++ [x]).length (xs ++ [x]).length (some (-1)) = xs.length := by
    rw [List.length_append]
    show (if (-1 : Int) < 0 then ((-1 : Int) + ((xs.length + 1 : Nat) : Int)).toNat else min (-1 : Int).toNat (xs.length + 1)) = xs.length
    rw [if_pos (by decide)]
    omega
  rw [e, List.take_left']
  rfl
section
variable {K : PySem.W.Frag} {H : Hp} {Q : VK} {a b : Addr} {xs ys : List V} {ws : List (List Int)} {x : Str}
theorem same_neS (q : Q (.bl false) H) : rNeU K (.str x) (.str x) H Q := r_neS (by rw [decide_eq_true (rfl : x = x)]; exact q)
theorem same_eqS (q : Q (.bl true) H) : rEqU K (.str x) (.str x) H Q := r_eqS (by rw [decide_eq_true (rfl : x = x)]; exact q)
theorem same_neW (ha : SqL K H a xs) (wa : WkA K H xs ws) (hb : SqL K H b ys) (wb : WkA K H ys ws) (q : Q (.bl false) H) : rNeU K (.ref a) (.ref b) H Q :=
  r_neW ha wa hb wb (by rw [decide_eq_true (rfl : ws = ws)]; exact q)
theorem same_eqW (ha : SqL K H a xs) (wa : WkA K H xs ws) (hb : SqL K H b ys) (wb : WkA K H ys ws) (q : Q (.bl true) H) : rEqU K (.ref a) (.ref b) H Q :=
  r_eqW ha wa hb wb (by rw [decide_eq_true (rfl : ws = ws)]; exact q)
end
theorem ex_none {H H1 : Hp} {D : Addr} (h : ∀ o, Ex H (upd H1 D o)) : H D = none := by
  cases e : H D with
  | none => rfl
  | some u =>
    have h1 := h (.lst []) D u e
    have h2 := h (.tup []) D u e
    rw [upd_same] at h1 h2
    rw [← h1] at h2
    cases h2
theorem ex_put {H H1 : Hp} {D : Addr} {o : HO} (e : Ex H H1) (h : H D = none) : Ex H (upd H1 D o) := fun a u q => by
  rw [upd_ne (ne_of_none q h)]
  exact e a u q
theorem WkA.init {K : PySem.W.Frag} {H : Hp} {xs : List V} {ws : List (List Int)} {x : V} {w : List Int} (h : WkA K H (xs ++ [x]) (ws ++ [w])) : WkA K H xs ws := by
  have e : xs.length = ws.length := by
    have := h.len
    rw [List.length_append, List.length_append] at this
    simpa using this
  refine ⟨e, fun i y u h1 h2 => h.at' i y u ?_ ?_⟩
  · rw [List.getElem?_append_left (List.getElem?_eq_some_iff.mp h1).1]
    exact h1
  · rw [List.getElem?_append_left (List.getElem?_eq_some_iff.mp h2).1]
    exact h2
theorem WkA.split {K : PySem.W.Frag} {H : Hp} {xs : List V} {ws : List (List Int)} {w : List Int} (h : WkA K H xs (ws ++ [w])) : ∃ ys y, xs = ys ++ [y] ∧ WkA K H ys ws := by
  rcases List.eq_nil_or_concat xs with e | ⟨ys, y, e⟩
  · have := h.len
    rw [e, List.length_append] at this
    simp at this
  · rw [List.concat_eq_append] at e
    subst e
    exact ⟨ys, y, rfl, h.init⟩
end L2
/-! more rules: x *= y, x //= y, x -= y, divmod, list.index, two clauses, in -/
namespace L2
open PySem PySem.Spec PyProof.Rows Evl
section
variable {X : Cx}
theorem ip_mul : PIp X .Mult (rI CMul fun i j => .int (i * j)) := fun pins s σ H x y v u Q I r1 r2 h => iop_mul pins s σ H x y v u Q I r1 r2 h
theorem ip_fdiv : PIp X .FloorDiv (rI CDivW fun i j => .int (i / j)) := fun pins s σ H x y v u Q I r1 r2 h => iop_fdivW pins s σ H x y v u Q I r1 r2 h
def rDivm : List V → Hp → VK → Prop := fun xs H Q => ∃ i j, xs = [.int i, .int j] ∧ CDivW i j ∧ ∀ p, H p = none → Q (.ref p) (upd H p (.tup [.int (i / j), .int (i % j)]))
theorem divmod_K : CallR X (.builtin "divmod") rDivm := by
  intro pins s σ H xs us Q I r h
  obtain ⟨i, j, e, ⟨h1, h2⟩, q⟩ := h
  exact call_divmodW pins s σ H xs us Q I r ⟨i, j, e, ⟨h1, PyProof.noPylong_of_log2 h2⟩, q⟩
theorem mt_indexK (K : PySem.W.Frag) (h : X.K = K := by rfl) : MtR X "list.index" (rIndex K) := h ▸ mt_index
end
theorem idxOf_le : ∀ {ns : List Int} {m : Nat} {x : Int}, ns[m]? = some x → ns.idxOf x ≤ m
  | [], _, _, h => by simp at h
  | n :: ns, 0, x, h => by
    cases h
    rw [List.idxOf_cons_self]
    exact Nat.le_refl 0
  | n :: ns, m + 1, x, h => by
    have ih := idxOf_le (ns := ns) (m := m) (x := x) (by simpa using h)
    rw [List.idxOf_cons]
    cases n == x with
    | true => exact Nat.zero_le _
    | false => exact Nat.succ_le_succ ih
section
variable {K : PySem.W.Frag} {σ : L2.St} {H : Hp} {Q : VK} {D : Ends} {a : Addr} {ns : List Int} {x y : Int}
theorem r_augM {i : Nat} {f : Int → Int → V} {C : Int → Int → Prop} (hc : C x y) (h : D.nx (σ.set i (some (f x y))) H) : rAug i (.int x) (rI C f) D σ (.int y) H := ⟨x, y, rfl, rfl, hc, h⟩
theorem r_divm {b : Nat} (h : 0 < y) (hb : y.natAbs < 2 ^ b) (h0 : 0 < b) (h9 : b ≤ 9000) (q : ∀ p H1, H p = none → Ex H H1 → H1 p = some (.tup [.int (x / y), .int (x % y)]) → Q (.ref p) H1) : rDivm [.int x, .int y] H Q :=
  ⟨x, y, rfl, wide_div h hb h0 h9, alloc q⟩
/-- xs.index(x), a list of ints -/
theorem r_index (h : IL K H a ns) (hx : x ∈ ns) (q : Q (.int ((ns.idxOf x : Nat) : Int)) H) : rIndex K (.ref a) [.int x] H Q := by
  have hi := List.idxOf_lt_length_of_mem hx
  refine ⟨a, _, .int x, ns.idxOf x, .int x, rfl, rfl, h, rfl, ?_, ?_, ?_, fun m z' hm hz => ?_, q⟩
  · rw [List.all_eq_true]
    intro v hv
    obtain ⟨n, _, rfl⟩ := List.mem_map.mp hv
    rfl
  · rw [List.getElem?_map, List.getElem?_eq_getElem hi, List.getElem_idxOf]
    rfl
  · show decide (x = x) = true
    exact decide_eq_true rfl
  · rw [List.getElem?_map] at hz
    cases e : ns[m]? with
    | none => rw [e] at hz; cases hz
    | some n =>
      rw [e] at hz
      cases hz
      show decide (n = x) = false
      refine decide_eq_false fun e2 => ?_
      subst e2
      exact absurd (idxOf_le e) (by omega)
/-- x in xs, a list of ints -/
theorem inV_int (x : Int) (ns : List Int) : inV (.int x) (ns.map V.int) = decide (x ∈ ns) := by
  unfold inV
  induction ns with
  | nil => rfl
  | cons n ns ih =>
    rw [List.map_cons, List.any_cons, ih]
    show ((n == x) || decide (x ∈ ns)) = _
    by_cases e : n = x
    · subst e; simp
    · have e2 : ¬ x = n := fun z => e z.symm
      simp [e, e2]
theorem flat_ints (ns : List Int) : (ns.map V.int).all flatV = true := by
  rw [List.all_eq_true]
  intro v hv
  obtain ⟨n, _, rfl⟩ := List.mem_map.mp hv
  rfl
theorem r_inL (h : IL K H a ns) (q : Q (.bl (decide (x ∈ ns))) H) : rIn K false (.int x) (.ref a) H Q :=
  ⟨a, _, rfl, .inl h, rfl, flat_ints ns, by rw [if_neg (by decide), inV_int]; exact q⟩
theorem r_ninL (h : IL K H a ns) (q : Q (.bl (!decide (x ∈ ns))) H) : rIn K true (.int x) (.ref a) H Q :=
  ⟨a, _, rfl, .inl h, rfl, flat_ints ns, by rw [if_pos rfl, inV_int]; exact q⟩
end
/-! ### two clauses -/
def rLc2 (J : It) (g : TG) (tt : TT) (wi1 : TI) (g1 : TG) (tt1 : TT) (te : TE) (vs vs1 : List Nat) (σ : L2.St) (Q : VK) (H1 : Hp) : Prop := ∀ D, H1 D = none → ∃ W : Nat → Nat → Hp → Prop, (∃ m, W 0 m (upd H1 D (.lst []))) ∧ ∀ i m H, W i m H →
  (J.stop i H ∧ Q (.ref D) H) ∨ (J.go i H ∧ ∃ Nx : Hp → Prop, (∀ H', Nx H' → ∃ m', m' < m ∧ W (i + 1) m' H') ∧ ∀ x H', J.yld i H x H' → g x (wipe σ vs) H' fun σ2 H2 => wipe σ2 vs = wipe σ vs ∧ tt σ2 H2 fun b H3 =>
    if b = true then wi1 σ2 H3 fun J1 H4 => ∃ W1 : Nat → Nat → Hp → Prop, (∃ m, W1 0 m H4) ∧ ∀ j k H, W1 j k H →
      (J1.stop j H ∧ Nx H) ∨ (J1.go j H ∧ ∃ Nx1 : Hp → Prop, (∀ H', Nx1 H' → ∃ k', k' < k ∧ W1 (j + 1) k' H') ∧ ∀ x H', J1.yld j H x H' → g1 x (wipe σ2 vs1) H' fun σ3 H5 => wipe σ3 vs1 = wipe σ2 vs1 ∧ tt1 σ3 H5 fun b H6 =>
        if b = true then te σ3 H6 fun y H7 => ∃ acc, H7 D = some (.lst acc) ∧ acc.length < sizeLine ∧ Nx1 (upd H7 D (.lst (acc ++ [y]))) else Nx1 H6)
    else Nx H3)
theorem st_lc2 {wi : TI} {g : TG} {tt : TT} {wi1 : TI} {g1 : TG} {tt1 : TT} {te : TE} {vs vs1 : List Nat} {σ : L2.St} {H : Hp} {Q : VK} (h : wi σ H fun J H1 => rLc2 J g tt wi1 g1 tt1 te vs vs1 σ Q H1) : tLc2 wi g tt wi1 g1 tt1 te vs vs1 σ H Q := h
section
variable {K : PySem.W.Frag} {σ : L2.St} {H : Hp} {Q : VK} {vs vs1 : List Nat} {j j1 m : Nat} {lo : Int} {wi1 : TI} {te : TE}
theorem t_yes {R : Bool → Hp → Prop} (h : R true H) : tYes σ H R := h
def flat (f : Nat → List V) (i : Nat) : List V := (List.range i).flatMap f
theorem flat_succ (f : Nat → List V) (i : Nat) : flat f (i + 1) = flat f i ++ f i := by
  unfold flat
  rw [List.range_succ, List.flatMap_append]
  simp
/-- [e for i in range(..) for x in (.., ..)], the turns change nothing; f i: what is told at the turn i -/
theorem r_lc2R (f : Nat → List V) (hf : ∀ i, i ≤ m → (flat f i).length ≤ 10000) (hk : ∀ i, i < m → (f i).length ≤ 10000) (hw : ∀ x, wipe ((wipe σ vs).set j (some x)) vs = wipe σ vs) (hw1 : ∀ x y, wipe ((wipe ((wipe σ vs).set j (some x)) vs1).set j1 (some y)) vs1 = wipe ((wipe σ vs).set j (some x)) vs1)
    (h1 : ∀ (i : Nat) (H1 : Hp) (R : It → Hp → Prop), i < m → Ex H H1 → (∀ a H2, Ex H1 H2 → SqT K H2 a (f i) → R (Itt K a) H2) → wi1 ((wipe σ vs).set j (some (.int (lo + (i : Int))))) H1 R)
    (he : ∀ (i : Nat) (y : V) (H1 : Hp) (Q' : VK), i < m → y ∈ f i → Ex H H1 → (∀ H2, Ex H1 H2 → Q' y H2) → te ((wipe ((wipe σ vs).set j (some (.int (lo + (i : Int))))) vs1).set j1 (some y)) H1 Q')
    (q : ∀ p H1, H p = none → Ex H H1 → H1 p = some (.lst (flat f m)) → Q (.ref p) H1) : rLc2 (Itr lo m) (gName j) tYes wi1 (gName j1) tYes te vs vs1 σ Q H := fun D hD => by
  refine ⟨fun i d H' => d = m - i ∧ i ≤ m ∧ Ex H H' ∧ H' D = some (.lst (flat f i)), ⟨m, by simp, Nat.zero_le _, Ex.new hD, upd_same⟩, ?_⟩
  rintro i d H' ⟨rfl, hi, e, h⟩
  rcases Nat.lt_or_ge i m with lt | ge
  · refine .inr ⟨lt, fun H'' => Ex H H'' ∧ H'' D = some (.lst (flat f (i + 1))), fun H'' p => ⟨m - (i + 1), by omega, rfl, lt, p⟩, ?_⟩
    rintro x H'' ⟨rfl, rfl⟩
    refine ⟨hw _, t_yes ?_⟩
    dsimp only
    rw [if_pos rfl]
    refine h1 i _ _ lt e fun a H4 e4 ha => ?_
    refine ⟨fun k d H' => d = (f i).length - k ∧ k ≤ (f i).length ∧ Ex H H' ∧ SqT K H' a (f i) ∧ H' D = some (.lst (flat f i ++ (f i).take k)), ⟨(f i).length, by simp, Nat.zero_le _, e.trans e4, ha, by rw [List.take_zero, List.append_nil]; exact e4 _ _ h⟩, ?_⟩
    rintro k d H5 ⟨rfl, hk', e5, ha5, h5⟩
    rcases Nat.lt_or_ge k (f i).length with lt2 | ge2
    · have hx := List.getElem?_eq_getElem lt2
      refine .inr ⟨⟨_, _, ha5, hx⟩, fun H'' => Ex H H'' ∧ SqT K H'' a (f i) ∧ H'' D = some (.lst (flat f i ++ (f i).take (k + 1))), fun H'' p => ⟨(f i).length - (k + 1), by omega, rfl, lt2, p⟩, ?_⟩
      rintro y H6 ⟨rfl, hy⟩
      have hy' := hy _ ha5
      refine ⟨hw1 _ _, t_yes ?_⟩
      dsimp only
      rw [if_pos rfl]
      refine he i y H6 _ lt (List.mem_of_getElem? hy') e5 fun H7 e7 => ?_
      have h7 := e7 _ _ h5
      have z1 := hf i hi
      have z2 := hk i lt
      refine ⟨_, h7, sz_lt (by rw [List.length_append, List.length_take]; omega), Ex.mut (e5.trans e7) hD, ?_, ?_⟩
      · exact tx_t (TX.upd h7) (ex_t e7 ha5)
      · rw [upd_same, take_snoc hy', List.append_assoc]
    · have e2 : k = (f i).length := by omega
      subst e2
      refine .inl ⟨⟨_, ha5, Nat.le_refl _⟩, e5, ?_⟩
      rw [h5, List.take_length, flat_succ]
  · have e2 : i = m := by omega
    subst e2
    exact .inl ⟨Nat.le_refl _, q D H' hD e h⟩
end
/-! ### [e for x in ints if t], the turns change nothing -/
section
variable {K : PySem.W.Frag} {σ : L2.St} {H : Hp} {Q : VK} {a : Addr} {ns : List Int} {vs : List Nat} {j : Nat} {tt : TT} {te : TE}
theorem r_cmIF (hl : IL K H a ns) (f : Int → Bool) (v : Int → V) (hz : ns.length ≤ 10000) (hw : ∀ x, wipe ((wipe σ vs).set j (some x)) vs = wipe σ vs)
    (ht : ∀ x, x ∈ ns → ∀ (H1 : Hp) (R : Bool → Hp → Prop), Ex H H1 → (∀ H2, Ex H1 H2 → R (f x) H2) → tt ((wipe σ vs).set j (some (.int x))) H1 R)
    (he : ∀ x, x ∈ ns → f x = true → ∀ (H1 : Hp) (Q' : VK), Ex H H1 → (∀ H2, Ex H1 H2 → Q' (v x) H2) → te ((wipe σ vs).set j (some (.int x))) H1 Q')
    (q : ∀ p H1, H p = none → Ex H H1 → H1 p = some (.lst ((ns.filter f).map v)) → Q (.ref p) H1) : rLc (Itl K a) (gName j) tt te vs σ Q H := by
  refine r_cmLA (xs := ns.map V.int) (fun i acc H' => Ex H H' ∧ acc = ((ns.take i).filter f).map v) (by rw [List.length_map]; omega) hw (fun i ys H' p => ex_l p.1 hl) (fun D hD o => ⟨Ex.new hD, rfl⟩) (fun i x H1 D acc hx hz' hacc p hall => ?_) fun D H1 ys hD h p _ => ?_
  · obtain ⟨e, rfl⟩ := p
    have hD : H D = none := ex_none fun o => (hall o).1
    rw [List.getElem?_map] at hx
    cases hn : ns[i]? with
    | none => rw [hn] at hx; cases hx
    | some n =>
      rw [hn] at hx
      cases hx
      have hi := (List.getElem?_eq_some_iff.mp hn).1
      have hm := List.mem_of_getElem? hn
      have tk := take_snoc hn
      refine ht n hm H1 _ e fun H2 e2 => ?_
      cases hf : f n with
      | true =>
        refine if_T (he n hm hf H2 _ (e.trans e2) fun H3 e3 => ?_)
        refine cm_yes ((e2.trans e3) _ _ hacc) hz' (by omega) fun o => ⟨ex_put ((e.trans e2).trans e3) hD, ?_⟩
        rw [tk, List.filter_append, List.map_append, List.filter_cons_of_pos hf, List.filter_nil]
        rfl
      | false =>
        refine if_F (cm_no (e2 _ _ hacc) hz' fun o => ⟨ex_put (e.trans e2) hD, ?_⟩)
        rw [tk, List.filter_append, List.map_append, List.filter_cons_of_neg (by rw [hf]; decide), List.filter_nil, List.map_nil, List.append_nil]
  · obtain ⟨e, rfl⟩ := p
    rw [List.length_map, List.take_length] at h
    exact q D H1 hD e h
end
/-- a method of a list -/
theorem r_met {K : PySem.W.Frag} {r : V → List V → Hp → VK → Prop} {t : TA} {σ : L2.St} {a : Addr} {xs : List V} {H : Hp} {Q : VK} (h : SqL K H a xs) (q : t σ H fun us H2 => r (.ref a) us H2 Q) : rApp K "list" r t σ (.ref a) H Q := ⟨.inl ⟨rfl, xs, h⟩, q⟩
/-- draws from up to 2 ^ 220 -/
def spTakeW : Sp := fun vs H Q _ => ∃ w n m, vs = [.ref w, .int m] ∧ 0 < m ∧ m < 2 ^ 220 ∧ Well H w n ∧ n < 2 ^ 30 ∧ ∀ r H', 0 ≤ r → r < m → ExW w H H' → Well H' w (n + 1) → Q (.int r) H'
/-- the last of a sequence, as a sequence -/
theorem cut_last {ns : List Int} : cutV (ns.map V.int) (some (-1)) none = (ns.drop (ns.length - 1)).map V.int := by
  rw [cut_map, HT.sIx_none]
  have e : HT.sIx ns.length 0 (some (-1)) = ns.length - 1 := by
    show (if (-1 : Int) < 0 then ((-1 : Int) + (ns.length : Int)).toNat else min (-1 : Int).toNat ns.length) = ns.length - 1
    rw [if_pos (by decide)]
    omega
  rw [e, List.take_of_length_le (by rw [List.length_drop]; exact Nat.le_refl _)]
/-! ### ranges downward -/
section
variable {σ : L2.St} {H : Hp} {D : Ends} {g : TG} {tb : TS} {ta : TA} {R : It → Hp → Prop} {i j lo c : Int} {m : Nat}
def rRng3 (vs : List V) (R : It → Hp → Prop) (H1 : Hp) : Prop := ∃ (i j c : Int) (n : Nat), vs = [.int i, .int j, .int c] ∧ RgC i j c n ∧ R (Itc i c n) H1
theorem st_rng3 (h : ta σ H fun us H1 => rRng3 us R H1) : iRng3 ta σ H R := h
theorem r_rngD (h : -(2 ^ 62) ≤ i ∧ i < 2 ^ 62 ∧ -(2 ^ 62) ≤ j ∧ j < 2 ^ 62) (q : R (Itc i (-1) (i - j).toNat) H) : rRng3 [.int i, .int j, .int (-1)] R H := ⟨i, j, -1, _, rfl, RgC.neg h.1 h.2.1 h.2.2.1 h.2.2.2, q⟩
theorem r_forC (Pv : Nat → L2.St → Hp → Prop) (h0 : Pv 0 σ H) (hs : ∀ i σ' H', i < m → Pv i σ' H' → g (.int (lo + (i : Nat) * c)) σ' H' fun σ2 H2 => tb { D with nx := Pv (i + 1), ct := Pv (i + 1), bk := D.nx } σ2 H2)
    (hd : ∀ σ' H', Pv m σ' H' → D.nx σ' H') : rFor (Itc lo c m) g tb D σ H := for_rangeC (lo := lo) (c := c) (n := m) Pv h0 hs hd
end
/-! ### the same over a tuple -/
section
variable {K : PySem.W.Frag} {σ : L2.St} {H : Hp} {Q : VK} {a : Addr} {xs : List V} {ns : List Int} {vs : List Nat} {j : Nat} {tt : TT} {te : TE}
theorem r_cmTA (S : Nat → List V → Hp → Prop) (hz : xs.length ≤ 100000) (hw : ∀ x, wipe ((wipe σ vs).set j (some x)) vs = wipe σ vs) (hl : ∀ i ys H', S i ys H' → SqT K H' a xs)
    (h0 : ∀ D, H D = none → ∀ o, S 0 [] (upd H D o))
    (he : ∀ i x H1 D acc, xs[i]? = some x → acc.length ≤ i → H1 D = some (.lst acc) → S i acc H1 → (∀ o, S i acc (upd H1 D o)) →
      tt ((wipe σ vs).set j (some x)) H1 fun b H2 => if b = true then te ((wipe σ vs).set j (some x)) H2 (fun y H3 => CmY S D i y H3) else CmP S D (i + 1) H2)
    (q : ∀ D H1 ys, H D = none → H1 D = some (.lst ys) → S xs.length ys H1 → (∀ o, S xs.length ys (upd H1 D o)) → Q (.ref D) H1) : rLc (Itt K a) (gName j) tt te vs σ Q H := fun D hD => by
  have at1 : ∀ {i : Nat} {ys : List V} {H' : Hp}, (∀ o, S i ys (upd H' D o)) → H' D = some (.lst ys) → S i ys H' := fun {i ys H'} h e => by
    have z := h (.lst ys)
    rw [upd_id e] at z
    exact z
  refine lc_tup (K := K) (a := a) (xs := xs) (fun i H' => CmP S D i H') ⟨[], Nat.le_refl _, fun o => by rw [upd_upd]; exact h0 D hD o, upd_same⟩ (fun i H' _ p => ?_) (fun i x H' hx p => ⟨hw x, ?_⟩) (fun H' p => ?_)
  · obtain ⟨ys, h1, h2, h3⟩ := p
    exact hl i ys H' (at1 h2 h3)
  · obtain ⟨ys, h1, h2, h3⟩ := p
    exact he i x H' D ys hx h1 h3 (at1 h2 h3) h2
  · obtain ⟨ys, h1, h2, h3⟩ := p
    exact q D H' ys hD h3 (at1 h2 h3) h2
theorem r_cmIFt (hl : IT K H a ns) (f : Int → Bool) (v : Int → V) (hz : ns.length ≤ 10000) (hw : ∀ x, wipe ((wipe σ vs).set j (some x)) vs = wipe σ vs)
    (ht : ∀ x, x ∈ ns → ∀ (H1 : Hp) (R : Bool → Hp → Prop), Ex H H1 → (∀ H2, Ex H1 H2 → R (f x) H2) → tt ((wipe σ vs).set j (some (.int x))) H1 R)
    (he : ∀ x, x ∈ ns → f x = true → ∀ (H1 : Hp) (Q' : VK), Ex H H1 → (∀ H2, Ex H1 H2 → Q' (v x) H2) → te ((wipe σ vs).set j (some (.int x))) H1 Q')
    (q : ∀ p H1, H p = none → Ex H H1 → H1 p = some (.lst ((ns.filter f).map v)) → Q (.ref p) H1) : rLc (Itt K a) (gName j) tt te vs σ Q H := by
  refine r_cmTA (xs := ns.map V.int) (fun i acc H' => Ex H H' ∧ acc = ((ns.take i).filter f).map v) (by rw [List.length_map]; omega) hw (fun i ys H' p => ex_t p.1 hl) (fun D hD o => ⟨Ex.new hD, rfl⟩) (fun i x H1 D acc hx hz' hacc p hall => ?_) fun D H1 ys hD h p _ => ?_
  · obtain ⟨e, rfl⟩ := p
    have hD : H D = none := ex_none fun o => (hall o).1
    rw [List.getElem?_map] at hx
    cases hn : ns[i]? with
    | none => rw [hn] at hx; cases hx
    | some n =>
      rw [hn] at hx
      cases hx
      have hi := (List.getElem?_eq_some_iff.mp hn).1
      have hm := List.mem_of_getElem? hn
      have tk := take_snoc hn
      refine ht n hm H1 _ e fun H2 e2 => ?_
      cases hf : f n with
      | true =>
        refine if_T (he n hm hf H2 _ (e.trans e2) fun H3 e3 => ?_)
        refine cm_yes ((e2.trans e3) _ _ hacc) hz' (by omega) fun o => ⟨ex_put ((e.trans e2).trans e3) hD, ?_⟩
        rw [tk, List.filter_append, List.map_append, List.filter_cons_of_pos hf, List.filter_nil]
        rfl
      | false =>
        refine if_F (cm_no (e2 _ _ hacc) hz' fun o => ⟨ex_put (e.trans e2) hD, ?_⟩)
        rw [tk, List.filter_append, List.map_append, List.filter_cons_of_neg (by rw [hf]; decide), List.filter_nil, List.map_nil, List.append_nil]
  · obtain ⟨e, rfl⟩ := p
    rw [List.length_map, List.take_length] at h
    exact q D H1 hD e h
end
theorem at_lastV {xs : List V} {x : V} (h : 0 < xs.length) (hx : xs[xs.length - 1]? = some x) : atI xs (-1) = some x := by
  have e : ixN xs.length (-1) = some (xs.length - 1) := by
    unfold ixN
    rw [if_neg (by decide), if_pos (by omega)]
    congr 1
    omega
  unfold atI
  rw [e]
  exact hx
end L2
/-! straight walks in their order -/
namespace Od
open L2
/-- the steps of so many letters, in their order -/
def steps (L : Nat) : List Int := (List.range L).flatMap fun (i : Nat) => [(i : Int) + 1, -((i : Int) + 1)]
theorem mem_steps {L : Nat} {x : Int} : x ∈ steps L ↔ (x ≠ 0 ∧ -(L : Int) ≤ x ∧ x ≤ L) := by
  unfold steps
  rw [List.mem_flatMap]
  constructor
  · rintro ⟨i, hi, hx⟩
    have := List.mem_range.mp hi
    have e : x = (i : Int) + 1 ∨ x = -((i : Int) + 1) := by simpa using hx
    omega
  · rintro ⟨h0, h1, h2⟩
    refine ⟨x.natAbs - 1, List.mem_range.mpr (by omega), ?_⟩
    have e : x = ((x.natAbs - 1 : Nat) : Int) + 1 ∨ x = -(((x.natAbs - 1 : Nat) : Int) + 1) := by omega
    simpa using e
theorem steps_succ (L : Nat) : steps (L + 1) = steps L ++ [(L : Int) + 1, -((L : Int) + 1)] := by
  unfold steps
  rw [List.range_succ, List.flatMap_append]
  rfl
theorem steps_len : ∀ L : Nat, (steps L).length = 2 * L
  | 0 => rfl
  | L + 1 => by
    rw [steps_succ, List.length_append, steps_len L]
    rfl
theorem steps_nodup : ∀ L : Nat, (steps L).Nodup
  | 0 => List.nodup_nil
  | L + 1 => by
    rw [steps_succ, List.nodup_append]
    refine ⟨steps_nodup L, by simp; omega, fun a ha b hb => ?_⟩
    have h1 := mem_steps.mp ha
    have e : b = (L : Int) + 1 ∨ b = -((L : Int) + 1) := by simpa using hb
    omega
/-- the steps that may stand behind -/
def bh (L : Nat) (p : Option Int) : List Int := (steps L).filter fun s => decide (p ≠ some (-s))
theorem mem_bh {L : Nat} {p : Option Int} {x : Int} : x ∈ bh L p ↔ (x ∈ steps L ∧ p ≠ some (-x)) := by
  unfold bh
  rw [List.mem_filter, decide_eq_true_eq]
theorem bh_none (L : Nat) : bh L none = steps L := by
  unfold bh
  rw [List.filter_eq_self]
  intro a _
  simp
theorem bh_nodup (L : Nat) (p : Option Int) : (bh L p).Nodup := (steps_nodup L).filter _
theorem filter_one {l : List Int} (h : l.Nodup) {y : Int} (hy : y ∈ l) : (l.filter fun s => decide (s ≠ y)).length + 1 = l.length := by
  induction l with
  | nil => cases hy
  | cons a l ih =>
    rw [List.nodup_cons] at h
    by_cases e : a = y
    · subst e
      rw [List.filter_cons_of_neg (by simp), List.length_cons]
      congr 1
      rw [List.filter_eq_self.mpr]
      intro b hb
      have : b ≠ a := fun e => h.1 (e ▸ hb)
      simpa using this
    · have hy' : y ∈ l := by
        rcases List.mem_cons.mp hy with z | z
        · exact absurd z.symm e
        · exact z
      rw [List.filter_cons_of_pos (by simpa using e), List.length_cons, List.length_cons, ih h.2 hy']
theorem bh_some_len {L : Nat} {x : Int} (hx : x ∈ steps L) : (bh L (some x)).length = 2 * L - 1 := by
  have h1 := mem_steps.mp hx
  have hm : -x ∈ steps L := mem_steps.mpr (by omega)
  have h2 := filter_one (steps_nodup L) hm
  rw [steps_len] at h2
  have e : bh L (some x) = (steps L).filter fun s => decide (s ≠ -x) := by
    unfold bh
    congr 1
    funext s
    congr 1
    rw [Ne, Ne, Option.some.injEq]
    exact propext ⟨fun h e => h (by omega), fun h e => h (by omega)⟩
  rw [e]
  omega
theorem at_idx {l : List Int} {x : Int} (h : x ∈ l) : l[l.idxOf x]? = some x := by
  have hi := List.idxOf_lt_length_of_mem h
  rw [List.getElem?_eq_getElem hi, List.getElem_idxOf]
/-- straight walks of the letters that may stand behind p -/
def G (L : Nat) : Option Int → List Int → Prop
  | _, [] => True
  | p, s :: w => s ∈ bh L p ∧ G L (some s) w
/-- the number of such of a length -/
def tot (L : Nat) (p : Option Int) : Nat → Nat
  | 0 => 1
  | z + 1 => (bh L p).length * (2 * L - 1) ^ z
theorem tot_some {L : Nat} {x : Int} (hx : x ∈ steps L) : ∀ z, tot L (some x) z = (2 * L - 1) ^ z
  | 0 => rfl
  | z + 1 => by
    rw [tot, bh_some_len hx, Nat.pow_succ, Nat.mul_comm]
theorem tot_none (L z : Nat) : tot L none (z + 1) = 2 * L * (2 * L - 1) ^ z := by rw [tot, bh_none, steps_len]
/-- its number among those of its length -/
def V (L : Nat) : Option Int → List Int → Nat
  | _, [] => 0
  | p, s :: w => (bh L p).idxOf s * (2 * L - 1) ^ w.length + V L (some s) w
theorem bh_steps {L : Nat} {p : Option Int} {x : Int} (h : x ∈ bh L p) : x ∈ steps L := (mem_bh.mp h).1
theorem V_lt {L : Nat} : ∀ {w : List Int} {p : Option Int}, G L p w → V L p w < tot L p w.length
  | [], _, _ => Nat.one_pos
  | s :: w, p, h => by
    have ih := V_lt h.2
    rw [tot_some (bh_steps h.1)] at ih
    have hi := List.idxOf_lt_length_of_mem h.1
    rw [V, List.length_cons, tot]
    calc (bh L p).idxOf s * (2 * L - 1) ^ w.length + V L (some s) w
        < (bh L p).idxOf s * (2 * L - 1) ^ w.length + (2 * L - 1) ^ w.length := by omega
      _ = ((bh L p).idxOf s + 1) * (2 * L - 1) ^ w.length := by rw [Nat.add_mul, Nat.one_mul]
      _ ≤ (bh L p).length * (2 * L - 1) ^ w.length := Nat.mul_le_mul_right _ hi
theorem V_inj {L : Nat} : ∀ {w u : List Int} {p : Option Int}, G L p w → G L p u → w.length = u.length → V L p w = V L p u → w = u
  | [], [], _, _, _, _, _ => rfl
  | [], _ :: _, _, _, _, h, _ => by cases h
  | _ :: _, [], _, _, _, h, _ => by cases h
  | s :: w, t :: u, p, h1, h2, hl, hv => by
    have hl' : w.length = u.length := by simpa using hl
    have a := V_lt h1.2
    have b := V_lt h2.2
    rw [tot_some (bh_steps h1.1)] at a
    rw [tot_some (bh_steps h2.1), ← hl'] at b
    rw [V, V, ← hl'] at hv
    have e1 : (bh L p).idxOf s = (bh L p).idxOf t := by
      rcases Nat.lt_trichotomy ((bh L p).idxOf s) ((bh L p).idxOf t) with h | h | h
      · have := Nat.mul_le_mul_right ((2 * L - 1) ^ w.length) (Nat.succ_le_of_lt h)
        rw [Nat.succ_mul] at this
        omega
      · exact h
      · have := Nat.mul_le_mul_right ((2 * L - 1) ^ w.length) (Nat.succ_le_of_lt h)
        rw [Nat.succ_mul] at this
        omega
    rw [e1] at hv
    have e2 : s = t := by
      have q1 := at_idx h1.1
      have q2 := at_idx h2.1
      rw [e1] at q1
      rw [q1] at q2
      exact Option.some.inj q2
    subst e2
    rw [V_inj h1.2 h2.2 hl' (by omega)]
/-- the last step, or what stands ahead -/
def lst (p : Option Int) (w : List Int) : Option Int := match w.getLast? with | some x => some x | none => p
theorem lst_nil (p : Option Int) : lst p [] = p := rfl
theorem lst_snoc (p : Option Int) (w : List Int) (s : Int) : lst p (w ++ [s]) = some s := by
  unfold lst
  rw [List.getLast?_concat]
theorem lst_cons (p : Option Int) (s : Int) (w : List Int) : lst p (s :: w) = lst (some s) w := by
  unfold lst
  cases w with
  | nil => rfl
  | cons t w => rw [List.getLast?_cons_cons]; rw [List.getLast?_eq_some_getLast (List.cons_ne_nil t w)]
theorem G_snoc {L : Nat} : ∀ {w : List Int} {p : Option Int} {s : Int}, G L p (w ++ [s]) ↔ (G L p w ∧ s ∈ bh L (lst p w))
  | [], p, s => by simp [G, lst_nil]
  | t :: w, p, s => by
    rw [List.cons_append, G, G, G_snoc, lst_cons, and_assoc]
theorem G_mem {L : Nat} : ∀ {w : List Int} {p : Option Int}, G L p w → ∀ x ∈ w, x ∈ steps L
  | [], _, _, _, h => by cases h
  | s :: w, p, h, x, hx => by
    rcases List.mem_cons.mp hx with e | hx
    · rw [e]; exact bh_steps h.1
    · exact G_mem h.2 x hx
theorem lst_mem {L : Nat} {w : List Int} {x : Int} (h : G L none w) (hx : lst none w = some x) : x ∈ steps L := by
  unfold lst at hx
  cases e : w.getLast? with
  | none => rw [e] at hx; cases hx
  | some y =>
    rw [e] at hx
    cases hx
    exact G_mem h _ (List.mem_of_getLast? e)
theorem bh_len {L : Nat} {w : List Int} (h : G L none w) : (bh L (lst none w)).length = if w = [] then 2 * L else 2 * L - 1 := by
  rcases List.eq_nil_or_concat w with e | ⟨u, x, e⟩
  · subst e
    rw [lst_nil, bh_none, steps_len, if_pos rfl]
  · rw [List.concat_eq_append] at e
    subst e
    rw [if_neg (by simp), lst_snoc, bh_some_len (G_mem h x (by simp))]
/-- by the last step -/
theorem V_snoc {L : Nat} : ∀ {w : List Int} {p : Option Int} {s : Int}, G L p (w ++ [s]) → V L p (w ++ [s]) = V L p w * (bh L (lst p w)).length + (bh L (lst p w)).idxOf s
  | [], p, s, _ => by simp [V, lst_nil]
  | t :: w, p, s, h => by
    have h' : t ∈ bh L p ∧ G L (some t) (w ++ [s]) := h
    have ih := V_snoc h'.2
    have g := (G_snoc.mp h'.2).1
    have c : (bh L (lst (some t) w)).length = 2 * L - 1 := by
      rcases List.eq_nil_or_concat w with e | ⟨u, x, e⟩
      · subst e
        rw [lst_nil, bh_some_len (bh_steps h'.1)]
      · rw [List.concat_eq_append] at e
        subst e
        rw [lst_snoc, bh_some_len (G_mem g x (by simp))]
    rw [List.cons_append, V, V, ih, lst_cons, c, List.length_append, List.length_singleton, Nat.pow_succ, Nat.add_mul, Nat.mul_assoc, Nat.add_assoc]
/-- all shorter ones -/
def S (L : Nat) : Nat → Nat
  | 0 => 0
  | z + 1 => S L z + tot L none z
def place (L : Nat) (w : List Int) : Nat := S L w.length + V L none w
theorem tot_pos {L : Nat} (hL : 0 < L) : ∀ z, 0 < tot L none z
  | 0 => Nat.one_pos
  | z + 1 => by
    rw [tot_none]
    exact Nat.mul_pos (by omega) (Nat.pow_pos (by omega))
theorem S_mono {L : Nat} {a b : Nat} (h : a ≤ b) : S L a ≤ S L b := by
  induction h with
  | refl => exact Nat.le_refl _
  | step _ ih => exact Nat.le_trans ih (Nat.le_add_right _ _)
theorem S_ge {L : Nat} (hL : 0 < L) : ∀ z, z ≤ S L z
  | 0 => Nat.le_refl _
  | z + 1 => by
    have := S_ge hL z
    have := tot_pos hL z
    rw [S]
    omega
theorem S_pow {L : Nat} : ∀ z, (2 * L - 1) ^ z ≤ S L (z + 1)
  | 0 => by simp [S, tot]
  | z + 1 => by
    rw [S, tot_none, Nat.pow_succ, Nat.mul_comm]
    have : (2 * L - 1) * (2 * L - 1) ^ z ≤ 2 * L * (2 * L - 1) ^ z := Nat.mul_le_mul_right _ (by omega)
    omega
theorem place_lt {L : Nat} {w : List Int} (h : G L none w) : place L w < S L (w.length + 1) := by
  have := V_lt h
  unfold place
  rw [S]
  omega
theorem place_ge (L : Nat) (w : List Int) : S L w.length ≤ place L w := Nat.le_add_right _ _
theorem place_len {L : Nat} {w u : List Int} (h1 : G L none w) (h2 : G L none u) (h : place L w ≤ place L u) : w.length ≤ u.length := by
  rcases Nat.lt_or_ge u.length w.length with lt | ge
  · have a := place_lt h2
    have b := place_ge L w
    have c := S_mono (L := L) (a := u.length + 1) (b := w.length) lt
    omega
  · exact ge
theorem place_inj {L : Nat} {w u : List Int} (h1 : G L none w) (h2 : G L none u) (h : place L w = place L u) : w = u := by
  have e : w.length = u.length := Nat.le_antisymm (place_len h1 h2 (Nat.le_of_eq h)) (place_len h2 h1 (Nat.le_of_eq h.symm))
  refine V_inj h1 h2 e ?_
  unfold place at h
  rw [e] at h
  omega
theorem snoc_ind {α : Type} {C : List α → Prop} (h0 : C []) (h1 : ∀ u x, C u → C (u ++ [x])) (w : List α) : C w := by
  have h : ∀ (n : Nat) (w : List α), w.length = n → C w := by
    intro n
    induction n with
    | zero =>
      intro w h
      rw [List.eq_nil_of_length_eq_zero h]
      exact h0
    | succ n ih =>
      intro w h
      rcases List.eq_nil_or_concat w with e | ⟨u, x, e⟩
      · rw [e]; exact h0
      · rw [List.concat_eq_append] at e
        subst e
        exact h1 u x (ih u (by simpa using h))
  exact h _ w rfl
/-- such walks are the straight ones -/
theorem G_of {L : Nat} : ∀ {w : List Int} , Stp L w → Fg.Str w → G L none w := by
  intro w
  refine snoc_ind (C := fun w => Stp L w → Fg.Str w → G L none w) (fun _ _ => trivial) (fun u x ih => ?_) w
  · intro h1 h2
    obtain ⟨s1, s2⟩ := Fg.str_init h2
    refine G_snoc.mpr ⟨ih (fun y hy => h1 y (List.mem_append_left _ hy)) s1, mem_bh.mpr ⟨mem_steps.mpr (h1 x (by simp)), ?_⟩⟩
    unfold lst
    cases e : u.getLast? with
    | none => simp
    | some y => rw [e] at s2; exact s2
theorem of_G {L : Nat} : ∀ {w : List Int}, G L none w → Stp L w ∧ Fg.Str w := by
  intro w
  refine snoc_ind (C := fun w => G L none w → Stp L w ∧ Fg.Str w) (fun _ => ⟨fun x hx => (nomatch hx), Fg.str_nil⟩) (fun u x ih => ?_) w
  · intro h
    obtain ⟨g, hx⟩ := G_snoc.mp h
    obtain ⟨a, b⟩ := ih g
    obtain ⟨h3, h4⟩ := mem_bh.mp hx
    refine ⟨fun y hy => ?_, Fg.str_snoc b ?_⟩
    · rcases List.mem_append.mp hy with hy | hy
      · exact a y hy
      · rw [List.mem_singleton.mp hy]
        exact mem_steps.mp h3
    · intro e
      unfold lst at h4
      rw [e] at h4
      exact h4 rfl
theorem G_take {L : Nat} {w : List Int} (h : G L none w) (i : Nat) : G L none (w.take i) := by
  obtain ⟨a, b⟩ := of_G h
  refine G_of (fun x hx => a x (List.mem_of_mem_take hx)) fun j x hj hj2 => ?_
  rw [List.getElem?_take] at hj hj2
  split at hj
  · split at hj2
    · exact b j x hj hj2
    · cases hj2
  · cases hj
theorem S_sum (L : Nat) : ∀ z : Nat, ((List.range z).map fun i => ((tot L none i : Nat) : Int)).sum = ((S L z : Nat) : Int)
  | 0 => rfl
  | z + 1 => by
    rw [List.range_succ, List.map_append, List.sum_append, S_sum L z, S, Int.natCast_add]
    simp
theorem tot_next {L : Nat} (z : Nat) : tot L none (z + 1) = tot L none z * (if z = 0 then 2 * L else 2 * L - 1) := by
  cases z with
  | zero => rw [tot_none, tot]; simp
  | succ z => rw [tot_none, tot_none, if_neg (by omega), Nat.pow_succ]; simp only [Nat.mul_assoc]
theorem tot_S {L : Nat} (h4 : L ≤ 4) (z : Nat) : tot L none z ≤ 8 * S L z + 1 := by
  cases z with
  | zero => exact Nat.le_add_left _ _
  | succ z =>
    have h1 : tot L none (z + 1) ≤ tot L none z * 8 := by
      rw [tot_next]
      exact Nat.mul_le_mul_left _ (by split <;> omega)
    have h2 : tot L none z ≤ S L (z + 1) := Nat.le_add_left _ _
    omega
/-- what is left to choose behind i of z steps -/
def left (L z i : Nat) : Nat := if i = 0 then tot L none z else (2 * L - 1) ^ (z - i)
theorem left_next {L z i : Nat} {w : List Int} (h : i < z) (g : G L none w) (hw : w.length = i) : left L z i = (bh L (lst none w)).length * left L z (i + 1) := by
  rw [bh_len g]
  unfold left
  rw [if_neg (by omega : ¬ i + 1 = 0)]
  by_cases h0 : i = 0
  · subst h0
    rw [if_pos rfl, if_pos (List.eq_nil_of_length_eq_zero hw)]
    obtain ⟨y, rfl⟩ : ∃ y, z = y + 1 := ⟨z - 1, by omega⟩
    rw [tot_none]
    rfl
  · rw [if_neg h0, if_neg (by intro e; rw [e] at hw; exact h0 hw.symm), show z - i = (z - (i + 1)) + 1 by omega, Nat.pow_succ, Nat.mul_comm]
theorem left_end (L z : Nat) : left L z z = 1 := by
  unfold left
  split
  · next h => rw [h]; rfl
  · rw [Nat.sub_self, Nat.pow_zero]
theorem left_pos {L : Nat} (hL : 0 < L) (z i : Nat) : 0 < left L z i := by
  unfold left
  split
  · exact tot_pos hL z
  · exact Nat.pow_pos (by omega)
theorem left_le {L z i : Nat} (hL : 0 < L) : left L z i ≤ tot L none z := by
  unfold left
  split
  · exact Nat.le_refl _
  · cases z with
    | zero => rw [Nat.zero_sub, Nat.pow_zero]; exact Nat.le_refl 1
    | succ z =>
      rw [tot_none]
      refine Nat.le_trans (Nat.pow_le_pow_right (by omega) (by omega : z + 1 - i ≤ z)) ?_
      exact Nat.le_mul_of_pos_left _ (by omega)
theorem bh_small {L : Nat} (h4 : L ≤ 4) (p : Option Int) : (bh L p).length ≤ 8 := by
  have h1 : (bh L p).length ≤ (steps L).length := List.length_filter_le _ _
  rw [steps_len] at h1
  omega
theorem G_at {L : Nat} {w : List Int} {i : Nat} {x : Int} (g : G L none w) (hx : w[i]? = some x) : x ∈ bh L (lst none (w.take i)) := by
  have h := G_take g (i + 1)
  rw [take_snoc hx] at h
  exact (G_snoc.mp h).2
theorem V_at {L : Nat} {w : List Int} {i : Nat} {x : Int} (g : G L none w) (hx : w[i]? = some x) : V L none (w.take (i + 1)) = V L none (w.take i) * (bh L (lst none (w.take i))).length + (bh L (lst none (w.take i))).idxOf x := by
  have h := G_take g (i + 1)
  rw [take_snoc hx] at h ⊢
  exact V_snoc h
theorem idx_filter {f : Int → Bool} : ∀ {l : List Int} {x : Int}, x ∈ l → f x = true → (l.filter f).idxOf x = ((l.take (l.idxOf x)).filter f).length
  | [], _, h, _ => by cases h
  | a :: l, x, h, hf => by
    by_cases e : a = x
    · subst e
      rw [List.filter_cons_of_pos hf, List.idxOf_cons_self, List.idxOf_cons_self]
      rfl
    · have hx : x ∈ l := by
        rcases List.mem_cons.mp h with z | z
        · exact absurd z.symm e
        · exact z
      have e2 : (a == x) = false := beq_false_of_ne e
      have ih := idx_filter hx hf
      rw [show (a :: l).idxOf x = l.idxOf x + 1 by rw [List.idxOf_cons, e2]; rfl]
      show _ = ((List.take (l.idxOf x + 1) (a :: l)).filter f).length
      rw [List.take_succ_cons]
      cases hfa : f a with
      | true =>
        rw [List.filter_cons_of_pos hfa, List.filter_cons_of_pos hfa, List.idxOf_cons, e2, List.length_cons, ← ih]
        rfl
      | false =>
        rw [List.filter_cons_of_neg (by rw [hfa]; decide), List.filter_cons_of_neg (by rw [hfa]; decide), ← ih]
theorem take_ne {w : List Int} {i : Nat} (h0 : ¬ i = 0) (hl : i < w.length) : w.take i ≠ [] := fun e => by
  have h := congrArg List.length e
  rw [List.length_take, Nat.min_eq_left (Nat.le_of_lt hl)] at h
  exact h0 h
theorem bh_pos {L : Nat} (h1 : 1 ≤ L) {w : List Int} (g : G L none w) : 0 < (bh L (lst none w)).length := by
  rw [bh_len g]
  split <;> omega
/-- the least step behind -/
theorem V_head {L : Nat} {w : List Int} {s : Int} (g : G L none w) (h : (bh L (lst none w))[0]? = some s) : G L none (w ++ [s]) ∧ V L none (w ++ [s]) = V L none w * (2 * L - 1) := by
  have hm := List.mem_of_getElem? h
  have g' : G L none (w ++ [s]) := G_snoc.mpr ⟨g, hm⟩
  refine ⟨g', ?_⟩
  have h0 : (bh L (lst none w)).idxOf s = 0 := Nat.le_zero.mp (L2.idxOf_le h)
  rw [V_snoc g', h0, Nat.add_zero, bh_len g]
  by_cases e : w = []
  · subst e
    rw [V, Nat.zero_mul, Nat.zero_mul]
  · rw [if_neg e]
/-- what is told of the end of a walk: all its digits behind are the greatest -/
def Top (L : Nat) (w : List Int) (j : Nat) : Prop := if j = 0 then V L none w + 1 = tot L none w.length else V L none w + 1 = (V L none (w.take j) + 1) * (2 * L - 1) ^ (w.length - j)
theorem top_end (L : Nat) (w : List Int) : Top L w w.length := by
  unfold Top
  split
  · next h =>
    rw [List.eq_nil_of_length_eq_zero h]
    rfl
  · rw [List.take_length, Nat.sub_self, Nat.pow_zero, Nat.mul_one]
theorem top_next {L : Nat} {w : List Int} {i : Nat} {x : Int} (g : G L none w) (hx : w[i]? = some x) (h : Top L w (i + 1)) (hi : (bh L (lst none (w.take i))).idxOf x + 1 = (bh L (lst none (w.take i))).length) : Top L w i := by
  have hl := (List.getElem?_eq_some_iff.mp hx).1
  unfold Top at h ⊢
  rw [if_neg (by omega), V_at g hx] at h
  have c := bh_len (G_take g i)
  have e1 : V L none (w.take i) * (bh L (lst none (w.take i))).length + (bh L (lst none (w.take i))).idxOf x + 1 = (V L none (w.take i) + 1) * (bh L (lst none (w.take i))).length := by
    rw [Nat.add_mul, Nat.one_mul]
    omega
  rw [e1] at h
  by_cases h0 : i = 0
  · subst h0
    rw [if_pos rfl, h]
    have c0 : (bh L (lst none (w.take 0))).length = 2 * L := by rw [c, List.take_zero, if_pos rfl]
    rw [c0, List.take_zero, V, Nat.zero_add, Nat.one_mul]
    have e2 : w.length = (w.length - (0 + 1)) + 1 := by omega
    rw [e2, tot_none]
    rfl
  · rw [if_neg h0, h]
    have c1 : (bh L (lst none (w.take i))).length = 2 * L - 1 := by
      rw [c, if_neg (take_ne h0 hl)]
    rw [c1, show w.length - i = (w.length - (i + 1)) + 1 by omega, Nat.pow_succ, Nat.mul_assoc, Nat.mul_comm (2 * L - 1)]
/-- with the next step in its place -/
theorem top_more {L : Nat} {w : List Int} {i : Nat} {x y : Int} (g : G L none w) (hx : w[i]? = some x) (h : Top L w (i + 1)) (hy : (bh L (lst none (w.take i)))[(bh L (lst none (w.take i))).idxOf x + 1]? = some y) :
    G L none (w.take i ++ [y]) ∧ V L none (w.take i ++ [y]) * (2 * L - 1) ^ (w.length - (i + 1)) = V L none w + 1 := by
  have g' : G L none (w.take i ++ [y]) := G_snoc.mpr ⟨G_take g i, List.mem_of_getElem? hy⟩
  refine ⟨g', ?_⟩
  unfold Top at h
  rw [if_neg (by omega), V_at g hx] at h
  have hlt := (List.getElem?_eq_some_iff.mp hy).1
  have hid : (bh L (lst none (w.take i))).idxOf y = (bh L (lst none (w.take i))).idxOf x + 1 := by
    have := (bh_nodup L (lst none (w.take i))).idxOf_getElem _ hlt
    rw [(List.getElem?_eq_some_iff.mp hy).2] at this
    exact this
  rw [V_snoc g', hid, h, Nat.add_assoc]
/-- the sum of what is ahead, as far as it is told -/
theorem ahead_step {L : Nat} {w : List Int} {i : Nat} {x : Int} (g : G L none w) (hx : w[i]? = some x) :
    V L none (w.take (i + 1)) * (2 * L - 1) ^ (w.length - (i + 1)) = V L none (w.take i) * (2 * L - 1) ^ (w.length - i) + (bh L (lst none (w.take i))).idxOf x * (2 * L - 1) ^ (w.length - (i + 1)) := by
  have hl := (List.getElem?_eq_some_iff.mp hx).1
  rw [V_at g hx, Nat.add_mul]
  congr 1
  by_cases h0 : i = 0
  · subst h0
    rw [List.take_zero, V, Nat.zero_mul, Nat.zero_mul, Nat.zero_mul]
  · have c1 : (bh L (lst none (w.take i))).length = 2 * L - 1 := by
      rw [bh_len (G_take g i), if_neg (take_ne h0 hl)]
    rw [c1, show w.length - i = (w.length - (i + 1)) + 1 by omega, Nat.pow_succ, Nat.mul_assoc, Nat.mul_comm (2 * L - 1)]
theorem S_le8 {L : Nat} (h4 : L ≤ 4) : ∀ z, S L z ≤ 8 ^ z ∧ tot L none z ≤ 8 ^ z
  | 0 => ⟨Nat.zero_le _, Nat.le_refl _⟩
  | z + 1 => by
    obtain ⟨a, b⟩ := S_le8 h4 z
    refine ⟨?_, ?_⟩
    · rw [S, Nat.pow_succ]
      omega
    · rw [tot_next, Nat.pow_succ]
      exact Nat.mul_le_mul b (by split <;> omega)
theorem S_lt {L : Nat} (h1 : 1 ≤ L) {a b : Nat} (h : S L a < S L b) : a < b := by
  rcases Nat.lt_or_ge a b with l | g
  · exact l
  · have := S_mono (L := L) g
    omega
theorem near {L : Nat} (h1 : 1 ≤ L) {u : List Int} (g : G L none u) {z : Nat} (h : S L z ≤ place L u + 1) : z ≤ u.length + 1 := by
  have a := place_lt g
  have b := tot_pos h1 (u.length + 1)
  have c : S L (u.length + 2) = S L (u.length + 1) + tot L none (u.length + 1) := rfl
  have := S_lt h1 (a := z) (b := u.length + 2) (by omega)
  omega
theorem place_le8 {L : Nat} (h4 : L ≤ 4) {u : List Int} (g : G L none u) : place L u + 1 ≤ 8 ^ (u.length + 1) := by
  have a := place_lt g
  have b := (S_le8 h4 (u.length + 1)).1
  omega
theorem lst_ne (u : List Int) (x : Int) : decide (lst none u ≠ some (-x)) = !decide (u.drop (u.length - 1) = [-x]) := by
  have e : lst none u = some (-x) ↔ u.drop (u.length - 1) = [-x] := by
    rcases List.eq_nil_or_concat u with e | ⟨v, y, e⟩
    · subst e
      simp [lst]
    · rw [List.concat_eq_append] at e
      subst e
      rw [lst_snoc, List.length_append]
      show some y = some (-x) ↔ List.drop (v.length + 1 - 1) (v ++ [y]) = [-x]
      rw [Nat.add_sub_cancel, List.drop_left']
      · simp
      · rfl
  by_cases h : lst none u = some (-x)
  · have h2 : ¬ (lst none u ≠ some (-x)) := fun z => z h
    rw [decide_eq_false h2, decide_eq_true (e.mp h)]
    rfl
  · have h2 : lst none u ≠ some (-x) := h
    have h3 : ¬ (u.drop (u.length - 1) = [-x]) := fun z => h (e.mpr z)
    rw [decide_eq_true h2, decide_eq_false h3]
    rfl
theorem lst_take {w : List Int} {i : Nat} {y : Int} (hy : w[i]? = some y) : lst none (w.take (i + 1)) = some y := by
  rw [take_snoc hy, lst_snoc]
/-- all of a length, as far as t * c of them -/
structure En (L z : Nat) (n : Nat) (ws : List (List Int)) : Prop where
  len : ws.length = n
  at' : ∀ q w, ws[q]? = some w → G L none w ∧ w.length = z ∧ V L none w = q
theorem en_step {L z t : Nat} {ws : List (List Int)} {w : List Int} (h : En L (z + 1) (t * (bh L (lst none w)).length) ws) (g : G L none w) (hz : w.length = z) (hv : V L none w = t) :
    En L (z + 1) ((t + 1) * (bh L (lst none w)).length) (ws ++ (bh L (lst none w)).map fun s => w ++ [s]) := by
  refine ⟨by rw [List.length_append, List.length_map, h.len, Nat.succ_mul], fun q u hq => ?_⟩
  rcases Nat.lt_or_ge q ws.length with lt | ge
  · rw [List.getElem?_append_left lt] at hq
    exact h.at' q u hq
  · rw [List.getElem?_append_right ge, List.getElem?_map] at hq
    cases hb : (bh L (lst none w))[q - ws.length]? with
    | none => rw [hb] at hq; cases hq
    | some s =>
      rw [hb] at hq
      cases hq
      have hlt := (List.getElem?_eq_some_iff.mp hb).1
      have hid := (bh_nodup L (lst none w)).idxOf_getElem _ hlt
      rw [(List.getElem?_eq_some_iff.mp hb).2] at hid
      have g' : G L none (w ++ [s]) := G_snoc.mpr ⟨g, List.mem_of_getElem? hb⟩
      refine ⟨g', by rw [List.length_append, hz]; rfl, ?_⟩
      rw [V_snoc g', hid, hv]
      have := h.len
      omega
/-- all to a length -/
structure Fd (L z : Nat) (ws : List (List Int)) : Prop where
  len : ws.length = S L (z + 1)
  at' : ∀ q w, ws[q]? = some w → G L none w ∧ w.length ≤ z ∧ place L w = q
theorem fd_step {L z : Nat} {ws us : List (List Int)} (h : Fd L z ws) (k : En L (z + 1) (tot L none (z + 1)) us) : Fd L (z + 1) (ws ++ us) := by
  refine ⟨by rw [List.length_append, h.len, k.len]; rfl, fun q w hq => ?_⟩
  rcases Nat.lt_or_ge q ws.length with lt | ge
  · rw [List.getElem?_append_left lt] at hq
    obtain ⟨a, b, c⟩ := h.at' q w hq
    exact ⟨a, by omega, c⟩
  · rw [List.getElem?_append_right ge] at hq
    obtain ⟨a, b, c⟩ := k.at' _ w hq
    refine ⟨a, by omega, ?_⟩
    unfold place
    rw [b, c, ← h.len]
    omega
theorem en_zero (L : Nat) : En L 0 1 [[]] := ⟨rfl, fun q w h => by
  cases q with
  | zero => cases h; exact ⟨trivial, rfl, rfl⟩
  | succ q => simp at h⟩
theorem fd_zero (L : Nat) : Fd L 0 [[]] := ⟨rfl, fun q w h => by
  cases q with
  | zero => cases h; exact ⟨trivial, Nat.le_refl _, rfl⟩
  | succ q => simp at h⟩
theorem fd_count {L z l : Nat} {ws : List (List Int)} (h : Fd L z ws) : ∀ t, t ≤ ws.length → ((ws.take t).filter fun w => decide (w.length = l)).length = min t (S L (l + 1)) - min t (S L l)
  | 0, _ => by simp
  | t + 1, ht => by
    have ih := fd_count (l := l) h t (by omega)
    have hq := List.getElem?_eq_getElem (show t < ws.length by omega)
    generalize ws[t] = w at hq
    obtain ⟨g, _, pl⟩ := h.at' t w hq
    have a := place_ge L w
    have b := place_lt g
    have s1 : S L (l + 1) = S L l + tot L none l := rfl
    rw [take_snoc hq, List.filter_append, List.length_append, ih]
    by_cases e : w.length = l
    · rw [List.filter_cons_of_pos (by simpa using e), List.filter_nil, List.length_singleton]
      subst e
      omega
    · rw [List.filter_cons_of_neg (by simpa using e), List.filter_nil, List.length_nil]
      rcases Nat.lt_or_ge w.length l with lt | ge
      · have := S_mono (L := L) (a := w.length + 1) (b := l) lt
        omega
      · have := S_mono (L := L) (a := l + 1) (b := w.length) (by omega)
        omega
theorem fd_many {L z l : Nat} {ws : List (List Int)} (h : Fd L z ws) (hl : l ≤ z) : (ws.filter fun w => decide (w.length = l)).length = tot L none l := by
  have := fd_count (l := l) h ws.length (Nat.le_refl _)
  rw [List.take_length, h.len] at this
  rw [this]
  have a := S_mono (L := L) (a := l + 1) (b := z + 1) (by omega)
  have s1 : S L (l + 1) = S L l + tot L none l := rfl
  omega
end Od
namespace Lw
open PySem PySem.Spec PyProof.Rows L2 Evl

/-! ### the text -/
def topS (i : Nat) : Stmt := PySem.Challenge.pw_walkclubs_k05_walks_in_their_order.main.body.getD i (.Pass ⟨0, 0, 0, 0⟩)
abbrev s_is_integer : Stmt := topS 7
abbrev N_is_integer : List Str := ["value"]
abbrev P_is_integer : List Str := ["value"]
theorem sc_is_integer : FnScope N_is_integer P_is_integer (defScope s_is_integer) := ⟨rfl, rfl, rfl, by decide +kernel, rfl, by decide +kernel, by decide +kernel⟩
abbrev s_steps_of : Stmt := topS 16
abbrev N_steps_of : List Str := ["letters", "letter", "step"]
abbrev P_steps_of : List Str := ["letters"]
theorem sc_steps_of : FnScope N_steps_of P_steps_of (defScope s_steps_of) := ⟨rfl, rfl, rfl, by decide +kernel, rfl, by decide +kernel, by decide +kernel⟩
abbrev s_straightened : Stmt := topS 17
abbrev N_straightened : List Str := ["walk", "kept", "step"]
abbrev P_straightened : List Str := ["walk"]
theorem sc_straightened : FnScope N_straightened P_straightened (defScope s_straightened) := ⟨rfl, rfl, rfl, by decide +kernel, rfl, by decide +kernel, by decide +kernel⟩
abbrev s_many_of_lengths : Stmt := topS 20
abbrev N_many_of_lengths : List Str := ["letters", "length", "numbers", "ahead"]
abbrev P_many_of_lengths : List Str := ["letters", "length"]
theorem sc_many_of_lengths : FnScope N_many_of_lengths P_many_of_lengths (defScope s_many_of_lengths) := ⟨rfl, rfl, rfl, by decide +kernel, rfl, by decide +kernel, by decide +kernel⟩
abbrev s__law_well : Stmt := topS 28
abbrev N__law_well : List Str := ["_law_script", "_law_k", "_law_cell", "_law_total", "_law_seed", "_law_one"]
abbrev P__law_well : List Str := ["_law_script", "_law_k"]
theorem sc__law_well : FnScope N__law_well P__law_well (defScope s__law_well) := ⟨rfl, rfl, rfl, by decide +kernel, rfl, by decide +kernel, by decide +kernel⟩
abbrev s__law_take : Stmt := topS 29
abbrev N__law_take : List Str := ["_law_well_here", "_law_many_here", "_law_found", "_law_mixed"]
abbrev P__law_take : List Str := ["_law_well_here", "_law_many_here"]
theorem sc__law_take : FnScope N__law_take P__law_take (defScope s__law_take) := ⟨rfl, rfl, rfl, by decide +kernel, rfl, by decide +kernel, by decide +kernel⟩
abbrev s__law_joined : Stmt := topS 32
abbrev N__law_joined : List Str := ["_law_one", "_law_other", "_law_size"]
abbrev P__law_joined : List Str := ["_law_one", "_law_other"]
theorem sc__law_joined : FnScope N__law_joined P__law_joined (defScope s__law_joined) := ⟨rfl, rfl, rfl, by decide +kernel, rfl, by decide +kernel, by decide +kernel⟩
abbrev s__law_is : Stmt := topS 34
abbrev N__law_is : List Str := ["_law_found", "_law_due", "_law_step"]
abbrev P__law_is : List Str := ["_law_found", "_law_due"]
theorem sc__law_is : FnScope N__law_is P__law_is (defScope s__law_is) := ⟨rfl, rfl, rfl, by decide +kernel, rfl, by decide +kernel, by decide +kernel⟩
abbrev s__law_steps : Stmt := topS 35
abbrev N__law_steps : List Str := ["_law_letters", "_law_found", "_law_letter"]
abbrev P__law_steps : List Str := ["_law_letters"]
theorem sc__law_steps : FnScope N__law_steps P__law_steps (defScope s__law_steps) := ⟨rfl, rfl, rfl, by decide +kernel, rfl, by decide +kernel, by decide +kernel⟩
abbrev s__law_times : Stmt := topS 36
abbrev N__law_times : List Str := ["_law_letters", "_law_length", "_law_found", "_law_turn"]
abbrev P__law_times : List Str := ["_law_letters", "_law_length"]
theorem sc__law_times : FnScope N__law_times P__law_times (defScope s__law_times) := ⟨rfl, rfl, rfl, by decide +kernel, rfl, by decide +kernel, by decide +kernel⟩
abbrev s__law_number : Stmt := topS 42
abbrev N__law_number : List Str := ["_law_found", "_law_due"]
abbrev P__law_number : List Str := ["_law_found", "_law_due"]
theorem sc__law_number : FnScope N__law_number P__law_number (defScope s__law_number) := ⟨rfl, rfl, rfl, by decide +kernel, rfl, by decide +kernel, by decide +kernel⟩
abbrev s_is_letters : Stmt := topS 8
abbrev N_is_letters : List Str := ["value"]
abbrev P_is_letters : List Str := ["value"]
theorem sc_is_letters : FnScope N_is_letters P_is_letters (defScope s_is_letters) := ⟨rfl, rfl, rfl, by decide +kernel, rfl, by decide +kernel, by decide +kernel⟩
abbrev s_is_step_of : Stmt := topS 9
abbrev N_is_step_of : List Str := ["letters", "value"]
abbrev P_is_step_of : List Str := ["letters", "value"]
theorem sc_is_step_of : FnScope N_is_step_of P_is_step_of (defScope s_is_step_of) := ⟨rfl, rfl, rfl, by decide +kernel, rfl, by decide +kernel, by decide +kernel⟩
abbrev s_check_least : Stmt := topS 14
abbrev N_check_least : List Str := ["number", "least"]
abbrev P_check_least : List Str := ["number", "least"]
theorem sc_check_least : FnScope N_check_least P_check_least (defScope s_check_least) := ⟨rfl, rfl, rfl, by decide +kernel, rfl, by decide +kernel, by decide +kernel⟩
abbrev s_steps_behind : Stmt := topS 19
abbrev N_steps_behind : List Str := ["letters", "walk", "step"]
abbrev P_steps_behind : List Str := ["letters", "walk"]
theorem sc_steps_behind : FnScope N_steps_behind P_steps_behind (defScope s_steps_behind) := ⟨rfl, rfl, rfl, by decide +kernel, rfl, by decide +kernel, by decide +kernel⟩
abbrev s__law_walk : Stmt := topS 30
abbrev N__law_walk : List Str := ["_law_well_here", "_law_letters", "_law_most", "_law_way", "_law_size", "_law_steps_here", "_law_third", "_law_turn", "_law_step"]
abbrev P__law_walk : List Str := ["_law_well_here", "_law_letters", "_law_most"]
theorem sc__law_walk : FnScope N__law_walk P__law_walk (defScope s__law_walk) := ⟨rfl, rfl, rfl, by decide +kernel, rfl, by decide +kernel, by decide +kernel⟩
abbrev s__law_straight : Stmt := topS 33
abbrev N__law_straight : List Str := ["_law_walk_here", "_law_left", "_law_step"]
abbrev P__law_straight : List Str := ["_law_walk_here"]
theorem sc__law_straight : FnScope N__law_straight P__law_straight (defScope s__law_straight) := ⟨rfl, rfl, rfl, by decide +kernel, rfl, by decide +kernel, by decide +kernel⟩
abbrev s__law_many : Stmt := topS 37
abbrev N__law_many : List Str := ["_law_letters", "_law_length"]
abbrev P__law_many : List Str := ["_law_letters", "_law_length"]
theorem sc__law_many : FnScope N__law_many P__law_many (defScope s__law_many) := ⟨rfl, rfl, rfl, by decide +kernel, rfl, by decide +kernel, by decide +kernel⟩
abbrev s__law_least : Stmt := topS 39
abbrev N__law_least : List Str := ["_law_letters", "_law_walk_here", "_law_length", "_law_found", "_law_turn", "_law_step"]
abbrev P__law_least : List Str := ["_law_letters", "_law_walk_here", "_law_length"]
theorem sc__law_least : FnScope N__law_least P__law_least (defScope s__law_least) := ⟨rfl, rfl, rfl, by decide +kernel, rfl, by decide +kernel, by decide +kernel⟩
abbrev s__law_all : Stmt := topS 41
abbrev N__law_all : List Str := ["_law_letters", "_law_length", "_law_found", "_law_layer", "_law_turn", "_law_longer", "_law_walk_here", "_law_step"]
abbrev P__law_all : List Str := ["_law_letters", "_law_length"]
theorem sc__law_all : FnScope N__law_all P__law_all (defScope s__law_all) := ⟨rfl, rfl, rfl, by decide +kernel, rfl, by decide +kernel, by decide +kernel⟩
abbrev s_is_walk_of : Stmt := topS 10
abbrev N_is_walk_of : List Str := ["letters", "value", "step"]
abbrev P_is_walk_of : List Str := ["letters", "value"]
theorem sc_is_walk_of : FnScope N_is_walk_of P_is_walk_of (defScope s_is_walk_of) := ⟨rfl, rfl, rfl, by decide +kernel, rfl, by decide +kernel, by decide +kernel⟩
abbrev s_check_letters : Stmt := topS 12
abbrev N_check_letters : List Str := ["letters"]
abbrev P_check_letters : List Str := ["letters"]
theorem sc_check_letters : FnScope N_check_letters P_check_letters (defScope s_check_letters) := ⟨rfl, rfl, rfl, by decide +kernel, rfl, by decide +kernel, by decide +kernel⟩
abbrev s_place_among_all : Stmt := topS 21
abbrev N_place_among_all : List Str := ["letters", "walk", "number", "place", "step", "steps"]
abbrev P_place_among_all : List Str := ["letters", "walk"]
theorem sc_place_among_all : FnScope N_place_among_all P_place_among_all (defScope s_place_among_all) := ⟨rfl, rfl, rfl, by decide +kernel, rfl, by decide +kernel, by decide +kernel⟩
abbrev s_walk_at_place : Stmt := topS 22
abbrev N_walk_at_place : List Str := ["letters", "number", "length", "many", "walk", "_", "steps", "choice"]
abbrev P_walk_at_place : List Str := ["letters", "number"]
theorem sc_walk_at_place : FnScope N_walk_at_place P_walk_at_place (defScope s_walk_at_place) := ⟨rfl, rfl, rfl, by decide +kernel, rfl, by decide +kernel, by decide +kernel⟩
abbrev s__law_ahead : Stmt := topS 38
abbrev N__law_ahead : List Str := ["_law_letters", "_law_walk_here", "_law_found", "_law_at", "_law_step", "_law_length"]
abbrev P__law_ahead : List Str := ["_law_letters", "_law_walk_here"]
theorem sc__law_ahead : FnScope N__law_ahead P__law_ahead (defScope s__law_ahead) := ⟨rfl, rfl, rfl, by decide +kernel, rfl, by decide +kernel, by decide +kernel⟩
abbrev s__law_next : Stmt := topS 40
abbrev N__law_next : List Str := ["_law_letters", "_law_walk_here", "_law_at", "_law_order", "_law_later", "_law_step"]
abbrev P__law_next : List Str := ["_law_letters", "_law_walk_here"]
theorem sc__law_next : FnScope N__law_next P__law_next (defScope s__law_next) := ⟨rfl, rfl, rfl, by decide +kernel, rfl, by decide +kernel, by decide +kernel⟩
abbrev s_check_walk : Stmt := topS 13
abbrev N_check_walk : List Str := ["letters", "walk"]
abbrev P_check_walk : List Str := ["letters", "walk"]
theorem sc_check_walk : FnScope N_check_walk P_check_walk (defScope s_check_walk) := ⟨rfl, rfl, rfl, by decide +kernel, rfl, by decide +kernel, by decide +kernel⟩
abbrev s_how_many : Stmt := topS 23
abbrev N_how_many : List Str := ["letters", "length"]
abbrev P_how_many : List Str := ["letters", "length"]
theorem sc_how_many : FnScope N_how_many P_how_many (defScope s_how_many) := ⟨rfl, rfl, rfl, by decide +kernel, rfl, by decide +kernel, by decide +kernel⟩
abbrev s_nth_walk : Stmt := topS 24
abbrev N_nth_walk : List Str := ["letters", "number"]
abbrev P_nth_walk : List Str := ["letters", "number"]
theorem sc_nth_walk : FnScope N_nth_walk P_nth_walk (defScope s_nth_walk) := ⟨rfl, rfl, rfl, by decide +kernel, rfl, by decide +kernel, by decide +kernel⟩
abbrev s_number_of : Stmt := topS 25
abbrev N_number_of : List Str := ["letters", "walk"]
abbrev P_number_of : List Str := ["letters", "walk"]
theorem sc_number_of : FnScope N_number_of P_number_of (defScope s_number_of) := ⟨rfl, rfl, rfl, by decide +kernel, rfl, by decide +kernel, by decide +kernel⟩
abbrev s_next_walk : Stmt := topS 26
abbrev N_next_walk : List Str := ["letters", "walk"]
abbrev P_next_walk : List Str := ["letters", "walk"]
theorem sc_next_walk : FnScope N_next_walk P_next_walk (defScope s_next_walk) := ⟨rfl, rfl, rfl, by decide +kernel, rfl, by decide +kernel, by decide +kernel⟩
abbrev s__law_short : Stmt := topS 43
abbrev N__law_short : List Str := ["_law_letters", "_law_walks", "_law_at", "_law_walk_here", "_law_length", "_law_due"]
abbrev P__law_short : List Str := ["_law_letters"]
theorem sc__law_short : FnScope N__law_short P__law_short (defScope s__law_short) := ⟨rfl, rfl, rfl, by decide +kernel, rfl, by decide +kernel, by decide +kernel⟩
abbrev s__law_great : Stmt := topS 44
abbrev N__law_great : List Str := ["_law_letters", "_law_number_here", "_law_walk_here", "_law_step"]
abbrev P__law_great : List Str := ["_law_letters", "_law_number_here"]
theorem sc__law_great : FnScope N__law_great P__law_great (defScope s__law_great) := ⟨rfl, rfl, rfl, by decide +kernel, rfl, by decide +kernel, by decide +kernel⟩
abbrev s__law_walked : Stmt := topS 45
abbrev N__law_walked : List Str := ["_law_letters", "_law_walk_here", "_law_other", "_law_due", "_law_later"]
abbrev P__law_walked : List Str := ["_law_letters", "_law_walk_here", "_law_other"]
theorem sc__law_walked : FnScope N__law_walked P__law_walked (defScope s__law_walked) := ⟨rfl, rfl, rfl, by decide +kernel, rfl, by decide +kernel, by decide +kernel⟩
abbrev s__law_right : Stmt := topS 46
abbrev N__law_right : List Str := ["_law_well_here", "_law_letters", "_law_most", "_law_number_here", "_law_walk_here", "_law_at", "_law_step", "_law_more", "_law_left", "_law_last", "_law_length", "_law_due"]
abbrev P__law_right : List Str := ["_law_well_here"]
theorem sc__law_right : FnScope N__law_right P__law_right (defScope s__law_right) := ⟨rfl, rfl, rfl, by decide +kernel, rfl, by decide +kernel, by decide +kernel⟩
abbrev s_law : Stmt := topS 47
abbrev N_law : List Str := ["_law_script", "_law_k"]
abbrev P_law : List Str := ["_law_script"]
theorem sc_law : FnScope N_law P_law (defScope s_law) := ⟨rfl, rfl, rfl, by decide +kernel, rfl, by decide +kernel, by decide +kernel⟩
/-- where the defs stand -/
structure Ad where
  a_is_integer : Addr
  f_is_integer : FuncData
  a_steps_of : Addr
  f_steps_of : FuncData
  a_straightened : Addr
  f_straightened : FuncData
  a_many_of_lengths : Addr
  f_many_of_lengths : FuncData
  a__law_well : Addr
  f__law_well : FuncData
  a__law_take : Addr
  f__law_take : FuncData
  a__law_joined : Addr
  f__law_joined : FuncData
  a__law_is : Addr
  f__law_is : FuncData
  a__law_steps : Addr
  f__law_steps : FuncData
  a__law_times : Addr
  f__law_times : FuncData
  a__law_number : Addr
  f__law_number : FuncData
  a_is_letters : Addr
  f_is_letters : FuncData
  a_is_step_of : Addr
  f_is_step_of : FuncData
  a_check_least : Addr
  f_check_least : FuncData
  a_steps_behind : Addr
  f_steps_behind : FuncData
  a__law_walk : Addr
  f__law_walk : FuncData
  a__law_straight : Addr
  f__law_straight : FuncData
  a__law_many : Addr
  f__law_many : FuncData
  a__law_least : Addr
  f__law_least : FuncData
  a__law_all : Addr
  f__law_all : FuncData
  a_is_walk_of : Addr
  f_is_walk_of : FuncData
  a_check_letters : Addr
  f_check_letters : FuncData
  a_place_among_all : Addr
  f_place_among_all : FuncData
  a_walk_at_place : Addr
  f_walk_at_place : FuncData
  a__law_ahead : Addr
  f__law_ahead : FuncData
  a__law_next : Addr
  f__law_next : FuncData
  a_check_walk : Addr
  f_check_walk : FuncData
  a_how_many : Addr
  f_how_many : FuncData
  a_nth_walk : Addr
  f_nth_walk : FuncData
  a_number_of : Addr
  f_number_of : FuncData
  a_next_walk : Addr
  f_next_walk : FuncData
  a__law_short : Addr
  f__law_short : FuncData
  a__law_great : Addr
  f__law_great : FuncData
  a__law_walked : Addr
  f__law_walked : FuncData
  a__law_right : Addr
  f__law_right : FuncData
  a_law : Addr
  f_law : FuncData
structure Tx (K : PySem.W.Frag) (mg : Str → Option Value) (A : Ad) : Prop where
  g_is_integer : mg "is_integer" = some (.ref A.a_is_integer)
  F_is_integer : Fun K "is_integer" "is_integer" s_is_integer A.a_is_integer A.f_is_integer
  b_is_integer : Binds K A.f_is_integer P_is_integer []
  g_steps_of : mg "steps_of" = some (.ref A.a_steps_of)
  F_steps_of : Fun K "steps_of" "steps_of" s_steps_of A.a_steps_of A.f_steps_of
  b_steps_of : Binds K A.f_steps_of P_steps_of []
  g_straightened : mg "straightened" = some (.ref A.a_straightened)
  F_straightened : Fun K "straightened" "straightened" s_straightened A.a_straightened A.f_straightened
  b_straightened : Binds K A.f_straightened P_straightened []
  g_many_of_lengths : mg "many_of_lengths" = some (.ref A.a_many_of_lengths)
  F_many_of_lengths : Fun K "many_of_lengths" "many_of_lengths" s_many_of_lengths A.a_many_of_lengths A.f_many_of_lengths
  b_many_of_lengths : Binds K A.f_many_of_lengths P_many_of_lengths []
  g__law_well : mg "_law_well" = some (.ref A.a__law_well)
  F__law_well : Fun K "_law_well" "_law_well" s__law_well A.a__law_well A.f__law_well
  b__law_well : Binds K A.f__law_well P__law_well []
  g__law_take : mg "_law_take" = some (.ref A.a__law_take)
  F__law_take : Fun K "_law_take" "_law_take" s__law_take A.a__law_take A.f__law_take
  b__law_take : Binds K A.f__law_take P__law_take []
  g__law_joined : mg "_law_joined" = some (.ref A.a__law_joined)
  F__law_joined : Fun K "_law_joined" "_law_joined" s__law_joined A.a__law_joined A.f__law_joined
  b__law_joined : Binds K A.f__law_joined P__law_joined []
  g__law_is : mg "_law_is" = some (.ref A.a__law_is)
  F__law_is : Fun K "_law_is" "_law_is" s__law_is A.a__law_is A.f__law_is
  b__law_is : Binds K A.f__law_is P__law_is []
  g__law_steps : mg "_law_steps" = some (.ref A.a__law_steps)
  F__law_steps : Fun K "_law_steps" "_law_steps" s__law_steps A.a__law_steps A.f__law_steps
  b__law_steps : Binds K A.f__law_steps P__law_steps []
  g__law_times : mg "_law_times" = some (.ref A.a__law_times)
  F__law_times : Fun K "_law_times" "_law_times" s__law_times A.a__law_times A.f__law_times
  b__law_times : Binds K A.f__law_times P__law_times []
  g__law_number : mg "_law_number" = some (.ref A.a__law_number)
  F__law_number : Fun K "_law_number" "_law_number" s__law_number A.a__law_number A.f__law_number
  b__law_number : Binds K A.f__law_number P__law_number []
  g_is_letters : mg "is_letters" = some (.ref A.a_is_letters)
  F_is_letters : Fun K "is_letters" "is_letters" s_is_letters A.a_is_letters A.f_is_letters
  b_is_letters : Binds K A.f_is_letters P_is_letters []
  g_is_step_of : mg "is_step_of" = some (.ref A.a_is_step_of)
  F_is_step_of : Fun K "is_step_of" "is_step_of" s_is_step_of A.a_is_step_of A.f_is_step_of
  b_is_step_of : Binds K A.f_is_step_of P_is_step_of []
  g_check_least : mg "check_least" = some (.ref A.a_check_least)
  F_check_least : Fun K "check_least" "check_least" s_check_least A.a_check_least A.f_check_least
  b_check_least : Binds K A.f_check_least P_check_least []
  g_steps_behind : mg "steps_behind" = some (.ref A.a_steps_behind)
  F_steps_behind : Fun K "steps_behind" "steps_behind" s_steps_behind A.a_steps_behind A.f_steps_behind
  b_steps_behind : Binds K A.f_steps_behind P_steps_behind []
  g__law_walk : mg "_law_walk" = some (.ref A.a__law_walk)
  F__law_walk : Fun K "_law_walk" "_law_walk" s__law_walk A.a__law_walk A.f__law_walk
  b__law_walk : Binds K A.f__law_walk P__law_walk []
  g__law_straight : mg "_law_straight" = some (.ref A.a__law_straight)
  F__law_straight : Fun K "_law_straight" "_law_straight" s__law_straight A.a__law_straight A.f__law_straight
  b__law_straight : Binds K A.f__law_straight P__law_straight []
  g__law_many : mg "_law_many" = some (.ref A.a__law_many)
  F__law_many : Fun K "_law_many" "_law_many" s__law_many A.a__law_many A.f__law_many
  b__law_many : Binds K A.f__law_many P__law_many []
  g__law_least : mg "_law_least" = some (.ref A.a__law_least)
  F__law_least : Fun K "_law_least" "_law_least" s__law_least A.a__law_least A.f__law_least
  b__law_least : Binds K A.f__law_least P__law_least []
  g__law_all : mg "_law_all" = some (.ref A.a__law_all)
  F__law_all : Fun K "_law_all" "_law_all" s__law_all A.a__law_all A.f__law_all
  b__law_all : Binds K A.f__law_all P__law_all []
  g_is_walk_of : mg "is_walk_of" = some (.ref A.a_is_walk_of)
  F_is_walk_of : Fun K "is_walk_of" "is_walk_of" s_is_walk_of A.a_is_walk_of A.f_is_walk_of
  b_is_walk_of : Binds K A.f_is_walk_of P_is_walk_of []
  g_check_letters : mg "check_letters" = some (.ref A.a_check_letters)
  F_check_letters : Fun K "check_letters" "check_letters" s_check_letters A.a_check_letters A.f_check_letters
  b_check_letters : Binds K A.f_check_letters P_check_letters []
  g_place_among_all : mg "place_among_all" = some (.ref A.a_place_among_all)
  F_place_among_all : Fun K "place_among_all" "place_among_all" s_place_among_all A.a_place_among_all A.f_place_among_all
  b_place_among_all : Binds K A.f_place_among_all P_place_among_all []
  g_walk_at_place : mg "walk_at_place" = some (.ref A.a_walk_at_place)
  F_walk_at_place : Fun K "walk_at_place" "walk_at_place" s_walk_at_place A.a_walk_at_place A.f_walk_at_place
  b_walk_at_place : Binds K A.f_walk_at_place P_walk_at_place []
  g__law_ahead : mg "_law_ahead" = some (.ref A.a__law_ahead)
  F__law_ahead : Fun K "_law_ahead" "_law_ahead" s__law_ahead A.a__law_ahead A.f__law_ahead
  b__law_ahead : Binds K A.f__law_ahead P__law_ahead []
  g__law_next : mg "_law_next" = some (.ref A.a__law_next)
  F__law_next : Fun K "_law_next" "_law_next" s__law_next A.a__law_next A.f__law_next
  b__law_next : Binds K A.f__law_next P__law_next []
  g_check_walk : mg "check_walk" = some (.ref A.a_check_walk)
  F_check_walk : Fun K "check_walk" "check_walk" s_check_walk A.a_check_walk A.f_check_walk
  b_check_walk : Binds K A.f_check_walk P_check_walk []
  g_how_many : mg "how_many" = some (.ref A.a_how_many)
  F_how_many : Fun K "how_many" "how_many" s_how_many A.a_how_many A.f_how_many
  b_how_many : Binds K A.f_how_many P_how_many []
  g_nth_walk : mg "nth_walk" = some (.ref A.a_nth_walk)
  F_nth_walk : Fun K "nth_walk" "nth_walk" s_nth_walk A.a_nth_walk A.f_nth_walk
  b_nth_walk : Binds K A.f_nth_walk P_nth_walk []
  g_number_of : mg "number_of" = some (.ref A.a_number_of)
  F_number_of : Fun K "number_of" "number_of" s_number_of A.a_number_of A.f_number_of
  b_number_of : Binds K A.f_number_of P_number_of []
  g_next_walk : mg "next_walk" = some (.ref A.a_next_walk)
  F_next_walk : Fun K "next_walk" "next_walk" s_next_walk A.a_next_walk A.f_next_walk
  b_next_walk : Binds K A.f_next_walk P_next_walk []
  g__law_short : mg "_law_short" = some (.ref A.a__law_short)
  F__law_short : Fun K "_law_short" "_law_short" s__law_short A.a__law_short A.f__law_short
  b__law_short : Binds K A.f__law_short P__law_short []
  g__law_great : mg "_law_great" = some (.ref A.a__law_great)
  F__law_great : Fun K "_law_great" "_law_great" s__law_great A.a__law_great A.f__law_great
  b__law_great : Binds K A.f__law_great P__law_great []
  g__law_walked : mg "_law_walked" = some (.ref A.a__law_walked)
  F__law_walked : Fun K "_law_walked" "_law_walked" s__law_walked A.a__law_walked A.f__law_walked
  b__law_walked : Binds K A.f__law_walked P__law_walked []
  g__law_right : mg "_law_right" = some (.ref A.a__law_right)
  F__law_right : Fun K "_law_right" "_law_right" s__law_right A.a__law_right A.f__law_right
  b__law_right : Binds K A.f__law_right P__law_right []
  g_law : mg "law" = some (.ref A.a_law)
  F_law : Fun K "law" "law" s_law A.a_law A.f_law
  b_law : Binds K A.f_law P_law []
  n_abs : mg "abs" = none
  n_all : mg "all" = none
  n_bool : mg "bool" = none
  n_divmod : mg "divmod" = none
  n_enumerate : mg "enumerate" = none
  n_int : mg "int" = none
  n_isinstance : mg "isinstance" = none
  n_len : mg "len" = none
  n_max : mg "max" = none
  n_min : mg "min" = none
  n_range : mg "range" = none
  n_sum : mg "sum" = none
  n_tuple : mg "tuple" = none
  c_MOST_LETTERS : ∃ t, mg "MOST_LETTERS" = some (.int 4 t)
theorem kb_nth_walk_number_letters {K : PySem.W.Frag} {f : Addr} {fd : FuncData} (F : Fun K "nth_walk" "nth_walk" s_nth_walk f fd) : KBinds K fd P_nth_walk ["number", "letters"] (fun us ws => match us, ws with | [], [w0, w1] => [w1, w0] | _, _ => []) (fun us ws => match us, ws with | [], [w0, w1] => [w1, w0] | _, _ => []) := by
  obtain ⟨oc, od, kV, doc, pm, an, cdv, ct, osl, rfl, lk, hcd⟩ := F.ex
  refine ⟨fun s us ws _ hl => ?_, fun {vs us zs ws} r1 r2 => ?_⟩
  · match us, ws, hl with | [], [w0, w1], _ => exact .of_eq rfl
  · cases r1 with
    | nil =>
      cases r2 with
      | nil => exact .nil
      | cons h0 t0 =>
        cases t0 with
        | nil => exact .nil
        | cons h1 t1 =>
          cases t1 with
          | nil => exact (.cons h1 (.cons h0 .nil))
          | cons _ _ => exact .nil
    | cons _ _ =>
      cases r2 <;> exact .nil
theorem kb_number_of_walk_letters {K : PySem.W.Frag} {f : Addr} {fd : FuncData} (F : Fun K "number_of" "number_of" s_number_of f fd) : KBinds K fd P_number_of ["walk", "letters"] (fun us ws => match us, ws with | [], [w0, w1] => [w1, w0] | _, _ => []) (fun us ws => match us, ws with | [], [w0, w1] => [w1, w0] | _, _ => []) := by
  obtain ⟨oc, od, kV, doc, pm, an, cdv, ct, osl, rfl, lk, hcd⟩ := F.ex
  refine ⟨fun s us ws _ hl => ?_, fun {vs us zs ws} r1 r2 => ?_⟩
  · match us, ws, hl with | [], [w0, w1], _ => exact .of_eq rfl
  · cases r1 with
    | nil =>
      cases r2 with
      | nil => exact .nil
      | cons h0 t0 =>
        cases t0 with
        | nil => exact .nil
        | cons h1 t1 =>
          cases t1 with
          | nil => exact (.cons h1 (.cons h0 .nil))
          | cons _ _ => exact .nil
    | cons _ _ =>
      cases r2 <;> exact .nil
theorem kb_next_walk_walk_letters {K : PySem.W.Frag} {f : Addr} {fd : FuncData} (F : Fun K "next_walk" "next_walk" s_next_walk f fd) : KBinds K fd P_next_walk ["walk", "letters"] (fun us ws => match us, ws with | [], [w0, w1] => [w1, w0] | _, _ => []) (fun us ws => match us, ws with | [], [w0, w1] => [w1, w0] | _, _ => []) := by
  obtain ⟨oc, od, kV, doc, pm, an, cdv, ct, osl, rfl, lk, hcd⟩ := F.ex
  refine ⟨fun s us ws _ hl => ?_, fun {vs us zs ws} r1 r2 => ?_⟩
  · match us, ws, hl with | [], [w0, w1], _ => exact .of_eq rfl
  · cases r1 with
    | nil =>
      cases r2 with
      | nil => exact .nil
      | cons h0 t0 =>
        cases t0 with
        | nil => exact .nil
        | cons h1 t1 =>
          cases t1 with
          | nil => exact (.cons h1 (.cons h0 .nil))
          | cons _ _ => exact .nil
    | cons _ _ =>
      cases r2 <;> exact .nil
theorem kb_how_many_length_letters {K : PySem.W.Frag} {f : Addr} {fd : FuncData} (F : Fun K "how_many" "how_many" s_how_many f fd) : KBinds K fd P_how_many ["length", "letters"] (fun us ws => match us, ws with | [], [w0, w1] => [w1, w0] | _, _ => []) (fun us ws => match us, ws with | [], [w0, w1] => [w1, w0] | _, _ => []) := by
  obtain ⟨oc, od, kV, doc, pm, an, cdv, ct, osl, rfl, lk, hcd⟩ := F.ex
  refine ⟨fun s us ws _ hl => ?_, fun {vs us zs ws} r1 r2 => ?_⟩
  · match us, ws, hl with | [], [w0, w1], _ => exact .of_eq rfl
  · cases r1 with
    | nil =>
      cases r2 with
      | nil => exact .nil
      | cons h0 t0 =>
        cases t0 with
        | nil => exact .nil
        | cons h1 t1 =>
          cases t1 with
          | nil => exact (.cons h1 (.cons h0 .nil))
          | cons _ _ => exact .nil
    | cons _ _ =>
      cases r2 <;> exact .nil

local macro_rules | `(tactic| walk_at "go") => `(tactic| repeat (first
  | with_reducible refine st_seq ?_ | with_reducible refine st_set ?_ | with_reducible refine st_asg ?_ | with_reducible refine st_ret ?_ | with_reducible refine st_drop ?_ | with_reducible refine st_if ?_
  | with_reducible refine st_c ?_ | ((with_reducible refine' st_v ?h ?_); (case h => exact rfl)) | with_reducible refine st_n ?_ | with_reducible refine st_cons ?_ | with_reducible refine st_op ?_ | with_reducible refine st_un ?_
  | with_reducible refine st_cb ?_ | with_reducible refine st_test ?_ | with_reducible refine st_call ?_ | with_reducible refine st_callK ?_ | with_reducible refine st_sl ?_ | with_reducible refine st_par ?_ | with_reducible refine st_tru ?_
  | with_reducible refine st_and ?_ | with_reducible refine st_or ?_ | with_reducible refine st_not ?_ | with_reducible refine st_B ?_ | with_reducible refine st_andV ?_ | with_reducible refine st_orV ?_ | with_reducible refine st_notV ?_ | with_reducible refine st_ifE ?_
  | with_reducible refine st_part ?_ | with_reducible refine st_nop ?_ | with_reducible refine st_sub ?_ | with_reducible refine st_chain ?_ | with_reducible refine st_bl ?_ | with_reducible refine st_in ?_ | with_reducible refine r_truB ?_
  | with_reducible refine st_nameG ?_ | with_reducible refine if_T ?_ | with_reducible refine if_F ?_ | with_reducible refine if_nT ?_ | with_reducible refine if_nF ?_
  | with_reducible refine r_add ?_ | with_reducible refine r_0 ?_ | with_reducible refine r_neg ?_ | with_reducible refine r_intI ?_ | with_reducible refine r_intB ?_ | with_reducible refine r_abs ?_ | with_reducible refine r_max2 ?_ | with_reducible refine r_min2 ?_ | with_reducible refine r_eqI ?_ | with_reducible refine r_neI ?_
  | with_reducible refine st_nxt ?_ | with_reducible refine st_cnt ?_ | with_reducible refine st_brk ?_ | with_reducible refine st_retn ?_
  | with_reducible refine st_lstN ?_ | with_reducible refine st_tupN ?_
  | with_reducible refine st_for ?_ | with_reducible refine st_lc ?_ | with_reducible refine st_lc2 ?_ | with_reducible refine st_rng1 ?_ | with_reducible refine st_rng2 ?_ | with_reducible refine st_rng3 ?_ | with_reducible refine st_itL ?_ | with_reducible refine st_itT ?_ | with_reducible refine st_rev ?_ | with_reducible refine st_enumE ?_ | with_reducible refine st_zip3 ?_ | with_reducible refine st_lstRg ?_ | with_reducible refine st_rg2 ?_ | with_reducible refine r_twoI ?_ | with_reducible refine st_bm ?_ | with_reducible refine st_bm0 ?_
  | ((with_reducible refine' st_aug ?h ?_); (case h => exact rfl)) | with_reducible refine r_augI ?_ | with_reducible refine r_eqB ?_
  | dsimp only))
section
variable {P : Program} {w : World} {K : PySem.W.Frag} {mg : Str → Option Value} {base : Heap} {A : Ad}

def sp_is_integer (K : PySem.W.Frag) : Sp := fun vs H Q _ => ∃ i, vs = [.int i] ∧ Q (.bl true) H
theorem ok_is_integer (T : Tx K mg A) : FnOk P w K mg base CX0 1 A.a_is_integer A.f_is_integer P_is_integer (sp_is_integer K) := by
  refine T.F_is_integer.ok sc_is_integer (fun vs H Q E h => ?_) (fun cdv A' outer s H vs Q E hr h => ?_)
  · obtain ⟨i, rfl, _⟩ := h
    rfl
  · obtain ⟨i, rfl, q⟩ := h
    refine ⟨_, (pss_one (ps_ret (pe_and (pe_callB (isi_K K) (by rfl) T.n_isinstance (by decide +kernel) (pa_cons (pv 0) (pa_cons (pe_bltn (v := .ty "int") (by rfl) T.n_int (by decide +kernel) rfl) pa_nil))) (pe_one (pe_not (pe_callB (isi_K K) (by rfl) T.n_isinstance (by decide +kernel) (pa_cons (pv 0) (pa_cons (pe_bltn (v := .ty "bool") (by rfl) T.n_bool (by decide +kernel) rfl) pa_nil)))))))), ?_⟩
    refine ⟨_, rfl, .int i, .ty "int", _, _, true, rfl, .ty _, .base (.int i), kit_ty (by decide +kernel), true, rfl, iteT ?_⟩
    exact ⟨_, rfl, .int i, .ty "bool", _, _, false, rfl, .ty _, .base (.int i), kit_ty (by decide +kernel), false, rfl, q⟩
def sp_is_letters (K : PySem.W.Frag) : Sp := fun vs H Q _ => ∃ l, vs = [.int l] ∧ 1 ≤ l ∧ l ≤ 4 ∧ Q (.bl true) H
theorem ok_is_letters (T : Tx K mg A) : FnOk P w K mg base CX0 2 A.a_is_letters A.f_is_letters P_is_letters (sp_is_letters K) := by
  refine T.F_is_letters.ok sc_is_letters (fun vs H Q E h => ?_) (fun cdv A' outer s H vs Q E hr h => ?_)
  · obtain ⟨l, rfl, _⟩ := h
    rfl
  · obtain ⟨l, rfl, h1, h4, q⟩ := h
    refine ⟨_, (pss_one (ps_ret (pe_and (pe_call (ok_is_integer T) (hr.mono (by decide)) (by rfl) T.g_is_integer T.F_is_integer.kp T.b_is_integer .nil pass0 (pa_cons (pv 0) pa_nil)) (pe_one (pe_chain op_le op_le pe_int (pv 0) (pe_glob (v := .int 4) (by rfl) T.c_MOST_LETTERS.choose_spec ⟨_, rfl⟩)))))), ?_⟩
    walk_at "go"
    refine ⟨l, rfl, true, rfl, ?_⟩
    walk_at "go"
    refine if_t h1 ?_
    walk_at "go"
    rw [decide_eq_true h4]
    exact q
def sp_is_step_of (K : PySem.W.Frag) : Sp := fun vs H Q _ => ∃ l i, vs = [.int l, .int i] ∧ Q (.bl (decide (i ≠ 0 ∧ -l ≤ i ∧ i ≤ l))) H
theorem ok_is_step_of (T : Tx K mg A) : FnOk P w K mg base CX0 2 A.a_is_step_of A.f_is_step_of P_is_step_of (sp_is_step_of K) := by
  refine T.F_is_step_of.ok sc_is_step_of (fun vs H Q E h => ?_) (fun cdv A' outer s H vs Q E hr h => ?_)
  · obtain ⟨l, i, rfl, _⟩ := h
    rfl
  · obtain ⟨l, i, rfl, q⟩ := h
    refine ⟨_, (pss_one (ps_ret (pe_and (pe_call (ok_is_integer T) (hr.mono (by decide)) (by rfl) T.g_is_integer T.F_is_integer.kp T.b_is_integer .nil pass0 (pa_cons (pv 1) pa_nil)) (pe_and (pe_cmpR (op_neK K hr.units) (pv 1) pe_int (nomark _)) (pe_one (pe_chain op_le op_le (pe_un un_neg (pv 0)) (pv 1) (pv 0))))))), ?_⟩
    refine ⟨_, rfl, i, rfl, true, rfl, iteT ⟨_, rfl, r_neI ⟨_, rfl, ?_⟩⟩⟩
    by_cases h0 : i = 0
    · rw [show (!decide (i = 0)) = false by rw [h0]; rfl]
      refine iteF ?_
      rw [decide_eq_false (by omega)] at q
      exact q
    · rw [show (!decide (i = 0)) = true by rw [decide_eq_false h0]; rfl]
      refine iteT ⟨_, rfl, _, rfl, _, rfl, _, _, rfl, rfl, _, rfl, ?_⟩
      by_cases h1 : -l ≤ i
      · rw [decide_eq_true h1]
        refine iteT ⟨_, rfl, _, _, rfl, rfl, ?_⟩
        have e : decide (i ≤ l) = decide (i ≠ 0 ∧ -l ≤ i ∧ i ≤ l) := decide_eq_decide.mpr ⟨fun z => ⟨h0, h1, z⟩, fun z => z.2.2⟩
        show Q (.bl (decide (i ≤ l))) H
        rw [e]
        exact q
      · rw [decide_eq_false h1]
        refine iteF ?_
        rw [decide_eq_false (by omega)] at q
        exact q
def sp_is_walk_of (K : PySem.W.Frag) : Sp := fun vs H Q _ => ∃ l a ns, vs = [.int l, .ref a] ∧ IT K H a ns ∧ ns.length ≤ 5000 ∧ Stp l ns ∧ ∀ H1, Ex H H1 → Q (.bl true) H1
theorem ok_is_walk_of (T : Tx K mg A) : FnOk P w K mg base CX0 3 A.a_is_walk_of A.f_is_walk_of P_is_walk_of (sp_is_walk_of K) := by
  refine T.F_is_walk_of.ok sc_is_walk_of (fun vs H Q E h => ?_) (fun cdv A' outer s H vs Q E hr h => ?_)
  · obtain ⟨l, a, ns, rfl, _⟩ := h
    rfl
  · obtain ⟨l, a, ns, rfl, ht, hz, hs, q⟩ := h
    refine ⟨_, (pss_one (ps_ret (pe_and (pe_callB (isi_K K) (by rfl) T.n_isinstance (by decide +kernel) (pa_cons (pv 1) (pa_cons (pe_bltn (v := .ty "tuple") (by rfl) T.n_tuple (by decide +kernel) rfl) pa_nil))) (pe_one (pe_callB (all_K K rfl) (by rfl) T.n_all (by decide +kernel) (pa_cons (pe_lc (own := [("step", 2)]) rfl sc_is_walk_of.nd (pi_tupK K (pv 1)) (blkOk_by (own := [("step", 2)]) (N := N_is_walk_of) (sc := defScope s_is_walk_of) (by decide +kernel)) (fun _ _ _ _ _ => (pg_name (i := 2) sc_is_walk_of.nd rfl (Or.inl rfl))) (fun _ _ _ _ _ => pts_nil) (fun _ _ _ _ _ => (pe_call (ok_is_step_of T) (hr.mono (by decide)) (by rfl) T.g_is_step_of T.F_is_step_of.kp T.b_is_step_of .nil pass0 (pa_cons (pv 0) (pa_cons (pv 2) pa_nil))))) pa_nil)))))), ?_⟩
    refine ⟨_, rfl, .ref a, .ty "tuple", _, _, true, rfl, .ty _, ty_t ht, kit_ty (by decide +kernel), true, rfl, iteT ?_⟩
    refine st_cb (st_cons (cm_tup (ys := (ns.map fun _ => true).map V.bl) (xs := ns.map V.int) (fun R r => ⟨_, rfl, r a H (Ex.refl H) ht⟩) (by simp) (by simp; omega) (fun _ => rfl) (fun i x y H1 hx hy e1 Q' k => ?_) (fun D H1 hD e1 h1 => ?_)))
    · rw [List.getElem?_map] at hx
      rw [List.getElem?_map, List.getElem?_map] at hy
      cases hn : ns[i]? with
      | none => rw [hn] at hx; cases hx
      | some z =>
        rw [hn] at hx hy
        cases hx
        cases hy
        refine ⟨_, rfl, _, rfl, l, z, rfl, ?_⟩
        rw [decide_eq_true (hs z (List.mem_of_getElem? hn))]
        exact k H1 (Ex.refl H1)
    · refine ⟨D, _, rfl, l_of h1, ?_⟩
      have e : ((ns.map fun _ => true).all id) = true := by simp
      show Q (.bl ((ns.map fun _ => true).all id)) H1
      rw [e]
      exact q H1 e1
def sp_check_letters (K : PySem.W.Frag) : Sp := fun vs H Q _ => ∃ l, vs = [.int l] ∧ 1 ≤ l ∧ l ≤ 4 ∧ Q .non H
theorem ok_check_letters (T : Tx K mg A) : FnOk P w K mg base CX0 3 A.a_check_letters A.f_check_letters P_check_letters (sp_check_letters K) := by
  refine T.F_check_letters.ok sc_check_letters (fun vs H Q E h => ?_) (fun cdv A' outer s H vs Q E hr h => ?_)
  · obtain ⟨l, rfl, _⟩ := h
    rfl
  · obtain ⟨l, rfl, h1, h4, q⟩ := h
    refine ⟨_, (pss_one (ps_if (pt_not (pt_truK K (pe_call (ok_is_letters T) (hr.mono (by decide)) (by rfl) T.g_is_letters T.F_is_letters.kp T.b_is_letters .nil pass0 (pa_cons (pv 0) pa_nil)))) (pss_one ps_never) pss_nil)), ?_⟩
    walk_at "go"
    refine ⟨l, rfl, h1, h4, r_truB (if_nT ?_)⟩
    exact q
def sp_check_walk (K : PySem.W.Frag) : Sp := fun vs H Q _ => ∃ l a ns, vs = [.int l, .ref a] ∧ IT K H a ns ∧ ns.length ≤ 5000 ∧ Stp l ns ∧ ∀ H1, Ex H H1 → Q .non H1
theorem ok_check_walk (T : Tx K mg A) : FnOk P w K mg base CX0 4 A.a_check_walk A.f_check_walk P_check_walk (sp_check_walk K) := by
  refine T.F_check_walk.ok sc_check_walk (fun vs H Q E h => ?_) (fun cdv A' outer s H vs Q E hr h => ?_)
  · obtain ⟨l, a, ns, rfl, _⟩ := h
    rfl
  · obtain ⟨l, a, ns, rfl, ht, hz, hs, q⟩ := h
    refine ⟨_, (pss_one (ps_if (pt_not (pt_truK K (pe_call (ok_is_walk_of T) (hr.mono (by decide)) (by rfl) T.g_is_walk_of T.F_is_walk_of.kp T.b_is_walk_of .nil pass0 (pa_cons (pv 0) (pa_cons (pv 1) pa_nil))))) (pss_one ps_never) pss_nil)), ?_⟩
    refine ⟨_, rfl, _, rfl, l, a, ns, rfl, ht, hz, hs, fun H1 e1 => ⟨true, rfl, ?_⟩⟩
    exact iteF (q H1 e1)
def sp_straightened (K : PySem.W.Frag) : Sp := fun vs H Q _ => ∃ a ns, vs = [.ref a] ∧ IT K H a ns ∧ ns.length ≤ 5000 ∧ ∀ p H1, Ex H H1 → IT K H1 p (Fg.rd ns) → Q (.ref p) H1
theorem ok_straightened (T : Tx K mg A) : FnOk P w K mg base CX0 1 A.a_straightened A.f_straightened P_straightened (sp_straightened K) := by
  refine T.F_straightened.ok sc_straightened (fun vs H Q E h => ?_) (fun cdv A' outer s H vs Q E hr h => ?_)
  · obtain ⟨a, ns, rfl, _⟩ := h
    rfl
  · obtain ⟨a, ns, rfl, ht, hz, q⟩ := h
    refine ⟨_, (pss_cons (ps_set (i := 1) sc_straightened.nd rfl (Or.inl rfl) (pe_lst pa_nil))
      (pss_cons (ps_for PassesOwn.never rfl (pi_tupK K (pv 0)) (pg_name (i := 2) sc_straightened.nd rfl (Or.inl rfl)) (pss_one (ps_if (PW.pt (pw_and (pt_truK K (pv 1)) (pw_and1 (pt_cmpR (op_eqK K hr.units) (pe_ix (ix_K K) (pv 1) (pe_un un_neg pe_int) (fun _ _ => rfl)) (pe_un un_neg (pv 2)) (nomark _))))) (pss_one (ps_expr (pe_bm0U K PySem.F.plainAttrs_list PySem.F.slot_list_pop PySem.F.type_list_pop mt_pop (pv 1)))) (pss_one (ps_expr (pe_bmU K PySem.F.plainAttrs_list PySem.F.slot_list_append PySem.F.type_list_append mt_append (pv 1) (pa_cons (pv 2) pa_nil)))))))
      (pss_one (ps_ret (pe_callTy (tuple_K K) (by rfl) T.n_tuple (by decide +kernel) (pa_cons (pv 1) pa_nil)))))), ?_⟩
    refine st_seq (st_set (st_nil fun l H1 hl e1 h1 => ?_))
    refine ⟨_, rfl, a, rfl, ⟨_, ex_t e1 ht⟩, for_tup (K := K) (a := a) (xs := ns.map V.int) (fun i σ H' => ∃ v, σ = [some (.ref a), some (.ref l), v] ∧ Ex H H' ∧ H' l = some (.lst ((Fg.rd (ns.take i)).map V.int)))
      ⟨none, rfl, e1, h1⟩ (fun i σ H' _ p => ex_t p.choose_spec.2.1 ht) (fun i x σ H' hx p => ?_) (fun σ H' p => ?_)⟩
    · obtain ⟨v, rfl, e2, h2⟩ := p
      rw [List.getElem?_map] at hx
      cases hn : ns[i]? with
      | none => rw [hn] at hx; cases hx
      | some z =>
        rw [hn] at hx
        cases hx
        have hi := (List.getElem?_eq_some_iff.mp hn).1
        have step : Fg.rd (ns.take (i + 1)) = (Fg.stp (Fg.rd (ns.take i)).reverse z).reverse := by rw [take_snoc hn, Fg.rd_snoc]
        have hlen : (Fg.rd (ns.take i)).length ≤ 5000 := Nat.le_trans (Fg.rd_len _) (by rw [List.length_take]; omega)
        generalize hq : Fg.rd (ns.take i) = q at h2 step hlen
        refine ⟨_, rfl, _, .inl ⟨_, l_of h2, rfl⟩, ?_⟩
        rcases List.eq_nil_or_concat q with e | ⟨r, y, e⟩
        · subst e
          refine iteF (iteF ?_)
          rw [show Fg.rd (ns.take (i + 1)) = [z] from step]
          exact ⟨_, rfl, .inl ⟨rfl, _, l_of h2⟩, _, rfl, l, _, _, rfl, rfl, h2, sz_lt (by simp), _, rfl, Ex.mut e2 hl, upd_same⟩
        · rw [List.concat_eq_append] at e
          subst e
          have e3 : (!((r ++ [y]).map V.int).isEmpty) = true := by simp
          rw [e3]
          refine iteT ⟨_, rfl, 1, rfl, .inl ⟨l, _, -1, .int y, rfl, rfl, l_of h2, at_last (by simp), _, rfl, z, rfl, r_eqI ⟨_, rfl, ?_⟩⟩⟩
          by_cases hy : y = -z
          · rw [decide_eq_true hy]
            have e4 : Fg.rd (ns.take (i + 1)) = r := by
              rw [step, List.reverse_append]
              show (if y = -z then r.reverse else z :: y :: r.reverse).reverse = r
              rw [if_pos hy, List.reverse_reverse]
            refine iteT ⟨_, rfl, .inl ⟨rfl, _, l_of h2⟩, l, _, .int y, rfl, rfl, h2, ?_, _, rfl, Ex.mut e2 hl, ?_⟩
            · rw [List.length_map, List.length_append, List.map_append]
              simp
            · rw [upd_same, e4, List.map_append]
              simp
          · rw [decide_eq_false hy]
            have e4 : Fg.rd (ns.take (i + 1)) = (r ++ [y]) ++ [z] := by
              rw [step, List.reverse_append]
              show (if y = -z then r.reverse else z :: y :: r.reverse).reverse = r ++ [y] ++ [z]
              rw [if_neg hy, List.reverse_cons, List.reverse_cons, List.reverse_reverse]
            refine iteF ⟨_, rfl, .inl ⟨rfl, _, l_of h2⟩, _, rfl, l, _, _, rfl, rfl, h2, sz_lt (by rw [List.length_map]; omega), _, rfl, Ex.mut e2 hl, ?_⟩
            rw [upd_same, e4, List.map_append (l₁ := r ++ [y])]
            rfl
    · obtain ⟨v, rfl, e2, h2⟩ := p
      rw [List.length_map, List.take_length] at h2
      exact ⟨_, rfl, r_tuL (l_of h2) fun p H3 _ e3 h3 => q p H3 (e2.trans e3) h3⟩
def sp_steps_of (K : PySem.W.Frag) : Sp := fun vs H Q _ => ∃ L : Nat, vs = [.int L] ∧ L ≤ 4 ∧ ∀ p H1, H p = none → Ex H H1 → H1 p = some (.lst ((Od.steps L).map V.int)) → Q (.ref p) H1
theorem ok_steps_of (T : Tx K mg A) : FnOk P w K mg base CX0 1 A.a_steps_of A.f_steps_of P_steps_of (sp_steps_of K) := by
  refine T.F_steps_of.ok sc_steps_of (fun vs H Q E h => ?_) (fun cdv A' outer s H vs Q E hr h => ?_)
  · obtain ⟨L, rfl, _⟩ := h
    rfl
  · obtain ⟨L, rfl, h4, q⟩ := h
    refine ⟨_, (pss_one (ps_ret (pe_lc2 (own := [("letter", 1), ("step", 2)]) (vs1 := [2]) rfl sc_steps_of.nd (pi_range2 (by rfl) T.n_range (pa_cons pe_int (pa_cons (pe_op (op_addK K) (pv 0) pe_int) pa_nil))) (blkOk_by (own := [("letter", 1), ("step", 2)]) (N := N_steps_of) (sc := defScope s_steps_of) (by decide +kernel)) (by decide) (fun _ _ _ _ _ => (pg_name (i := 1) sc_steps_of.nd rfl (Or.inl rfl))) (fun _ _ _ _ _ => pts_nil) (fun _ _ _ _ _ => (pi_tupK K (pe_tup (pa_cons (pv 1) (pa_cons (pe_un un_neg (pv 1)) pa_nil))))) (fun _ _ _ _ _ => (pg_name (i := 2) sc_steps_of.nd rfl (Or.inl rfl))) (fun _ _ _ _ _ => pts_nil) (fun _ _ _ _ _ => (pv 2))))), ?_⟩
    walk_at "go"
    have fl : ∀ i, (flat (fun i => [V.int (1 + (i : Int)), V.int (-(1 + (i : Int)))]) i) = (Od.steps i).map V.int := fun i => by
      unfold flat Od.steps
      rw [List.map_flatMap]
      congr 1
      funext k
      show [V.int (1 + (k : Int)), V.int (-(1 + (k : Int)))] = [V.int ((k : Int) + 1), V.int (-((k : Int) + 1))]
      rw [Int.add_comm]
    refine r_rng2 (by omega) (r_lc2R (K := K) (m := ((L : Int) + 1 - 1).toNat) (lo := 1) (fun i => [V.int (1 + (i : Int)), V.int (-(1 + (i : Int)))]) (fun i hi => by rw [fl, List.length_map, Od.steps_len]; omega) (fun i _ => by simp) (fun _ => rfl) (fun _ _ => rfl) (fun i H1 R hi e k => ?_) (fun i y H1 Q' hi hy e k => ?_) fun p H1 hp e h => ?_)
    · walk_at "go"
      refine r_newT (by simp) fun a H2 _ e2 h2 => ?_
      exact r_itT (t_of h2) (k a H2 e2 (t_of h2))
    · walk_at "go"
      exact k H1 (Ex.refl H1)
    · rw [fl] at h
      have e2 : ((L : Int) + 1 - 1).toNat = L := by omega
      rw [e2] at h
      exact q p H1 hp e h
def sp_steps_behind (K : PySem.W.Frag) : Sp := fun vs H Q _ => ∃ (L : Nat) (a : Addr) (w : List Int), vs = [.int L, .ref a] ∧ L ≤ 4 ∧ (IL K H a w ∨ IT K H a w) ∧ ∀ p H1, H p = none → Ex H H1 → H1 p = some (.lst ((Od.bh L (Od.lst none w)).map V.int)) → Q (.ref p) H1
theorem ok_steps_behind (T : Tx K mg A) : FnOk P w K mg base CX0 2 A.a_steps_behind A.f_steps_behind P_steps_behind (sp_steps_behind K) := by
  refine T.F_steps_behind.ok sc_steps_behind (fun vs H Q E h => ?_) (fun cdv A' outer s H vs Q E hr h => ?_)
  · obtain ⟨L, a, w, rfl, _⟩ := h
    rfl
  · obtain ⟨L, a, ws, rfl, h4, ha, q⟩ := h
    refine ⟨_, (pss_one (ps_ret (pe_lc (own := [("step", 2)]) rfl sc_steps_behind.nd (pi_listK K (pe_call (ok_steps_of T) (hr.mono (by decide)) (by rfl) T.g_steps_of T.F_steps_of.kp T.b_steps_of .nil pass0 (pa_cons (pv 0) pa_nil))) (blkOk_by (own := [("step", 2)]) (N := N_steps_behind) (sc := defScope s_steps_behind) (by decide +kernel)) (fun _ _ _ _ _ => (pg_name (i := 2) sc_steps_behind.nd rfl (Or.inl rfl))) (fun _ _ _ _ _ => (pts_one (PW.pt (pw_or (pt_not (pt_truK K (pv 1))) (pw_or1 (pt_cmpR (op_neK K hr.units) (pv 2) (pe_un un_neg (pe_ix (ix_K K) (pv 1) (pe_un un_neg pe_int) (fun _ _ => rfl))) (nomark _))))))) (fun _ _ _ _ _ => (pv 2))))), ?_⟩
    walk_at "go"
    refine ⟨L, rfl, h4, fun p H1 hp e1 h1 => ?_⟩
    walk_at "go"
    refine r_itL (l_of h1) (r_cmIF (K := K) (ns := Od.steps L) (l_of h1) (fun s => decide (Od.lst none ws ≠ some (-s))) V.int (by rw [Od.steps_len]; omega) (fun _ => rfl) (fun x hx H2 R e2 k => ?_) (fun x hx hf H2 Q' e2 k => ?_) fun p2 H2 hp2 e2 h2 => ?_)
    · walk_at "go"
      have e3 := e1.trans e2
      have tru : ∀ (R' : Bool → Prop), R' (!(ws.map V.int).isEmpty) → ∃ k, TruV K (.ref a) H2 k ∧ R' k := fun R' r => by
        rcases ha with h | h
        · exact r_truL (ex_l e3 h) r
        · exact r_truT (ex_t e3 h) r
      refine tru _ ?_
      rcases List.eq_nil_or_concat ws with e | ⟨u, y, e⟩
      · subst e
        walk_at "go"
        have := k H2 (Ex.refl H2)
        rw [Od.lst_nil, decide_eq_true (by simp)] at this
        exact this
      · rw [List.concat_eq_append] at e
        subst e
        rw [show (!((u ++ [y]).map V.int).isEmpty) = true by simp]
        walk_at "go"
        have ix : ∀ (Q'' : VK), Q'' (.int y) H2 → rIx K (.ref a) (.int (-1)) H2 Q'' := fun Q'' r => by
          rcases ha with h | h
          · exact r_ixL (ex_l e3 h) (at_last (by simp)) r
          · exact r_ixT (ex_t e3 h) (at_last (by simp)) r
        refine ix _ ?_
        walk_at "go"
        have := k H2 (Ex.refl H2)
        rw [Od.lst_snoc] at this
        have e4 : decide (some y ≠ some (-x)) = !decide (x = -y) := by
          by_cases h : x = -y
          · have h2 : ¬ (some y ≠ some (-x)) := by rw [h]; simp
            rw [decide_eq_true h, decide_eq_false h2]
            rfl
          · have h2 : some y ≠ some (-x) := fun z => h (by have := Option.some.inj z; omega)
            rw [decide_eq_false h, decide_eq_true h2]
            rfl
        rw [e4] at this
        exact this
    · walk_at "go"
      exact k H2 (Ex.refl H2)
    · exact q p2 H2 (fresh_back e1 hp2) (e1.trans e2) h2
def sp_many_of_lengths (K : PySem.W.Frag) : Sp := fun vs H Q _ => ∃ (L z : Nat), vs = [.int L, .int z] ∧ 1 ≤ L ∧ L ≤ 4 ∧ z ≤ 10000 ∧ ∀ p H1, H p = none → Ex H H1 → H1 p = some (.lst (((List.range (z + 1)).map fun i => ((Od.tot L none i : Nat) : Int)).map V.int)) → Q (.ref p) H1
theorem ok_many_of_lengths (T : Tx K mg A) : FnOk P w K mg base CX0 1 A.a_many_of_lengths A.f_many_of_lengths P_many_of_lengths (sp_many_of_lengths K) := by
  refine T.F_many_of_lengths.ok sc_many_of_lengths (fun vs H Q E h => ?_) (fun cdv A' outer s H vs Q E hr h => ?_)
  · obtain ⟨L, z, rfl, _⟩ := h
    rfl
  · obtain ⟨L, z, rfl, h1L, h4, hz, q⟩ := h
    refine ⟨_, (pss_cons (ps_set (i := 2) sc_many_of_lengths.nd rfl (Or.inl rfl) (pe_lst (pa_cons pe_int pa_nil)))
      (pss_cons (ps_for PassesOwn.never rfl (pi_range1 (by rfl) T.n_range (pa_cons (pv 1) pa_nil)) (pg_name (i := 3) sc_many_of_lengths.nd rfl (Or.inl rfl)) (pss_one (ps_expr (pe_bmU K PySem.F.plainAttrs_list PySem.F.slot_list_append PySem.F.type_list_append mt_append (pv 2) (pa_cons (pe_op (op_mulK K) (pe_ix (ix_K K) (pv 2) (pe_un un_neg pe_int) (fun _ _ => rfl)) (pe_cutE (pe_ifExp (pt_cmpR (op_eqK K hr.units) (pv 3) pe_int (nomark _)) (pe_op (op_mulK K) pe_int (pv 0)) (pe_op op_sub (pe_op (op_mulK K) pe_int (pv 0)) pe_int)))) pa_nil)))))
      (pss_one (ps_ret (pv 2))))), ?_⟩
    walk_at "go"
    refine r_newL (by simp) fun c H1 hc e1 h1 => ?_
    walk_at "go"
    refine r_rng1 (by omega) (by omega) (r_forR (m := (z : Int).toNat) (fun i σ' H' => ∃ v, Ex H H' ∧ H' c = some (.lst (((List.range (i + 1)).map fun i => ((Od.tot L none i : Nat) : Int)).map V.int)) ∧ σ' = [some (.int L), some (.int z), some (.ref c), v]) ⟨none, e1, h1, rfl⟩ ?_ ?_)
    · rintro i σ' H2 hi ⟨v, e2, h2, rfl⟩
      walk_at "go"
      refine r_app (l_of h2) ?_
      walk_at "go"
      refine r_ixL (l_of h2) (at_last (x := ((Od.tot L none i : Nat) : Int)) (by rw [List.range_succ, List.map_append]; simp)) ?_
      walk_at "go"
      refine st_cutE (fun x H' => H2 = H' ∧ x = .int ((if i = 0 then 2 * L else 2 * L - 1 : Nat) : Int)) ?_ ?_
      · walk_at "go"
        refine if_2 (fun h0 => ?_) fun h0 => ?_
        · walk_at "go"
          refine r_mul (.inl ⟨by decide, by decide⟩) ⟨rfl, ?_⟩
          rw [if_pos (by omega)]
          rfl
        · walk_at "go"
          refine r_mul (.inl ⟨by decide, by decide⟩) ?_
          walk_at "go"
          refine ⟨rfl, ?_⟩
          rw [if_neg (by omega)]
          show V.int (2 * (L : Int) - 1) = V.int ((2 * L - 1 : Nat) : Int)
          congr 1
          omega
      · rintro x H3 ⟨rfl, rfl⟩
        walk_at "go"
        refine r_mul (.inr ⟨by omega, by split <;> omega⟩) ?_
        walk_at "go"
        refine r_appd h2 (by simp; omega) fun H4 e4 h5 => ?_
        refine ⟨_, fun b o hb => e4 b o (e2 b o hb) (ne_of_none hb hc), ?_, rfl⟩
        rw [h5, List.range_succ (n := i + 1), List.map_append, List.map_append]
        have e5 : Od.tot L none (i + 1) = Od.tot L none i * (if i = 0 then 2 * L else 2 * L - 1) := by
          cases i with
          | zero => rw [Od.tot_none, Od.tot]; simp
          | succ i => rw [Od.tot_none, Od.tot_none, if_neg (by omega), Nat.pow_succ]; simp only [Nat.mul_assoc]
        have e6 : ((Od.tot L none (i + 1) : Nat) : Int) = ((Od.tot L none i : Nat) : Int) * ((if i = 0 then 2 * L else 2 * L - 1 : Nat) : Int) := by rw [e5, Int.natCast_mul]
        show some (HO.lst (_ ++ [V.int _])) = some (HO.lst (_ ++ [V.int ((Od.tot L none (i + 1) : Nat) : Int)]))
        rw [e6]
    · rintro σ' H2 ⟨v, e2, h2, rfl⟩
      walk_at "go"
      exact q c H2 hc e2 h2
end
end Lw
namespace Lw
open PySem PySem.Spec PyProof.Rows L2 Evl

local macro_rules | `(tactic| walk_at "go") => `(tactic| repeat (first
  | with_reducible refine st_seq ?_ | with_reducible refine st_set ?_ | with_reducible refine st_asg ?_ | with_reducible refine st_ret ?_ | with_reducible refine st_drop ?_ | with_reducible refine st_if ?_
  | with_reducible refine st_c ?_ | ((with_reducible refine' st_v ?h ?_); (case h => exact rfl)) | with_reducible refine st_n ?_ | with_reducible refine st_cons ?_ | with_reducible refine st_op ?_ | with_reducible refine st_un ?_
  | with_reducible refine st_cb ?_ | with_reducible refine st_test ?_ | with_reducible refine st_call ?_ | with_reducible refine st_callK ?_ | with_reducible refine st_sl ?_ | with_reducible refine st_par ?_ | with_reducible refine st_tru ?_
  | with_reducible refine st_and ?_ | with_reducible refine st_or ?_ | with_reducible refine st_not ?_ | with_reducible refine st_B ?_ | with_reducible refine st_andV ?_ | with_reducible refine st_orV ?_ | with_reducible refine st_notV ?_ | with_reducible refine st_ifE ?_
  | with_reducible refine st_part ?_ | with_reducible refine st_nop ?_ | with_reducible refine st_sub ?_ | with_reducible refine st_chain ?_ | with_reducible refine st_bl ?_ | with_reducible refine st_in ?_ | with_reducible refine r_truB ?_
  | with_reducible refine st_nameG ?_ | with_reducible refine if_T ?_ | with_reducible refine if_F ?_ | with_reducible refine if_nT ?_ | with_reducible refine if_nF ?_
  | with_reducible refine r_add ?_ | with_reducible refine r_0 ?_ | with_reducible refine r_neg ?_ | with_reducible refine r_intI ?_ | with_reducible refine r_intB ?_ | with_reducible refine r_abs ?_ | with_reducible refine r_max2 ?_ | with_reducible refine r_min2 ?_ | with_reducible refine r_eqI ?_ | with_reducible refine r_neI ?_
  | with_reducible refine st_nxt ?_ | with_reducible refine st_cnt ?_ | with_reducible refine st_brk ?_ | with_reducible refine st_retn ?_
  | with_reducible refine st_lstN ?_ | with_reducible refine st_tupN ?_
  | with_reducible refine st_for ?_ | with_reducible refine st_lc ?_ | with_reducible refine st_lc2 ?_ | with_reducible refine st_rng1 ?_ | with_reducible refine st_rng2 ?_ | with_reducible refine st_rng3 ?_ | with_reducible refine st_itL ?_ | with_reducible refine st_itT ?_ | with_reducible refine st_rev ?_ | with_reducible refine st_enumE ?_ | with_reducible refine st_zip3 ?_ | with_reducible refine st_lstRg ?_ | with_reducible refine st_rg2 ?_ | with_reducible refine r_twoI ?_ | with_reducible refine st_bm ?_ | with_reducible refine st_bm0 ?_
  | ((with_reducible refine' st_aug ?h ?_); (case h => exact rfl)) | with_reducible refine r_augI ?_ | with_reducible refine r_eqB ?_
  | dsimp only))
section
variable {P : Program} {w : World} {K : PySem.W.Frag} {mg : Str → Option Value} {base : Heap} {A : Ad}

def sp_check_least (K : PySem.W.Frag) : Sp := fun vs H Q _ => ∃ n m : Int, vs = [.int n, .int m] ∧ m ≤ n ∧ Q .non H
theorem ok_check_least (T : Tx K mg A) : FnOk P w K mg base CX0 2 A.a_check_least A.f_check_least P_check_least (sp_check_least K) := by
  refine T.F_check_least.ok sc_check_least (fun vs H Q E h => ?_) (fun cdv A' outer s H vs Q E hr h => ?_)
  · obtain ⟨n, m, rfl, _⟩ := h
    rfl
  · obtain ⟨n, m, rfl, hm, q⟩ := h
    refine ⟨_, (pss_one (ps_if (PW.pt (pw_or (pt_not (pt_truK K (pe_call (ok_is_integer T) (hr.mono (by decide)) (by rfl) T.g_is_integer T.F_is_integer.kp T.b_is_integer .nil pass0 (pa_cons (pv 0) pa_nil)))) (pw_or1 (pt_cmpR op_lt (pv 0) (pv 1) (nomark _))))) (pss_one ps_never) pss_nil)), ?_⟩
    walk_at "go"
    refine ⟨n, rfl, r_truB (if_nT ?_)⟩
    walk_at "go"
    refine if_f (by omega) ?_
    exact q
def sp_place_among_all (K : PySem.W.Frag) : Sp := fun vs H Q _ => ∃ (L : Nat) (a : Addr) (w : List Int), vs = [.int L, .ref a] ∧ 1 ≤ L ∧ L ≤ 4 ∧ IT K H a w ∧ Od.G L none w ∧ w.length ≤ 1000 ∧ ∀ H1, Ex H H1 → Q (.int ((Od.place L w : Nat) : Int)) H1
theorem ok_place_among_all (T : Tx K mg A) : FnOk P w K mg base CX0 3 A.a_place_among_all A.f_place_among_all P_place_among_all (sp_place_among_all K) := by
  refine T.F_place_among_all.ok sc_place_among_all (fun vs H Q E h => ?_) (fun cdv A' outer s H vs Q E hr h => ?_)
  · obtain ⟨L, a, w, rfl, _⟩ := h
    rfl
  · obtain ⟨L, a, w, rfl, h1L, h4, ha, g, zw, q⟩ := h
    refine ⟨_, (pss_cons (ps_set (i := 2) sc_place_among_all.nd rfl (Or.inl rfl) pe_int)
      (pss_cons (ps_for PassesOwn.never rfl (pi_enumE K skT (by rfl) T.n_enumerate (pa_cons (pv 1) pa_nil)) (pg_tupK K (by rfl) (pgs_cons (pg_name (i := 3) sc_place_among_all.nd rfl (Or.inl rfl)) (pgs_cons (pg_name (i := 4) sc_place_among_all.nd rfl (Or.inl rfl)) pgs_nil))) (pss_cons (ps_set (i := 5) sc_place_among_all.nd rfl (Or.inl rfl) (pe_call (ok_steps_behind T) (hr.mono (by decide)) (by rfl) T.g_steps_behind T.F_steps_behind.kp T.b_steps_behind .nil pass0 (pa_cons (pv 0) (pa_cons (pe_slice (sl_K K) (pv 1) po_none (po_some (pv 3))) pa_nil))))
      (pss_one (ps_set (i := 2) sc_place_among_all.nd rfl (Or.inl rfl) (pe_op (op_addK K) (pe_op (op_mulK K) (pv 2) (pe_callB (len_K K) (by rfl) T.n_len (by decide +kernel) (pa_cons (pv 5) pa_nil))) (pe_bmU K PySem.F.plainAttrs_list PySem.F.slot_list_index PySem.F.type_list_index (mt_indexK K) (pv 5) (pa_cons (pv 4) pa_nil)))))))
      (pss_one (ps_ret (pe_op (op_addK K) (pv 2) (pe_callB (sum_K K rfl) (by rfl) T.n_sum (by decide +kernel) (pa_cons (pe_slice (sl_K K) (pe_call (ok_many_of_lengths T) (hr.mono (by decide)) (by rfl) T.g_many_of_lengths T.F_many_of_lengths.kp T.b_many_of_lengths .nil pass0 (pa_cons (pv 0) (pa_cons (pe_callB (len_K K) (by rfl) T.n_len (by decide +kernel) (pa_cons (pv 1) pa_nil)) pa_nil))) po_none (po_some (pe_un un_neg pe_int))) pa_nil))))))), ?_⟩
    walk_at "go"
    refine r_enumE (k := skT) ha (r_forE (k := skT) (xs := w.map V.int) (fun i σ' H' => ∃ v3 v4 v5, Ex H H' ∧ σ' = [some (.int L), some (.ref a), some (.int ((Od.V L none (w.take i) : Nat) : Int)), v3, v4, v5]) ⟨none, none, none, Ex.refl H, rfl⟩ (fun i σ' H' _ p => ?_) (fun i x σ' H' H1 hx p e1 => ?_) (fun σ' H' p => ?_))
    · obtain ⟨_, _, _, e, _⟩ := p
      exact ex_t e ha
    · obtain ⟨v3, v4, v5, e, rfl⟩ := p
      rw [List.getElem?_map] at hx
      cases hn : w[i]? with
      | none => rw [hn] at hx; cases hx
      | some x1 =>
      rw [hn] at hx
      cases hx
      have e2 := e.trans e1
      walk_at "go"
      refine r_slT (ex_t e2 ha) fun c H2 e3 h3 => ?_
      rw [cut_to (by omega), show (0 + (i : Int)).toNat = i by omega] at h3
      walk_at "go"
      refine ⟨L, c, _, rfl, h4, .inr h3, fun p H3 _ e4 h5 => ?_⟩
      have sm := Od.bh_small h4 (Od.lst none (w.take i))
      walk_at "go"
      refine r_lenL (l_of h5) ?_
      rw [List.length_map]
      refine r_mul (.inr ⟨by omega, by omega⟩) ?_
      walk_at "go"
      refine r_met (l_of h5) ?_
      walk_at "go"
      refine r_index (l_of h5) (Od.G_at g hn) ?_
      walk_at "go"
      have ev : ((Od.V L none (w.take i) : Nat) : Int) * (((Od.bh L (Od.lst none (w.take i))).length : Nat) : Int) + (((Od.bh L (Od.lst none (w.take i))).idxOf x1 : Nat) : Int) = ((Od.V L none (w.take (i + 1)) : Nat) : Int) := by
        rw [Od.V_at g hn, Int.natCast_add, Int.natCast_mul]
      rw [ev]
      exact ⟨_, _, _, (e2.trans e3).trans e4, rfl⟩
    · obtain ⟨v3, v4, v5, e, rfl⟩ := p
      rw [List.length_map, List.take_length]
      walk_at "go"
      refine r_lenT (ex_t e ha) ?_
      rw [List.length_map]
      walk_at "go"
      refine ⟨L, w.length, rfl, h1L, h4, by omega, fun p H1 _ e1 h1 => ?_⟩
      walk_at "go"
      refine r_slL (l_of h1) fun p2 H2 _ e2 h2 => ?_
      rw [List.range_succ, List.map_append, List.map_append] at h2
      have h3 : H2 p2 = some (.lst (((List.range w.length).map fun i => ((Od.tot L none i : Nat) : Int)).map V.int)) := by
        rw [h2]
        exact congrArg (fun z => some (HO.lst z)) (cut_init _ _)
      walk_at "go"
      refine r_sum (l_of h3) ?_
      rw [Od.S_sum]
      walk_at "go"
      have := q H2 ((e.trans e1).trans e2)
      unfold Od.place at this
      rw [Int.natCast_add, Int.add_comm] at this
      exact this
def sp_walk_at_place (K : PySem.W.Frag) : Sp := fun vs H Q _ => ∃ (L n : Nat), vs = [.int L, .int n] ∧ 1 ≤ L ∧ L ≤ 4 ∧ n < 2 ^ 2000 ∧ (∀ z, Od.S L z ≤ n → z ≤ 1000) ∧ ∀ p w H1, Ex H H1 → IT K H1 p w → Od.G L none w → Od.place L w = n → Q (.ref p) H1
theorem ok_walk_at_place (T : Tx K mg A) : FnOk P w K mg base CX0 3 A.a_walk_at_place A.f_walk_at_place P_walk_at_place (sp_walk_at_place K) := by
  refine T.F_walk_at_place.ok sc_walk_at_place (fun vs H Q E h => ?_) (fun cdv A' outer s H vs Q E hr h => ?_)
  · obtain ⟨L, n, rfl, _⟩ := h
    rfl
  · obtain ⟨L, n, rfl, h1L, h4, hn, hz, q⟩ := h
    refine ⟨_, (pss_cons (ps_asg (pe_tup (pa_cons pe_int (pa_cons pe_int pa_nil))) (pg_tupK K (by rfl) (pgs_cons (pg_name (i := 2) sc_walk_at_place.nd rfl (Or.inl rfl)) (pgs_cons (pg_name (i := 3) sc_walk_at_place.nd rfl (Or.inl rfl)) pgs_nil))))
      (pss_cons (ps_while PassesOwn.never (pt_cmpR op_ge (pv 1) (pv 3) (nomark _)) (pss_cons (ps_aug (i := 1) sc_walk_at_place.nd rfl (Or.inl rfl) (pv 3) ip_sub)
      (pss_cons (ps_aug (i := 3) sc_walk_at_place.nd rfl (Or.inl rfl) (pe_cutE (pe_ifExp (pt_cmpR (op_eqK K hr.units) (pv 2) pe_int (nomark _)) (pe_op (op_mulK K) pe_int (pv 0)) (pe_op op_sub (pe_op (op_mulK K) pe_int (pv 0)) pe_int))) ip_mul)
      (pss_one (ps_aug (i := 2) sc_walk_at_place.nd rfl (Or.inl rfl) pe_int ip_add)))))
      (pss_cons (ps_set (i := 4) sc_walk_at_place.nd rfl (Or.inl rfl) (pe_lst pa_nil))
      (pss_cons (ps_for PassesOwn.never rfl (pi_range1 (by rfl) T.n_range (pa_cons (pv 2) pa_nil)) (pg_name (i := 5) sc_walk_at_place.nd rfl (Or.inl rfl)) (pss_cons (ps_set (i := 6) sc_walk_at_place.nd rfl (Or.inl rfl) (pe_call (ok_steps_behind T) (hr.mono (by decide)) (by rfl) T.g_steps_behind T.F_steps_behind.kp T.b_steps_behind .nil pass0 (pa_cons (pv 0) (pa_cons (pv 4) pa_nil))))
      (pss_cons (ps_aug (i := 3) sc_walk_at_place.nd rfl (Or.inl rfl) (pe_callB (len_K K) (by rfl) T.n_len (by decide +kernel) (pa_cons (pv 6) pa_nil)) ip_fdiv)
      (pss_cons (ps_asg (pe_callB divmod_K (by rfl) T.n_divmod (by decide +kernel) (pa_cons (pv 1) (pa_cons (pv 3) pa_nil))) (pg_tupK K (by rfl) (pgs_cons (pg_name (i := 7) sc_walk_at_place.nd rfl (Or.inl rfl)) (pgs_cons (pg_name (i := 1) sc_walk_at_place.nd rfl (Or.inl rfl)) pgs_nil))))
      (pss_one (ps_expr (pe_bmU K PySem.F.plainAttrs_list PySem.F.slot_list_append PySem.F.type_list_append mt_append (pv 4) (pa_cons (pe_ix (ix_K K) (pv 6) (pv 7) (fun _ _ => rfl)) pa_nil))))))))
      (pss_one (ps_ret (pe_callTy (tuple_K K) (by rfl) T.n_tuple (by decide +kernel) (pa_cons (pv 4) pa_nil)))))))), ?_⟩
    walk_at "go"
    refine r_newT (by simp) fun t0 H0 _ e0 h0 => ?_
    walk_at "go"
    refine r_tup2 (t_of h0) ?_
    walk_at "go"
    refine st_while (fun m σ' H' => ∃ z, Od.S L z ≤ n ∧ m = n - Od.S L z ∧ H0 = H' ∧ σ' = [some (.int L), some (.int ((n - Od.S L z : Nat) : Int)), some (.int (z : Int)), some (.int ((Od.tot L none z : Nat) : Int)), none, none, none, none]) (n - 0) ⟨0, Nat.zero_le _, rfl, rfl, rfl⟩ ?_
    rintro m σ' _ ⟨z, hS, rfl, rfl, rfl⟩
    walk_at "go"
    refine if_2 (fun h0 => ?_) fun h0 => ?_
    · refine ⟨_, fun _ _ h => h, ?_⟩
      have tp := Od.tot_pos h1L z
      walk_at "go"
      refine st_cutE (fun x H' => H0 = H' ∧ x = .int ((if z = 0 then 2 * L else 2 * L - 1 : Nat) : Int)) ?_ ?_
      · walk_at "go"
        refine if_2 (fun h0 => ?_) fun h0 => ?_
        · walk_at "go"
          refine r_mul (.inl ⟨by decide, by decide⟩) ⟨rfl, ?_⟩
          rw [if_pos (by omega)]
          rfl
        · walk_at "go"
          refine r_mul (.inl ⟨by decide, by decide⟩) ?_
          walk_at "go"
          refine ⟨rfl, ?_⟩
          rw [if_neg (by omega)]
          show V.int (2 * (L : Int) - 1) = V.int ((2 * L - 1 : Nat) : Int)
          congr 1
          omega
      · rintro x _ ⟨rfl, rfl⟩
        walk_at "go"
        refine r_augM (.inr ⟨by omega, by split <;> omega⟩) ?_
        walk_at "go"
        have e1 : Od.S L (z + 1) = Od.S L z + Od.tot L none z := rfl
        refine ⟨n - Od.S L (z + 1), by omega, z + 1, by omega, rfl, rfl, ?_⟩
        rw [Od.tot_next, Int.natCast_mul]
        have e2 : ((n - Od.S L (z + 1) : Nat) : Int) = ((n - Od.S L z : Nat) : Int) - ((Od.tot L none z : Nat) : Int) := by omega
        rw [e2]
        rfl
    · walk_at "go"
      have hz1 := hz z hS
      have tS := Od.tot_S h4 z
      refine r_newL (by simp) fun c H1 hc0 e1' h1 => ?_
      have e1 := e0.trans e1'
      have hc : H c = none := fresh_back e0 hc0
      walk_at "go"
      have hr0 : n - Od.S L z < Od.tot L none z := by omega
      generalize hx : n - Od.S L z = x at hr0
      refine r_rng1 (by omega) (by omega) (r_forR (m := (z : Int).toNat) (fun i σ' H' => ∃ (u : List Int) (r : Nat) (v5 v6 v7 : Option V), Ex H H' ∧ H' c = some (.lst (u.map V.int)) ∧ u.length = i ∧ Od.G L none u ∧ r < Od.left L z i ∧ x = Od.V L none u * Od.left L z i + r ∧
        σ' = [some (.int L), some (.int (r : Int)), some (.int (z : Int)), some (.int ((Od.left L z i : Nat) : Int)), some (.ref c), v5, v6, v7]) ⟨[], x, none, none, none, e1, h1, rfl, trivial, hr0, by rw [Od.V, Nat.zero_mul, Nat.zero_add], rfl⟩ ?_ ?_)
      · rintro i σ' H2 hi ⟨u, r, v5, v6, v7, e2, h2, zu, gu, hr1, hx1, rfl⟩
        walk_at "go"
        refine ⟨L, c, u, rfl, h4, .inl (l_of h2), fun p H3 hp e3 h3 => ?_⟩
        have sm := Od.bh_small h4 (Od.lst none u)
        have ln := Od.left_next (show i < z by omega) gu zu
        have lp := Od.left_pos h1L z (i + 1)
        have ll := Od.left_le h1L (z := z) (i := i + 1)
        have lq := Od.left_pos h1L z i
        have bp : 0 < (Od.bh L (Od.lst none u)).length := by
          rcases Nat.eq_zero_or_pos (Od.bh L (Od.lst none u)).length with e | e
          · rw [e, Nat.zero_mul] at ln; omega
          · exact e
        have hlt : r / Od.left L z (i + 1) < (Od.bh L (Od.lst none u)).length := by
          rw [Nat.div_lt_iff_lt_mul lp, ← ln]
          exact hr1
        have hdv : Od.left L z i / (Od.bh L (Od.lst none u)).length = Od.left L z (i + 1) := by rw [ln, Nat.mul_div_cancel_left _ bp]
        walk_at "go"
        refine r_lenL (l_of h3) ?_
        rw [List.length_map]
        refine r_augM (wide_div (b := 4) (by omega) (by omega) (by decide) (by decide)) ?_
        walk_at "go"
        have e4 : ((Od.left L z i : Nat) : Int) / (((Od.bh L (Od.lst none u)).length : Nat) : Int) = ((Od.left L z (i + 1) : Nat) : Int) := by rw [← Int.natCast_ediv, hdv]
        rw [e4]
        refine r_divm (b := 2010) (by omega) ?_ (by decide) (by decide) fun t H4 _ e5 h5 => ?_
        · have e6 : (2 : Nat) ^ 2010 = 2 ^ 10 * 2 ^ 2000 := by rw [← Nat.pow_add]
          omega
        walk_at "go"
        refine r_tup2 (t_of h5) ?_
        walk_at "go"
        have h6 := e5 _ _ (e3 _ _ h2)
        refine r_app (l_of h6) ?_
        walk_at "go"
        have hc1 := List.getElem?_eq_getElem hlt
        have hm := List.getElem_mem hlt
        have hid := (Od.bh_nodup L (Od.lst none u)).idxOf_getElem _ hlt
        generalize (Od.bh L (Od.lst none u))[r / Od.left L z (i + 1)] = s1 at hc1 hm hid
        refine r_ixL (l_of (e5 _ _ h3)) (at_int (i := (r : Int) / ((Od.left L z (i + 1) : Nat) : Int)) (by rw [← Int.natCast_ediv]; omega) (by rw [← Int.natCast_ediv, Int.toNat_natCast]; exact hc1)) ?_
        walk_at "go"
        refine r_appd h6 (by rw [List.length_map]; omega) fun H5 e7 h7 => ?_
        have gu' : Od.G L none (u ++ [s1]) := Od.G_snoc.mpr ⟨gu, hm⟩
        refine ⟨u ++ [s1], r % Od.left L z (i + 1), _, _, _, fun b o hb => e7 b o (e5 b o (e3 b o (e2 b o hb))) (ne_of_none hb hc), by rw [h7, List.map_append]; rfl, by rw [List.length_append, zu]; rfl, gu', Nat.mod_lt _ lp, ?_, by rw [Int.natCast_emod]; rfl⟩
        rw [Od.V_snoc gu', hid, hx1, ln, Nat.add_mul, Nat.mul_assoc, Nat.add_assoc, Nat.mul_comm (r / _), Nat.div_add_mod]
      · rintro σ' H2 ⟨u, r, v5, v6, v7, e2, h2, zu, gu, hr1, hx1, rfl⟩
        walk_at "go"
        refine r_tupL (l_of h2) fun p H3 _ e3 h3 => ?_
        rw [show (z : Int).toNat = z by omega] at zu hr1 hx1
        rw [Od.left_end] at hr1 hx1
        refine q p u H3 (e2.trans e3) h3 gu ?_
        unfold Od.place
        rw [zu]
        omega
end
end Lw
namespace Lw
open PySem PySem.Spec PyProof.Rows L2 Evl

local macro_rules | `(tactic| walk_at "go") => `(tactic| repeat (first
  | with_reducible refine st_seq ?_ | with_reducible refine st_set ?_ | with_reducible refine st_asg ?_ | with_reducible refine st_ret ?_ | with_reducible refine st_drop ?_ | with_reducible refine st_if ?_
  | with_reducible refine st_c ?_ | ((with_reducible refine' st_v ?h ?_); (case h => exact rfl)) | with_reducible refine st_n ?_ | with_reducible refine st_cons ?_ | with_reducible refine st_op ?_ | with_reducible refine st_un ?_
  | with_reducible refine st_cb ?_ | with_reducible refine st_test ?_ | with_reducible refine st_call ?_ | with_reducible refine st_callK ?_ | with_reducible refine st_sl ?_ | with_reducible refine st_par ?_ | with_reducible refine st_tru ?_
  | with_reducible refine st_and ?_ | with_reducible refine st_or ?_ | with_reducible refine st_not ?_ | with_reducible refine st_B ?_ | with_reducible refine st_andV ?_ | with_reducible refine st_orV ?_ | with_reducible refine st_notV ?_ | with_reducible refine st_ifE ?_
  | with_reducible refine st_part ?_ | with_reducible refine st_nop ?_ | with_reducible refine st_sub ?_ | with_reducible refine st_chain ?_ | with_reducible refine st_bl ?_ | with_reducible refine st_in ?_ | with_reducible refine r_truB ?_
  | with_reducible refine st_nameG ?_ | with_reducible refine if_T ?_ | with_reducible refine if_F ?_ | with_reducible refine if_nT ?_ | with_reducible refine if_nF ?_
  | with_reducible refine r_add ?_ | with_reducible refine r_0 ?_ | with_reducible refine r_neg ?_ | with_reducible refine r_intI ?_ | with_reducible refine r_intB ?_ | with_reducible refine r_abs ?_ | with_reducible refine r_max2 ?_ | with_reducible refine r_min2 ?_ | with_reducible refine r_eqI ?_ | with_reducible refine r_neI ?_
  | with_reducible refine st_nxt ?_ | with_reducible refine st_cnt ?_ | with_reducible refine st_brk ?_ | with_reducible refine st_retn ?_
  | with_reducible refine st_lstN ?_ | with_reducible refine st_tupN ?_
  | with_reducible refine st_for ?_ | with_reducible refine st_lc ?_ | with_reducible refine st_lc2 ?_ | with_reducible refine st_rng1 ?_ | with_reducible refine st_rng2 ?_ | with_reducible refine st_rng3 ?_ | with_reducible refine st_itL ?_ | with_reducible refine st_itT ?_ | with_reducible refine st_rev ?_ | with_reducible refine st_enumE ?_ | with_reducible refine st_zip3 ?_ | with_reducible refine st_lstRg ?_ | with_reducible refine st_rg2 ?_ | with_reducible refine r_twoI ?_ | with_reducible refine st_bm ?_ | with_reducible refine st_bm0 ?_
  | ((with_reducible refine' st_aug ?h ?_); (case h => exact rfl)) | with_reducible refine r_augI ?_ | with_reducible refine r_eqB ?_
  | dsimp only))
section
variable {P : Program} {w : World} {K : PySem.W.Frag} {mg : Str → Option Value} {base : Heap} {A : Ad}

def sp_how_many (K : PySem.W.Frag) : Sp := fun vs H Q _ => ∃ (L z : Nat), vs = [.int L, .int z] ∧ 1 ≤ L ∧ L ≤ 4 ∧ z ≤ 10000 ∧ ∀ H1, Ex H H1 → Q (.int ((Od.tot L none z : Nat) : Int)) H1
theorem ok_how_many (T : Tx K mg A) : FnOk P w K mg base CX0 4 A.a_how_many A.f_how_many P_how_many (sp_how_many K) := by
  refine T.F_how_many.ok sc_how_many (fun vs H Q E h => ?_) (fun cdv A' outer s H vs Q E hr h => ?_)
  · obtain ⟨L, z, rfl, _⟩ := h
    rfl
  · obtain ⟨L, z, rfl, h1, h4, hz, q⟩ := h
    refine ⟨_, (pss_cons (ps_expr (pe_call (ok_check_letters T) (hr.mono (by decide)) (by rfl) T.g_check_letters T.F_check_letters.kp T.b_check_letters .nil pass0 (pa_cons (pv 0) pa_nil)))
      (pss_cons (ps_expr (pe_call (ok_check_least T) (hr.mono (by decide)) (by rfl) T.g_check_least T.F_check_least.kp T.b_check_least .nil pass0 (pa_cons (pv 1) (pa_cons pe_int pa_nil))))
      (pss_one (ps_ret (pe_ix (ix_K K) (pe_call (ok_many_of_lengths T) (hr.mono (by decide)) (by rfl) T.g_many_of_lengths T.F_many_of_lengths.kp T.b_many_of_lengths .nil pass0 (pa_cons (pv 0) (pa_cons (pv 1) pa_nil))) (pe_un un_neg pe_int) (fun _ _ => rfl)))))), ?_⟩
    walk_at "go"
    refine ⟨L, rfl, by omega, by omega, ?_⟩
    walk_at "go"
    refine ⟨z, 0, rfl, by omega, ?_⟩
    walk_at "go"
    refine ⟨L, z, rfl, h1, h4, hz, fun p H1 _ e1 h5 => ?_⟩
    walk_at "go"
    refine r_ixL (l_of h5) (at_last (x := ((Od.tot L none z : Nat) : Int)) (by rw [List.range_succ, List.map_append]; simp)) ?_
    exact q H1 e1
def sp_nth_walk (K : PySem.W.Frag) : Sp := sp_walk_at_place K
theorem ok_nth_walk (T : Tx K mg A) : FnOk P w K mg base CX0 4 A.a_nth_walk A.f_nth_walk P_nth_walk (sp_nth_walk K) := by
  refine T.F_nth_walk.ok sc_nth_walk (fun vs H Q E h => ?_) (fun cdv A' outer s H vs Q E hr h => ?_)
  · obtain ⟨L, n, rfl, _⟩ := h
    rfl
  · obtain ⟨L, n, rfl, h1, h4, hn, hz, q⟩ := h
    refine ⟨_, (pss_cons (ps_expr (pe_call (ok_check_letters T) (hr.mono (by decide)) (by rfl) T.g_check_letters T.F_check_letters.kp T.b_check_letters .nil pass0 (pa_cons (pv 0) pa_nil)))
      (pss_cons (ps_expr (pe_call (ok_check_least T) (hr.mono (by decide)) (by rfl) T.g_check_least T.F_check_least.kp T.b_check_least .nil pass0 (pa_cons (pv 1) (pa_cons pe_int pa_nil))))
      (pss_one (ps_ret (pe_call (ok_walk_at_place T) (hr.mono (by decide)) (by rfl) T.g_walk_at_place T.F_walk_at_place.kp T.b_walk_at_place .nil pass0 (pa_cons (pv 0) (pa_cons (pv 1) pa_nil))))))), ?_⟩
    walk_at "go"
    refine ⟨L, rfl, by omega, by omega, ?_⟩
    walk_at "go"
    refine ⟨n, 0, rfl, by omega, ?_⟩
    walk_at "go"
    exact ⟨L, n, rfl, h1, h4, hn, hz, q⟩
def sp_number_of (K : PySem.W.Frag) : Sp := fun vs H Q _ => ∃ (L : Nat) (a : Addr) (w : List Int), vs = [.int L, .ref a] ∧ 1 ≤ L ∧ L ≤ 4 ∧ IT K H a w ∧ Stp L w ∧ w.length ≤ 600 ∧ ∀ H1, Ex H H1 → Q (.int ((Od.place L (Fg.rd w) : Nat) : Int)) H1
theorem ok_number_of (T : Tx K mg A) : FnOk P w K mg base CX0 5 A.a_number_of A.f_number_of P_number_of (sp_number_of K) := by
  refine T.F_number_of.ok sc_number_of (fun vs H Q E h => ?_) (fun cdv A' outer s H vs Q E hr h => ?_)
  · obtain ⟨L, a, w, rfl, _⟩ := h
    rfl
  · obtain ⟨L, a, w, rfl, h1, h4, ha, sw, zw, q⟩ := h
    refine ⟨_, (pss_cons (ps_expr (pe_call (ok_check_letters T) (hr.mono (by decide)) (by rfl) T.g_check_letters T.F_check_letters.kp T.b_check_letters .nil pass0 (pa_cons (pv 0) pa_nil)))
      (pss_cons (ps_expr (pe_call (ok_check_walk T) (hr.mono (by decide)) (by rfl) T.g_check_walk T.F_check_walk.kp T.b_check_walk .nil pass0 (pa_cons (pv 0) (pa_cons (pv 1) pa_nil))))
      (pss_one (ps_ret (pe_call (ok_place_among_all T) (hr.mono (by decide)) (by rfl) T.g_place_among_all T.F_place_among_all.kp T.b_place_among_all .nil pass0 (pa_cons (pv 0) (pa_cons (pe_call (ok_straightened T) (hr.mono (by decide)) (by rfl) T.g_straightened T.F_straightened.kp T.b_straightened .nil pass0 (pa_cons (pv 1) pa_nil)) pa_nil))))))), ?_⟩
    walk_at "go"
    refine ⟨L, rfl, by omega, by omega, ?_⟩
    walk_at "go"
    refine ⟨L, a, w, rfl, ha, by omega, sw, fun H1 e1 => ?_⟩
    walk_at "go"
    refine ⟨a, w, rfl, ex_t e1 ha, by omega, fun p H2 e2 h2 => ?_⟩
    walk_at "go"
    refine ⟨L, p, _, rfl, h1, h4, h2, Od.G_of (fun x hx => sw x (Fg.mem_rd hx)) (Fg.str_rd w), Nat.le_trans (Fg.rd_len w) (by omega), fun H3 e3 => ?_⟩
    exact q H3 ((e1.trans e2).trans e3)
def sp_next_walk (K : PySem.W.Frag) : Sp := fun vs H Q _ => ∃ (L : Nat) (a : Addr) (w : List Int), vs = [.int L, .ref a] ∧ 1 ≤ L ∧ L ≤ 4 ∧ IT K H a w ∧ Stp L w ∧ w.length ≤ 600 ∧ ∀ p u H1, Ex H H1 → IT K H1 p u → Od.G L none u → Od.place L u = Od.place L (Fg.rd w) + 1 → Q (.ref p) H1
theorem ok_next_walk (T : Tx K mg A) : FnOk P w K mg base CX0 5 A.a_next_walk A.f_next_walk P_next_walk (sp_next_walk K) := by
  refine T.F_next_walk.ok sc_next_walk (fun vs H Q E h => ?_) (fun cdv A' outer s H vs Q E hr h => ?_)
  · obtain ⟨L, a, w, rfl, _⟩ := h
    rfl
  · obtain ⟨L, a, w, rfl, h1, h4, ha, sw, zw, q⟩ := h
    refine ⟨_, (pss_cons (ps_expr (pe_call (ok_check_letters T) (hr.mono (by decide)) (by rfl) T.g_check_letters T.F_check_letters.kp T.b_check_letters .nil pass0 (pa_cons (pv 0) pa_nil)))
      (pss_cons (ps_expr (pe_call (ok_check_walk T) (hr.mono (by decide)) (by rfl) T.g_check_walk T.F_check_walk.kp T.b_check_walk .nil pass0 (pa_cons (pv 0) (pa_cons (pv 1) pa_nil))))
      (pss_one (ps_ret (pe_call (ok_walk_at_place T) (hr.mono (by decide)) (by rfl) T.g_walk_at_place T.F_walk_at_place.kp T.b_walk_at_place .nil pass0 (pa_cons (pv 0) (pa_cons (pe_op (op_addK K) (pe_call (ok_place_among_all T) (hr.mono (by decide)) (by rfl) T.g_place_among_all T.F_place_among_all.kp T.b_place_among_all .nil pass0 (pa_cons (pv 0) (pa_cons (pe_call (ok_straightened T) (hr.mono (by decide)) (by rfl) T.g_straightened T.F_straightened.kp T.b_straightened .nil pass0 (pa_cons (pv 1) pa_nil)) pa_nil))) pe_int) pa_nil))))))), ?_⟩
    have g := Od.G_of (L := L) (fun x hx => sw x (Fg.mem_rd hx)) (Fg.str_rd w)
    have zr := Fg.rd_len w
    walk_at "go"
    refine ⟨L, rfl, by omega, by omega, ?_⟩
    walk_at "go"
    refine ⟨L, a, w, rfl, ha, by omega, sw, fun H1 e1 => ?_⟩
    walk_at "go"
    refine ⟨a, w, rfl, ex_t e1 ha, by omega, fun p H2 e2 h2 => ?_⟩
    walk_at "go"
    refine ⟨L, p, _, rfl, h1, h4, h2, g, by omega, fun H3 e3 => ?_⟩
    walk_at "go"
    refine ⟨L, Od.place L (Fg.rd w) + 1, rfl, h1, h4, ?_, fun z hz => ?_, fun p u H4 e4 h5 gu pu => ?_⟩
    · refine Nat.lt_of_le_of_lt (Od.place_le8 h4 g) ?_
      refine Nat.lt_of_le_of_lt (Nat.pow_le_pow_right (by decide) (by omega : (Fg.rd w).length + 1 ≤ 601)) ?_
      rw [show (8 : Nat) = 2 ^ 3 by decide, ← Nat.pow_mul]
      exact Nat.pow_lt_pow_right (by decide) (by decide)
    · have := Od.near h1 g hz
      omega
    · exact q p u H4 (((e1.trans e2).trans e3).trans e4) h5 gu pu
def sp__law_well (K : PySem.W.Frag) : Sp := fun vs H Q _ => ∃ a ns k, vs = [.ref a, .int k] ∧ IL K H a ns ∧ ns.length ≤ 63 ∧ 0 ≤ k ∧ k ≤ 100 ∧ ∀ p H1, H p = none → Ex H H1 → Well H1 p 0 → Q (.ref p) H1
theorem ok__law_well (T : Tx K mg A) : FnOk P w K mg base CX0 1 A.a__law_well A.f__law_well P__law_well (sp__law_well K) := by
  refine T.F__law_well.ok sc__law_well (fun vs H Q E h => ?_) (fun cdv A' outer s H vs Q E hr h => ?_)
  · obtain ⟨a, ns, k, rfl, _⟩ := h
    rfl
  · obtain ⟨a, ns, k, rfl, hS, hlen, hk0, hk, q⟩ := h
    refine ⟨_, (pss_cons (ps_set (i := 2) sc__law_well.nd rfl (Or.inl rfl) (pe_op (op_addK K) (pe_op (op_mulK K) pe_int (pv 1)) pe_int))
      (Evl.pss_cut (ps_if (pt_cmpR op_lt (pv 1) (pe_callB (len_K K) (by rfl) T.n_len (by decide +kernel) (pa_cons (pv 0) pa_nil)) (nomark _)) (pss_one (ps_set (i := 2) sc__law_well.nd rfl (Or.inl rfl) (pe_ix (ix_K K) (pv 0) (pv 1) (fun _ _ => rfl)))) pss_nil)
      (pss_cons (ps_set (i := 3) sc__law_well.nd rfl (Or.inl rfl) (pe_callB (sum_K K rfl) (by rfl) T.n_sum (by decide +kernel) (pa_cons (pe_lc (own := [("_law_one", 5)]) rfl sc__law_well.nd (pi_listK K (pv 0)) (blkOk_by (own := [("_law_one", 5)]) (N := N__law_well) (sc := defScope s__law_well) (by decide +kernel)) (fun _ _ _ _ _ => (pg_name (i := 5) sc__law_well.nd rfl (Or.inl rfl))) (fun _ _ _ _ _ => pts_nil) (fun _ _ _ _ _ => (pe_op op_mod (pe_callTy int_K (by rfl) T.n_int (by decide +kernel) (pa_cons (pv 5) pa_nil)) (pe_op (op_addK K) (pe_op op_powW pe_int pe_int) pe_int)))) pa_nil)))
      (pss_cons (ps_set (i := 4) sc__law_well.nd rfl (Or.inl rfl) (pe_op op_mod (pe_callTy int_K (by rfl) T.n_int (by decide +kernel) (pa_cons (pe_op (op_addK K) (pe_op (op_addK K) (pe_op (op_addK K) (pe_op (op_mulK K) (pe_callB abs_K (by rfl) T.n_abs (by decide +kernel) (pa_cons (pv 2) pa_nil)) pe_int) (pe_op (op_mulK K) pe_int (pv 3))) (pe_op (op_mulK K) pe_int (pv 1))) (pe_callTy int_K (by rfl) T.n_int (by decide +kernel) (pa_cons (pe_cmpR op_lt (pv 2) pe_int (nomark _)) pa_nil))) pa_nil)) (pe_op (op_addK K) (pe_op op_powW pe_int pe_int) pe_int)))
      (pss_one (ps_ret (pe_lst (pa_cons (pe_callB (max2_K rfl) (by rfl) T.n_max (by decide +kernel) (pa_cons pe_int (pa_cons (pe_op op_sub (pv 2) (pe_op op_powW pe_int pe_int)) pa_nil))) (pa_cons (pv 4) (pa_cons pe_int pa_nil)))))))))), ?_⟩
    walk_at "go"
    refine r_mul (.inl ⟨by decide, by decide⟩) ?_
    walk_at "go"
    refine q_cut (M := fun σ' H' => ∃ cell : Int, H' = H ∧ σ' = [some (.ref a), some (.int k), some (.int cell), none, none, none]) ?_ ?_
    · walk_at "go"
      refine r_lenL hS ?_
      walk_at "go"
      refine if_2 (fun h0 => ?_) fun h0 => ?_
      · rw [List.length_map] at h0
        walk_at "go"
        have hi : k.toNat < ns.length := by omega
        refine r_ixL hS (at_int hk0 (List.getElem?_eq_getElem hi)) ?_
        walk_at "go"
        exact ⟨_, rfl, rfl⟩
      · walk_at "go"
        exact ⟨_, rfl, rfl⟩
    · rintro σ' H' ⟨cell, rfl, rfl⟩
      walk_at "go"
      refine r_itL hS (r_cmL (xs := ns.map V.int) (ys := (ns.map fun x => x % (10 ^ (((27 : Nat) : Int)).toNat + 103)).map V.int) hS (by simp) (by simp; omega) (fun _ => rfl) (fun i x y H1 hx hy e1 Q' k' => ?_) (fun D H1 hD e1 h1 => ?_))
      · rw [List.getElem?_map] at hx
        rw [List.getElem?_map, List.getElem?_map] at hy
        cases hn : ns[i]? with
        | none => rw [hn] at hx; cases hx
        | some z =>
          rw [hn] at hx hy
          cases hx
          cases hy
          walk_at "go"
          refine r_pow (k := 27) (a := 4) (by decide) (by decide) (by decide) ?_
          walk_at "go"
          refine r_mod (by decide) ?_
          exact k' H1 (Ex.refl H1)
      · walk_at "go"
        refine r_sum (l_of h1) ?_
        generalize (ns.map fun x => x % (10 ^ (((27 : Nat) : Int)).toNat + 103)).sum = total
        walk_at "go"
        refine r_mul (.inr ⟨by decide, by decide⟩) ?_
        walk_at "go"
        refine r_mul (.inl ⟨by decide, by decide⟩) ?_
        walk_at "go"
        refine r_mul (.inl ⟨by decide, by decide⟩) ?_
        walk_at "go"
        refine r_pow (k := 31) (a := 4) (by decide) (by decide) (by decide) ?_
        walk_at "go"
        refine r_mod (by decide) ?_
        generalize hx : (((cell.natAbs : Nat) : Int) * 8929 + 61 * total + 2 * k + (if decide (cell < 0) = true then 1 else 0)) % (10 ^ (((31 : Nat) : Int)).toNat + 33) = x
        have x0 : 0 ≤ x := by rw [← hx]; exact Int.emod_nonneg _ (by decide)
        have x1 : x < 10 ^ (((31 : Nat) : Int)).toNat + 33 := by rw [← hx]; exact Int.emod_lt_of_pos _ (by decide)
        have x2 : x < 2 ^ 160 := Int.lt_trans x1 (by decide)
        walk_at "go"
        refine r_pow (k := 18) (a := 4) (by decide) (by decide) (by decide) ?_
        walk_at "go"
        refine r_newL (by simp) fun p H2 hp e2 h2 => ?_
        exact q p H2 (fresh_back e1 hp) (e1.trans e2) ⟨_, x, 0, h2, by omega, x0, by omega, by omega, by omega⟩
def sp__law_take (K : PySem.W.Frag) : Sp := spTakeW
theorem ok__law_take (T : Tx K mg A) : FnOk P w K mg base CX0 1 A.a__law_take A.f__law_take P__law_take (sp__law_take K) := by
  refine T.F__law_take.ok sc__law_take (fun vs H Q E h => ?_) (fun cdv A' outer s H vs Q E hr h => ?_)
  · obtain ⟨w, n, m, rfl, _⟩ := h
    rfl
  · obtain ⟨w, n, m, rfl, hm, hm2, ⟨a, b, c, hw, ha, hb, hb2, hc, hc2⟩, hn, q⟩ := h
    refine ⟨_, (pss_cons (ps_if (pt_cmpR op_gt (pe_ix (ix_K K) (pv 0) pe_int (fun _ _ => rfl)) pe_int (nomark _)) (pss_cons (ps_set (i := 2) sc__law_take.nd rfl (Or.inl rfl) (pe_op op_mod (pe_callTy int_K (by rfl) T.n_int (by decide +kernel) (pa_cons (pe_ix (ix_K K) (pv 0) pe_int (fun _ _ => rfl)) pa_nil)) (pv 1)))
      (pss_cons (ps_asg (pe_op op_fdivW (pe_ix (ix_K K) (pv 0) pe_int (fun _ _ => rfl)) (pv 1)) (pg_sub (pv 0) pe_int set_list))
      (pss_one (ps_ret (pv 2))))) pss_nil)
      (pss_cons (ps_asg (pe_op (op_addK K) (pe_ix (ix_K K) (pv 0) pe_int (fun _ _ => rfl)) pe_int) (pg_sub (pv 0) pe_int set_list))
      (pss_cons (ps_set (i := 3) sc__law_take.nd rfl (Or.inl rfl) (pe_op op_mod (pe_callTy int_K (by rfl) T.n_int (by decide +kernel) (pa_cons (pe_op (op_addK K) (pe_op op_powW (pe_op (op_addK K) (pe_ix (ix_K K) (pv 0) pe_int (fun _ _ => rfl)) (pe_op (op_mulK K) pe_int (pe_ix (ix_K K) (pv 0) pe_int (fun _ _ => rfl)))) pe_int) (pe_op (op_mulK K) pe_int (pe_ix (ix_K K) (pv 0) pe_int (fun _ _ => rfl)))) pa_nil)) (pe_op (op_addK K) (pe_op op_powW pe_int pe_int) pe_int)))
      (pss_one (ps_ret (pe_op op_mod (pe_op op_fdivW (pe_op op_mod (pe_callTy int_K (by rfl) T.n_int (by decide +kernel) (pa_cons (pe_op (op_mulK K) (pv 3) (pe_op (op_addK K) (pv 3) pe_int)) pa_nil)) (pe_op (op_addK K) (pe_op op_powW pe_int pe_int) pe_int)) pe_int) (pv 1))))))), ?_⟩
    have w0 : SqL K H w [.int a, .int b, .int c] := l_of hw
    walk_at "go"
    refine r_ixL w0 rfl ?_
    walk_at "go"
    refine if_2 (fun h0 => ?_) fun h0 => ?_
    · walk_at "go"
      refine r_ixL w0 rfl ?_
      walk_at "go"
      refine r_mod hm ?_
      walk_at "go"
      refine r_ixL w0 rfl ?_
      walk_at "go"
      refine r_div hm (by omega : m.natAbs < 2 ^ 220) (by decide) (by decide) ?_
      walk_at "go"
      refine r_setG hw rfl fun H1 e1 h1 => ?_
      walk_at "go"
      exact q (a % m) H1 (Int.emod_nonneg _ (by omega)) (Int.emod_lt_of_pos _ hm) e1 ⟨a / m, b, c, h1, Int.ediv_nonneg ha (by omega), hb, hb2, hc, by omega⟩
    · walk_at "go"
      refine r_ixL w0 rfl ?_
      walk_at "go"
      refine r_setG hw rfl fun H1 e1 hw1 => ?_
      have w1 : SqL K H1 w [.int a, .int b, .int (c + 1)] := l_of hw1
      have bd : (b + 314159 * (c + 1)).natAbs < 2 ^ 161 := by omega
      walk_at "go"
      refine r_ixL w1 rfl ?_
      walk_at "go"
      refine r_ixL w1 rfl (r_mul (.inl ⟨by decide, by decide⟩) ?_)
      walk_at "go"
      refine r_pow (k := 3) (by decide) bd (by decide) ?_
      walk_at "go"
      refine r_ixL w1 rfl (r_mul (.inl ⟨by decide, by decide⟩) ?_)
      walk_at "go"
      refine r_pow (k := 33) (a := 4) (by decide) (by decide) (by decide) ?_
      walk_at "go"
      refine r_mod (by decide) ?_
      generalize hx : ((b + 314159 * (c + 1)) ^ (((3 : Nat) : Int)).toNat + 2718281 * (c + 1)) % (10 ^ (((33 : Nat) : Int)).toNat + 73) = x
      have x0 : 0 ≤ x := by rw [← hx]; exact Int.emod_nonneg _ (by decide)
      have x1 : x < 10 ^ (((33 : Nat) : Int)).toNat + 73 := by rw [← hx]; exact Int.emod_lt_of_pos _ (by decide)
      have x2 : x < 2 ^ 110 := Int.lt_trans x1 (by decide)
      walk_at "go"
      refine r_mulW (wide_mul (a := 110) (b := 111) (by omega) (by omega) (by decide) (by decide) (by decide)) ?_
      walk_at "go"
      refine r_pow (k := 34) (a := 4) (by decide) (by decide) (by decide) ?_
      walk_at "go"
      refine r_mod (by decide) ?_
      walk_at "go"
      refine r_div (b := 14) (by decide) (by decide) (by decide) (by decide) ?_
      walk_at "go"
      refine r_mod hm ?_
      exact q _ H1 (Int.emod_nonneg _ (by omega)) (Int.emod_lt_of_pos _ hm) e1 ⟨a, b, c + 1, hw1, ha, hb, hb2, by omega, by omega⟩
def sp__law_steps (K : PySem.W.Frag) : Sp := fun vs H Q _ => ∃ L : Nat, vs = [.int L] ∧ L ≤ 4 ∧ ∀ p H1, H p = none → Ex H H1 → H1 p = some (.lst ((Od.steps L).map V.int)) → Q (.ref p) H1
theorem ok__law_steps (T : Tx K mg A) : FnOk P w K mg base CX0 1 A.a__law_steps A.f__law_steps P__law_steps (sp__law_steps K) := by
  refine T.F__law_steps.ok sc__law_steps (fun vs H Q E h => ?_) (fun cdv A' outer s H vs Q E hr h => ?_)
  · obtain ⟨L, rfl, _⟩ := h
    rfl
  · obtain ⟨L, rfl, h4, q⟩ := h
    refine ⟨_, (pss_cons (ps_set (i := 1) sc__law_steps.nd rfl (Or.inl rfl) (pe_lst pa_nil))
      (pss_cons (ps_for PassesOwn.never rfl (pi_range2 (by rfl) T.n_range (pa_cons pe_int (pa_cons (pe_op (op_addK K) (pv 0) pe_int) pa_nil))) (pg_name (i := 2) sc__law_steps.nd rfl (Or.inl rfl)) (pss_one (ps_set (i := 1) sc__law_steps.nd rfl (Or.inl rfl) (pe_op (op_addK K) (pv 1) (pe_lst (pa_cons (pv 2) (pa_cons (pe_un un_neg (pv 2)) pa_nil)))))))
      (pss_one (ps_ret (pv 1))))), ?_⟩
    walk_at "go"
    refine r_newL (by simp) fun c H1 hc e1 k1 => ?_
    walk_at "go"
    refine r_rng2 (by omega) (r_forR (lo := 1) (fun i σ' H' => ∃ c v, H c = none ∧ Ex H H' ∧ H' c = some (.lst ((Od.steps i).map V.int)) ∧ σ' = [some (.int L), some (.ref c), v]) ⟨c, none, hc, e1, k1, rfl⟩ ?_ ?_)
    · rintro i σ' H' hi ⟨c, v, hc, e, hn, rfl⟩
      walk_at "go"
      refine r_newL (by simp) fun d H2 hd e2 k2 => ?_
      walk_at "go"
      refine r_catL (e2 _ _ hn) k2 (by rw [List.length_map, Od.steps_len]; simp; omega) fun f H3 hf e3 k3 => ?_
      walk_at "go"
      refine ⟨f, _, fresh_back (e.trans e2) hf, (e.trans e2).trans e3, ?_, rfl⟩
      rw [k3, Od.steps_succ, List.map_append, Int.add_comm]
      rfl
    · rintro σ' H' ⟨c, v, hc, e, hn, rfl⟩
      rw [show ((L : Int) + 1 - 1).toNat = L by omega] at hn
      walk_at "go"
      exact q c H' hc e hn
def sp__law_times (K : PySem.W.Frag) : Sp := fun vs H Q _ => ∃ (L z : Nat), vs = [.int L, .int z] ∧ 1 ≤ L ∧ L ≤ 4 ∧ z ≤ 10000 ∧ Q (.int (((2 * L - 1) ^ z : Nat) : Int)) H
theorem ok__law_times (T : Tx K mg A) : FnOk P w K mg base CX0 1 A.a__law_times A.f__law_times P__law_times (sp__law_times K) := by
  refine T.F__law_times.ok sc__law_times (fun vs H Q E h => ?_) (fun cdv A' outer s H vs Q E hr h => ?_)
  · obtain ⟨L, z, rfl, _⟩ := h
    rfl
  · obtain ⟨L, z, rfl, h1, h4, hz, q⟩ := h
    refine ⟨_, (pss_cons (ps_set (i := 2) sc__law_times.nd rfl (Or.inl rfl) pe_int)
      (pss_cons (ps_for PassesOwn.never rfl (pi_range1 (by rfl) T.n_range (pa_cons (pv 1) pa_nil)) (pg_name (i := 3) sc__law_times.nd rfl (Or.inl rfl)) (pss_one (ps_set (i := 2) sc__law_times.nd rfl (Or.inl rfl) (pe_op (op_mulK K) (pv 2) (pe_op op_sub (pe_op (op_mulK K) pe_int (pv 0)) pe_int)))))
      (pss_one (ps_ret (pv 2))))), ?_⟩
    walk_at "go"
    refine r_rng1 (by omega) (by omega) (r_forR (m := (z : Int).toNat) (fun i σ' H' => ∃ v, H = H' ∧ σ' = [some (.int L), some (.int z), some (.int (((2 * L - 1) ^ i : Nat) : Int)), v]) ⟨none, rfl, rfl⟩ ?_ ?_)
    · rintro i σ' H' hi ⟨v, rfl, rfl⟩
      walk_at "go"
      refine r_mul (.inl ⟨by decide, by decide⟩) ?_
      walk_at "go"
      refine r_mul (.inr ⟨by omega, by omega⟩) ?_
      walk_at "go"
      have e : (((2 * L - 1) ^ i : Nat) : Int) * (2 * (L : Int) - 1) = (((2 * L - 1) ^ (i + 1) : Nat) : Int) := by
        rw [Nat.pow_succ, Int.natCast_mul, show 2 * (L : Int) - 1 = ((2 * L - 1 : Nat) : Int) by omega]
      rw [e]
      exact ⟨_, rfl, rfl⟩
    · rintro σ' H' ⟨v, rfl, rfl⟩
      walk_at "go"
      rw [show (z : Int).toNat = z by omega]
      exact q
def sp__law_many (K : PySem.W.Frag) : Sp := fun vs H Q _ => ∃ (L z : Nat), vs = [.int L, .int z] ∧ 1 ≤ L ∧ L ≤ 4 ∧ z ≤ 10000 ∧ Q (.int ((Od.tot L none z : Nat) : Int)) H
theorem ok__law_many (T : Tx K mg A) : FnOk P w K mg base CX0 2 A.a__law_many A.f__law_many P__law_many (sp__law_many K) := by
  refine T.F__law_many.ok sc__law_many (fun vs H Q E h => ?_) (fun cdv A' outer s H vs Q E hr h => ?_)
  · obtain ⟨L, z, rfl, _⟩ := h
    rfl
  · obtain ⟨L, z, rfl, h1, h4, hz, q⟩ := h
    refine ⟨_, (pss_cons (ps_if (pt_cmpR (op_eqK K hr.units) (pv 1) pe_int (nomark _)) (pss_one (ps_ret pe_int)) pss_nil)
      (pss_one (ps_ret (pe_op (op_mulK K) (pe_op (op_mulK K) pe_int (pv 0)) (pe_call (ok__law_times T) (hr.mono (by decide)) (by rfl) T.g__law_times T.F__law_times.kp T.b__law_times .nil pass0 (pa_cons (pv 0) (pa_cons (pe_op op_sub (pv 1) pe_int) pa_nil))))))), ?_⟩
    walk_at "go"
    refine if_2 (fun h0 => ?_) fun h0 => ?_
    · have : z = 0 := by omega
      subst this
      walk_at "go"
      exact q
    · walk_at "go"
      refine r_mul (.inl ⟨by decide, by decide⟩) ?_
      walk_at "go"
      refine ⟨L, z - 1, by rw [show ((z : Int) - 1) = ((z - 1 : Nat) : Int) by omega]; rfl, h1, h4, by omega, ?_⟩
      refine r_mul (.inl ⟨by omega, by omega⟩) ?_
      obtain ⟨y, rfl⟩ : ∃ y, z = y + 1 := ⟨z - 1, by omega⟩
      rw [Od.tot_none, Int.natCast_mul] at q
      exact q
def sp__law_number (K : PySem.W.Frag) : Sp := fun vs H Q _ => ∃ i : Int, vs = [.int i, .int i] ∧ Q (.bl true) H
theorem ok__law_number (T : Tx K mg A) : FnOk P w K mg base CX0 1 A.a__law_number A.f__law_number P__law_number (sp__law_number K) := by
  refine T.F__law_number.ok sc__law_number (fun vs H Q E h => ?_) (fun cdv A' outer s H vs Q E hr h => ?_)
  · obtain ⟨i, rfl, _⟩ := h
    rfl
  · obtain ⟨i, rfl, q⟩ := h
    refine ⟨_, (pss_one (ps_ret (pe_and (pe_callB (isi_K K) (by rfl) T.n_isinstance (by decide +kernel) (pa_cons (pv 0) (pa_cons (pe_bltn (v := .ty "int") (by rfl) T.n_int (by decide +kernel) rfl) pa_nil))) (pe_and (pe_not (pe_callB (isi_K K) (by rfl) T.n_isinstance (by decide +kernel) (pa_cons (pv 0) (pa_cons (pe_bltn (v := .ty "bool") (by rfl) T.n_bool (by decide +kernel) rfl) pa_nil)))) (pe_one (pe_cmpR (op_eqK K hr.units) (pv 0) (pv 1) (nomark _))))))), ?_⟩
    walk_at "go"
    refine r_isiI (b := true) (kit_ty (by decide +kernel)) ?_
    walk_at "go"
    refine r_isiI (b := false) (kit_ty (by decide +kernel)) ?_
    walk_at "go"
    rw [decide_eq_true (rfl : i = i)]
    exact q
end
end Lw
namespace Lw
open PySem PySem.Spec PyProof.Rows L2 Evl

local macro_rules | `(tactic| walk_at "go") => `(tactic| repeat (first
  | with_reducible refine st_seq ?_ | with_reducible refine st_set ?_ | with_reducible refine st_asg ?_ | with_reducible refine st_ret ?_ | with_reducible refine st_drop ?_ | with_reducible refine st_if ?_
  | with_reducible refine st_c ?_ | ((with_reducible refine' st_v ?h ?_); (case h => exact rfl)) | with_reducible refine st_n ?_ | with_reducible refine st_cons ?_ | with_reducible refine st_op ?_ | with_reducible refine st_un ?_
  | with_reducible refine st_cb ?_ | with_reducible refine st_test ?_ | with_reducible refine st_call ?_ | with_reducible refine st_callK ?_ | with_reducible refine st_sl ?_ | with_reducible refine st_par ?_ | with_reducible refine st_tru ?_
  | with_reducible refine st_and ?_ | with_reducible refine st_or ?_ | with_reducible refine st_not ?_ | with_reducible refine st_B ?_ | with_reducible refine st_andV ?_ | with_reducible refine st_orV ?_ | with_reducible refine st_notV ?_ | with_reducible refine st_ifE ?_
  | with_reducible refine st_part ?_ | with_reducible refine st_nop ?_ | with_reducible refine st_sub ?_ | with_reducible refine st_chain ?_ | with_reducible refine st_bl ?_ | with_reducible refine st_in ?_ | with_reducible refine r_truB ?_
  | with_reducible refine st_nameG ?_ | with_reducible refine if_T ?_ | with_reducible refine if_F ?_ | with_reducible refine if_nT ?_ | with_reducible refine if_nF ?_
  | with_reducible refine r_add ?_ | with_reducible refine r_0 ?_ | with_reducible refine r_neg ?_ | with_reducible refine r_intI ?_ | with_reducible refine r_intB ?_ | with_reducible refine r_abs ?_ | with_reducible refine r_max2 ?_ | with_reducible refine r_min2 ?_ | with_reducible refine r_eqI ?_ | with_reducible refine r_neI ?_
  | with_reducible refine st_nxt ?_ | with_reducible refine st_cnt ?_ | with_reducible refine st_brk ?_ | with_reducible refine st_retn ?_
  | with_reducible refine st_lstN ?_ | with_reducible refine st_tupN ?_
  | with_reducible refine st_for ?_ | with_reducible refine st_lc ?_ | with_reducible refine st_lc2 ?_ | with_reducible refine st_rng1 ?_ | with_reducible refine st_rng2 ?_ | with_reducible refine st_rng3 ?_ | with_reducible refine st_itL ?_ | with_reducible refine st_itT ?_ | with_reducible refine st_rev ?_ | with_reducible refine st_enumE ?_ | with_reducible refine st_zip3 ?_ | with_reducible refine st_lstRg ?_ | with_reducible refine st_rg2 ?_ | with_reducible refine r_twoI ?_ | with_reducible refine st_bm ?_ | with_reducible refine st_bm0 ?_
  | ((with_reducible refine' st_aug ?h ?_); (case h => exact rfl)) | with_reducible refine r_augI ?_ | with_reducible refine r_eqB ?_
  | dsimp only))
section
variable {P : Program} {w : World} {K : PySem.W.Frag} {mg : Str → Option Value} {base : Heap} {A : Ad}

def sp__law_least (K : PySem.W.Frag) : Sp := fun vs H Q _ => ∃ (L : Nat) (a : Addr) (w : List Int) (z : Nat), vs = [.int L, .ref a, .int z] ∧ 1 ≤ L ∧ L ≤ 4 ∧ IT K H a w ∧ Od.G L none w ∧ w.length ≤ z ∧ z ≤ 1000 ∧
  ∀ p u H1, Ex H H1 → IT K H1 p u → Od.G L none u → u.length = z → Od.V L none u = Od.V L none w * (2 * L - 1) ^ (z - w.length) → Q (.ref p) H1
theorem ok__law_least (T : Tx K mg A) : FnOk P w K mg base CX0 2 A.a__law_least A.f__law_least P__law_least (sp__law_least K) := by
  refine T.F__law_least.ok sc__law_least (fun vs H Q E h => ?_) (fun cdv A' outer s H vs Q E hr h => ?_)
  · obtain ⟨L, a, w, z, rfl, _⟩ := h
    rfl
  · obtain ⟨L, a, w, z, rfl, h1, h4, ha, g, zw, hz, q⟩ := h
    refine ⟨_, (pss_cons (ps_set (i := 3) sc__law_least.nd rfl (Or.inr rfl) (pv 1))
      (pss_cons (ps_for PassesOwn.never rfl (pi_range1 (by rfl) T.n_range (pa_cons (pe_op op_sub (pv 2) (pe_callB (len_K K) (by rfl) T.n_len (by decide +kernel) (pa_cons (pv 1) pa_nil))) pa_nil)) (pg_name (i := 4) sc__law_least.nd rfl (Or.inl rfl)) (pss_one (ps_set (i := 3) sc__law_least.nd rfl (Or.inr rfl) (pe_op (op_addK K) (pv 3) (pe_tup (pa_cons (pe_ix (ix_K K) (pe_lc (own := [("_law_step", 5)]) rfl sc__law_least.nd (pi_listK K (pe_call (ok__law_steps T) (hr.mono (by decide)) (by rfl) T.g__law_steps T.F__law_steps.kp T.b__law_steps .nil pass0 (pa_cons (pv 0) pa_nil))) (blkOk_by (own := [("_law_step", 5)]) (N := N__law_least) (sc := defScope s__law_least) (by decide +kernel)) (fun _ _ _ _ _ => (pg_name (i := 5) sc__law_least.nd rfl (Or.inl rfl))) (fun _ _ _ _ _ => (pts_one (pt_cmpR (op_neK K hr.units) (pe_slice (sl_K K) (pv 3) (po_some (pe_un un_neg pe_int)) po_none) (pe_tup (pa_cons (pe_un un_neg (pv 5)) pa_nil)) (nomark _)))) (fun _ _ _ _ _ => (pv 5))) pe_int (fun _ _ => rfl)) pa_nil))))))
      (pss_one (ps_ret (pv 3))))), ?_⟩
    walk_at "go"
    refine r_lenT ha ?_
    rw [List.length_map]
    walk_at "go"
    refine r_rng1 (by omega) (by omega) (r_forR (m := ((z : Int) - (w.length : Int)).toNat) (fun i σ' H' => ∃ p u v4 v5, Ex H H' ∧ IT K H' p u ∧ Od.G L none u ∧ u.length = w.length + i ∧ Od.V L none u = Od.V L none w * (2 * L - 1) ^ i ∧
      σ' = [some (.int L), some (.ref a), some (.int z), some (.ref p), v4, v5]) ⟨a, w, none, none, Ex.refl H, ha, g, rfl, by rw [Nat.pow_zero, Nat.mul_one], rfl⟩ ?_ ?_)
    · rintro i σ' H1 hi ⟨p, u, v4, v5, e, hp, gu, zu, vu, rfl⟩
      walk_at "go"
      refine ⟨L, rfl, h4, fun c H2 hc e2 h2 => ?_⟩
      walk_at "go"
      refine r_itL (l_of h2) (r_cmIF (K := K) (ns := Od.steps L) (l_of h2) (fun s => decide (Od.lst none u ≠ some (-s))) V.int (by rw [Od.steps_len]; omega) (fun _ => rfl) (fun x hx H3 R e3 k => ?_) (fun x hx hf H3 Q' e3 k => ?_) fun d H3 hd e3 h3 => ?_)
      · walk_at "go"
        refine r_slT (ex_t (e2.trans e3) hp) fun c1 H4 e4 k4 => ?_
        rw [cut_last] at k4
        walk_at "go"
        refine r_newT (by simp) fun c2 H5 _ e5 k5 => ?_
        walk_at "go"
        refine r_neT (ms := [-x]) (ex_t e5 k4) (t_of k5) ?_
        walk_at "go"
        have := k H5 (e4.trans e5)
        rw [Od.lst_ne] at this
        exact this
      · walk_at "go"
        exact k H3 (Ex.refl H3)
      · have h5 : H3 d = some (.lst ((Od.bh L (Od.lst none u)).map V.int)) := h3
        obtain ⟨s1, hs1⟩ : ∃ s1, (Od.bh L (Od.lst none u))[0]? = some s1 := ⟨_, List.getElem?_eq_getElem (Od.bh_pos h1 gu)⟩
        walk_at "go"
        refine r_ixL (l_of h5) (at_int (by decide) hs1) ?_
        walk_at "go"
        refine r_newT (by simp) fun c2 H5 _ e5 k5 => ?_
        walk_at "go"
        refine r_catT (ys := [V.int s1]) (ex_t ((e2.trans e3).trans e5) hp) (t_of k5) (by rw [List.length_map]; simp; omega) fun c3 H6 e6 k6 => ?_
        walk_at "go"
        obtain ⟨g', v'⟩ := Od.V_head gu hs1
        refine ⟨c3, u ++ [s1], _, _, (((e.trans e2).trans e3).trans e5).trans e6, by show SqT K H6 c3 ((u ++ [s1]).map V.int); rw [List.map_append]; exact k6, g', by rw [List.length_append, zu]; rfl, ?_, rfl⟩
        rw [v', vu, Nat.pow_succ, Nat.mul_assoc]
    · rintro σ' H1 ⟨p, u, v4, v5, e, hp, gu, zu, vu, rfl⟩
      walk_at "go"
      rw [show ((z : Int) - (w.length : Int)).toNat = z - w.length by omega] at zu vu
      exact q p u H1 e hp gu (by omega) vu
def sp__law_ahead (K : PySem.W.Frag) : Sp := fun vs H Q _ => ∃ (L : Nat) (a : Addr) (w : List Int), vs = [.int L, .ref a] ∧ 1 ≤ L ∧ L ≤ 4 ∧ IT K H a w ∧ Od.G L none w ∧ w.length ≤ 1000 ∧ ∀ H1, Ex H H1 → Q (.int ((Od.place L w : Nat) : Int)) H1
theorem ok__law_ahead (T : Tx K mg A) : FnOk P w K mg base CX0 3 A.a__law_ahead A.f__law_ahead P__law_ahead (sp__law_ahead K) := by
  refine T.F__law_ahead.ok sc__law_ahead (fun vs H Q E h => ?_) (fun cdv A' outer s H vs Q E hr h => ?_)
  · obtain ⟨L, a, w, rfl, _⟩ := h
    rfl
  · obtain ⟨L, a, w, rfl, h1, h4, ha, g, zw, q⟩ := h
    refine ⟨_, (pss_cons (ps_set (i := 2) sc__law_ahead.nd rfl (Or.inl rfl) (pe_callB (sum_K K rfl) (by rfl) T.n_sum (by decide +kernel) (pa_cons (pe_lc (own := [("_law_length", 5)]) rfl sc__law_ahead.nd (pi_range1 (by rfl) T.n_range (pa_cons (pe_callB (len_K K) (by rfl) T.n_len (by decide +kernel) (pa_cons (pv 1) pa_nil)) pa_nil)) (blkOk_by (own := [("_law_length", 5)]) (N := N__law_ahead) (sc := defScope s__law_ahead) (by decide +kernel)) (fun _ _ _ _ _ => (pg_name (i := 5) sc__law_ahead.nd rfl (Or.inl rfl))) (fun _ _ _ _ _ => pts_nil) (fun _ _ _ _ _ => (pe_call (ok__law_many T) (hr.mono (by decide)) (by rfl) T.g__law_many T.F__law_many.kp T.b__law_many .nil pass0 (pa_cons (pv 0) (pa_cons (pv 5) pa_nil))))) pa_nil)))
      (pss_cons (ps_for PassesOwn.never rfl (pi_range1 (by rfl) T.n_range (pa_cons (pe_callB (len_K K) (by rfl) T.n_len (by decide +kernel) (pa_cons (pv 1) pa_nil)) pa_nil)) (pg_name (i := 3) sc__law_ahead.nd rfl (Or.inl rfl)) (pss_one (ps_for PassesOwn.never rfl (pi_listK K (pe_call (ok__law_steps T) (hr.mono (by decide)) (by rfl) T.g__law_steps T.F__law_steps.kp T.b__law_steps .nil pass0 (pa_cons (pv 0) pa_nil))) (pg_name (i := 4) sc__law_ahead.nd rfl (Or.inl rfl)) (pss_cons (ps_if (pt_cmpR (op_eqK K hr.units) (pv 4) (pe_ix (ix_K K) (pv 1) (pv 3) (fun _ _ => rfl)) (nomark _)) (pss_one ps_break) pss_nil)
      (pss_one (ps_if (PW.pt (pw_or (pt_cmpR (op_eqK K hr.units) (pv 3) pe_int (nomark _)) (pw_or1 (pt_cmpR (op_neK K hr.units) (pv 4) (pe_un un_neg (pe_ix (ix_K K) (pv 1) (pe_op op_sub (pv 3) pe_int) (fun _ _ => rfl))) (nomark _))))) (pss_one (ps_set (i := 2) sc__law_ahead.nd rfl (Or.inl rfl) (pe_op (op_addK K) (pv 2) (pe_call (ok__law_times T) (hr.mono (by decide)) (by rfl) T.g__law_times T.F__law_times.kp T.b__law_times .nil pass0 (pa_cons (pv 0) (pa_cons (pe_op op_sub (pe_op op_sub (pe_callB (len_K K) (by rfl) T.n_len (by decide +kernel) (pa_cons (pv 1) pa_nil)) (pv 3)) pe_int) pa_nil)))))) pss_nil))))))
      (pss_one (ps_ret (pv 2))))), ?_⟩
    walk_at "go"
    refine r_lenT ha ?_
    rw [List.length_map]
    walk_at "go"
    refine r_rng1 (by omega) (by omega) (r_cmR (m := (w.length : Int).toNat) (ys := ((List.range w.length).map fun i => ((Od.tot L none i : Nat) : Int)).map V.int) (by simp) (by simp; omega) (fun _ => rfl) (fun i y H1 hi hy e1 Q' k => ?_) (fun c H1 hc e1 h5 => ?_))
    · walk_at "go"
      refine ⟨L, i, by rw [Int.zero_add]; rfl, h1, h4, by omega, ?_⟩
      rw [List.getElem?_map, List.getElem?_map, List.getElem?_range (by omega)] at hy
      cases hy
      exact k H1 (Ex.refl H1)
    walk_at "go"
    refine r_sum (l_of h5) ?_
    rw [Od.S_sum]
    walk_at "go"
    refine r_lenT (ex_t e1 ha) ?_
    rw [List.length_map]
    walk_at "go"
    refine r_rng1 (n := (w.length : Int)) (by omega) (by omega) (r_forR (m := (w.length : Int).toNat) (fun i σ' H' => ∃ v3 v4 v5, Ex H H' ∧ σ' = [some (.int L), some (.ref a), some (.int ((Od.S L w.length + Od.V L none (w.take i) * (2 * L - 1) ^ (w.length - i) : Nat) : Int)), v3, v4, v5]) ⟨none, none, none, e1, by rw [List.take_zero, Od.V, Nat.zero_mul, Nat.add_zero]; rfl⟩ ?_ ?_)
    · rintro i σ' H2 hi ⟨v3, v4, v5, e2, rfl⟩
      have hl : i < w.length := by omega
      have hx := List.getElem?_eq_getElem hl
      generalize w[i] = x at hx
      have hb := Od.G_at g hx
      have hs := Od.bh_steps hb
      walk_at "go"
      refine ⟨L, rfl, h4, fun p H3 _ e3 h6 => ?_⟩
      generalize hB : Od.S L w.length + Od.V L none (w.take i) * (2 * L - 1) ^ (w.length - i) = B
      let cf := fun s => decide (Od.lst none (w.take i) ≠ some (-s))
      -- so many ahead
      refine r_itL (l_of h6) (r_forL (xs := (Od.steps L).map V.int) (fun t σ' H' => ∃ v4, Ex H3 H' ∧ t ≤ (Od.steps L).idxOf x ∧ σ' = [some (.int L), some (.ref a), some (.int ((B + (((Od.steps L).take t).filter cf).length * (2 * L - 1) ^ (w.length - (i + 1)) : Nat) : Int)), some (.int (0 + (i : Int))), v4, v5]) ⟨v4, Ex.refl H3, Nat.zero_le _, by rw [List.take_zero, List.filter_nil, List.length_nil, Nat.zero_mul, Nat.add_zero]; rfl⟩ (fun t σ' H' _ p => ?_) (fun t y σ' H' hy p => ?_) (fun σ' H' p => ?_))
      · obtain ⟨_, e, _⟩ := p
        exact ex_l e (l_of h6)
      · obtain ⟨v4, e4, ht, rfl⟩ := p
        rw [List.getElem?_map] at hy
        cases hn : (Od.steps L)[t]? with
        | none => rw [hn] at hy; cases hy
        | some s1 =>
        rw [hn] at hy
        cases hy
        walk_at "go"
        have eH := (e2.trans e3).trans e4
        refine r_ixT (ex_t eH ha) (at_int (i := 0 + (i : Int)) (by omega) (by rw [show (0 + (i : Int)).toNat = i by omega]; exact hx)) ?_
        walk_at "go"
        have htl := (List.getElem?_eq_some_iff.mp hn).1
        have hid := (Od.steps_nodup L).idxOf_getElem _ htl
        rw [(List.getElem?_eq_some_iff.mp hn).2] at hid
        refine if_2 (fun h0 => ?_) fun h0 => ?_
        · -- there it stands
          subst h0
          walk_at "go"
          have hcf : cf s1 = true := by
            have := (Od.mem_bh.mp hb).2
            show decide (Od.lst none (w.take i) ≠ some (-s1)) = true
            exact decide_eq_true this
          have e5 : (Od.bh L (Od.lst none (w.take i))).idxOf s1 = (((Od.steps L).take t).filter cf).length := by
            have := Od.idx_filter (f := cf) hs hcf
            rw [hid] at this
            exact this
          rw [Od.ahead_step g hx, e5, ← Nat.add_assoc, hB]
          exact ⟨_, _, _, eH, rfl⟩
        · have ht2 : t + 1 ≤ (Od.steps L).idxOf x := by
            rcases Nat.lt_or_ge t ((Od.steps L).idxOf x) with l1 | g1
            · exact l1
            · have e5 : t = (Od.steps L).idxOf x := by omega
              have e6 := Od.at_idx hs
              rw [← e5, hn] at e6
              exact absurd (Option.some.inj e6) h0
          have tk := take_snoc hn
          -- it stands ahead, if it may stand there
          have yes : cf s1 = true → ∃ v4, Ex H3 H' ∧ t + 1 ≤ (Od.steps L).idxOf x ∧ [some (V.int L), some (V.ref a), some (V.int (((B + (((Od.steps L).take t).filter cf).length * (2 * L - 1) ^ (w.length - (i + 1)) : Nat) : Int) + (((2 * L - 1) ^ (w.length - (i + 1)) : Nat) : Int))), some (V.int (0 + (i : Int))), some (V.int s1), v5] =
              [some (V.int L), some (V.ref a), some (V.int ((B + (((Od.steps L).take (t + 1)).filter cf).length * (2 * L - 1) ^ (w.length - (i + 1)) : Nat) : Int)), some (V.int (0 + (i : Int))), v4, v5] := fun hc => by
            generalize (2 * L - 1) ^ (w.length - (i + 1)) = E1
            rw [tk, List.filter_append, List.filter_cons_of_pos hc, List.filter_nil, List.length_append, List.length_singleton, Nat.succ_mul, ← Nat.add_assoc, Int.natCast_add (B + _)]
            exact ⟨_, e4, ht2, rfl⟩
          walk_at "go"
          have times : ∀ (Q' : VK), Q' (.int (((2 * L - 1) ^ (w.length - (i + 1)) : Nat) : Int)) H' → sp__law_times K [.int L, .int ((w.length : Int) - (0 + (i : Int)) - 1)] H' Q' E0 := fun Q' k =>
            ⟨L, w.length - (i + 1), by rw [show (w.length : Int) - (0 + (i : Int)) - 1 = ((w.length - (i + 1) : Nat) : Int) by omega], h1, h4, by omega, k⟩
          refine if_2 (fun h7 => ?_) fun h7 => ?_
          · walk_at "go"
            refine r_lenT (ex_t eH ha) ?_
            rw [List.length_map]
            walk_at "go"
            refine times _ ?_
            walk_at "go"
            refine yes ?_
            have : i = 0 := by omega
            subst this
            show decide (Od.lst none (w.take 0) ≠ some (-s1)) = true
            rw [List.take_zero, Od.lst_nil]
            simp
          · obtain ⟨j, rfl⟩ : ∃ j, i = j + 1 := ⟨i - 1, by omega⟩
            have hy2 := List.getElem?_eq_getElem (show j < w.length by omega)
            generalize w[j] = y at hy2
            have lt := Od.lst_take hy2
            walk_at "go"
            refine r_ixT (ex_t eH ha) (at_int (i := 0 + ((j + 1 : Nat) : Int) - 1) (by omega) (by rw [show (0 + ((j + 1 : Nat) : Int) - 1).toNat = j by omega]; exact hy2)) ?_
            walk_at "go"
            refine ifn_2 (fun h8 => ?_) fun h8 => ?_
            · walk_at "go"
              refine r_lenT (ex_t eH ha) ?_
              rw [List.length_map]
              walk_at "go"
              refine times _ ?_
              walk_at "go"
              refine yes ?_
              show decide (Od.lst none (w.take (j + 1)) ≠ some (-s1)) = true
              rw [lt]
              exact decide_eq_true fun z => h8 (by have := Option.some.inj z; omega)
            · walk_at "go"
              have hc : ¬ cf s1 = true := by
                show ¬ decide (Od.lst none (w.take (j + 1)) ≠ some (-s1)) = true
                rw [lt, decide_eq_true_eq]
                exact fun z => z (by rw [h8, Int.neg_neg])
              rw [tk, List.filter_append, List.filter_cons_of_neg hc, List.filter_nil, List.append_nil]
              exact ⟨_, e4, ht2, rfl⟩
      · -- the step is one of them: the loop does not come to its end
        obtain ⟨v4, e4, ht, rfl⟩ := p
        rw [List.length_map] at ht
        have := List.idxOf_lt_length_of_mem hs
        omega
    · rintro σ' H2 ⟨v3, v4, v5, e2, rfl⟩
      walk_at "go"
      rw [show (w.length : Int).toNat = w.length by omega, List.take_length, Nat.sub_self, Nat.pow_zero, Nat.mul_one]
      exact q H2 e2
def sp__law_next (K : PySem.W.Frag) : Sp := fun vs H Q _ => ∃ (L : Nat) (a : Addr) (w : List Int), vs = [.int L, .ref a] ∧ 1 ≤ L ∧ L ≤ 4 ∧ IT K H a w ∧ Od.G L none w ∧ w.length ≤ 900 ∧
  ∀ p u H1, Ex H H1 → IT K H1 p u → Od.G L none u → u.length ≤ 1000 → Od.place L u = Od.place L w + 1 → Q (.ref p) H1
theorem ok__law_next (T : Tx K mg A) : FnOk P w K mg base CX0 3 A.a__law_next A.f__law_next P__law_next (sp__law_next K) := by
  refine T.F__law_next.ok sc__law_next (fun vs H Q E h => ?_) (fun cdv A' outer s H vs Q E hr h => ?_)
  · obtain ⟨L, a, w, rfl, _⟩ := h
    rfl
  · obtain ⟨L, a, w, rfl, h1, h4, ha, g, zw, q⟩ := h
    refine ⟨_, (pss_cons (ps_for PassesOwn.never rfl (pi_range3 (by rfl) T.n_range (pa_cons (pe_op op_sub (pe_callB (len_K K) (by rfl) T.n_len (by decide +kernel) (pa_cons (pv 1) pa_nil)) pe_int) (pa_cons (pe_un un_neg pe_int) (pa_cons (pe_un un_neg pe_int) pa_nil)))) (pg_name (i := 2) sc__law_next.nd rfl (Or.inr rfl)) (pss_cons (ps_setLc (i := 3) (own := [("_law_step", 5)]) rfl sc__law_next.nd rfl rfl (sw_true rfl rfl rfl (by decide +kernel)) (pi_listK K (pe_call (ok__law_steps T) (hr.mono (by decide)) (by rfl) T.g__law_steps T.F__law_steps.kp T.b__law_steps .nil pass0 (pa_cons (pv 0) pa_nil))) (blkOk_by (own := [("_law_step", 5)]) (N := N__law_next) (sc := defScope s__law_next) (by decide +kernel)) (fun _ _ _ _ _ => (pg_name (i := 5) sc__law_next.nd rfl (Or.inl rfl))) (fun _ _ _ _ _ => (pts_one (PW.pt (pw_or (pt_cmpR (op_eqK K hr.units) (pv 2) pe_int (nomark _)) (pw_or1 (pt_cmpR (op_neK K hr.units) (pv 5) (pe_un un_neg (pe_ix (ix_K K) (pv 1) (pe_op op_sub (pv 2) pe_int) (fun _ _ => rfl))) (nomark _))))))) (fun _ _ _ _ _ => (pv 5)))
      (pss_cons (ps_set (i := 4) sc__law_next.nd rfl (Or.inl rfl) (pe_slice (sl_K K) (pv 3) (po_some (pe_op (op_addK K) (pe_bmU K PySem.F.plainAttrs_list PySem.F.slot_list_index PySem.F.type_list_index (mt_indexK K) (pv 3) (pa_cons (pe_ix (ix_K K) (pv 1) (pv 2) (fun _ _ => rfl)) pa_nil)) pe_int)) po_none))
      (pss_one (ps_if (pt_cmpR (op_neK K hr.units) (pv 4) (pe_lst pa_nil) (nomark _)) (pss_one (ps_ret (pe_call (ok__law_least T) (hr.mono (by decide)) (by rfl) T.g__law_least T.F__law_least.kp T.b__law_least .nil pass0 (pa_cons (pv 0) (pa_cons (pe_op (op_addK K) (pe_slice (sl_K K) (pv 1) po_none (po_some (pv 2))) (pe_tup (pa_cons (pe_ix (ix_K K) (pv 4) pe_int (fun _ _ => rfl)) pa_nil))) (pa_cons (pe_callB (len_K K) (by rfl) T.n_len (by decide +kernel) (pa_cons (pv 1) pa_nil)) pa_nil)))))) pss_nil)))))
      (pss_one (ps_ret (pe_call (ok__law_least T) (hr.mono (by decide)) (by rfl) T.g__law_least T.F__law_least.kp T.b__law_least .nil pass0 (pa_cons (pv 0) (pa_cons (pe_tup pa_nil) (pa_cons (pe_op (op_addK K) (pe_callB (len_K K) (by rfl) T.n_len (by decide +kernel) (pa_cons (pv 1) pa_nil)) pe_int) pa_nil))))))), ?_⟩
    walk_at "go"
    refine r_lenT ha ?_
    rw [List.length_map]
    walk_at "go"
    refine r_rngD (i := (w.length : Int) - 1) (by omega) (r_forC (m := ((w.length : Int) - 1 - -1).toNat) (fun i σ' H' => ∃ v2 v3 v4 v5, Ex H H' ∧ Od.Top L w (w.length - i) ∧ σ' = [some (.int L), some (.ref a), v2, v3, v4, v5]) ⟨none, none, none, none, Ex.refl H, Od.top_end L w, rfl⟩ ?_ ?_)
    · rintro i σ' H1 hi ⟨v2, v3, v4, v5, e1, top, rfl⟩
      obtain ⟨j, hj⟩ : ∃ j, w.length - i = j + 1 := ⟨w.length - i - 1, by omega⟩
      rw [hj] at top
      have ej : (w.length : Int) - 1 + (i : Int) * -1 = (j : Int) := by omega
      rw [ej]
      have hl : j < w.length := by omega
      have hx := List.getElem?_eq_getElem hl
      generalize w[j] = x at hx
      have hb := Od.G_at g hx
      walk_at "go"
      refine ⟨L, rfl, h4, fun c H2 hc e2 h2 => ?_⟩
      walk_at "go"
      refine r_itL (l_of h2) (r_cmIF (K := K) (ns := Od.steps L) (l_of h2) (fun s => decide (Od.lst none (w.take j) ≠ some (-s))) V.int (by rw [Od.steps_len]; omega) (fun _ => rfl) (fun x hx H3 R e3 k => ?_) (fun x hx hf H3 Q' e3 k => ?_) fun d H3 hd e3 h3 => ?_)
      · have kk := k H3 (Ex.refl H3)
        walk_at "go"
        refine if_2 (fun h7 => ?_) fun h7 => ?_
        · have : j = 0 := by omega
          subst this
          rw [List.take_zero, Od.lst_nil, decide_eq_true (by simp)] at kk
          exact kk
        · obtain ⟨j2, rfl⟩ : ∃ j2, j = j2 + 1 := ⟨j - 1, by omega⟩
          have hy2 := List.getElem?_eq_getElem (show j2 < w.length by omega)
          generalize w[j2] = y at hy2
          have lt := Od.lst_take hy2
          walk_at "go"
          refine r_ixT (ex_t (e1.trans (e2.trans e3)) ha) (at_int (i := ((j2 + 1 : Nat) : Int) - 1) (by omega) (by rw [show (((j2 + 1 : Nat) : Int) - 1).toNat = j2 by omega]; exact hy2)) ?_
          walk_at "go"
          rw [lt] at kk
          have e4 : decide (some y ≠ some (-x)) = !decide (x = -y) := by
            by_cases h : x = -y
            · have h2 : ¬ (some y ≠ some (-x)) := by rw [h]; simp
              rw [decide_eq_true h, decide_eq_false h2]
              rfl
            · have h2 : some y ≠ some (-x) := fun z => h (by have := Option.some.inj z; omega)
              rw [decide_eq_false h, decide_eq_true h2]
              rfl
          rw [e4] at kk
          exact kk
      · walk_at "go"
        exact k H3 (Ex.refl H3)
      · have h5 : H3 d = some (.lst ((Od.bh L (Od.lst none (w.take j))).map V.int)) := h3
        have e4 := (e1.trans e2).trans e3
        walk_at "go"
        refine r_met (l_of h5) ?_
        walk_at "go"
        refine r_ixT (ex_t e4 ha) (at_int (i := (j : Int)) (by omega) hx) ?_
        walk_at "go"
        refine r_index (l_of h5) hb ?_
        walk_at "go"
        refine r_slL (l_of h5) fun f H4 _ e5 h6 => ?_
        rw [cut_from (by omega), show (((Od.bh L (Od.lst none (w.take j))).idxOf x : Nat) + 1 : Int).toNat = (Od.bh L (Od.lst none (w.take j))).idxOf x + 1 by omega] at h6
        walk_at "go"
        refine r_newL (by simp) fun f2 H5 _ e6 h7 => ?_
        walk_at "go"
        refine r_neL (ms := []) (l_of (e6 _ _ h6)) (l_of h7) ?_
        walk_at "go"
        have e7 := (e4.trans e5).trans e6
        have hid := List.idxOf_lt_length_of_mem hb
        refine ifn_2 (fun h0 => ?_) fun h0 => ?_
        · have hlt : (Od.bh L (Od.lst none (w.take j))).idxOf x + 1 < (Od.bh L (Od.lst none (w.take j))).length := by
            rcases Nat.lt_or_ge ((Od.bh L (Od.lst none (w.take j))).idxOf x + 1) (Od.bh L (Od.lst none (w.take j))).length with l1 | g1
            · exact l1
            · exact absurd (List.drop_of_length_le g1) h0
          have hy := List.getElem?_eq_getElem hlt
          generalize (Od.bh L (Od.lst none (w.take j)))[(Od.bh L (Od.lst none (w.take j))).idxOf x + 1] = y at hy
          obtain ⟨gu, vu⟩ := Od.top_more g hx top hy
          walk_at "go"
          refine r_slT (ex_t e7 ha) fun p1 H6 e8 k6 => ?_
          rw [cut_to (by omega), show ((j : Nat) : Int).toNat = j by omega] at k6
          walk_at "go"
          refine r_ixL (l_of (e8 _ _ (e6 _ _ h6))) (at_int (x := y) (by decide) (by rw [List.getElem?_drop]; exact hy)) ?_
          walk_at "go"
          refine r_newT (by simp) fun p2 H7 _ e9 k7 => ?_
          walk_at "go"
          refine r_catT (ys := [V.int y]) (ex_t e9 k6) (t_of k7) (by rw [List.length_map, List.length_take]; simp; omega) fun p3 H8 e10 k8 => ?_
          have e11 := (e8.trans e9).trans e10
          walk_at "go"
          refine r_lenT (ex_t (e7.trans e11) ha) ?_
          rw [List.length_map]
          walk_at "go"
          have zt : (w.take j ++ [y]).length = j + 1 := by rw [List.length_append, List.length_take, List.length_singleton]; omega
          refine ⟨L, p3, w.take j ++ [y], w.length, rfl, h1, h4, by show SqT K H8 p3 ((w.take j ++ [y]).map V.int); rw [List.map_append]; exact k8, gu, by omega, by omega, fun p u H9 e12 hp gp zp vp => ?_⟩
          refine q p u H9 ((e7.trans e11).trans e12) hp gp (by omega) ?_
          unfold Od.place
          rw [zp, vp, zt, vu, Nat.add_assoc]
        · walk_at "go"
          have hlt : (Od.bh L (Od.lst none (w.take j))).idxOf x + 1 = (Od.bh L (Od.lst none (w.take j))).length := by
            have := List.drop_eq_nil_iff.mp h0
            omega
          have tn := Od.top_next g hx top hlt
          rw [show j = w.length - (i + 1) by omega] at tn
          exact ⟨_, _, _, _, e7, tn, rfl⟩
    · rintro σ' H1 ⟨v2, v3, v4, v5, e1, top, rfl⟩
      rw [show w.length - ((w.length : Int) - 1 - -1).toNat = 0 by omega] at top
      unfold Od.Top at top
      rw [if_pos rfl] at top
      walk_at "go"
      refine r_newT (by simp) fun p2 H2 _ e2 k2 => ?_
      walk_at "go"
      refine r_lenT (ex_t (e1.trans e2) ha) ?_
      rw [List.length_map]
      walk_at "go"
      refine ⟨L, p2, [], w.length + 1, rfl, h1, h4, t_of k2, trivial, Nat.zero_le _, by omega, fun p u H9 e12 hp gp zp vp => ?_⟩
      refine q p u H9 ((e1.trans e2).trans e12) hp gp (by omega) ?_
      unfold Od.place
      rw [zp, vp, Od.S, Od.V, Nat.zero_mul]
      omega
end
end Lw
namespace Lw
open PySem PySem.Spec PyProof.Rows L2 Evl

local macro_rules | `(tactic| walk_at "go") => `(tactic| repeat (first
  | with_reducible refine st_seq ?_ | with_reducible refine st_set ?_ | with_reducible refine st_asg ?_ | with_reducible refine st_ret ?_ | with_reducible refine st_drop ?_ | with_reducible refine st_if ?_
  | with_reducible refine st_c ?_ | ((with_reducible refine' st_v ?h ?_); (case h => exact rfl)) | with_reducible refine st_n ?_ | with_reducible refine st_cons ?_ | with_reducible refine st_op ?_ | with_reducible refine st_un ?_
  | with_reducible refine st_cb ?_ | with_reducible refine st_test ?_ | with_reducible refine st_call ?_ | with_reducible refine st_callK ?_ | with_reducible refine st_sl ?_ | with_reducible refine st_par ?_ | with_reducible refine st_tru ?_
  | with_reducible refine st_and ?_ | with_reducible refine st_or ?_ | with_reducible refine st_not ?_ | with_reducible refine st_B ?_ | with_reducible refine st_andV ?_ | with_reducible refine st_orV ?_ | with_reducible refine st_notV ?_ | with_reducible refine st_ifE ?_
  | with_reducible refine st_part ?_ | with_reducible refine st_nop ?_ | with_reducible refine st_sub ?_ | with_reducible refine st_chain ?_ | with_reducible refine st_bl ?_ | with_reducible refine st_in ?_ | with_reducible refine r_truB ?_
  | with_reducible refine st_nameG ?_ | with_reducible refine if_T ?_ | with_reducible refine if_F ?_ | with_reducible refine if_nT ?_ | with_reducible refine if_nF ?_
  | with_reducible refine r_add ?_ | with_reducible refine r_0 ?_ | with_reducible refine r_neg ?_ | with_reducible refine r_intI ?_ | with_reducible refine r_intB ?_ | with_reducible refine r_abs ?_ | with_reducible refine r_max2 ?_ | with_reducible refine r_min2 ?_ | with_reducible refine r_eqI ?_ | with_reducible refine r_neI ?_
  | with_reducible refine st_nxt ?_ | with_reducible refine st_cnt ?_ | with_reducible refine st_brk ?_ | with_reducible refine st_retn ?_
  | with_reducible refine st_lstN ?_ | with_reducible refine st_tupN ?_
  | with_reducible refine st_for ?_ | with_reducible refine st_lc ?_ | with_reducible refine st_lc2 ?_ | with_reducible refine st_rng1 ?_ | with_reducible refine st_rng2 ?_ | with_reducible refine st_rng3 ?_ | with_reducible refine st_itL ?_ | with_reducible refine st_itT ?_ | with_reducible refine st_rev ?_ | with_reducible refine st_enumE ?_ | with_reducible refine st_zip3 ?_ | with_reducible refine st_lstRg ?_ | with_reducible refine st_rg2 ?_ | with_reducible refine r_twoI ?_ | with_reducible refine st_bm ?_ | with_reducible refine st_bm0 ?_
  | ((with_reducible refine' st_aug ?h ?_); (case h => exact rfl)) | with_reducible refine r_augI ?_ | with_reducible refine r_eqB ?_
  | dsimp only))
section
variable {P : Program} {w : World} {K : PySem.W.Frag} {mg : Str → Option Value} {base : Heap} {A : Ad}

def sp__law_all (K : PySem.W.Frag) : Sp := fun vs H Q _ => ∃ (L z : Nat), vs = [.int L, .int z] ∧ 1 ≤ L ∧ L ≤ 4 ∧ Od.S L (z + 1) ≤ 1000 ∧ ∀ p xs ws H1, H p = none → Ex H H1 → H1 p = some (.lst xs) → WkA K H1 xs ws → Od.Fd L z ws → Q (.ref p) H1
theorem ok__law_all (T : Tx K mg A) : FnOk P w K mg base CX0 2 A.a__law_all A.f__law_all P__law_all (sp__law_all K) := by
  refine T.F__law_all.ok sc__law_all (fun vs H Q E h => ?_) (fun cdv A' outer s H vs Q E hr h => ?_)
  · obtain ⟨L, z, rfl, _⟩ := h
    rfl
  · obtain ⟨L, z, rfl, h1, h4, hz, q⟩ := h
    refine ⟨_, (pss_cons (ps_par (i := 2) (j := 3) (by rfl) sc__law_all.nd rfl rfl (by decide) rfl rfl (pa_cons (pe_lst (pa_cons (pe_tup pa_nil) pa_nil)) (pa_cons (pe_lst (pa_cons (pe_tup pa_nil) pa_nil)) pa_nil)) (by rfl))
      (pss_cons (ps_for PassesOwn.never rfl (pi_range1 (by rfl) T.n_range (pa_cons (pv 1) pa_nil)) (pg_name (i := 4) sc__law_all.nd rfl (Or.inl rfl)) (pss_cons (ps_set (i := 5) sc__law_all.nd rfl (Or.inl rfl) (pe_lst pa_nil))
      (pss_cons (ps_for PassesOwn.never rfl (pi_listK K (pv 3)) (pg_name (i := 6) sc__law_all.nd rfl (Or.inr rfl)) (pss_one (ps_set (i := 5) sc__law_all.nd rfl (Or.inl rfl) (pe_op (op_addK K) (pv 5) (pe_lc (own := [("_law_step", 7)]) rfl sc__law_all.nd (pi_listK K (pe_call (ok__law_steps T) (hr.mono (by decide)) (by rfl) T.g__law_steps T.F__law_steps.kp T.b__law_steps .nil pass0 (pa_cons (pv 0) pa_nil))) (blkOk_by (own := [("_law_step", 7)]) (N := N__law_all) (sc := defScope s__law_all) (by decide +kernel)) (fun _ _ _ _ _ => (pg_name (i := 7) sc__law_all.nd rfl (Or.inl rfl))) (fun _ _ _ _ _ => (pts_one (pt_cmpR (op_neK K hr.units) (pe_slice (sl_K K) (pv 6) (po_some (pe_un un_neg pe_int)) po_none) (pe_tup (pa_cons (pe_un un_neg (pv 7)) pa_nil)) (nomark _)))) (fun _ _ _ _ _ => (pe_op (op_addK K) (pv 6) (pe_tup (pa_cons (pv 7) pa_nil)))))))))
      (pss_cons (ps_set (i := 3) sc__law_all.nd rfl (Or.inl rfl) (pv 5))
      (pss_one (ps_set (i := 2) sc__law_all.nd rfl (Or.inl rfl) (pe_op (op_addK K) (pv 2) (pv 3))))))))
      (pss_one (ps_ret (pv 2))))), ?_⟩
    have zz := Od.S_ge h1 (z + 1)
    walk_at "go"
    refine r_newT (by simp) fun t1 H1 _ e1 k1 => ?_
    walk_at "go"
    refine r_newL (by simp) fun c1 H2 hc1 e2 k2 => ?_
    walk_at "go"
    refine r_newT (by simp) fun t2 H3 _ e3 k3 => ?_
    walk_at "go"
    refine r_newL (by simp) fun c2 H4 _ e4 k4 => ?_
    walk_at "go"
    refine ⟨_, _, rfl, ?_⟩
    walk_at "go"
    have w1 : WkA K H4 [.ref t1] [[]] := WkA.snoc WkA.nil ⟨t1, rfl, t_of (((e2.trans e3).trans e4) _ _ k1)⟩
    have w2 : WkA K H4 [.ref t2] [[]] := WkA.snoc WkA.nil ⟨t2, rfl, t_of (e4 _ _ k3)⟩
    refine r_rng1 (by omega) (by omega) (r_forR (m := (z : Int).toNat) (fun i σ' H' => ∃ f xs ws y us vs v4 v5 v6 v7, H f = none ∧ Ex H H' ∧ H' f = some (.lst xs) ∧ WkA K H' xs ws ∧ Od.Fd L i ws ∧ H' y = some (.lst us) ∧ WkA K H' us vs ∧ Od.En L i (Od.tot L none i) vs ∧
      σ' = [some (.int L), some (.int z), some (.ref f), some (.ref y), v4, v5, v6, v7]) ⟨c1, _, _, c2, _, _, none, none, none, none, fresh_back e1 hc1, ((e1.trans e2).trans e3).trans e4, (e3.trans e4) _ _ k2, w1, Od.fd_zero L, k4, w2, Od.en_zero L, rfl⟩ ?_ ?_)
    · rintro i σ' H5 hi ⟨f, xs, ws, y, us, vs, v4, v5, v6, v7, hf, e5, hxs, wxs, fd, hus, wus, en, rfl⟩
      have sz := Od.S_mono (L := L) (show i + 1 + 1 ≤ z + 1 by omega)
      have s1 : Od.S L (i + 1 + 1) = Od.S L (i + 1) + Od.tot L none (i + 1) := rfl
      walk_at "go"
      refine r_newL (by simp) fun c5 H6 _ e6 k6 => ?_
      walk_at "go"
      have e56 := e5.trans e6
      generalize hc : (if i = 0 then 2 * L else 2 * L - 1) = c
      have htc : Od.tot L none (i + 1) = Od.tot L none i * c := by rw [Od.tot_next, hc]
      refine r_itL (l_of (e6 _ _ hus)) (r_forL (xs := us) (fun t σ' H' => ∃ g ys rs v6 v7, Ex H6 H' ∧ H' g = some (.lst ys) ∧ WkA K H' ys rs ∧ Od.En L (i + 1) (t * c) rs ∧ σ' = [some (.int L), some (.int z), some (.ref f), some (.ref y), some (.int (0 + (i : Int))), some (.ref g), v6, v7])
        ⟨c5, [], [], _, _, Ex.refl H6, k6, WkA.nil, ⟨by simp, fun q w h => by simp at h⟩, rfl⟩ (fun t σ' H' _ p => ?_) (fun t x σ' H' hx p => ?_) (fun σ' H' p => ?_))
      · obtain ⟨_, _, _, _, _, e, _⟩ := p
        exact ex_l e (l_of (e6 _ _ hus))
      · obtain ⟨g, ys, rs, v6, v7, e7, hys, wys, enr, rfl⟩ := p
        obtain ⟨w, hw, b, rfl, hb⟩ := wus.get hx
        obtain ⟨gw, zw, vw⟩ := en.at' t w hw
        have ht := (List.getElem?_eq_some_iff.mp hw).1
        rw [en.len] at ht
        have hcl : (Od.bh L (Od.lst none w)).length = c := by
          rw [Od.bh_len gw, ← hc]
          by_cases h0 : i = 0
          · rw [if_pos h0, if_pos (List.eq_nil_of_length_eq_zero (by omega))]
          · rw [if_neg h0, if_neg (fun e => by rw [e] at zw; exact h0 zw.symm)]
        have hb7 := ex_t (e6.trans e7) hb
        walk_at "go"
        refine ⟨L, rfl, h4, fun d H8 hd e8 h8 => ?_⟩
        walk_at "go"
        refine r_itL (l_of h8) (r_cmLA (xs := (Od.steps L).map V.int) (fun i acc H' => Ex H8 H' ∧ WkA K H' acc ((((Od.steps L).take i).filter fun s => decide (Od.lst none w ≠ some (-s))).map fun s => w ++ [s])) (by rw [List.length_map, Od.steps_len]; omega) (fun _ => rfl) (fun i ys H' p => ex_l p.1 (l_of h8)) (fun B hB o => ⟨Ex.new hB, WkA.nil⟩)
          (fun i x H9 B acc hx hz hacc p hall => ?_) fun B H9 bs hB h9 p _ => ?_)
        · obtain ⟨e9, wacc⟩ := p
          have hB8 : H8 B = none := ex_none fun o => (hall o).1
          rw [List.getElem?_map] at hx
          cases hn : (Od.steps L)[i]? with
          | none => rw [hn] at hx; cases hx
          | some s1 =>
          rw [hn] at hx
          cases hx
          have hi2 := (List.getElem?_eq_some_iff.mp hn).1
          rw [Od.steps_len] at hi2
          have tk := take_snoc hn
          have hb9 := ex_t (e8.trans e9) hb7
          walk_at "go"
          refine r_slT hb9 fun c1 H10 e10 k10 => ?_
          rw [cut_last] at k10
          walk_at "go"
          refine r_newT (by simp) fun c2 H11 _ e11 k11 => ?_
          walk_at "go"
          refine r_neT (ms := [-s1]) (ex_t e11 k10) (t_of k11) ?_
          rw [← Od.lst_ne]
          have e12 := e10.trans e11
          walk_at "go"
          refine if_2 (fun h0 => ?_) fun h0 => ?_
          · walk_at "go"
            refine r_newT (by simp) fun c3 H12 _ e13 k13 => ?_
            walk_at "go"
            refine r_catT (ys := [V.int s1]) (ex_t (e12.trans e13) hb9) (t_of k13) (by rw [List.length_map]; simp; omega) fun c4 H13 e14 k14 => ?_
            have e15 := (e12.trans e13).trans e14
            have hB13 := e15 _ _ hacc
            refine cm_yes hB13 hz (by omega) fun o => ⟨ex_put (e9.trans e15) hB8, ?_⟩
            rw [tk, List.filter_append, List.map_append, List.filter_cons_of_pos (by simpa using h0), List.filter_nil]
            refine ((wacc.ex e15).tx (TX.upd hB13)).snoc ⟨c4, rfl, tx_t (TX.upd hB13) ?_⟩
            show SqT K H13 c4 ((w ++ [s1]).map V.int)
            rw [List.map_append]
            exact k14
          · have hB11 := e12 _ _ hacc
            refine cm_no hB11 hz fun o => ⟨ex_put (e9.trans e12) hB8, ?_⟩
            rw [tk, List.filter_append, List.map_append, List.filter_cons_of_neg (by simpa using h0), List.filter_nil, List.map_nil, List.append_nil]
            exact (wacc.ex e12).tx (TX.upd hB11)
        obtain ⟨e9, wbs⟩ := p
        rw [List.length_map, List.take_length] at wbs
        have zb : bs.length ≤ 8 := by
          rw [wbs.len, List.length_map]
          exact Od.bh_small h4 (Od.lst none w)
        have zy : ys.length ≤ 1000 := by
          rw [wys.len, enr.len]
          have : t * c ≤ Od.tot L none i * c := Nat.mul_le_mul_right _ (by omega)
          omega
        have e10 := e8.trans e9
        walk_at "go"
        refine r_catL (e10 _ _ hys) h9 (by omega) fun c6 H10 _ e11 k11 => ?_
        walk_at "go"
        refine ⟨c6, _, _, _, _, (e7.trans e10).trans e11, k11, ((wys.ex e10).app wbs).ex e11, ?_, rfl⟩
        have := Od.en_step (ws := rs) (w := w) (z := i) (t := t) (by rw [hcl]; exact enr) gw zw vw
        rw [hcl] at this
        exact this
      · obtain ⟨g, ys, rs, v6, v7, e7, hys, wys, enr, rfl⟩ := p
        rw [wus.len, en.len, ← htc] at enr
        have e8 := e6.trans e7
        walk_at "go"
        have zx : xs.length ≤ 1000 := by rw [wxs.len, fd.len]; omega
        have zy : ys.length ≤ 1000 := by rw [wys.len, enr.len]; omega
        refine r_catL (e8 _ _ hxs) hys (by omega) fun c6 H8 hc6 e9 k9 => ?_
        walk_at "go"
        exact ⟨c6, _, _, g, ys, rs, _, _, _, _, fresh_back (e5.trans e8) hc6, (e5.trans e8).trans e9, k9, ((wxs.ex e8).app wys).ex e9, Od.fd_step fd enr, e9 _ _ hys, wys.ex e9, enr, rfl⟩
    · rintro σ' H5 ⟨f, xs, ws, y, us, vs, v4, v5, v6, v7, hf, e5, hxs, wxs, fd, hus, wus, en, rfl⟩
      rw [show (z : Int).toNat = z by omega] at fd
      walk_at "go"
      exact q f xs ws H5 hf e5 hxs wxs fd
def sp__law_is (K : PySem.W.Frag) : Sp := fun vs H Q _ => ∃ a b ns, vs = [.ref a, .ref b] ∧ IT K H a ns ∧ IT K H b ns ∧ ns.length ≤ 5000 ∧ ∀ H1, Ex H H1 → Q (.bl true) H1
theorem ok__law_is (T : Tx K mg A) : FnOk P w K mg base CX0 1 A.a__law_is A.f__law_is P__law_is (sp__law_is K) := by
  refine T.F__law_is.ok sc__law_is (fun vs H Q E h => ?_) (fun cdv A' outer s H vs Q E hr h => ?_)
  · obtain ⟨a, b, ns, rfl, _⟩ := h
    rfl
  · obtain ⟨a, b, ns, rfl, ha, hb, hz, q⟩ := h
    refine ⟨_, (pss_cons (ps_if (PW.pt (pw_or (pt_not (pt_truK K (pe_callB (isi_K K) (by rfl) T.n_isinstance (by decide +kernel) (pa_cons (pv 0) (pa_cons (pe_bltn (v := .ty "tuple") (by rfl) T.n_tuple (by decide +kernel) rfl) pa_nil))))) (pw_or1 (pt_cmpR (op_neK K hr.units) (pv 0) (pv 1) (nomark _))))) (pss_one (ps_ret pe_bl)) pss_nil)
      (pss_one (ps_ret (pe_callB (all_K K rfl) (by rfl) T.n_all (by decide +kernel) (pa_cons (pe_lc (own := [("_law_step", 2)]) rfl sc__law_is.nd (pi_tupK K (pv 0)) (blkOk_by (own := [("_law_step", 2)]) (N := N__law_is) (sc := defScope s__law_is) (by decide +kernel)) (fun _ _ _ _ _ => (pg_name (i := 2) sc__law_is.nd rfl (Or.inl rfl))) (fun _ _ _ _ _ => pts_nil) (fun _ _ _ _ _ => (pe_and (pe_callB (isi_K K) (by rfl) T.n_isinstance (by decide +kernel) (pa_cons (pv 2) (pa_cons (pe_bltn (v := .ty "int") (by rfl) T.n_int (by decide +kernel) rfl) pa_nil))) (pe_one (pe_not (pe_callB (isi_K K) (by rfl) T.n_isinstance (by decide +kernel) (pa_cons (pv 2) (pa_cons (pe_bltn (v := .ty "bool") (by rfl) T.n_bool (by decide +kernel) rfl) pa_nil)))))))) pa_nil))))), ?_⟩
    walk_at "go"
    refine r_isiT (b := true) ha (kit_ty (by decide +kernel)) ?_
    walk_at "go"
    refine r_neT ha hb ?_
    walk_at "go"
    rw [decide_eq_true (rfl : ns = ns)]
    walk_at "go"
    refine r_itT ha (r_cmT (ys := (ns.map fun _ => true).map V.bl) (xs := ns.map V.int) ha (by simp) (by simp; omega) (fun _ => rfl) (fun i x y H1 hx hy e1 Q' k => ?_) (fun D H1 hD e1 h1 => ?_))
    · rw [List.getElem?_map] at hx
      rw [List.getElem?_map, List.getElem?_map] at hy
      cases hn : ns[i]? with
      | none => rw [hn] at hx; cases hx
      | some z =>
        rw [hn] at hx hy
        cases hx
        cases hy
        walk_at "go"
        refine r_isiI (b := true) (kit_ty (by decide +kernel)) ?_
        walk_at "go"
        refine r_isiI (b := false) (kit_ty (by decide +kernel)) ?_
        walk_at "go"
        exact k H1 (Ex.refl H1)
    · walk_at "go"
      refine r_all (l_of h1) ?_
      have e : ((ns.map fun _ => true).all id) = true := by simp
      rw [e]
      exact q H1 e1
def sp__law_short (K : PySem.W.Frag) : Sp := fun vs H Q _ => ∃ (L : Nat), vs = [.int L] ∧ 1 ≤ L ∧ L ≤ 4 ∧ ∀ H1, Ex H H1 → Q (.bl true) H1
theorem ok__law_short (T : Tx K mg A) : FnOk P w K mg base CX0 6 A.a__law_short A.f__law_short P__law_short (sp__law_short K) := by
  refine T.F__law_short.ok sc__law_short (fun vs H Q E h => ?_) (fun cdv A' outer s H vs Q E hr h => ?_)
  · obtain ⟨L, rfl, _⟩ := h
    rfl
  · obtain ⟨L, rfl, h1, h4, q⟩ := h
    refine ⟨_, (pss_cons (ps_set (i := 1) sc__law_short.nd rfl (Or.inl rfl) (pe_call (ok__law_all T) (hr.mono (by decide)) (by rfl) T.g__law_all T.F__law_all.kp T.b__law_all .nil pass0 (pa_cons (pv 0) (pa_cons (pe_ix (ix_K K) (pe_lst (pa_cons pe_int (pa_cons pe_int (pa_cons pe_int (pa_cons pe_int pa_nil))))) (pe_op op_sub (pv 0) pe_int) (fun _ _ => rfl)) pa_nil))))
      (pss_cons (ps_for PassesOwn.never rfl (pi_range1 (by rfl) T.n_range (pa_cons (pe_callB (len_K K) (by rfl) T.n_len (by decide +kernel) (pa_cons (pv 1) pa_nil)) pa_nil)) (pg_name (i := 2) sc__law_short.nd rfl (Or.inl rfl)) (pss_cons (ps_set (i := 3) sc__law_short.nd rfl (Or.inl rfl) (pe_ix (ix_K K) (pv 1) (pv 2) (fun _ _ => rfl)))
      (pss_cons (ps_if (PW.pt (pw_or (pt_not (pt_truK K (pe_call (ok__law_is T) (hr.mono (by decide)) (by rfl) T.g__law_is T.F__law_is.kp T.b__law_is .nil pass0 (pa_cons (pe_call (ok_nth_walk T) (hr.mono (by decide)) (by rfl) T.g_nth_walk T.F_nth_walk.kp T.b_nth_walk .nil pass0 (pa_cons (pv 0) (pa_cons (pv 2) pa_nil))) (pa_cons (pv 3) pa_nil))))) (pw_or1 (pt_not (pt_truK K (pe_call (ok__law_number T) (hr.mono (by decide)) (by rfl) T.g__law_number T.F__law_number.kp T.b__law_number .nil pass0 (pa_cons (pe_call (ok_number_of T) (hr.mono (by decide)) (by rfl) T.g_number_of T.F_number_of.kp T.b_number_of .nil pass0 (pa_cons (pv 0) (pa_cons (pv 3) pa_nil))) (pa_cons (pv 2) pa_nil)))))))) (pss_one (ps_ret pe_bl)) pss_nil)
      (pss_one (ps_if (PW.pt (pw_and (pt_cmpR op_lt (pe_op (op_addK K) (pv 2) pe_int) (pe_callB (len_K K) (by rfl) T.n_len (by decide +kernel) (pa_cons (pv 1) pa_nil)) (nomark _)) (pw_and1 (pt_not (pt_truK K (pe_call (ok__law_is T) (hr.mono (by decide)) (by rfl) T.g__law_is T.F__law_is.kp T.b__law_is .nil pass0 (pa_cons (pe_call (ok_next_walk T) (hr.mono (by decide)) (by rfl) T.g_next_walk T.F_next_walk.kp T.b_next_walk .nil pass0 (pa_cons (pv 0) (pa_cons (pv 3) pa_nil))) (pa_cons (pe_ix (ix_K K) (pv 1) (pe_op (op_addK K) (pv 2) pe_int) (fun _ _ => rfl)) pa_nil)))))))) (pss_one (ps_ret pe_bl)) pss_nil)))))
      (pss_cons (ps_for PassesOwn.never rfl (pi_range1 (by rfl) T.n_range (pa_cons (pe_op (op_addK K) (pe_callB (len_K K) (by rfl) T.n_len (by decide +kernel) (pa_cons (pe_ix (ix_K K) (pv 1) (pe_un un_neg pe_int) (fun _ _ => rfl)) pa_nil)) pe_int) pa_nil)) (pg_name (i := 4) sc__law_short.nd rfl (Or.inr rfl)) (pss_cons (ps_set (i := 5) sc__law_short.nd rfl (Or.inl rfl) (pe_callB (len_K K) (by rfl) T.n_len (by decide +kernel) (pa_cons (pe_lc (own := [("_law_walk_here", 3)]) rfl sc__law_short.nd (pi_listK K (pv 1)) (blkOk_by (own := [("_law_walk_here", 3)]) (N := N__law_short) (sc := defScope s__law_short) (by decide +kernel)) (fun _ _ _ _ _ => (pg_name (i := 3) sc__law_short.nd rfl (Or.inl rfl))) (fun _ _ _ _ _ => (pts_one (pt_cmpR (op_eqK K hr.units) (pe_callB (len_K K) (by rfl) T.n_len (by decide +kernel) (pa_cons (pv 3) pa_nil)) (pv 4) (nomark _)))) (fun _ _ _ _ _ => (pv 3))) pa_nil)))
      (pss_one (ps_if (pt_not (pt_truK K (pe_call (ok__law_number T) (hr.mono (by decide)) (by rfl) T.g__law_number T.F__law_number.kp T.b__law_number .nil pass0 (pa_cons (pe_call (ok_how_many T) (hr.mono (by decide)) (by rfl) T.g_how_many T.F_how_many.kp T.b_how_many .nil pass0 (pa_cons (pv 0) (pa_cons (pv 4) pa_nil))) (pa_cons (pv 5) pa_nil))))) (pss_one (ps_ret pe_bl)) pss_nil))))
      (pss_one (ps_ret pe_bl))))), ?_⟩
    walk_at "go"
    refine r_newL (by simp) fun c1 H1 _ e1 k1 => ?_
    walk_at "go"
    obtain ⟨z, hz, hS⟩ : ∃ z : Nat, atI [V.int 12, V.int 4, V.int 3, V.int 3] ((L : Int) - 1) = some (.int (z : Int)) ∧ Od.S L (z + 1) ≤ 500 := by
      have : L = 1 ∨ L = 2 ∨ L = 3 ∨ L = 4 := by omega
      rcases this with rfl | rfl | rfl | rfl
      · exact ⟨12, rfl, by decide⟩
      · exact ⟨4, rfl, by decide⟩
      · exact ⟨3, rfl, by decide⟩
      · exact ⟨3, rfl, by decide⟩
    refine r_ixL (l_of k1) hz ?_
    walk_at "go"
    refine ⟨L, z, rfl, h1, h4, by omega, fun p xs ws H2 _ e2 hp wa fd => ?_⟩
    have hL : ∀ z', z' ≤ Od.S L z' := Od.S_ge h1
    have zlen := hL (z + 1)
    clear k1 hz
    walk_at "go"
    refine r_lenL (l_of hp) ?_
    rw [wa.len, fd.len]
    have inj : ∀ {q w u}, ws[q]? = some w → Od.G L none u → Od.place L u = q → u = w := fun hq gu pu => by
      obtain ⟨gw, _, pw⟩ := fd.at' _ _ hq
      exact Od.place_inj gu gw (pu.trans pw.symm)
    have small : ∀ {q}, q ≤ 1000 → ((q : Nat) < 2 ^ 2000 ∧ ∀ z', Od.S L z' ≤ q → z' ≤ 1000) := fun {q} hq => ⟨Nat.lt_of_le_of_lt hq (Nat.lt_of_lt_of_le (by decide : (1000 : Nat) < 2 ^ 10) (Nat.pow_le_pow_right (by decide) (by decide))), fun z' h => by have := hL z'; omega⟩
    walk_at "go"
    refine r_rng1 (by omega) (by omega) (r_forR (m := ((Od.S L (z + 1) : Nat) : Int).toNat) (fun i σ' H' => ∃ v2 v3 v4 v5, Ex H2 H' ∧ σ' = [some (.int L), some (.ref p), v2, v3, v4, v5]) ⟨none, none, none, none, Ex.refl H2, rfl⟩ ?_ ?_)
    · rintro i σ' H3 hi ⟨v2, v3, v4, v5, e3, rfl⟩
      have hi2 : i < ws.length := by rw [fd.len]; omega
      have hq := List.getElem?_eq_getElem hi2
      generalize ws[i] = w at hq
      obtain ⟨gw, zw, pw⟩ := fd.at' _ _ hq
      obtain ⟨sw, strw⟩ := Od.of_G gw
      have hxi := List.getElem?_eq_getElem (show i < xs.length by rw [wa.len]; exact hi2)
      obtain ⟨b, hb, hbt⟩ := wa.at' i _ _ hxi hq
      rw [hb] at hxi
      have hp3 := e3 _ _ hp
      have hb3 := ex_t e3 hbt
      walk_at "go"
      refine r_ixL (l_of hp3) (atI_at (by omega) (by rw [show (0 + (i : Int)).toNat = i by omega]; exact hxi)) ?_
      walk_at "go"
      have ei : (0 + (i : Int)) = ((i : Nat) : Int) := by omega
      rw [ei]
      obtain ⟨sm1, sm2⟩ := small (q := i) (by omega)
      refine ⟨L, i, rfl, h1, h4, sm1, sm2, fun p1 u H4 e4 hu gu pu => ?_⟩
      have := inj hq gu pu
      subst this
      walk_at "go"
      refine ⟨p1, b, u, rfl, hu, ex_t e4 hb3, by omega, fun H5 e5 => ?_⟩
      refine r_truB ?_
      walk_at "go"
      have e45 := e4.trans e5
      refine ⟨L, b, u, rfl, h1, h4, ex_t e45 hb3, sw, by omega, fun H6 e6 => ?_⟩
      rw [Fg.rd_str strw, pw]
      walk_at "go"
      refine ⟨i, rfl, ?_⟩
      refine r_truB ?_
      walk_at "go"
      have e46 := e45.trans e6
      refine r_lenL (l_of (e46 _ _ hp3)) ?_
      rw [wa.len, fd.len]
      walk_at "go"
      refine if_2 (fun h7 => ?_) fun h7 => ?_
      · have hi3 : i + 1 < ws.length := by rw [fd.len]; omega
        have hq2 := List.getElem?_eq_getElem hi3
        generalize ws[i + 1] = w2 at hq2
        have hx2 := List.getElem?_eq_getElem (show i + 1 < xs.length by rw [wa.len]; exact hi3)
        obtain ⟨b2, hb2, hb2t⟩ := wa.at' _ _ _ hx2 hq2
        rw [hb2] at hx2
        walk_at "go"
        refine ⟨L, b, u, rfl, h1, h4, ex_t e46 hb3, sw, by omega, fun p2 u2 H7 e7 hu2 gu2 pu2 => ?_⟩
        rw [Fg.rd_str strw, pw] at pu2
        have := inj hq2 gu2 pu2
        subst this
        obtain ⟨_, zu2, _⟩ := fd.at' _ _ hq2
        walk_at "go"
        have e47 := e46.trans e7
        refine r_ixL (l_of (e47 _ _ hp3)) (atI_at (by omega) (by rw [show ((i : Int) + 1).toNat = i + 1 by omega]; exact hx2)) ?_
        walk_at "go"
        refine ⟨p2, b2, u2, rfl, hu2, ex_t (e3.trans e47) hb2t, by omega, fun H8 e8 => ?_⟩
        refine r_truB ?_
        walk_at "go"
        exact ⟨_, _, _, _, (e3.trans e47).trans e8, rfl⟩
      · walk_at "go"
        exact ⟨_, _, _, _, e3.trans e46, rfl⟩
    · rintro σ' H3 ⟨v2, v3, v4, v5, e3, rfl⟩
      have hp3 := e3 _ _ hp
      -- the last one
      have hlast : ws.length - 1 < ws.length := by rw [fd.len]; omega
      have hq := List.getElem?_eq_getElem hlast
      generalize ws[ws.length - 1] = w at hq
      obtain ⟨gw, zw, pw⟩ := fd.at' _ _ hq
      have hxi := List.getElem?_eq_getElem (show ws.length - 1 < xs.length by rw [wa.len]; exact hlast)
      obtain ⟨b, hb, hbt⟩ := wa.at' _ _ _ hxi hq
      rw [hb] at hxi
      walk_at "go"
      refine r_ixL (l_of hp3) (at_lastV (by rw [wa.len]; omega) (by rw [wa.len]; exact hxi)) ?_
      walk_at "go"
      refine r_lenT (ex_t e3 hbt) ?_
      rw [List.length_map]
      walk_at "go"
      refine r_rng1 (by omega) (by omega) (r_forR (m := ((w.length : Int) + 1).toNat) (fun i σ' H' => ∃ v2 v3 v4 v5, Ex H2 H' ∧ σ' = [some (.int L), some (.ref p), v2, v3, v4, v5]) ⟨_, _, _, _, e3, rfl⟩ ?_ ?_)
      · rintro i σ' H4 hi ⟨v2, v3, v4, v5, e4, rfl⟩
        walk_at "go"
        have hp4 := e4 _ _ hp
        refine r_itL (l_of hp4) (r_cmLA (xs := xs) (fun t acc H' => Ex H4 H' ∧ acc.length = ((ws.take t).filter fun w => decide (w.length = i)).length) (by rw [wa.len, fd.len]; omega) (fun _ => rfl) (fun t ys H' p => ex_l p.1 (l_of hp4)) (fun B hB o => ⟨Ex.new hB, rfl⟩)
          (fun t x H5 B acc hx hz hacc pq hall => ?_) fun B H5 bs hB h5 pq _ => ?_)
        · obtain ⟨e5, zacc⟩ := pq
          have hB4 : H4 B = none := ex_none fun o => (hall o).1
          obtain ⟨u, hu, c, rfl, hc⟩ := wa.get hx
          have ht := (List.getElem?_eq_some_iff.mp hu).1
          rw [fd.len] at ht
          have tk := take_snoc hu
          walk_at "go"
          refine r_lenT (ex_t (e4.trans e5) hc) ?_
          rw [List.length_map]
          walk_at "go"
          refine if_2 (fun h0 => ?_) fun h0 => ?_
          · walk_at "go"
            refine cm_yes hacc hz (by omega) fun o => ⟨ex_put e5 hB4, ?_⟩
            rw [tk, List.filter_append, List.filter_cons_of_pos (by simp; omega), List.filter_nil, List.length_append, List.length_append, zacc]
            rfl
          · refine cm_no hacc hz fun o => ⟨ex_put e5 hB4, ?_⟩
            rw [tk, List.filter_append, List.filter_cons_of_neg (by simp; omega), List.filter_nil, List.append_nil, zacc]
        · obtain ⟨e5, zbs⟩ := pq
          rw [wa.len, List.take_length, Od.fd_many fd (by omega)] at zbs
          walk_at "go"
          refine r_lenL (l_of h5) ?_
          rw [zbs]
          walk_at "go"
          refine ⟨L, i, by rw [Int.zero_add]; rfl, h1, h4, by omega, fun H6 e6 => ?_⟩
          walk_at "go"
          refine ⟨_, rfl, ?_⟩
          refine r_truB ?_
          walk_at "go"
          exact ⟨_, _, _, _, (e4.trans e5).trans e6, rfl⟩
      · rintro σ' H4 ⟨v2, v3, v4, v5, e4, rfl⟩
        walk_at "go"
        exact q H4 ((e1.trans e2).trans e4)
end
end Lw
namespace Lw
open PySem PySem.Spec PyProof.Rows L2 Evl

local macro_rules | `(tactic| walk_at "go") => `(tactic| repeat (first
  | with_reducible refine st_seq ?_ | with_reducible refine st_set ?_ | with_reducible refine st_asg ?_ | with_reducible refine st_ret ?_ | with_reducible refine st_drop ?_ | with_reducible refine st_if ?_
  | with_reducible refine st_c ?_ | ((with_reducible refine' st_v ?h ?_); (case h => exact rfl)) | with_reducible refine st_n ?_ | with_reducible refine st_cons ?_ | with_reducible refine st_op ?_ | with_reducible refine st_un ?_
  | with_reducible refine st_cb ?_ | with_reducible refine st_test ?_ | with_reducible refine st_call ?_ | with_reducible refine st_callK ?_ | with_reducible refine st_sl ?_ | with_reducible refine st_par ?_ | with_reducible refine st_tru ?_
  | with_reducible refine st_and ?_ | with_reducible refine st_or ?_ | with_reducible refine st_not ?_ | with_reducible refine st_B ?_ | with_reducible refine st_andV ?_ | with_reducible refine st_orV ?_ | with_reducible refine st_notV ?_ | with_reducible refine st_ifE ?_
  | with_reducible refine st_part ?_ | with_reducible refine st_nop ?_ | with_reducible refine st_sub ?_ | with_reducible refine st_chain ?_ | with_reducible refine st_bl ?_ | with_reducible refine st_in ?_ | with_reducible refine r_truB ?_
  | with_reducible refine st_nameG ?_ | with_reducible refine if_T ?_ | with_reducible refine if_F ?_ | with_reducible refine if_nT ?_ | with_reducible refine if_nF ?_
  | with_reducible refine r_add ?_ | with_reducible refine r_0 ?_ | with_reducible refine r_neg ?_ | with_reducible refine r_intI ?_ | with_reducible refine r_intB ?_ | with_reducible refine r_abs ?_ | with_reducible refine r_max2 ?_ | with_reducible refine r_min2 ?_ | with_reducible refine r_eqI ?_ | with_reducible refine r_neI ?_
  | with_reducible refine st_nxt ?_ | with_reducible refine st_cnt ?_ | with_reducible refine st_brk ?_ | with_reducible refine st_retn ?_
  | with_reducible refine st_lstN ?_ | with_reducible refine st_tupN ?_
  | with_reducible refine st_for ?_ | with_reducible refine st_lc ?_ | with_reducible refine st_lc2 ?_ | with_reducible refine st_rng1 ?_ | with_reducible refine st_rng2 ?_ | with_reducible refine st_rng3 ?_ | with_reducible refine st_itL ?_ | with_reducible refine st_itT ?_ | with_reducible refine st_rev ?_ | with_reducible refine st_enumE ?_ | with_reducible refine st_zip3 ?_ | with_reducible refine st_lstRg ?_ | with_reducible refine st_rg2 ?_ | with_reducible refine r_twoI ?_ | with_reducible refine st_bm ?_ | with_reducible refine st_bm0 ?_
  | ((with_reducible refine' st_aug ?h ?_); (case h => exact rfl)) | with_reducible refine r_augI ?_ | with_reducible refine r_eqB ?_
  | dsimp only))
section
variable {P : Program} {w : World} {K : PySem.W.Frag} {mg : Str → Option Value} {base : Heap} {A : Ad}

def sp__law_joined (K : PySem.W.Frag) : Sp := fun vs H Q _ => ∃ a b ns ms, vs = [.ref a, .ref b] ∧ IT K H a ns ∧ IT K H b ms ∧ ns.length ≤ 5000 ∧ ms.length ≤ 5000 ∧ Fg.Str ns ∧ Fg.Str ms ∧ ∀ p H1, Ex H H1 → IT K H1 p (Fg.rd (ns ++ ms)) → Q (.ref p) H1
theorem ok__law_joined (T : Tx K mg A) : FnOk P w K mg base CX0 1 A.a__law_joined A.f__law_joined P__law_joined (sp__law_joined K) := by
  refine T.F__law_joined.ok sc__law_joined (fun vs H Q E h => ?_) (fun cdv A' outer s H vs Q E hr h => ?_)
  · obtain ⟨a, b, ns, ms, rfl, _⟩ := h
    rfl
  · obtain ⟨a, b, ns, ms, rfl, ha, hb, hza, hzb, sa, sb, q⟩ := h
    refine ⟨_, (pss_cons (ps_set (i := 2) sc__law_joined.nd rfl (Or.inl rfl) pe_int)
      (pss_cons (ps_while PassesOwn.never (PW.pt (pw_and (pt_cmpR op_lt (pv 2) (pe_callB (len_K K) (by rfl) T.n_len (by decide +kernel) (pa_cons (pv 0) pa_nil)) (nomark _)) (pw_and (pt_cmpR op_lt (pv 2) (pe_callB (len_K K) (by rfl) T.n_len (by decide +kernel) (pa_cons (pv 1) pa_nil)) (nomark _)) (pw_and1 (pt_cmpR (op_eqK K hr.units) (pe_ix (ix_K K) (pv 0) (pe_op op_sub (pe_op op_sub (pe_callB (len_K K) (by rfl) T.n_len (by decide +kernel) (pa_cons (pv 0) pa_nil)) pe_int) (pv 2)) (fun _ _ => rfl)) (pe_un un_neg (pe_ix (ix_K K) (pv 1) (pv 2) (fun _ _ => rfl))) (nomark _)))))) (pss_one (ps_set (i := 2) sc__law_joined.nd rfl (Or.inl rfl) (pe_op (op_addK K) (pv 2) pe_int))))
      (pss_one (ps_ret (pe_op (op_addK K) (pe_slice (sl_K K) (pv 0) po_none (po_some (pe_op op_sub (pe_callB (len_K K) (by rfl) T.n_len (by decide +kernel) (pa_cons (pv 0) pa_nil)) (pv 2)))) (pe_slice (sl_K K) (pv 1) (po_some (pv 2)) po_none)))))), ?_⟩
    walk_at "go"
    refine st_while (fun m σ' H' => ∃ k : Nat, H' = H ∧ σ' = [some (.ref a), some (.ref b), some (.int (k : Int))] ∧ m + k = ns.length ∧ Fg.Opp ns ms k) ns.length ⟨0, rfl, rfl, rfl, Fg.opp_zero _ _⟩ ?_
    rintro m σ' H' ⟨k, rfl, rfl, hm, ho⟩
    -- behind the loop
    have tail : (k < ns.length → k < ms.length → ∀ x y, ns[ns.length - 1 - k]? = some x → ms[k]? = some y → x ≠ -y) →
        tRet (tOp (rAddU K) (tSl (rSlU K) (tVar 0) tNoPart (tPart (tOp (rI0 fun i j => .int (i - j)) (tCB (rLenU K) (tCons (tVar 0) tNil)) (tVar 2)))) (tSl (rSlU K) (tVar 1) (tPart (tVar 2)) tNoPart)) { nx := fun _ H' => Q .non H', rt := Q } [some (.ref a), some (.ref b), some (.int (k : Int))] H' := by
      intro hend
      walk_at "go"
      refine r_lenT ha ?_
      walk_at "go"
      rw [List.length_map]
      refine r_slT ha fun c H1 e1 h1 => ?_
      walk_at "go"
      refine r_slT (ex_t e1 hb) fun d H2 e2 h2 => ?_
      rw [cut_to (by have := ho.1; omega)] at h1
      rw [cut_from (by omega)] at h2
      refine r_catT (ex_t e2 h1) h2 (by simp only [List.length_map, List.length_take, List.length_drop]; omega) fun p H3 e3 h3 => ?_
      refine q p H3 ((e1.trans e2).trans e3) ?_
      rw [← Fg.join_ok sa sb ho hend]
      show SqT K H3 p ((ns.take (ns.length - k) ++ ms.drop k).map V.int)
      rw [List.map_append]
      have k1 : ((ns.length : Int) - (k : Int)).toNat = ns.length - k := by omega
      have k2 : ((k : Nat) : Int).toNat = k := by omega
      rw [k1, k2] at h3
      exact h3
    walk_at "go"
    refine r_lenT ha ?_
    walk_at "go"
    rw [List.length_map]
    refine if_2 (fun h1 => ?_) fun h1 => ?_
    · walk_at "go"
      refine r_lenT hb ?_
      walk_at "go"
      rw [List.length_map]
      refine if_2 (fun h2 => ?_) fun h2 => ?_
      · walk_at "go"
        refine r_lenT ha ?_
        walk_at "go"
        rw [List.length_map]
        have l1 : ns.length - 1 - k < ns.length := by omega
        have l2 : k < ms.length := by omega
        have k1 : ((ns.length : Int) - 1 - (k : Int)).toNat = ns.length - 1 - k := by omega
        refine r_ixT ha (at_int (x := ns[ns.length - 1 - k]) (by omega) (by rw [k1]; exact List.getElem?_eq_getElem l1)) ?_
        walk_at "go"
        refine r_ixT hb (at_int (x := ms[k]) (by omega) (by rw [show ((k : Nat) : Int).toNat = k by omega]; exact List.getElem?_eq_getElem l2)) ?_
        walk_at "go"
        refine if_2 (fun h3 => ?_) fun h3 => ?_
        · refine ⟨_, fun _ _ h => h, ?_⟩
          walk_at "go"
          exact ⟨m - 1, by omega, k + 1, rfl, rfl, by omega, Fg.opp_succ ho (by omega) l2 (List.getElem?_eq_getElem l1) (List.getElem?_eq_getElem l2) h3⟩
        · refine tail fun _ _ x y hx hy => ?_
          rw [List.getElem?_eq_getElem l1] at hx
          rw [List.getElem?_eq_getElem l2] at hy
          cases hx
          cases hy
          exact h3
      · exact tail fun _ z => absurd z (by omega)
    · exact tail fun z => absurd z (by omega)
def sp__law_straight (K : PySem.W.Frag) : Sp := fun vs H Q _ => ∃ a ns, vs = [.ref a] ∧ IT K H a ns ∧ ns.length ≤ 4000 ∧ ∀ p H1, Ex H H1 → IT K H1 p (Fg.rd ns) → Q (.ref p) H1
theorem ok__law_straight (T : Tx K mg A) : FnOk P w K mg base CX0 2 A.a__law_straight A.f__law_straight P__law_straight (sp__law_straight K) := by
  refine T.F__law_straight.ok sc__law_straight (fun vs H Q E h => ?_) (fun cdv A' outer s H vs Q E hr h => ?_)
  · obtain ⟨a, ns, rfl, _⟩ := h
    rfl
  · obtain ⟨a, ns, rfl, ha, hz, q⟩ := h
    refine ⟨_, (pss_cons (ps_set (i := 1) sc__law_straight.nd rfl (Or.inl rfl) (pe_tup pa_nil))
      (pss_cons (ps_for PassesOwn.never rfl (pi_tupK K (pv 0)) (pg_name (i := 2) sc__law_straight.nd rfl (Or.inl rfl)) (pss_one (ps_set (i := 1) sc__law_straight.nd rfl (Or.inl rfl) (pe_call (ok__law_joined T) (hr.mono (by decide)) (by rfl) T.g__law_joined T.F__law_joined.kp T.b__law_joined .nil pass0 (pa_cons (pv 1) (pa_cons (pe_tup (pa_cons (pv 2) pa_nil)) pa_nil))))))
      (pss_one (ps_ret (pv 1))))), ?_⟩
    walk_at "go"
    refine r_newT (by simp) fun c H1 _ e1 h1 => ?_
    walk_at "go"
    refine r_itT (ex_t e1 ha) (r_forT (xs := ns.map V.int) (fun i σ' H' => ∃ d v, Ex H H' ∧ σ' = [some (.ref a), some (.ref d), v] ∧ IT K H' d (Fg.rd (ns.take i))) ⟨c, none, e1, rfl, t_of h1⟩ (fun i σ' H' _ p => ?_) (fun i x σ' H' hx p => ?_) (fun σ' H' p => ?_))
    · obtain ⟨d, v, e, _, _⟩ := p
      exact ex_t e ha
    · obtain ⟨d, v, e, rfl, hd⟩ := p
      rw [List.getElem?_map] at hx
      cases hn : ns[i]? with
      | none => rw [hn] at hx; cases hx
      | some z =>
        rw [hn] at hx
        cases hx
        walk_at "go"
        refine r_newT (by simp) fun f H2 _ e2 h2 => ?_
        walk_at "go"
        have hf : IT K H2 f [z] := t_of h2
        have hi := (List.getElem?_eq_some_iff.mp hn).1
        refine ⟨d, f, _, [z], rfl, ex_t e2 hd, hf, Nat.le_trans (Fg.rd_len _) (by rw [List.length_take]; omega), by simp, Fg.str_rd _, str_one z, fun p H3 e3 h3 => ?_⟩
        walk_at "go"
        refine ⟨p, _, (e.trans e2).trans e3, rfl, ?_⟩
        rw [take_snoc hn, ← Fg.rd_app_l]
        exact h3
    · obtain ⟨d, v, e, rfl, hd⟩ := p
      rw [List.length_map, List.take_length] at hd
      walk_at "go"
      exact q d H' e hd
def sp__law_walk (K : PySem.W.Frag) : Sp := fun vs H Q _ => ∃ w n l m, vs = [.ref w, .int l, .int m] ∧ Well H w n ∧ n < 2 ^ 20 ∧ 1 ≤ l ∧ l ≤ 4 ∧ 0 ≤ m ∧ m ≤ 60 ∧ ∀ p ns H1, DrS w H (n + 130) H1 → IT K H1 p ns → Stp l ns → (ns.length : Int) ≤ m → Q (.ref p) H1
theorem ok__law_walk (T : Tx K mg A) : FnOk P w K mg base CX0 2 A.a__law_walk A.f__law_walk P__law_walk (sp__law_walk K) := by
  refine T.F__law_walk.ok sc__law_walk (fun vs H Q E h => ?_) (fun cdv A' outer s H vs Q E hr h => ?_)
  · obtain ⟨w, n, l, m, rfl, _⟩ := h
    rfl
  · obtain ⟨w, n, l, m, rfl, hw, hn, hl1, hl4, hm0, hm, q⟩ := h
    refine ⟨_, (pss_cons (ps_par (i := 3) (j := 4) (by rfl) sc__law_walk.nd rfl rfl (by decide) rfl rfl (pa_cons (pe_call (ok__law_take T) (hr.mono (by decide)) (by rfl) T.g__law_take T.F__law_take.kp T.b__law_take .nil pass0 (pa_cons (pv 0) (pa_cons pe_int pa_nil))) (pa_cons (pe_ix (ix_K K) (pe_lst (pa_cons (pe_call (ok__law_take T) (hr.mono (by decide)) (by rfl) T.g__law_take T.F__law_take.kp T.b__law_take .nil pass0 (pa_cons (pv 0) (pa_cons (pe_op (op_addK K) (pv 2) pe_int) pa_nil))) (pa_cons (pv 2) pa_nil))) (pe_callTy int_K (by rfl) T.n_int (by decide +kernel) (pa_cons (pe_cmpR (op_eqK K hr.units) (pe_call (ok__law_take T) (hr.mono (by decide)) (by rfl) T.g__law_take T.F__law_take.kp T.b__law_take .nil pass0 (pa_cons (pv 0) (pa_cons pe_int pa_nil))) pe_int (nomark _)) pa_nil)) (fun _ _ => rfl)) pa_nil)) (by rfl))
      (pss_cons (ps_setLc (i := 5) (own := [("_law_turn", 7)]) rfl sc__law_walk.nd rfl rfl (sw_true rfl rfl rfl (by decide +kernel)) (pi_range1 (by rfl) T.n_range (pa_cons (pv 4) pa_nil)) (blkOk_by (own := [("_law_turn", 7)]) (N := N__law_walk) (sc := defScope s__law_walk) (by decide +kernel)) (fun _ _ _ _ _ => (pg_name (i := 7) sc__law_walk.nd rfl (Or.inl rfl))) (fun _ _ _ _ _ => pts_nil) (fun _ _ _ _ _ => (pe_op (op_mulK K) (pe_op (op_addK K) pe_int (pe_call (ok__law_take T) (hr.mono (by decide)) (by rfl) T.g__law_take T.F__law_take.kp T.b__law_take .nil pass0 (pa_cons (pv 0) (pa_cons (pv 1) pa_nil)))) (pe_op op_sub pe_int (pe_op (op_mulK K) pe_int (pe_call (ok__law_take T) (hr.mono (by decide)) (by rfl) T.g__law_take T.F__law_take.kp T.b__law_take .nil pass0 (pa_cons (pv 0) (pa_cons pe_int pa_nil))))))))
      (Evl.pss_cut (ps_if (pt_cmpR (op_eqK K hr.units) (pv 3) pe_int (nomark _)) (pss_one (ps_set (i := 5) sc__law_walk.nd rfl (Or.inl rfl) (pe_slice (sl_K K) (pe_op (op_mulK K) (pe_slice (sl_K K) (pv 5) po_none (po_some (pe_op (op_addK K) pe_int (pe_call (ok__law_take T) (hr.mono (by decide)) (by rfl) T.g__law_take T.F__law_take.kp T.b__law_take .nil pass0 (pa_cons (pv 0) (pa_cons pe_int pa_nil)))))) (pv 4)) po_none (po_some (pv 4))))) pss_nil)
      (Evl.pss_cut (ps_if (pt_cmpR (op_eqK K hr.units) (pv 3) pe_int (nomark _)) (pss_cons (ps_set (i := 6) sc__law_walk.nd rfl (Or.inl rfl) (pe_op op_fdivW (pv 4) pe_int))
      (pss_one (ps_set (i := 5) sc__law_walk.nd rfl (Or.inl rfl) (pe_op (op_addK K) (pe_slice (sl_K K) (pv 5) po_none (po_some (pe_op op_sub (pv 4) (pv 6)))) (pe_lc (own := [("_law_step", 8)]) rfl sc__law_walk.nd (pi_listK K (pe_revK K (pe_slice (sl_K K) (pv 5) po_none (po_some (pv 6))))) (blkOk_by (own := [("_law_step", 8)]) (N := N__law_walk) (sc := defScope s__law_walk) (by decide +kernel)) (fun _ _ _ _ _ => (pg_name (i := 8) sc__law_walk.nd rfl (Or.inl rfl))) (fun _ _ _ _ _ => pts_nil) (fun _ _ _ _ _ => (pe_un un_neg (pv 8)))))))) pss_nil)
      (Evl.pss_cut (ps_if (pt_cmpR (op_eqK K hr.units) (pv 3) pe_int (nomark _)) (pss_one (ps_setLc (i := 5) (own := [("_law_step", 8)]) rfl sc__law_walk.nd rfl rfl (sw_true rfl rfl rfl (by decide +kernel)) (pi_listK K (pv 5)) (blkOk_by (own := [("_law_step", 8)]) (N := N__law_walk) (sc := defScope s__law_walk) (by decide +kernel)) (fun _ _ _ _ _ => (pg_name (i := 8) sc__law_walk.nd rfl (Or.inl rfl))) (fun _ _ _ _ _ => pts_nil) (fun _ _ _ _ _ => (pe_callB abs_K (by rfl) T.n_abs (by decide +kernel) (pa_cons (pv 8) pa_nil))))) pss_nil)
      (pss_one (ps_ret (pe_callTy (tuple_K K) (by rfl) T.n_tuple (by decide +kernel) (pa_cons (pv 5) pa_nil))))))))), ?_⟩
    walk_at "go"
    refine ⟨w, n, 4, rfl, by omega, by omega, hw, by omega, fun way H1 w0 w4 e1 d1 => ?_⟩
    have s1 : DrS w H (n + 1) H1 := ⟨e1, d1⟩
    clear e1 d1
    walk_at "go"
    refine ⟨w, n + 1, m + 1, rfl, by omega, by omega, s1.well, by omega, fun r5 H2 r50 r5m e2 d2 => ?_⟩
    have s2 := s1.on e2 d2
    clear e2 d2 s1
    walk_at "go"
    refine r_newL (by simp) fun c H3 hc e3 h3 => ?_
    have s3 := s2.ext e3
    have hcw : c ≠ w := s2.well.ne hc
    clear e3 s2
    walk_at "go"
    refine ⟨w, n + 2, 6, rfl, by omega, by omega, s3.well, by omega, fun r6 H4 r60 r66 e4 d4 => ?_⟩
    have s4 := s3.on e4 d4
    have h4 := e4 c _ h3 hcw
    clear e4 d4 s3 h3 hc
    walk_at "go"
    obtain ⟨sz, hsz, sz0, szm⟩ : ∃ sz : Int, atI [V.int r5, V.int m] (if decide (r6 = 0) = true then 1 else 0) = some (.int sz) ∧ 0 ≤ sz ∧ sz ≤ m := by
      by_cases h6 : r6 = 0
      · rw [decide_eq_true h6]
        exact ⟨m, rfl, hm0, by omega⟩
      · rw [decide_eq_false h6]
        exact ⟨r5, rfl, r50, by omega⟩
    refine r_ixL (l_of h4) hsz ?_
    walk_at "go"
    refine ⟨_, _, rfl, ?_⟩
    clear h4 hsz hcw
    walk_at "go"
    -- the steps
    refine r_rng1 (by omega) (by omega) (r_cmRS (m := sz.toNat) (fun i H' => DrS w H (n + 3 + 2 * i) H') (fun y => ∃ z, y = .int z ∧ (z ≠ 0 ∧ -l ≤ z ∧ z ≤ l)) (by omega) (fun _ => rfl) s4 (fun i H1 D o h hD => h.new hD) (fun i H5 D acc hi s5 h5 u5 Q' k => ?_) fun D H5 ys hD hy1 hy2 s5 h5 => ?_)
    · obtain ⟨hDw, hD0⟩ := DrS.at u5
      walk_at "go"
      refine ⟨w, n + 3 + 2 * i, l, rfl, by omega, by omega, s5.well, by omega, fun r7 H6 r70 r7l e6 d6 => ?_⟩
      have s6 := s5.on e6 d6
      have h6 := e6 D _ h5 hDw
      walk_at "go"
      refine ⟨w, n + 3 + 2 * i + 1, 2, rfl, by omega, by omega, s6.well, by omega, fun r8 H7 r80 r82 e7 d7 => ?_⟩
      have s7 := s6.on e7 d7
      have h7 := e7 D _ h6 hDw
      walk_at "go"
      refine r_mul (.inl ⟨by omega, by omega⟩) ?_
      walk_at "go"
      refine r_mul (.inl ⟨by omega, by omega⟩) ?_
      have hr8 : r8 = 0 ∨ r8 = 1 := by omega
      refine k _ H7 ⟨_, rfl, ?_⟩ h7 fun o => DrS.put s7 hDw hD0
      rcases hr8 with e | e
      · subst e
        rw [show (1 : Int) - 2 * 0 = 1 by decide, Int.mul_one]
        omega
      · subst e
        rw [show (1 : Int) - 2 * 1 = -1 by decide, Int.mul_neg, Int.mul_one]
        omega
    obtain ⟨ns, rfl, hns⟩ := ints_of ys hy2
    have hDw : D ≠ w := s4.well.ne hD
    rw [List.length_map] at hy1
    clear hy2 hD s4
    have hsz : (sz.toNat : Int) = sz := by omega
    have szn : sz.toNat ≤ 60 := by omega
    walk_at "go"
    -- the list of steps, in whatever way it was made
    have start : ∃ (L : Addr) (ms : List Int), DrS w H (n + 123) H5 ∧ H5 L = some (.lst (ms.map V.int)) ∧ L ≠ w ∧ Stp l ms ∧ ms.length ≤ sz.toNat ∧ L = D := ⟨D, ns, s5.more (by omega), h5, hDw, hns, by omega, rfl⟩
    refine q_cut (M := fun σ' H' => ∃ (L : Addr) (ms : List Int), DrS w H (n + 124) H' ∧ H' L = some (.lst (ms.map V.int)) ∧ L ≠ w ∧ Stp l ms ∧ ms.length ≤ sz.toNat ∧
        σ' = [some (.ref w), some (.int l), some (.int m), some (.int way), some (.int sz), some (.ref L), none, none, none]) ?_ ?_
    · walk_at "go"
      refine if_2 (fun h0 => ?_) fun h0 => ?_
      · walk_at "go"
        refine ⟨w, n + 123, 4, rfl, by omega, by omega, s5.well.more (by omega), by omega, fun r9 H6 r90 r94 e6 d6 => ?_⟩
        have s6 := s5.on e6 d6
        have h6 := e6 D _ h5 hDw
        walk_at "go"
        refine r_slL (l_of h6) fun c2 H7 hc2 e7 h7 => ?_
        rw [cut_to (by omega)] at h7
        walk_at "go"
        refine r_repL h7 sz0 (by omega) ?_ fun c3 H8 hc3 e8 h8 => ?_
        · rw [List.length_map, List.length_take]
          exact Nat.le_trans (Nat.mul_le_mul (by omega : min (1 + r9).toNat ns.length ≤ 60) szn) (by decide)
        walk_at "go"
        have e9 : (List.replicate sz.toNat ((ns.take (1 + r9).toNat).map V.int)).flatten = ((List.replicate sz.toNat (ns.take (1 + r9).toNat)).flatten).map V.int := by simp [List.map_flatten]
        rw [e9] at h8
        refine r_slL (l_of h8) fun c4 H9 hc4 e9 h9 => ?_
        rw [cut_to sz0] at h9
        walk_at "go"
        have s9 := ((s6.ext e7).ext e8).ext e9
        refine ⟨c4, _, s9, h9, (s6.ext (e7.trans e8)).well.ne hc4, stp_of_mem hns fun x hx => ?_, by rw [List.length_take]; omega, rfl⟩
        have hx2 := List.mem_of_mem_take hx
        rw [List.mem_flatten] at hx2
        obtain ⟨y, hy, hxy⟩ := hx2
        rw [(List.mem_replicate.mp hy).2] at hxy
        exact List.mem_of_mem_take hxy
      · walk_at "go"
        exact ⟨D, ns, s5.more (by omega), h5, hDw, hns, by omega, rfl⟩
    rintro σ' H6 ⟨L, ms, s6, h6, hLw, hms, hml, rfl⟩
    clear s5 h5 hDw hns hy1 start ns
    refine q_cut (M := fun σ' H' => ∃ (L : Addr) (ms : List Int) (v : Option V), DrS w H (n + 124) H' ∧ H' L = some (.lst (ms.map V.int)) ∧ L ≠ w ∧ Stp l ms ∧ ms.length ≤ sz.toNat ∧
        σ' = [some (.ref w), some (.int l), some (.int m), some (.int way), some (.int sz), some (.ref L), v, none, none]) ?_ ?_
    · walk_at "go"
      refine if_2 (fun h0 => ?_) fun h0 => ?_
      · walk_at "go"
        refine r_div (b := 2) (by decide) (by decide) (by decide) (by decide) ?_
        walk_at "go"
        refine r_slL (l_of h6) fun c1 H7 hc1 e7 h7 => ?_
        rw [cut_to (by omega)] at h7
        walk_at "go"
        refine r_slL (l_of (e7 _ _ h6)) fun c2 H8 hc2 e8 h8 => ?_
        rw [cut_to (by omega)] at h8
        walk_at "go"
        refine r_revL (l_of h8) fun c3 H9 hc3 e9 h9 => ?_
        rw [← List.map_reverse] at h9
        refine r_itL (l_of h9) (r_cmL (ys := (((ms.take (sz / 3).toNat).reverse).map fun x => -x).map V.int) (l_of h9) (by simp) (by simp; omega) (fun _ => rfl) (fun i x y H10 hx hy e10 Q' k => ?_) fun c4 H10 hc4 e10 h10 => ?_)
        · rw [List.getElem?_map] at hx
          rw [List.getElem?_map, List.getElem?_map] at hy
          cases hz : ((ms.take (sz / 3).toNat).reverse)[i]? with
          | none => rw [hz] at hx; cases hx
          | some z =>
            rw [hz] at hx hy
            cases hx
            cases hy
            walk_at "go"
            exact k H10 (Ex.refl H10)
        · walk_at "go"
          refine r_catL (e10 _ _ (e9 _ _ (e8 _ _ h7))) h10 (by simp; omega) fun c5 H11 hc5 e11 h11 => ?_
          walk_at "go"
          have ee : Ex H6 H11 := ((((e7.trans e8).trans e9).trans e10).trans e11)
          rw [← List.map_append] at h11
          refine ⟨c5, _, _, s6.ext ee, h11, (s6.ext (((e7.trans e8).trans e9).trans e10)).well.ne hc5, ?_, by simp only [List.length_append, List.length_map, List.length_reverse, List.length_take]; omega, rfl⟩
          intro x hx
          rcases List.mem_append.mp hx with hx | hx
          · exact hms x (List.mem_of_mem_take hx)
          · obtain ⟨y, hy, rfl⟩ := List.mem_map.mp hx
            have := hms y (List.mem_of_mem_take (List.mem_reverse.mp hy))
            omega
      · walk_at "go"
        exact ⟨L, ms, none, s6, h6, hLw, hms, hml, rfl⟩
    rintro σ' H7 ⟨L2, ms2, v, s7, h7, hLw2, hms2, hml2, rfl⟩
    refine q_cut (M := fun σ' H' => ∃ (L : Addr) (ms : List Int), DrS w H (n + 124) H' ∧ H' L = some (.lst (ms.map V.int)) ∧ Stp l ms ∧ ms.length ≤ sz.toNat ∧
        σ' = [some (.ref w), some (.int l), some (.int m), some (.int way), some (.int sz), some (.ref L), v, none, none]) ?_ ?_
    · walk_at "go"
      refine if_2 (fun h0 => ?_) fun h0 => ?_
      · walk_at "go"
        refine r_itL (l_of h7) (r_cmL (ys := (ms2.map fun x => ((x.natAbs : Nat) : Int)).map V.int) (l_of h7) (by simp) (by simp; omega) (fun _ => rfl) (fun i x y H10 hx hy e10 Q' k => ?_) fun c4 H10 hc4 e10 h10 => ?_)
        · rw [List.getElem?_map] at hx
          rw [List.getElem?_map, List.getElem?_map] at hy
          cases hz : ms2[i]? with
          | none => rw [hz] at hx; cases hx
          | some z =>
            rw [hz] at hx hy
            cases hx
            cases hy
            walk_at "go"
            exact k H10 (Ex.refl H10)
        · walk_at "go"
          refine ⟨c4, _, s7.ext e10, h10, fun x hx => ?_, by rw [List.length_map]; omega, rfl⟩
          obtain ⟨y, hy, rfl⟩ := List.mem_map.mp hx
          have := hms2 y hy
          omega
      · walk_at "go"
        exact ⟨L2, ms2, s7, h7, hms2, hml2, rfl⟩
    rintro σ' H8 ⟨L3, ms3, s8, h8, hms3, hml3, rfl⟩
    walk_at "go"
    refine r_tupL (l_of h8) fun p H9 hp e9 h9 => ?_
    exact q p ms3 H9 ((s8.ext e9).more (by omega)) h9 hms3 (by omega)
def sp__law_great (K : PySem.W.Frag) : Sp := fun vs H Q _ => ∃ (L n : Nat), vs = [.int L, .int n] ∧ 1 ≤ L ∧ L ≤ 4 ∧ n + 1 < 2 ^ 2000 ∧ (∀ z, Od.S L z ≤ n + 1 → z ≤ 600) ∧ ∀ H1, Ex H H1 → Q (.bl true) H1
theorem ok__law_great (T : Tx K mg A) : FnOk P w K mg base CX0 6 A.a__law_great A.f__law_great P__law_great (sp__law_great K) := by
  refine T.F__law_great.ok sc__law_great (fun vs H Q E h => ?_) (fun cdv A' outer s H vs Q E hr h => ?_)
  · obtain ⟨L, n, rfl, _⟩ := h
    rfl
  · obtain ⟨L, n, rfl, h1, h4, hn, hz, q⟩ := h
    refine ⟨_, (pss_cons (ps_set (i := 2) sc__law_great.nd rfl (Or.inl rfl) (pe_call (ok_nth_walk T) (hr.mono (by decide)) (by rfl) T.g_nth_walk T.F_nth_walk.kp T.b_nth_walk .nil pass0 (pa_cons (pv 0) (pa_cons (pv 1) pa_nil))))
      (pss_cons (ps_if (PW.pt (pw_or (pt_not (pt_truK K (pe_call (ok__law_is T) (hr.mono (by decide)) (by rfl) T.g__law_is T.F__law_is.kp T.b__law_is .nil pass0 (pa_cons (pv 2) (pa_cons (pv 2) pa_nil))))) (pw_or1 (pt_cmpR (op_neK K hr.units) (pv 2) (pe_call (ok__law_straight T) (hr.mono (by decide)) (by rfl) T.g__law_straight T.F__law_straight.kp T.b__law_straight .nil pass0 (pa_cons (pv 2) pa_nil)) (nomark _))))) (pss_one (ps_ret pe_bl)) pss_nil)
      (pss_cons (ps_if (PW.pt (pw_or (pt_cmpR (op_neK K hr.units) (pe_lc (own := [("_law_step", 3)]) rfl sc__law_great.nd (pi_tupK K (pv 2)) (blkOk_by (own := [("_law_step", 3)]) (N := N__law_great) (sc := defScope s__law_great) (by decide +kernel)) (fun _ _ _ _ _ => (pg_name (i := 3) sc__law_great.nd rfl (Or.inl rfl))) (fun _ _ _ _ _ => (pts_one (pt_cmpR (op_notInK K) (pv 3) (pe_call (ok__law_steps T) (hr.mono (by decide)) (by rfl) T.g__law_steps T.F__law_steps.kp T.b__law_steps .nil pass0 (pa_cons (pv 0) pa_nil)) (by rfl)))) (fun _ _ _ _ _ => (pv 3))) (pe_lst pa_nil) (nomark _)) (pw_or1 (pt_cmpR (op_neK K hr.units) (pe_call (ok__law_ahead T) (hr.mono (by decide)) (by rfl) T.g__law_ahead T.F__law_ahead.kp T.b__law_ahead .nil pass0 (pa_cons (pv 0) (pa_cons (pv 2) pa_nil))) (pv 1) (nomark _))))) (pss_one (ps_ret pe_bl)) pss_nil)
      (pss_cons (ps_if (pt_not (pt_truK K (pe_call (ok__law_is T) (hr.mono (by decide)) (by rfl) T.g__law_is T.F__law_is.kp T.b__law_is .nil pass0 (pa_cons (pe_callK0 (ok_nth_walk T) (hr.mono (by decide)) (by rfl) T.g_nth_walk T.F_nth_walk.kp (kb_nth_walk_number_letters T.F_nth_walk) pass0 (pk_cons (pv 1) (pk_cons (pv 0) pk_nil))) (pa_cons (pv 2) pa_nil))))) (pss_one (ps_ret pe_bl)) pss_nil)
      (pss_cons (ps_if (pt_not (pt_truK K (pe_call (ok__law_number T) (hr.mono (by decide)) (by rfl) T.g__law_number T.F__law_number.kp T.b__law_number .nil pass0 (pa_cons (pe_call (ok_number_of T) (hr.mono (by decide)) (by rfl) T.g_number_of T.F_number_of.kp T.b_number_of .nil pass0 (pa_cons (pv 0) (pa_cons (pv 2) pa_nil))) (pa_cons (pv 1) pa_nil))))) (pss_one (ps_ret pe_bl)) pss_nil)
      (pss_one (ps_ret (pe_call (ok__law_is T) (hr.mono (by decide)) (by rfl) T.g__law_is T.F__law_is.kp T.b__law_is .nil pass0 (pa_cons (pe_call (ok_nth_walk T) (hr.mono (by decide)) (by rfl) T.g_nth_walk T.F_nth_walk.kp T.b_nth_walk .nil pass0 (pa_cons (pv 0) (pa_cons (pe_op (op_addK K) (pv 1) pe_int) pa_nil))) (pa_cons (pe_call (ok__law_next T) (hr.mono (by decide)) (by rfl) T.g__law_next T.F__law_next.kp T.b__law_next .nil pass0 (pa_cons (pv 0) (pa_cons (pv 2) pa_nil))) pa_nil)))))))))), ?_⟩
    have hz0 : ∀ z, Od.S L z ≤ n → z ≤ 1000 := fun z h => by have := hz z (by omega); omega
    have hz1 : ∀ z, Od.S L z ≤ n + 1 → z ≤ 1000 := fun z h => by have := hz z h; omega
    walk_at "go"
    refine ⟨L, n, rfl, h1, h4, Nat.lt_of_succ_lt hn, hz0, fun p w H1 e1 hp gw pw => ?_⟩
    obtain ⟨sw, strw⟩ := Od.of_G gw
    have zw : w.length ≤ 600 := hz _ (by have := Od.place_ge L w; omega)
    walk_at "go"
    refine ⟨p, p, w, rfl, hp, hp, by omega, fun H2 e2 => ?_⟩
    refine r_truB ?_
    walk_at "go"
    refine ⟨p, w, rfl, ex_t e2 hp, by omega, fun p2 H3 e3 h3 => ?_⟩
    rw [Fg.rd_str strw] at h3
    have e23 := e2.trans e3
    walk_at "go"
    refine r_neT (ex_t e23 hp) h3 ?_
    rw [decide_eq_true (rfl : w = w)]
    walk_at "go"
    -- no step of another letter
    refine r_itT (ex_t e23 hp) (r_cmIFt (K := K) (ns := w) (ex_t e23 hp) (fun _ => false) V.int (by omega) (fun _ => rfl) (fun x hx H4 R e4 k => ?_) (fun x hx hf H4 Q' e4 k => ?_) fun d H4 hd e4 h5 => ?_)
    · walk_at "go"
      refine ⟨L, rfl, h4, fun p3 H5 _ e5 h6 => ?_⟩
      refine r_ninL (l_of h6) ?_
      have hm := Od.G_mem gw x hx
      rw [decide_eq_true hm]
      walk_at "go"
      exact k H5 e5
    · walk_at "go"
      exact k H4 (Ex.refl H4)
    have h6 : H4 d = some (.lst (([] : List Int).map V.int)) := by
      rw [h5]
      have : w.filter (fun _ => false) = [] := by simp
      rw [this]
    walk_at "go"
    refine r_newL (by simp) fun c H5 _ e5 k5 => ?_
    walk_at "go"
    refine r_neL (ns := []) (ms := []) (l_of (e5 _ _ h6)) (l_of k5) ?_
    have e25 := (e23.trans e4).trans e5
    walk_at "go"
    rw [decide_eq_true (rfl : ([] : List Int) = [])]
    walk_at "go"
    refine ⟨L, p, w, rfl, h1, h4, ex_t e25 hp, gw, by omega, fun H6 e6 => ?_⟩
    rw [pw]
    walk_at "go"
    rw [decide_eq_true (rfl : ((n : Nat) : Int) = n)]
    walk_at "go"
    have e26 := e25.trans e6
    -- by names
    refine ⟨L, n, rfl, h1, h4, Nat.lt_of_succ_lt hn, hz0, fun p2 w2 H7 e7 hp2 gw2 pw2 => ?_⟩
    have := Od.place_inj gw2 gw (pw2.trans pw.symm)
    subst this
    walk_at "go"
    have e27 := e26.trans e7
    refine ⟨p2, p, w2, rfl, hp2, ex_t e27 hp, by omega, fun H8 e8 => ?_⟩
    refine r_truB ?_
    walk_at "go"
    have e28 := e27.trans e8
    refine ⟨L, p, w2, rfl, h1, h4, ex_t e28 hp, sw, by omega, fun H9 e9 => ?_⟩
    rw [Fg.rd_str strw, pw]
    walk_at "go"
    refine ⟨n, rfl, ?_⟩
    refine r_truB ?_
    walk_at "go"
    have e29 := e28.trans e9
    refine ⟨L, n + 1, rfl, h1, h4, hn, hz1, fun p3 w3 H10 e10 hp3 gw3 pw3 => ?_⟩
    walk_at "go"
    have e210 := e29.trans e10
    refine ⟨L, p, w2, rfl, h1, h4, ex_t e210 hp, gw, by omega, fun p4 w4 H11 e11 hp4 gw4 zw4 pw4 => ?_⟩
    have := Od.place_inj gw4 gw3 (by rw [pw4, pw3, pw])
    subst this
    walk_at "go"
    refine ⟨p3, p4, w4, rfl, ex_t e11 hp3, hp4, by omega, fun H12 e12 => ?_⟩
    exact q H12 (((e1.trans e210).trans e11).trans e12)
def sp__law_walked (K : PySem.W.Frag) : Sp := fun vs H Q _ => ∃ (L : Nat) (a b : Addr) (w u : List Int), vs = [.int L, .ref a, .ref b] ∧ 1 ≤ L ∧ L ≤ 4 ∧ IT K H a w ∧ Stp L w ∧ w.length ≤ 600 ∧ IT K H b u ∧ u = Fg.rd w ∧ ∀ H1, Ex H H1 → Q (.bl true) H1
theorem ok__law_walked (T : Tx K mg A) : FnOk P w K mg base CX0 6 A.a__law_walked A.f__law_walked P__law_walked (sp__law_walked K) := by
  refine T.F__law_walked.ok sc__law_walked (fun vs H Q E h => ?_) (fun cdv A' outer s H vs Q E hr h => ?_)
  · obtain ⟨L, a, b, w, u, rfl, _⟩ := h
    rfl
  · obtain ⟨L, a, b, w, u, rfl, h1, h4, ha, sw, zw, hb, hu, q⟩ := h
    refine ⟨_, (pss_cons (ps_set (i := 3) sc__law_walked.nd rfl (Or.inl rfl) (pe_call (ok__law_ahead T) (hr.mono (by decide)) (by rfl) T.g__law_ahead T.F__law_ahead.kp T.b__law_ahead .nil pass0 (pa_cons (pv 0) (pa_cons (pv 2) pa_nil))))
      (pss_cons (ps_if (PW.pt (pw_or (pt_not (pt_truK K (pe_call (ok__law_number T) (hr.mono (by decide)) (by rfl) T.g__law_number T.F__law_number.kp T.b__law_number .nil pass0 (pa_cons (pe_call (ok_number_of T) (hr.mono (by decide)) (by rfl) T.g_number_of T.F_number_of.kp T.b_number_of .nil pass0 (pa_cons (pv 0) (pa_cons (pv 1) pa_nil))) (pa_cons (pv 3) pa_nil))))) (pw_or1 (pt_not (pt_truK K (pe_call (ok__law_number T) (hr.mono (by decide)) (by rfl) T.g__law_number T.F__law_number.kp T.b__law_number .nil pass0 (pa_cons (pe_callK0 (ok_number_of T) (hr.mono (by decide)) (by rfl) T.g_number_of T.F_number_of.kp (kb_number_of_walk_letters T.F_number_of) pass0 (pk_cons (pv 1) (pk_cons (pv 0) pk_nil))) (pa_cons (pv 3) pa_nil)))))))) (pss_one (ps_ret pe_bl)) pss_nil)
      (pss_cons (ps_set (i := 4) sc__law_walked.nd rfl (Or.inl rfl) (pe_call (ok__law_next T) (hr.mono (by decide)) (by rfl) T.g__law_next T.F__law_next.kp T.b__law_next .nil pass0 (pa_cons (pv 0) (pa_cons (pv 2) pa_nil))))
      (pss_one (ps_ret (pe_and (pe_call (ok__law_is T) (hr.mono (by decide)) (by rfl) T.g__law_is T.F__law_is.kp T.b__law_is .nil pass0 (pa_cons (pe_call (ok_next_walk T) (hr.mono (by decide)) (by rfl) T.g_next_walk T.F_next_walk.kp T.b_next_walk .nil pass0 (pa_cons (pv 0) (pa_cons (pv 1) pa_nil))) (pa_cons (pv 4) pa_nil))) (pe_one (pe_call (ok__law_is T) (hr.mono (by decide)) (by rfl) T.g__law_is T.F__law_is.kp T.b__law_is .nil pass0 (pa_cons (pe_callK0 (ok_next_walk T) (hr.mono (by decide)) (by rfl) T.g_next_walk T.F_next_walk.kp (kb_next_walk_walk_letters T.F_next_walk) pass0 (pk_cons (pv 1) (pk_cons (pv 0) pk_nil))) (pa_cons (pv 4) pa_nil)))))))))), ?_⟩
    have gu : Od.G L none u := by rw [hu]; exact Od.G_of (fun x hx => sw x (Fg.mem_rd hx)) (Fg.str_rd w)
    have zu : u.length ≤ 600 := by rw [hu]; exact Nat.le_trans (Fg.rd_len w) zw
    walk_at "go"
    refine ⟨L, b, u, rfl, h1, h4, hb, gu, by omega, fun H1 e1 => ?_⟩
    walk_at "go"
    refine ⟨L, a, w, rfl, h1, h4, ex_t e1 ha, sw, zw, fun H2 e2 => ?_⟩
    rw [← hu]
    walk_at "go"
    refine ⟨_, rfl, ?_⟩
    refine r_truB ?_
    walk_at "go"
    refine ⟨L, a, w, rfl, h1, h4, ex_t (e1.trans e2) ha, sw, zw, fun H3 e3 => ?_⟩
    rw [← hu]
    walk_at "go"
    refine ⟨_, rfl, ?_⟩
    refine r_truB ?_
    walk_at "go"
    have e13 := (e1.trans e2).trans e3
    refine ⟨L, b, u, rfl, h1, h4, ex_t e13 hb, gu, by omega, fun p v H4 e4 hp gv zv pv => ?_⟩
    walk_at "go"
    have e14 := e13.trans e4
    refine ⟨L, a, w, rfl, h1, h4, ex_t e14 ha, sw, zw, fun p2 v2 H5 e5 hp2 gv2 pv2 => ?_⟩
    rw [← hu] at pv2
    have := Od.place_inj gv2 gv (pv2.trans pv.symm)
    subst this
    walk_at "go"
    refine ⟨p2, p, v2, rfl, hp2, ex_t e5 hp, by omega, fun H6 e6 => ?_⟩
    walk_at "go"
    have e16 := (e14.trans e5).trans e6
    refine ⟨L, a, w, rfl, h1, h4, ex_t e16 ha, sw, zw, fun p3 v3 H7 e7 hp3 gv3 pv3 => ?_⟩
    rw [← hu] at pv3
    have := Od.place_inj gv3 gv (pv3.trans pv.symm)
    subst this
    walk_at "go"
    refine ⟨p3, p, v3, rfl, hp3, ex_t ((e5.trans e6).trans e7) hp, by omega, fun H8 e8 => ?_⟩
    exact q H8 ((e16.trans e7).trans e8)
end
end Lw
namespace Lw
open PySem PySem.Spec PyProof.Rows L2 Evl

local macro_rules | `(tactic| walk_at "go") => `(tactic| repeat (first
  | with_reducible refine st_seq ?_ | with_reducible refine st_set ?_ | with_reducible refine st_asg ?_ | with_reducible refine st_ret ?_ | with_reducible refine st_drop ?_ | with_reducible refine st_if ?_
  | with_reducible refine st_c ?_ | ((with_reducible refine' st_v ?h ?_); (case h => exact rfl)) | with_reducible refine st_n ?_ | with_reducible refine st_cons ?_ | with_reducible refine st_op ?_ | with_reducible refine st_un ?_
  | with_reducible refine st_cb ?_ | with_reducible refine st_test ?_ | with_reducible refine st_call ?_ | with_reducible refine st_callK ?_ | with_reducible refine st_sl ?_ | with_reducible refine st_par ?_ | with_reducible refine st_tru ?_
  | with_reducible refine st_and ?_ | with_reducible refine st_or ?_ | with_reducible refine st_not ?_ | with_reducible refine st_B ?_ | with_reducible refine st_andV ?_ | with_reducible refine st_orV ?_ | with_reducible refine st_notV ?_ | with_reducible refine st_ifE ?_
  | with_reducible refine st_part ?_ | with_reducible refine st_nop ?_ | with_reducible refine st_sub ?_ | with_reducible refine st_chain ?_ | with_reducible refine st_bl ?_ | with_reducible refine st_in ?_ | with_reducible refine r_truB ?_
  | with_reducible refine st_nameG ?_ | with_reducible refine if_T ?_ | with_reducible refine if_F ?_ | with_reducible refine if_nT ?_ | with_reducible refine if_nF ?_
  | with_reducible refine r_add ?_ | with_reducible refine r_0 ?_ | with_reducible refine r_neg ?_ | with_reducible refine r_intI ?_ | with_reducible refine r_intB ?_ | with_reducible refine r_abs ?_ | with_reducible refine r_max2 ?_ | with_reducible refine r_min2 ?_ | with_reducible refine r_eqI ?_ | with_reducible refine r_neI ?_
  | with_reducible refine st_nxt ?_ | with_reducible refine st_cnt ?_ | with_reducible refine st_brk ?_ | with_reducible refine st_retn ?_
  | with_reducible refine st_lstN ?_ | with_reducible refine st_tupN ?_
  | with_reducible refine st_for ?_ | with_reducible refine st_lc ?_ | with_reducible refine st_lc2 ?_ | with_reducible refine st_rng1 ?_ | with_reducible refine st_rng2 ?_ | with_reducible refine st_rng3 ?_ | with_reducible refine st_itL ?_ | with_reducible refine st_itT ?_ | with_reducible refine st_rev ?_ | with_reducible refine st_enumE ?_ | with_reducible refine st_zip3 ?_ | with_reducible refine st_lstRg ?_ | with_reducible refine st_rg2 ?_ | with_reducible refine r_twoI ?_ | with_reducible refine st_bm ?_ | with_reducible refine st_bm0 ?_
  | ((with_reducible refine' st_aug ?h ?_); (case h => exact rfl)) | with_reducible refine r_augI ?_ | with_reducible refine r_eqB ?_
  | dsimp only))
section
variable {P : Program} {w : World} {K : PySem.W.Frag} {mg : Str → Option Value} {base : Heap} {A : Ad}

def sp__law_right (K : PySem.W.Frag) : Sp := fun vs H Q _ => ∃ w n, vs = [.ref w] ∧ Well H w n ∧ n ≤ 1000 ∧ ∀ H1, ExW w H H1 → Q (.bl true) H1
theorem ok__law_right (T : Tx K mg A) : FnOk P w K mg base CX0 7 A.a__law_right A.f__law_right P__law_right (sp__law_right K) := by
  refine T.F__law_right.ok sc__law_right (fun vs H Q E h => ?_) (fun cdv A' outer s H vs Q E hr h => ?_)
  · obtain ⟨w, n, rfl, _⟩ := h
    rfl
  · obtain ⟨w, n, rfl, hw, hn, q⟩ := h
    refine ⟨_, (pss_cons (ps_set (i := 1) sc__law_right.nd rfl (Or.inl rfl) (pe_op (op_addK K) pe_int (pe_call (ok__law_take T) (hr.mono (by decide)) (by rfl) T.g__law_take T.F__law_take.kp T.b__law_take .nil pass0 (pa_cons (pv 0) (pa_cons pe_int pa_nil)))))
      (pss_cons (ps_set (i := 2) sc__law_right.nd rfl (Or.inl rfl) pe_int)
      (Evl.pss_cut (ps_if (pt_cmpR op_gt (pv 1) pe_int (nomark _)) (pss_one (ps_set (i := 2) sc__law_right.nd rfl (Or.inl rfl) (pe_ix (ix_K K) (pe_lst (pa_cons (pe_op op_powW pe_int pe_int) (pa_cons (pe_op op_powW pe_int pe_int) (pa_cons (pe_op op_powW pe_int pe_int) (pa_cons (pe_op op_sub (pe_op op_powW pe_int pe_int) pe_int) pa_nil))))) (pe_call (ok__law_take T) (hr.mono (by decide)) (by rfl) T.g__law_take T.F__law_take.kp T.b__law_take .nil pass0 (pa_cons (pv 0) (pa_cons pe_int pa_nil))) (fun _ _ => rfl)))) pss_nil)
      (pss_cons (ps_set (i := 3) sc__law_right.nd rfl (Or.inl rfl) (pe_ix (ix_K K) (pe_lst (pa_cons (pe_call (ok__law_take T) (hr.mono (by decide)) (by rfl) T.g__law_take T.F__law_take.kp T.b__law_take .nil pass0 (pa_cons (pv 0) (pa_cons (pe_op (op_addK K) (pv 2) pe_int) pa_nil))) (pa_cons (pv 2) pa_nil))) (pe_callTy int_K (by rfl) T.n_int (by decide +kernel) (pa_cons (pe_cmpR (op_eqK K hr.units) (pe_call (ok__law_take T) (hr.mono (by decide)) (by rfl) T.g__law_take T.F__law_take.kp T.b__law_take .nil pass0 (pa_cons (pv 0) (pa_cons pe_int pa_nil))) pe_int (nomark _)) pa_nil)) (fun _ _ => rfl)))
      (pss_cons (ps_if (PW.pt (pw_or (pt_not (pt_truK K (pe_call (ok__law_short T) (hr.mono (by decide)) (by rfl) T.g__law_short T.F__law_short.kp T.b__law_short .nil pass0 (pa_cons (pv 1) pa_nil)))) (pw_or1 (pt_not (pt_truK K (pe_call (ok__law_great T) (hr.mono (by decide)) (by rfl) T.g__law_great T.F__law_great.kp T.b__law_great .nil pass0 (pa_cons (pv 1) (pa_cons (pv 3) pa_nil)))))))) (pss_one (ps_ret pe_bl)) pss_nil)
      (pss_cons (ps_set (i := 4) sc__law_right.nd rfl (Or.inl rfl) (pe_call (ok__law_walk T) (hr.mono (by decide)) (by rfl) T.g__law_walk T.F__law_walk.kp T.b__law_walk .nil pass0 (pa_cons (pv 0) (pa_cons (pv 1) (pa_cons pe_int pa_nil)))))
      (pss_cons (ps_par (i := 5) (j := 6) (by rfl) sc__law_right.nd rfl rfl (by decide) rfl rfl (pa_cons (pe_call (ok__law_take T) (hr.mono (by decide)) (by rfl) T.g__law_take T.F__law_take.kp T.b__law_take .nil pass0 (pa_cons (pv 0) (pa_cons (pe_op (op_addK K) (pe_callB (len_K K) (by rfl) T.n_len (by decide +kernel) (pa_cons (pv 4) pa_nil)) pe_int) pa_nil))) (pa_cons (pe_op (op_addK K) pe_int (pe_call (ok__law_take T) (hr.mono (by decide)) (by rfl) T.g__law_take T.F__law_take.kp T.b__law_take .nil pass0 (pa_cons (pv 0) (pa_cons (pv 1) pa_nil)))) pa_nil)) (by rfl))
      (pss_cons (ps_par (i := 7) (j := 8) (by rfl) sc__law_right.nd rfl rfl (by decide) rfl rfl (pa_cons (pe_op (op_addK K) (pe_op (op_addK K) (pe_slice (sl_K K) (pv 4) po_none (po_some (pv 5))) (pe_tup (pa_cons (pe_un un_neg (pv 6)) (pa_cons (pv 6) pa_nil)))) (pe_slice (sl_K K) (pv 4) (po_some (pv 5)) po_none)) (pa_cons (pe_call (ok__law_straight T) (hr.mono (by decide)) (by rfl) T.g__law_straight T.F__law_straight.kp T.b__law_straight .nil pass0 (pa_cons (pv 4) pa_nil)) pa_nil)) (by rfl))
      (pss_cons (ps_set (i := 9) sc__law_right.nd rfl (Or.inl rfl) (pe_op (op_mulK K) (pe_tup (pa_cons (pe_un un_neg (pv 1)) pa_nil)) (pe_call (ok__law_take T) (hr.mono (by decide)) (by rfl) T.g__law_take T.F__law_take.kp T.b__law_take .nil pass0 (pa_cons (pv 0) (pa_cons pe_int pa_nil)))))
      (pss_cons (ps_if (PW.pt (pw_or (pt_not (pt_truK K (pe_call (ok__law_walked T) (hr.mono (by decide)) (by rfl) T.g__law_walked T.F__law_walked.kp T.b__law_walked .nil pass0 (pa_cons (pv 1) (pa_cons (pv 4) (pa_cons (pv 8) pa_nil)))))) (pw_or1 (pt_not (pt_truK K (pe_call (ok__law_walked T) (hr.mono (by decide)) (by rfl) T.g__law_walked T.F__law_walked.kp T.b__law_walked .nil pass0 (pa_cons (pv 1) (pa_cons (pv 7) (pa_cons (pv 8) pa_nil))))))))) (pss_one (ps_ret pe_bl)) pss_nil)
      (pss_cons (ps_if (PW.pt (pw_or (pt_not (pt_truK K (pe_call (ok__law_walked T) (hr.mono (by decide)) (by rfl) T.g__law_walked T.F__law_walked.kp T.b__law_walked .nil pass0 (pa_cons (pv 1) (pa_cons (pv 9) (pa_cons (pv 9) pa_nil)))))) (pw_or1 (pt_not (pt_truK K (pe_call (ok__law_is T) (hr.mono (by decide)) (by rfl) T.g__law_is T.F__law_is.kp T.b__law_is .nil pass0 (pa_cons (pe_call (ok_nth_walk T) (hr.mono (by decide)) (by rfl) T.g_nth_walk T.F_nth_walk.kp T.b_nth_walk .nil pass0 (pa_cons (pv 1) (pa_cons (pe_call (ok__law_ahead T) (hr.mono (by decide)) (by rfl) T.g__law_ahead T.F__law_ahead.kp T.b__law_ahead .nil pass0 (pa_cons (pv 1) (pa_cons (pv 8) pa_nil))) pa_nil))) (pa_cons (pv 8) pa_nil)))))))) (pss_one (ps_ret pe_bl)) pss_nil)
      (pss_cons (ps_set (i := 10) sc__law_right.nd rfl (Or.inl rfl) (pe_call (ok__law_take T) (hr.mono (by decide)) (by rfl) T.g__law_take T.F__law_take.kp T.b__law_take .nil pass0 (pa_cons (pv 0) (pa_cons pe_int pa_nil))))
      (pss_cons (ps_set (i := 11) sc__law_right.nd rfl (Or.inl rfl) (pe_call (ok__law_many T) (hr.mono (by decide)) (by rfl) T.g__law_many T.F__law_many.kp T.b__law_many .nil pass0 (pa_cons (pv 1) (pa_cons (pv 10) pa_nil))))
      (pss_one (ps_ret (pe_and (pe_call (ok__law_number T) (hr.mono (by decide)) (by rfl) T.g__law_number T.F__law_number.kp T.b__law_number .nil pass0 (pa_cons (pe_call (ok_how_many T) (hr.mono (by decide)) (by rfl) T.g_how_many T.F_how_many.kp T.b_how_many .nil pass0 (pa_cons (pv 1) (pa_cons (pv 10) pa_nil))) (pa_cons (pv 11) pa_nil))) (pe_one (pe_call (ok__law_number T) (hr.mono (by decide)) (by rfl) T.g__law_number T.F__law_number.kp T.b__law_number .nil pass0 (pa_cons (pe_callK0 (ok_how_many T) (hr.mono (by decide)) (by rfl) T.g_how_many T.F_how_many.kp (kb_how_many_length_letters T.F_how_many) pass0 (pk_cons (pv 10) (pk_cons (pv 1) pk_nil))) (pa_cons (pv 11) pa_nil)))))))))))))))))))), ?_⟩
    walk_at "go"
    refine ⟨w, n, 4, rfl, by omega, by omega, hw, by omega, fun r1 H1 r10 r14 e1 d1 => ?_⟩
    have s1 := (DrS.refl hw).on e1 d1
    clear e1 d1
    obtain ⟨L, hL⟩ : ∃ L : Nat, 1 + r1 = (L : Int) := ⟨(1 + r1).toNat, by omega⟩
    have l1 : 1 ≤ L := by omega
    have l4 : L ≤ 4 := by omega
    walk_at "go"
    rw [hL]
    refine q_cut (M := fun σ' H' => ∃ m : Nat, DrS w H (n + 2) H' ∧ m < 2 ^ 215 ∧ (L = 1 → m = 799) ∧ σ' = [some (.ref w), some (.int L), some (.int (m : Int)), none, none, none, none, none, none, none, none, none]) ?_ ?_
    · walk_at "go"
      refine if_2 (fun h0 => ?_) fun h0 => ?_
      · walk_at "go"
        refine r_pow (k := 3) (a := 4) (by decide) (by decide) (by decide) ?_
        walk_at "go"
        refine r_pow (k := 18) (a := 4) (by decide) (by decide) (by decide) ?_
        walk_at "go"
        refine r_pow (k := 40) (a := 4) (by decide) (by decide) (by decide) ?_
        walk_at "go"
        refine r_pow (k := 60) (a := 4) (by decide) (by decide) (by decide) ?_
        walk_at "go"
        refine r_newL (by simp) fun c H2 hc e2 k2 => ?_
        have s2 := s1.ext e2
        have hcw : c ≠ w := s1.well.ne hc
        walk_at "go"
        refine ⟨w, _, 4, rfl, by omega, by omega, s2.well, by omega, fun r2 H3 r20 r24 e3 d3 => ?_⟩
        have s3 := s2.on e3 d3
        have k3 := e3 _ _ k2 hcw
        walk_at "go"
        obtain ⟨m, hm, hm2⟩ : ∃ m : Nat, atI [V.int (10 ^ (((3 : Nat) : Int)).toNat), V.int (10 ^ (((18 : Nat) : Int)).toNat), V.int (10 ^ (((40 : Nat) : Int)).toNat), V.int (10 ^ (((60 : Nat) : Int)).toNat - 2)] r2 = some (.int (m : Int)) ∧ m < 2 ^ 215 := by
          have hr : r2 = 0 ∨ r2 = 1 ∨ r2 = 2 ∨ r2 = 3 := by omega
          rcases hr with rfl | rfl | rfl | rfl
          · exact ⟨10 ^ 3, rfl, by decide⟩
          · exact ⟨10 ^ 18, rfl, by decide⟩
          · exact ⟨10 ^ 40, rfl, by decide⟩
          · exact ⟨10 ^ 60 - 2, rfl, by decide⟩
        refine r_ixL (l_of k3) hm ?_
        walk_at "go"
        exact ⟨m, s3, hm2, fun e => absurd h0 (by omega), rfl⟩
      · walk_at "go"
        exact ⟨799, s1.more (by omega), by decide, fun _ => rfl, rfl⟩
    clear s1
    rintro σ' H1 ⟨m, s1, hm, hm1, rfl⟩
    walk_at "go"
    refine ⟨w, _, (m : Int) + 1, rfl, by omega, by omega, s1.well, by omega, fun r2 H2 r20 r2m e2 d2 => ?_⟩
    have s2 := s1.on e2 d2
    clear e2 d2 s1
    walk_at "go"
    refine r_newL (by simp) fun c H3 hc e3 k3 => ?_
    have s3 := s2.ext e3
    have hcw : c ≠ w := s2.well.ne hc
    clear e3 s2
    walk_at "go"
    refine ⟨w, _, 5, rfl, by omega, by omega, s3.well, by omega, fun r4 H4 r40 r45 e4 d4 => ?_⟩
    have s4 := s3.on e4 d4
    have k4 := e4 _ _ k3 hcw
    clear e4 d4 s3 k3
    walk_at "go"
    obtain ⟨N, hN, hN2⟩ : ∃ N : Nat, atI [V.int r2, V.int (m : Int)] (if decide (r4 = 0) = true then 1 else 0) = some (.int (N : Int)) ∧ N ≤ m := by
      by_cases h6 : r4 = 0
      · rw [decide_eq_true h6]
        exact ⟨m, rfl, Nat.le_refl _⟩
      · rw [decide_eq_false h6]
        refine ⟨r2.toNat, ?_, by omega⟩
        rw [show ((r2.toNat : Nat) : Int) = r2 by omega]
        rfl
    refine r_ixL (l_of k4) hN ?_
    clear k4 hcw hc hN
    walk_at "go"
    -- the short walks, and one great number
    refine ⟨L, rfl, l1, l4, fun H5 e5 => ?_⟩
    have s5 := s4.ext e5
    refine r_truB ?_
    walk_at "go"
    refine ⟨L, N, rfl, l1, l4, ?_, fun z hz => ?_, fun H6 e6 => ?_⟩
    · have : (2 : Nat) ^ 216 ≤ 2 ^ 2000 := Nat.pow_le_pow_right (by decide) (by decide)
      omega
    · rcases Nat.lt_or_ge 600 z with h | h
      · exfalso
        by_cases h1 : L = 1
        · have := hm1 h1
          have e : ∀ z, Od.S 1 (z + 1) = 2 * z + 1 := fun z => by
            induction z with
            | zero => rfl
            | succ z ih => rw [Od.S, ih, Od.tot_none]; simp; omega
          subst h1
          have := Od.S_mono (L := 1) (show 600 + 1 ≤ z by omega)
          rw [e] at this
          omega
        · have a := Od.S_mono (L := L) (show 600 + 1 ≤ z by omega)
          have b := Od.S_pow (L := L) 600
          have c1 : (2 : Nat) ^ 600 ≤ (2 * L - 1) ^ 600 := Nat.pow_le_pow_left (by omega) _
          have c2 : (2 : Nat) ^ 216 ≤ 2 ^ 600 := Nat.pow_le_pow_right (by decide) (by decide)
          omega
      · exact h
    have s6 := s5.ext e6
    clear s4 s5 e5 e6
    refine r_truB ?_
    walk_at "go"
    refine ⟨w, _, L, 58, rfl, s6.well, by omega, by omega, by omega, by omega, by omega, fun p ns H7 s7 hp sp zp => ?_⟩
    have s7' := s6.on s7.ex s7.well
    clear s6 s7
    walk_at "go"
    refine r_lenT hp ?_
    rw [List.length_map]
    walk_at "go"
    refine ⟨w, _, (ns.length : Int) + 1, rfl, by omega, by omega, s7'.well, by omega, fun at0 H8 at00 atm e8 d8 => ?_⟩
    have s8 := s7'.on e8 d8
    have hp8 := s7'.well.t e8 hp
    clear e8 d8 s7' hp
    walk_at "go"
    refine ⟨w, _, L, rfl, by omega, by omega, s8.well, by omega, fun r9 H9 r90 r9L e9 d9 => ?_⟩
    have s9 := s8.on e9 d9
    have hp9 := s8.well.t e9 hp8
    clear e9 d9 s8 hp8
    walk_at "go"
    refine ⟨_, _, rfl, ?_⟩
    walk_at "go"
    generalize hst : 1 + r9 = st
    -- a pair is put in
    refine r_slT hp9 fun c1 H10 e10 k10 => ?_
    rw [cut_to at00] at k10
    walk_at "go"
    refine r_newT (by simp) fun c2 H11 _ e11 k11 => ?_
    walk_at "go"
    refine r_catT (ys := [V.int (-st), V.int st]) (ex_t e11 k10) (t_of k11) (by rw [List.length_map, List.length_take]; simp; omega) fun c3 H12 e12 k12 => ?_
    walk_at "go"
    have e912 := (e10.trans e11).trans e12
    refine r_slT (ex_t e912 hp9) fun c4 H13 e13 k13 => ?_
    rw [cut_from at00] at k13
    walk_at "go"
    refine r_catT (ex_t e13 k12) k13 (by rw [List.length_append, List.length_map, List.length_map, List.length_take, List.length_drop]; simp; omega) fun c5 H14 e14 k14 => ?_
    have k14' : IT K H14 c5 (ns.take at0.toNat ++ [-st, st] ++ ns.drop at0.toNat) := by
      show SqT K H14 c5 ((ns.take at0.toNat ++ [-st, st] ++ ns.drop at0.toNat).map V.int)
      rw [List.map_append, List.map_append]
      exact k14
    have e914 := (e912.trans e13).trans e14
    walk_at "go"
    refine ⟨p, ns, rfl, ex_t e914 hp9, by omega, fun p2 H15 e15 hp2 => ?_⟩
    have e915 := e914.trans e15
    have s15 := s9.ext e915
    have hp15 := ex_t e915 hp9
    have k15 := ex_t e15 k14'
    clear k10 k11 k12 k13 k14 k14' e10 e11 e12 e13 e14 e15 e912 e914 e915 s9 hp9
    walk_at "go"
    refine ⟨_, _, rfl, ?_⟩
    walk_at "go"
    have more : Fg.rd (ns.take at0.toNat ++ [-st, st] ++ ns.drop at0.toNat) = Fg.rd ns := by
      have := Fg.rd_eq (Fg.eqv_cut (ns.take at0.toNat) (ns.drop at0.toNat) (-st))
      rw [Int.neg_neg, List.take_append_drop] at this
      exact this
    have smore : Stp L (ns.take at0.toNat ++ [-st, st] ++ ns.drop at0.toNat) := fun x hx => by
      rcases List.mem_append.mp hx with hx | hx
      · rcases List.mem_append.mp hx with hx | hx
        · exact sp x (List.mem_of_mem_take hx)
        · have e : x = -st ∨ x = st := by simpa using hx
          omega
      · exact sp x (List.mem_of_mem_drop hx)
    have zmore : (ns.take at0.toNat ++ [-st, st] ++ ns.drop at0.toNat).length ≤ 600 := by
      rw [List.length_append, List.length_append, List.length_take, List.length_drop]
      simp
      omega
    refine r_newT (by simp) fun c6 H16 hc6 e16 k16 => ?_
    have s16 := s15.ext e16
    have hp16 := ex_t e16 hp15
    have hp216 := ex_t e16 hp2
    have k1516 := ex_t e16 k15
    clear e16 s15 hp15 hp2 k15
    walk_at "go"
    refine ⟨w, _, 61, rfl, by omega, by omega, s16.well, by omega, fun r17 H17 r170 r1761 e17 d17 => ?_⟩
    have s17 := s16.on e17 d17
    have hp17 := s16.well.t e17 hp16
    have hp217 := s16.well.t e17 hp216
    have k17 := s16.well.t e17 k1516
    have k617 : IT K H17 c6 [-(L : Int)] := s16.well.t e17 (t_of k16)
    clear e17 d17 s16 hp16 hp216 k1516 k16 hc6
    refine r_repT k617 r170 (by omega) (by simp) fun c7 H18 e18 k18 => ?_
    have k18' : IT K H18 c7 (Fg.rep r17.toNat [-(L : Int)]) := by
      rw [← Fg.rep_flat]
      show SqT K H18 c7 (((List.replicate r17.toNat [-(L : Int)]).flatten).map V.int)
      rw [List.map_flatten, List.map_replicate]
      exact k18
    have s18 := s17.ext e18
    have hp18 := ex_t e18 hp17
    have hp218 := ex_t e18 hp217
    have k1718 := ex_t e18 k17
    clear e18 k18 k617 s17 hp17 hp217 k17
    walk_at "go"
    refine ⟨L, p, p2, ns, _, rfl, l1, l4, hp18, sp, by omega, hp218, rfl, fun H19 e19 => ?_⟩
    refine r_truB ?_
    walk_at "go"
    refine ⟨L, c5, p2, _, _, rfl, l1, l4, ex_t e19 k1718, smore, zmore, ex_t e19 hp218, more.symm, fun H20 e20 => ?_⟩
    refine r_truB ?_
    walk_at "go"
    have e1820 := e19.trans e20
    have strl : Fg.Str (Fg.rep r17.toNat [-(L : Int)]) := by
      intro i x hx hx2
      have h1 := Fg.mem_rep (List.mem_of_getElem? hx)
      have h2 := Fg.mem_rep (List.mem_of_getElem? hx2)
      rw [List.mem_singleton] at h1 h2
      omega
    have spl : Stp L (Fg.rep r17.toNat [-(L : Int)]) := fun x hx => by
      have h1 := Fg.mem_rep hx
      rw [List.mem_singleton] at h1
      omega
    have zl : (Fg.rep r17.toNat [-(L : Int)]).length ≤ 600 := by rw [Fg.rep_len]; simp; omega
    refine ⟨L, c7, c7, _, _, rfl, l1, l4, ex_t e1820 k18', spl, zl, ex_t e1820 k18', (Fg.rd_str strl).symm, fun H21 e21 => ?_⟩
    refine r_truB ?_
    walk_at "go"
    have e1821 := e1820.trans e21
    have gl := Od.G_of (L := L) (fun x hx => sp x (Fg.mem_rd hx)) (Fg.str_rd ns)
    have zrl := Fg.rd_len ns
    refine ⟨L, p2, _, rfl, l1, l4, ex_t e1821 hp218, gl, by omega, fun H22 e22 => ?_⟩
    walk_at "go"
    have pb := Od.place_le8 l4 gl
    refine ⟨L, Od.place L (Fg.rd ns), rfl, l1, l4, ?_, fun z hz => ?_, fun p5 u5 H23 e23 hp5 gu5 pu5 => ?_⟩
    · have : (8 : Nat) ^ ((Fg.rd ns).length + 1) ≤ 8 ^ 100 := Nat.pow_le_pow_right (by decide) (by omega)
      have h2 : (8 : Nat) ^ 100 ≤ 2 ^ 2000 := by
        rw [show (8 : Nat) = 2 ^ 3 by decide, ← Nat.pow_mul]
        exact Nat.pow_le_pow_right (by decide) (by decide)
      omega
    · have := Od.near l1 gl (z := z) (by omega)
      omega
    have := Od.place_inj gu5 gl pu5
    subst this
    walk_at "go"
    refine ⟨p5, p2, _, rfl, hp5, ex_t ((e1821.trans e22).trans e23) hp218, by omega, fun H24 e24 => ?_⟩
    refine r_truB ?_
    walk_at "go"
    have s24 := s18.ext (((e1821.trans e22).trans e23).trans e24)
    clear e19 e20 e21 e22 e23 e24 e1820 e1821 s18 hp18 hp218 k1718 k18'
    refine ⟨w, _, 101, rfl, by omega, by omega, s24.well, by omega, fun r25 H25 r250 r25m e25 d25 => ?_⟩
    have s25 := s24.on e25 d25
    obtain ⟨y, hy⟩ : ∃ y : Nat, r25 = (y : Int) := ⟨r25.toNat, by omega⟩
    subst hy
    walk_at "go"
    refine ⟨L, y, rfl, l1, l4, by omega, ?_⟩
    walk_at "go"
    refine ⟨L, y, rfl, l1, l4, by omega, fun H26 e26 => ?_⟩
    walk_at "go"
    refine ⟨_, rfl, ?_⟩
    walk_at "go"
    refine ⟨L, y, rfl, l1, l4, by omega, fun H27 e27 => ?_⟩
    walk_at "go"
    refine ⟨_, rfl, ?_⟩
    exact q H27 (s25.ext (e26.trans e27)).ex
def sp_law (K : PySem.W.Frag) : Sp := fun vs H Q _ => ∃ (a : Addr) (ns : List Int), vs = [.ref a] ∧ SqL K H a (ns.map V.int) ∧ ns.length ≤ 63 ∧ ∀ H', Q (.bl true) H'
theorem ok_law (T : Tx K mg A) : FnOk P w K mg base CX0 8 A.a_law A.f_law P_law (sp_law K) := by
  refine T.F_law.ok sc_law (fun vs H Q E h => ?_) (fun cdv A' outer s H vs Q E hr h => ?_)
  · obtain ⟨a, ns, rfl, _⟩ := h
    rfl
  · obtain ⟨a, sc, rfl, hS, hlen, q⟩ := h
    refine ⟨_, (pss_cons (ps_for PassesOwn.never rfl (pi_range1 (by rfl) T.n_range (pa_cons (pe_callB (max2_K rfl) (by rfl) T.n_max (by decide +kernel) (pa_cons pe_int (pa_cons (pe_callB (min2_K rfl) (by rfl) T.n_min (by decide +kernel) (pa_cons pe_int (pa_cons (pe_callB (len_K K) (by rfl) T.n_len (by decide +kernel) (pa_cons (pv 0) pa_nil)) pa_nil))) pa_nil))) pa_nil)) (pg_name (i := 1) sc_law.nd rfl (Or.inl rfl)) (pss_one (ps_if (pt_not (pt_truK K (pe_call (ok__law_right T) (hr.mono (by decide)) (by rfl) T.g__law_right T.F__law_right.kp T.b__law_right .nil pass0 (pa_cons (pe_call (ok__law_well T) (hr.mono (by decide)) (by rfl) T.g__law_well T.F__law_well.kp T.b__law_well .nil pass0 (pa_cons (pv 0) (pa_cons (pv 1) pa_nil))) pa_nil)))) (pss_one (ps_ret pe_bl)) pss_nil)))
      (pss_one (ps_ret pe_bl))), ?_⟩
    walk_at "go"
    refine r_lenL hS ?_
    walk_at "go"
    rw [List.length_map]
    refine r_rng1 (by omega) (by omega) (r_forR (m := (max (1 : Int) (min 3 (sc.length : Int))).toNat) (fun i σ' H' => ∃ vk, Ex H H' ∧ σ' = [some (.ref a), vk]) ⟨none, Ex.refl H, rfl⟩ ?_ ?_)
    · rintro i σ' H1 hi ⟨vk, e1, rfl⟩
      walk_at "go"
      refine ⟨a, sc, _, rfl, ex_l e1 hS, hlen, by omega, by omega, fun w H2 hw e2 d2 => ?_⟩
      have hw0 : H w = none := fresh_back e1 hw
      walk_at "go"
      refine ⟨w, 0, rfl, d2, by omega, fun H3 e3 => ?_⟩
      refine r_truB (if_nT ?_)
      exact ⟨_, fun b o hb => e3 b o (e2 b o (e1 b o hb)) (ne_of_none hb hw0), rfl⟩
    · rintro σ' H' ⟨vk, e1, rfl⟩
      walk_at "go"
      exact q H'
end
theorem all_mk {l : PySem.W.OpenLaw} {w : World} {K : PySem.W.Frag} {h : Heap} {mg : Str → Option Value} {fa : Addr} {f_is_integer f_steps_of f_straightened f_many_of_lengths f__law_well f__law_take f__law_joined f__law_is f__law_steps f__law_times f__law_number f_is_letters f_is_step_of f_check_least f_steps_behind f__law_walk f__law_straight f__law_many f__law_least f__law_all f_is_walk_of f_check_letters f_place_among_all f_walk_at_place f__law_ahead f__law_next f_check_walk f_how_many f_nth_walk f_number_of f_next_walk f__law_short f__law_great f__law_walked f__law_right f_law : Addr} (X : K.In h) (G : h.Ns mainGlobals mg) (hfa : mg "law" = some (.ref fa))
    {od_is_integer an_is_integer od_steps_of an_steps_of od_straightened an_straightened od_many_of_lengths an_many_of_lengths od__law_well an__law_well od__law_take an__law_take od__law_joined an__law_joined od__law_is an__law_is od__law_steps an__law_steps od__law_times an__law_times od__law_number an__law_number od_is_letters an_is_letters od_is_step_of an_is_step_of od_check_least an_check_least od_steps_behind an_steps_behind od__law_walk an__law_walk od__law_straight an__law_straight od__law_many an__law_many od__law_least an__law_least od__law_all an__law_all od_is_walk_of an_is_walk_of od_check_letters an_check_letters od_place_among_all an_place_among_all od_walk_at_place an_walk_at_place od__law_ahead an__law_ahead od__law_next an__law_next od_check_walk an_check_walk od_how_many an_how_many od_nth_walk an_nth_walk od_number_of an_number_of od_next_walk an_next_walk od__law_short an__law_short od__law_great an__law_great od__law_walked an__law_walked od__law_right an__law_right od_law an_law : Option Addr} {sl_is_integer sl_steps_of sl_straightened sl_many_of_lengths sl__law_well sl__law_take sl__law_joined sl__law_is sl__law_steps sl__law_times sl__law_number sl_is_letters sl_is_step_of sl_check_least sl_steps_behind sl__law_walk sl__law_straight sl__law_many sl__law_least sl__law_all sl_is_walk_of sl_check_letters sl_place_among_all sl_walk_at_place sl__law_ahead sl__law_next sl_check_walk sl_how_many sl_nth_walk sl_number_of sl_next_walk sl__law_short sl__law_great sl__law_walked sl__law_right sl_law : Array (Option Value)} {oc_is_integer kV_is_integer dc_is_integer pm_is_integer cd_is_integer ct_is_integer oc_steps_of kV_steps_of dc_steps_of pm_steps_of cd_steps_of ct_steps_of oc_straightened kV_straightened dc_straightened pm_straightened cd_straightened ct_straightened oc_many_of_lengths kV_many_of_lengths dc_many_of_lengths pm_many_of_lengths cd_many_of_lengths ct_many_of_lengths oc__law_well kV__law_well dc__law_well pm__law_well cd__law_well ct__law_well oc__law_take kV__law_take dc__law_take pm__law_take cd__law_take ct__law_take oc__law_joined kV__law_joined dc__law_joined pm__law_joined cd__law_joined ct__law_joined oc__law_is kV__law_is dc__law_is pm__law_is cd__law_is ct__law_is oc__law_steps kV__law_steps dc__law_steps pm__law_steps cd__law_steps ct__law_steps oc__law_times kV__law_times dc__law_times pm__law_times cd__law_times ct__law_times oc__law_number kV__law_number dc__law_number pm__law_number cd__law_number ct__law_number oc_is_letters kV_is_letters dc_is_letters pm_is_letters cd_is_letters ct_is_letters oc_is_step_of kV_is_step_of dc_is_step_of pm_is_step_of cd_is_step_of ct_is_step_of oc_check_least kV_check_least dc_check_least pm_check_least cd_check_least ct_check_least oc_steps_behind kV_steps_behind dc_steps_behind pm_steps_behind cd_steps_behind ct_steps_behind oc__law_walk kV__law_walk dc__law_walk pm__law_walk cd__law_walk ct__law_walk oc__law_straight kV__law_straight dc__law_straight pm__law_straight cd__law_straight ct__law_straight oc__law_many kV__law_many dc__law_many pm__law_many cd__law_many ct__law_many oc__law_least kV__law_least dc__law_least pm__law_least cd__law_least ct__law_least oc__law_all kV__law_all dc__law_all pm__law_all cd__law_all ct__law_all oc_is_walk_of kV_is_walk_of dc_is_walk_of pm_is_walk_of cd_is_walk_of ct_is_walk_of oc_check_letters kV_check_letters dc_check_letters pm_check_letters cd_check_letters ct_check_letters oc_place_among_all kV_place_among_all dc_place_among_all pm_place_among_all cd_place_among_all ct_place_among_all oc_walk_at_place kV_walk_at_place dc_walk_at_place pm_walk_at_place cd_walk_at_place ct_walk_at_place oc__law_ahead kV__law_ahead dc__law_ahead pm__law_ahead cd__law_ahead ct__law_ahead oc__law_next kV__law_next dc__law_next pm__law_next cd__law_next ct__law_next oc_check_walk kV_check_walk dc_check_walk pm_check_walk cd_check_walk ct_check_walk oc_how_many kV_how_many dc_how_many pm_how_many cd_how_many ct_how_many oc_nth_walk kV_nth_walk dc_nth_walk pm_nth_walk cd_nth_walk ct_nth_walk oc_number_of kV_number_of dc_number_of pm_number_of cd_number_of ct_number_of oc_next_walk kV_next_walk dc_next_walk pm_next_walk cd_next_walk ct_next_walk oc__law_short kV__law_short dc__law_short pm__law_short cd__law_short ct__law_short oc__law_great kV__law_great dc__law_great pm__law_great cd__law_great ct__law_great oc__law_walked kV__law_walked dc__law_walked pm__law_walked cd__law_walked ct__law_walked oc__law_right kV__law_right dc__law_right pm__law_right cd__law_right ct__law_right oc_law kV_law dc_law pm_law cd_law ct_law : Value} {tc_MOST_LETTERS : Tok}
    (a_is_integer : PySem.W.nsIn K mainGlobals "is_integer" = some (some (.ref f_is_integer))) (l_is_integer : K.lookup f_is_integer = some ⟨oc_is_integer, od_is_integer, .func (PySem.W.fnOf "is_integer" "is_integer" (defArgs s_is_integer) (defBody s_is_integer) (defScope s_is_integer) .none kV_is_integer dc_is_integer pm_is_integer an_is_integer cd_is_integer ct_is_integer), sl_is_integer⟩) (c_is_integer : PySem.W.codeIn K cd_is_integer "is_integer" = true) (k_is_integer : PySem.W.keepIn K (.ref f_is_integer) = true)
    (a_steps_of : PySem.W.nsIn K mainGlobals "steps_of" = some (some (.ref f_steps_of))) (l_steps_of : K.lookup f_steps_of = some ⟨oc_steps_of, od_steps_of, .func (PySem.W.fnOf "steps_of" "steps_of" (defArgs s_steps_of) (defBody s_steps_of) (defScope s_steps_of) .none kV_steps_of dc_steps_of pm_steps_of an_steps_of cd_steps_of ct_steps_of), sl_steps_of⟩) (c_steps_of : PySem.W.codeIn K cd_steps_of "steps_of" = true) (k_steps_of : PySem.W.keepIn K (.ref f_steps_of) = true)
    (a_straightened : PySem.W.nsIn K mainGlobals "straightened" = some (some (.ref f_straightened))) (l_straightened : K.lookup f_straightened = some ⟨oc_straightened, od_straightened, .func (PySem.W.fnOf "straightened" "straightened" (defArgs s_straightened) (defBody s_straightened) (defScope s_straightened) .none kV_straightened dc_straightened pm_straightened an_straightened cd_straightened ct_straightened), sl_straightened⟩) (c_straightened : PySem.W.codeIn K cd_straightened "straightened" = true) (k_straightened : PySem.W.keepIn K (.ref f_straightened) = true)
    (a_many_of_lengths : PySem.W.nsIn K mainGlobals "many_of_lengths" = some (some (.ref f_many_of_lengths))) (l_many_of_lengths : K.lookup f_many_of_lengths = some ⟨oc_many_of_lengths, od_many_of_lengths, .func (PySem.W.fnOf "many_of_lengths" "many_of_lengths" (defArgs s_many_of_lengths) (defBody s_many_of_lengths) (defScope s_many_of_lengths) .none kV_many_of_lengths dc_many_of_lengths pm_many_of_lengths an_many_of_lengths cd_many_of_lengths ct_many_of_lengths), sl_many_of_lengths⟩) (c_many_of_lengths : PySem.W.codeIn K cd_many_of_lengths "many_of_lengths" = true) (k_many_of_lengths : PySem.W.keepIn K (.ref f_many_of_lengths) = true)
    (a__law_well : PySem.W.nsIn K mainGlobals "_law_well" = some (some (.ref f__law_well))) (l__law_well : K.lookup f__law_well = some ⟨oc__law_well, od__law_well, .func (PySem.W.fnOf "_law_well" "_law_well" (defArgs s__law_well) (defBody s__law_well) (defScope s__law_well) .none kV__law_well dc__law_well pm__law_well an__law_well cd__law_well ct__law_well), sl__law_well⟩) (c__law_well : PySem.W.codeIn K cd__law_well "_law_well" = true) (k__law_well : PySem.W.keepIn K (.ref f__law_well) = true)
    (a__law_take : PySem.W.nsIn K mainGlobals "_law_take" = some (some (.ref f__law_take))) (l__law_take : K.lookup f__law_take = some ⟨oc__law_take, od__law_take, .func (PySem.W.fnOf "_law_take" "_law_take" (defArgs s__law_take) (defBody s__law_take) (defScope s__law_take) .none kV__law_take dc__law_take pm__law_take an__law_take cd__law_take ct__law_take), sl__law_take⟩) (c__law_take : PySem.W.codeIn K cd__law_take "_law_take" = true) (k__law_take : PySem.W.keepIn K (.ref f__law_take) = true)
    (a__law_joined : PySem.W.nsIn K mainGlobals "_law_joined" = some (some (.ref f__law_joined))) (l__law_joined : K.lookup f__law_joined = some ⟨oc__law_joined, od__law_joined, .func (PySem.W.fnOf "_law_joined" "_law_joined" (defArgs s__law_joined) (defBody s__law_joined) (defScope s__law_joined) .none kV__law_joined dc__law_joined pm__law_joined an__law_joined cd__law_joined ct__law_joined), sl__law_joined⟩) (c__law_joined : PySem.W.codeIn K cd__law_joined "_law_joined" = true) (k__law_joined : PySem.W.keepIn K (.ref f__law_joined) = true)
    (a__law_is : PySem.W.nsIn K mainGlobals "_law_is" = some (some (.ref f__law_is))) (l__law_is : K.lookup f__law_is = some ⟨oc__law_is, od__law_is, .func (PySem.W.fnOf "_law_is" "_law_is" (defArgs s__law_is) (defBody s__law_is) (defScope s__law_is) .none kV__law_is dc__law_is pm__law_is an__law_is cd__law_is ct__law_is), sl__law_is⟩) (c__law_is : PySem.W.codeIn K cd__law_is "_law_is" = true) (k__law_is : PySem.W.keepIn K (.ref f__law_is) = true)
    (a__law_steps : PySem.W.nsIn K mainGlobals "_law_steps" = some (some (.ref f__law_steps))) (l__law_steps : K.lookup f__law_steps = some ⟨oc__law_steps, od__law_steps, .func (PySem.W.fnOf "_law_steps" "_law_steps" (defArgs s__law_steps) (defBody s__law_steps) (defScope s__law_steps) .none kV__law_steps dc__law_steps pm__law_steps an__law_steps cd__law_steps ct__law_steps), sl__law_steps⟩) (c__law_steps : PySem.W.codeIn K cd__law_steps "_law_steps" = true) (k__law_steps : PySem.W.keepIn K (.ref f__law_steps) = true)
    (a__law_times : PySem.W.nsIn K mainGlobals "_law_times" = some (some (.ref f__law_times))) (l__law_times : K.lookup f__law_times = some ⟨oc__law_times, od__law_times, .func (PySem.W.fnOf "_law_times" "_law_times" (defArgs s__law_times) (defBody s__law_times) (defScope s__law_times) .none kV__law_times dc__law_times pm__law_times an__law_times cd__law_times ct__law_times), sl__law_times⟩) (c__law_times : PySem.W.codeIn K cd__law_times "_law_times" = true) (k__law_times : PySem.W.keepIn K (.ref f__law_times) = true)
    (a__law_number : PySem.W.nsIn K mainGlobals "_law_number" = some (some (.ref f__law_number))) (l__law_number : K.lookup f__law_number = some ⟨oc__law_number, od__law_number, .func (PySem.W.fnOf "_law_number" "_law_number" (defArgs s__law_number) (defBody s__law_number) (defScope s__law_number) .none kV__law_number dc__law_number pm__law_number an__law_number cd__law_number ct__law_number), sl__law_number⟩) (c__law_number : PySem.W.codeIn K cd__law_number "_law_number" = true) (k__law_number : PySem.W.keepIn K (.ref f__law_number) = true)
    (a_is_letters : PySem.W.nsIn K mainGlobals "is_letters" = some (some (.ref f_is_letters))) (l_is_letters : K.lookup f_is_letters = some ⟨oc_is_letters, od_is_letters, .func (PySem.W.fnOf "is_letters" "is_letters" (defArgs s_is_letters) (defBody s_is_letters) (defScope s_is_letters) .none kV_is_letters dc_is_letters pm_is_letters an_is_letters cd_is_letters ct_is_letters), sl_is_letters⟩) (c_is_letters : PySem.W.codeIn K cd_is_letters "is_letters" = true) (k_is_letters : PySem.W.keepIn K (.ref f_is_letters) = true)
    (a_is_step_of : PySem.W.nsIn K mainGlobals "is_step_of" = some (some (.ref f_is_step_of))) (l_is_step_of : K.lookup f_is_step_of = some ⟨oc_is_step_of, od_is_step_of, .func (PySem.W.fnOf "is_step_of" "is_step_of" (defArgs s_is_step_of) (defBody s_is_step_of) (defScope s_is_step_of) .none kV_is_step_of dc_is_step_of pm_is_step_of an_is_step_of cd_is_step_of ct_is_step_of), sl_is_step_of⟩) (c_is_step_of : PySem.W.codeIn K cd_is_step_of "is_step_of" = true) (k_is_step_of : PySem.W.keepIn K (.ref f_is_step_of) = true)
    (a_check_least : PySem.W.nsIn K mainGlobals "check_least" = some (some (.ref f_check_least))) (l_check_least : K.lookup f_check_least = some ⟨oc_check_least, od_check_least, .func (PySem.W.fnOf "check_least" "check_least" (defArgs s_check_least) (defBody s_check_least) (defScope s_check_least) .none kV_check_least dc_check_least pm_check_least an_check_least cd_check_least ct_check_least), sl_check_least⟩) (c_check_least : PySem.W.codeIn K cd_check_least "check_least" = true) (k_check_least : PySem.W.keepIn K (.ref f_check_least) = true)
    (a_steps_behind : PySem.W.nsIn K mainGlobals "steps_behind" = some (some (.ref f_steps_behind))) (l_steps_behind : K.lookup f_steps_behind = some ⟨oc_steps_behind, od_steps_behind, .func (PySem.W.fnOf "steps_behind" "steps_behind" (defArgs s_steps_behind) (defBody s_steps_behind) (defScope s_steps_behind) .none kV_steps_behind dc_steps_behind pm_steps_behind an_steps_behind cd_steps_behind ct_steps_behind), sl_steps_behind⟩) (c_steps_behind : PySem.W.codeIn K cd_steps_behind "steps_behind" = true) (k_steps_behind : PySem.W.keepIn K (.ref f_steps_behind) = true)
    (a__law_walk : PySem.W.nsIn K mainGlobals "_law_walk" = some (some (.ref f__law_walk))) (l__law_walk : K.lookup f__law_walk = some ⟨oc__law_walk, od__law_walk, .func (PySem.W.fnOf "_law_walk" "_law_walk" (defArgs s__law_walk) (defBody s__law_walk) (defScope s__law_walk) .none kV__law_walk dc__law_walk pm__law_walk an__law_walk cd__law_walk ct__law_walk), sl__law_walk⟩) (c__law_walk : PySem.W.codeIn K cd__law_walk "_law_walk" = true) (k__law_walk : PySem.W.keepIn K (.ref f__law_walk) = true)
    (a__law_straight : PySem.W.nsIn K mainGlobals "_law_straight" = some (some (.ref f__law_straight))) (l__law_straight : K.lookup f__law_straight = some ⟨oc__law_straight, od__law_straight, .func (PySem.W.fnOf "_law_straight" "_law_straight" (defArgs s__law_straight) (defBody s__law_straight) (defScope s__law_straight) .none kV__law_straight dc__law_straight pm__law_straight an__law_straight cd__law_straight ct__law_straight), sl__law_straight⟩) (c__law_straight : PySem.W.codeIn K cd__law_straight "_law_straight" = true) (k__law_straight : PySem.W.keepIn K (.ref f__law_straight) = true)
    (a__law_many : PySem.W.nsIn K mainGlobals "_law_many" = some (some (.ref f__law_many))) (l__law_many : K.lookup f__law_many = some ⟨oc__law_many, od__law_many, .func (PySem.W.fnOf "_law_many" "_law_many" (defArgs s__law_many) (defBody s__law_many) (defScope s__law_many) .none kV__law_many dc__law_many pm__law_many an__law_many cd__law_many ct__law_many), sl__law_many⟩) (c__law_many : PySem.W.codeIn K cd__law_many "_law_many" = true) (k__law_many : PySem.W.keepIn K (.ref f__law_many) = true)
    (a__law_least : PySem.W.nsIn K mainGlobals "_law_least" = some (some (.ref f__law_least))) (l__law_least : K.lookup f__law_least = some ⟨oc__law_least, od__law_least, .func (PySem.W.fnOf "_law_least" "_law_least" (defArgs s__law_least) (defBody s__law_least) (defScope s__law_least) .none kV__law_least dc__law_least pm__law_least an__law_least cd__law_least ct__law_least), sl__law_least⟩) (c__law_least : PySem.W.codeIn K cd__law_least "_law_least" = true) (k__law_least : PySem.W.keepIn K (.ref f__law_least) = true)
    (a__law_all : PySem.W.nsIn K mainGlobals "_law_all" = some (some (.ref f__law_all))) (l__law_all : K.lookup f__law_all = some ⟨oc__law_all, od__law_all, .func (PySem.W.fnOf "_law_all" "_law_all" (defArgs s__law_all) (defBody s__law_all) (defScope s__law_all) .none kV__law_all dc__law_all pm__law_all an__law_all cd__law_all ct__law_all), sl__law_all⟩) (c__law_all : PySem.W.codeIn K cd__law_all "_law_all" = true) (k__law_all : PySem.W.keepIn K (.ref f__law_all) = true)
    (a_is_walk_of : PySem.W.nsIn K mainGlobals "is_walk_of" = some (some (.ref f_is_walk_of))) (l_is_walk_of : K.lookup f_is_walk_of = some ⟨oc_is_walk_of, od_is_walk_of, .func (PySem.W.fnOf "is_walk_of" "is_walk_of" (defArgs s_is_walk_of) (defBody s_is_walk_of) (defScope s_is_walk_of) .none kV_is_walk_of dc_is_walk_of pm_is_walk_of an_is_walk_of cd_is_walk_of ct_is_walk_of), sl_is_walk_of⟩) (c_is_walk_of : PySem.W.codeIn K cd_is_walk_of "is_walk_of" = true) (k_is_walk_of : PySem.W.keepIn K (.ref f_is_walk_of) = true)
    (a_check_letters : PySem.W.nsIn K mainGlobals "check_letters" = some (some (.ref f_check_letters))) (l_check_letters : K.lookup f_check_letters = some ⟨oc_check_letters, od_check_letters, .func (PySem.W.fnOf "check_letters" "check_letters" (defArgs s_check_letters) (defBody s_check_letters) (defScope s_check_letters) .none kV_check_letters dc_check_letters pm_check_letters an_check_letters cd_check_letters ct_check_letters), sl_check_letters⟩) (c_check_letters : PySem.W.codeIn K cd_check_letters "check_letters" = true) (k_check_letters : PySem.W.keepIn K (.ref f_check_letters) = true)
    (a_place_among_all : PySem.W.nsIn K mainGlobals "place_among_all" = some (some (.ref f_place_among_all))) (l_place_among_all : K.lookup f_place_among_all = some ⟨oc_place_among_all, od_place_among_all, .func (PySem.W.fnOf "place_among_all" "place_among_all" (defArgs s_place_among_all) (defBody s_place_among_all) (defScope s_place_among_all) .none kV_place_among_all dc_place_among_all pm_place_among_all an_place_among_all cd_place_among_all ct_place_among_all), sl_place_among_all⟩) (c_place_among_all : PySem.W.codeIn K cd_place_among_all "place_among_all" = true) (k_place_among_all : PySem.W.keepIn K (.ref f_place_among_all) = true)
    (a_walk_at_place : PySem.W.nsIn K mainGlobals "walk_at_place" = some (some (.ref f_walk_at_place))) (l_walk_at_place : K.lookup f_walk_at_place = some ⟨oc_walk_at_place, od_walk_at_place, .func (PySem.W.fnOf "walk_at_place" "walk_at_place" (defArgs s_walk_at_place) (defBody s_walk_at_place) (defScope s_walk_at_place) .none kV_walk_at_place dc_walk_at_place pm_walk_at_place an_walk_at_place cd_walk_at_place ct_walk_at_place), sl_walk_at_place⟩) (c_walk_at_place : PySem.W.codeIn K cd_walk_at_place "walk_at_place" = true) (k_walk_at_place : PySem.W.keepIn K (.ref f_walk_at_place) = true)
    (a__law_ahead : PySem.W.nsIn K mainGlobals "_law_ahead" = some (some (.ref f__law_ahead))) (l__law_ahead : K.lookup f__law_ahead = some ⟨oc__law_ahead, od__law_ahead, .func (PySem.W.fnOf "_law_ahead" "_law_ahead" (defArgs s__law_ahead) (defBody s__law_ahead) (defScope s__law_ahead) .none kV__law_ahead dc__law_ahead pm__law_ahead an__law_ahead cd__law_ahead ct__law_ahead), sl__law_ahead⟩) (c__law_ahead : PySem.W.codeIn K cd__law_ahead "_law_ahead" = true) (k__law_ahead : PySem.W.keepIn K (.ref f__law_ahead) = true)
    (a__law_next : PySem.W.nsIn K mainGlobals "_law_next" = some (some (.ref f__law_next))) (l__law_next : K.lookup f__law_next = some ⟨oc__law_next, od__law_next, .func (PySem.W.fnOf "_law_next" "_law_next" (defArgs s__law_next) (defBody s__law_next) (defScope s__law_next) .none kV__law_next dc__law_next pm__law_next an__law_next cd__law_next ct__law_next), sl__law_next⟩) (c__law_next : PySem.W.codeIn K cd__law_next "_law_next" = true) (k__law_next : PySem.W.keepIn K (.ref f__law_next) = true)
    (a_check_walk : PySem.W.nsIn K mainGlobals "check_walk" = some (some (.ref f_check_walk))) (l_check_walk : K.lookup f_check_walk = some ⟨oc_check_walk, od_check_walk, .func (PySem.W.fnOf "check_walk" "check_walk" (defArgs s_check_walk) (defBody s_check_walk) (defScope s_check_walk) .none kV_check_walk dc_check_walk pm_check_walk an_check_walk cd_check_walk ct_check_walk), sl_check_walk⟩) (c_check_walk : PySem.W.codeIn K cd_check_walk "check_walk" = true) (k_check_walk : PySem.W.keepIn K (.ref f_check_walk) = true)
    (a_how_many : PySem.W.nsIn K mainGlobals "how_many" = some (some (.ref f_how_many))) (l_how_many : K.lookup f_how_many = some ⟨oc_how_many, od_how_many, .func (PySem.W.fnOf "how_many" "how_many" (defArgs s_how_many) (defBody s_how_many) (defScope s_how_many) .none kV_how_many dc_how_many pm_how_many an_how_many cd_how_many ct_how_many), sl_how_many⟩) (c_how_many : PySem.W.codeIn K cd_how_many "how_many" = true) (k_how_many : PySem.W.keepIn K (.ref f_how_many) = true)
    (a_nth_walk : PySem.W.nsIn K mainGlobals "nth_walk" = some (some (.ref f_nth_walk))) (l_nth_walk : K.lookup f_nth_walk = some ⟨oc_nth_walk, od_nth_walk, .func (PySem.W.fnOf "nth_walk" "nth_walk" (defArgs s_nth_walk) (defBody s_nth_walk) (defScope s_nth_walk) .none kV_nth_walk dc_nth_walk pm_nth_walk an_nth_walk cd_nth_walk ct_nth_walk), sl_nth_walk⟩) (c_nth_walk : PySem.W.codeIn K cd_nth_walk "nth_walk" = true) (k_nth_walk : PySem.W.keepIn K (.ref f_nth_walk) = true)
    (a_number_of : PySem.W.nsIn K mainGlobals "number_of" = some (some (.ref f_number_of))) (l_number_of : K.lookup f_number_of = some ⟨oc_number_of, od_number_of, .func (PySem.W.fnOf "number_of" "number_of" (defArgs s_number_of) (defBody s_number_of) (defScope s_number_of) .none kV_number_of dc_number_of pm_number_of an_number_of cd_number_of ct_number_of), sl_number_of⟩) (c_number_of : PySem.W.codeIn K cd_number_of "number_of" = true) (k_number_of : PySem.W.keepIn K (.ref f_number_of) = true)
    (a_next_walk : PySem.W.nsIn K mainGlobals "next_walk" = some (some (.ref f_next_walk))) (l_next_walk : K.lookup f_next_walk = some ⟨oc_next_walk, od_next_walk, .func (PySem.W.fnOf "next_walk" "next_walk" (defArgs s_next_walk) (defBody s_next_walk) (defScope s_next_walk) .none kV_next_walk dc_next_walk pm_next_walk an_next_walk cd_next_walk ct_next_walk), sl_next_walk⟩) (c_next_walk : PySem.W.codeIn K cd_next_walk "next_walk" = true) (k_next_walk : PySem.W.keepIn K (.ref f_next_walk) = true)
    (a__law_short : PySem.W.nsIn K mainGlobals "_law_short" = some (some (.ref f__law_short))) (l__law_short : K.lookup f__law_short = some ⟨oc__law_short, od__law_short, .func (PySem.W.fnOf "_law_short" "_law_short" (defArgs s__law_short) (defBody s__law_short) (defScope s__law_short) .none kV__law_short dc__law_short pm__law_short an__law_short cd__law_short ct__law_short), sl__law_short⟩) (c__law_short : PySem.W.codeIn K cd__law_short "_law_short" = true) (k__law_short : PySem.W.keepIn K (.ref f__law_short) = true)
    (a__law_great : PySem.W.nsIn K mainGlobals "_law_great" = some (some (.ref f__law_great))) (l__law_great : K.lookup f__law_great = some ⟨oc__law_great, od__law_great, .func (PySem.W.fnOf "_law_great" "_law_great" (defArgs s__law_great) (defBody s__law_great) (defScope s__law_great) .none kV__law_great dc__law_great pm__law_great an__law_great cd__law_great ct__law_great), sl__law_great⟩) (c__law_great : PySem.W.codeIn K cd__law_great "_law_great" = true) (k__law_great : PySem.W.keepIn K (.ref f__law_great) = true)
    (a__law_walked : PySem.W.nsIn K mainGlobals "_law_walked" = some (some (.ref f__law_walked))) (l__law_walked : K.lookup f__law_walked = some ⟨oc__law_walked, od__law_walked, .func (PySem.W.fnOf "_law_walked" "_law_walked" (defArgs s__law_walked) (defBody s__law_walked) (defScope s__law_walked) .none kV__law_walked dc__law_walked pm__law_walked an__law_walked cd__law_walked ct__law_walked), sl__law_walked⟩) (c__law_walked : PySem.W.codeIn K cd__law_walked "_law_walked" = true) (k__law_walked : PySem.W.keepIn K (.ref f__law_walked) = true)
    (a__law_right : PySem.W.nsIn K mainGlobals "_law_right" = some (some (.ref f__law_right))) (l__law_right : K.lookup f__law_right = some ⟨oc__law_right, od__law_right, .func (PySem.W.fnOf "_law_right" "_law_right" (defArgs s__law_right) (defBody s__law_right) (defScope s__law_right) .none kV__law_right dc__law_right pm__law_right an__law_right cd__law_right ct__law_right), sl__law_right⟩) (c__law_right : PySem.W.codeIn K cd__law_right "_law_right" = true) (k__law_right : PySem.W.keepIn K (.ref f__law_right) = true)
    (a_law : PySem.W.nsIn K mainGlobals "law" = some (some (.ref f_law))) (l_law : K.lookup f_law = some ⟨oc_law, od_law, .func (PySem.W.fnOf "law" "law" (defArgs s_law) (defBody s_law) (defScope s_law) .none kV_law dc_law pm_law an_law cd_law ct_law), sl_law⟩) (c_law : PySem.W.codeIn K cd_law "law" = true) (k_law : PySem.W.keepIn K (.ref f_law) = true)
    (z_abs : PySem.W.nsIn K mainGlobals "abs" = some none)
    (z_all : PySem.W.nsIn K mainGlobals "all" = some none)
    (z_bool : PySem.W.nsIn K mainGlobals "bool" = some none)
    (z_divmod : PySem.W.nsIn K mainGlobals "divmod" = some none)
    (z_enumerate : PySem.W.nsIn K mainGlobals "enumerate" = some none)
    (z_int : PySem.W.nsIn K mainGlobals "int" = some none)
    (z_isinstance : PySem.W.nsIn K mainGlobals "isinstance" = some none)
    (z_len : PySem.W.nsIn K mainGlobals "len" = some none)
    (z_max : PySem.W.nsIn K mainGlobals "max" = some none)
    (z_min : PySem.W.nsIn K mainGlobals "min" = some none)
    (z_range : PySem.W.nsIn K mainGlobals "range" = some none)
    (z_sum : PySem.W.nsIn K mainGlobals "sum" = some none)
    (z_tuple : PySem.W.nsIn K mainGlobals "tuple" = some none)
    (v_MOST_LETTERS : PySem.W.nsIn K mainGlobals "MOST_LETTERS" = some (some (.int 4 tc_MOST_LETTERS)))
    : ∃ fd : FuncData, (∀ (s : Shared) (v : Value), BindsTo s fd ⟨[v], []⟩ [("_law_script", v)]) ∧ ∀ base : Heap, K.In base → base.Ns mainGlobals mg → FnOk l.prog w K mg base CX0 8 fa fd ["_law_script"] (sp_law K) := by
  have e := hfa.symm.trans (PySem.W.mg_of X G a_law)
  cases e
  have F_is_integer := fun_mk (st := s_is_integer) l_is_integer c_is_integer k_is_integer
  have F_steps_of := fun_mk (st := s_steps_of) l_steps_of c_steps_of k_steps_of
  have F_straightened := fun_mk (st := s_straightened) l_straightened c_straightened k_straightened
  have F_many_of_lengths := fun_mk (st := s_many_of_lengths) l_many_of_lengths c_many_of_lengths k_many_of_lengths
  have F__law_well := fun_mk (st := s__law_well) l__law_well c__law_well k__law_well
  have F__law_take := fun_mk (st := s__law_take) l__law_take c__law_take k__law_take
  have F__law_joined := fun_mk (st := s__law_joined) l__law_joined c__law_joined k__law_joined
  have F__law_is := fun_mk (st := s__law_is) l__law_is c__law_is k__law_is
  have F__law_steps := fun_mk (st := s__law_steps) l__law_steps c__law_steps k__law_steps
  have F__law_times := fun_mk (st := s__law_times) l__law_times c__law_times k__law_times
  have F__law_number := fun_mk (st := s__law_number) l__law_number c__law_number k__law_number
  have F_is_letters := fun_mk (st := s_is_letters) l_is_letters c_is_letters k_is_letters
  have F_is_step_of := fun_mk (st := s_is_step_of) l_is_step_of c_is_step_of k_is_step_of
  have F_check_least := fun_mk (st := s_check_least) l_check_least c_check_least k_check_least
  have F_steps_behind := fun_mk (st := s_steps_behind) l_steps_behind c_steps_behind k_steps_behind
  have F__law_walk := fun_mk (st := s__law_walk) l__law_walk c__law_walk k__law_walk
  have F__law_straight := fun_mk (st := s__law_straight) l__law_straight c__law_straight k__law_straight
  have F__law_many := fun_mk (st := s__law_many) l__law_many c__law_many k__law_many
  have F__law_least := fun_mk (st := s__law_least) l__law_least c__law_least k__law_least
  have F__law_all := fun_mk (st := s__law_all) l__law_all c__law_all k__law_all
  have F_is_walk_of := fun_mk (st := s_is_walk_of) l_is_walk_of c_is_walk_of k_is_walk_of
  have F_check_letters := fun_mk (st := s_check_letters) l_check_letters c_check_letters k_check_letters
  have F_place_among_all := fun_mk (st := s_place_among_all) l_place_among_all c_place_among_all k_place_among_all
  have F_walk_at_place := fun_mk (st := s_walk_at_place) l_walk_at_place c_walk_at_place k_walk_at_place
  have F__law_ahead := fun_mk (st := s__law_ahead) l__law_ahead c__law_ahead k__law_ahead
  have F__law_next := fun_mk (st := s__law_next) l__law_next c__law_next k__law_next
  have F_check_walk := fun_mk (st := s_check_walk) l_check_walk c_check_walk k_check_walk
  have F_how_many := fun_mk (st := s_how_many) l_how_many c_how_many k_how_many
  have F_nth_walk := fun_mk (st := s_nth_walk) l_nth_walk c_nth_walk k_nth_walk
  have F_number_of := fun_mk (st := s_number_of) l_number_of c_number_of k_number_of
  have F_next_walk := fun_mk (st := s_next_walk) l_next_walk c_next_walk k_next_walk
  have F__law_short := fun_mk (st := s__law_short) l__law_short c__law_short k__law_short
  have F__law_great := fun_mk (st := s__law_great) l__law_great c__law_great k__law_great
  have F__law_walked := fun_mk (st := s__law_walked) l__law_walked c__law_walked k__law_walked
  have F__law_right := fun_mk (st := s__law_right) l__law_right c__law_right k__law_right
  have F_law := fun_mk (st := s_law) l_law c_law k_law
  have b_is_integer := F_is_integer.binds (ps := P_is_integer) fun _ _ _ _ _ _ us hl => match us, hl with | [_], _ => rfl
  have b_steps_of := F_steps_of.binds (ps := P_steps_of) fun _ _ _ _ _ _ us hl => match us, hl with | [_], _ => rfl
  have b_straightened := F_straightened.binds (ps := P_straightened) fun _ _ _ _ _ _ us hl => match us, hl with | [_], _ => rfl
  have b_many_of_lengths := F_many_of_lengths.binds (ps := P_many_of_lengths) fun _ _ _ _ _ _ us hl => match us, hl with | [_, _], _ => rfl
  have b__law_well := F__law_well.binds (ps := P__law_well) fun _ _ _ _ _ _ us hl => match us, hl with | [_, _], _ => rfl
  have b__law_take := F__law_take.binds (ps := P__law_take) fun _ _ _ _ _ _ us hl => match us, hl with | [_, _], _ => rfl
  have b__law_joined := F__law_joined.binds (ps := P__law_joined) fun _ _ _ _ _ _ us hl => match us, hl with | [_, _], _ => rfl
  have b__law_is := F__law_is.binds (ps := P__law_is) fun _ _ _ _ _ _ us hl => match us, hl with | [_, _], _ => rfl
  have b__law_steps := F__law_steps.binds (ps := P__law_steps) fun _ _ _ _ _ _ us hl => match us, hl with | [_], _ => rfl
  have b__law_times := F__law_times.binds (ps := P__law_times) fun _ _ _ _ _ _ us hl => match us, hl with | [_, _], _ => rfl
  have b__law_number := F__law_number.binds (ps := P__law_number) fun _ _ _ _ _ _ us hl => match us, hl with | [_, _], _ => rfl
  have b_is_letters := F_is_letters.binds (ps := P_is_letters) fun _ _ _ _ _ _ us hl => match us, hl with | [_], _ => rfl
  have b_is_step_of := F_is_step_of.binds (ps := P_is_step_of) fun _ _ _ _ _ _ us hl => match us, hl with | [_, _], _ => rfl
  have b_check_least := F_check_least.binds (ps := P_check_least) fun _ _ _ _ _ _ us hl => match us, hl with | [_, _], _ => rfl
  have b_steps_behind := F_steps_behind.binds (ps := P_steps_behind) fun _ _ _ _ _ _ us hl => match us, hl with | [_, _], _ => rfl
  have b__law_walk := F__law_walk.binds (ps := P__law_walk) fun _ _ _ _ _ _ us hl => match us, hl with | [_, _, _], _ => rfl
  have b__law_straight := F__law_straight.binds (ps := P__law_straight) fun _ _ _ _ _ _ us hl => match us, hl with | [_], _ => rfl
  have b__law_many := F__law_many.binds (ps := P__law_many) fun _ _ _ _ _ _ us hl => match us, hl with | [_, _], _ => rfl
  have b__law_least := F__law_least.binds (ps := P__law_least) fun _ _ _ _ _ _ us hl => match us, hl with | [_, _, _], _ => rfl
  have b__law_all := F__law_all.binds (ps := P__law_all) fun _ _ _ _ _ _ us hl => match us, hl with | [_, _], _ => rfl
  have b_is_walk_of := F_is_walk_of.binds (ps := P_is_walk_of) fun _ _ _ _ _ _ us hl => match us, hl with | [_, _], _ => rfl
  have b_check_letters := F_check_letters.binds (ps := P_check_letters) fun _ _ _ _ _ _ us hl => match us, hl with | [_], _ => rfl
  have b_place_among_all := F_place_among_all.binds (ps := P_place_among_all) fun _ _ _ _ _ _ us hl => match us, hl with | [_, _], _ => rfl
  have b_walk_at_place := F_walk_at_place.binds (ps := P_walk_at_place) fun _ _ _ _ _ _ us hl => match us, hl with | [_, _], _ => rfl
  have b__law_ahead := F__law_ahead.binds (ps := P__law_ahead) fun _ _ _ _ _ _ us hl => match us, hl with | [_, _], _ => rfl
  have b__law_next := F__law_next.binds (ps := P__law_next) fun _ _ _ _ _ _ us hl => match us, hl with | [_, _], _ => rfl
  have b_check_walk := F_check_walk.binds (ps := P_check_walk) fun _ _ _ _ _ _ us hl => match us, hl with | [_, _], _ => rfl
  have b_how_many := F_how_many.binds (ps := P_how_many) fun _ _ _ _ _ _ us hl => match us, hl with | [_, _], _ => rfl
  have b_nth_walk := F_nth_walk.binds (ps := P_nth_walk) fun _ _ _ _ _ _ us hl => match us, hl with | [_, _], _ => rfl
  have b_number_of := F_number_of.binds (ps := P_number_of) fun _ _ _ _ _ _ us hl => match us, hl with | [_, _], _ => rfl
  have b_next_walk := F_next_walk.binds (ps := P_next_walk) fun _ _ _ _ _ _ us hl => match us, hl with | [_, _], _ => rfl
  have b__law_short := F__law_short.binds (ps := P__law_short) fun _ _ _ _ _ _ us hl => match us, hl with | [_], _ => rfl
  have b__law_great := F__law_great.binds (ps := P__law_great) fun _ _ _ _ _ _ us hl => match us, hl with | [_, _], _ => rfl
  have b__law_walked := F__law_walked.binds (ps := P__law_walked) fun _ _ _ _ _ _ us hl => match us, hl with | [_, _, _], _ => rfl
  have b__law_right := F__law_right.binds (ps := P__law_right) fun _ _ _ _ _ _ us hl => match us, hl with | [_], _ => rfl
  have b_law := F_law.binds (ps := P_law) fun _ _ _ _ _ _ us hl => match us, hl with | [_], _ => rfl
  have T : Tx K mg ⟨f_is_integer, _, f_steps_of, _, f_straightened, _, f_many_of_lengths, _, f__law_well, _, f__law_take, _, f__law_joined, _, f__law_is, _, f__law_steps, _, f__law_times, _, f__law_number, _, f_is_letters, _, f_is_step_of, _, f_check_least, _, f_steps_behind, _, f__law_walk, _, f__law_straight, _, f__law_many, _, f__law_least, _, f__law_all, _, f_is_walk_of, _, f_check_letters, _, f_place_among_all, _, f_walk_at_place, _, f__law_ahead, _, f__law_next, _, f_check_walk, _, f_how_many, _, f_nth_walk, _, f_number_of, _, f_next_walk, _, f__law_short, _, f__law_great, _, f__law_walked, _, f__law_right, _, fa, _⟩ := {
    g_is_integer := PySem.W.mg_of X G a_is_integer, F_is_integer := F_is_integer, b_is_integer := b_is_integer,
    g_steps_of := PySem.W.mg_of X G a_steps_of, F_steps_of := F_steps_of, b_steps_of := b_steps_of,
    g_straightened := PySem.W.mg_of X G a_straightened, F_straightened := F_straightened, b_straightened := b_straightened,
    g_many_of_lengths := PySem.W.mg_of X G a_many_of_lengths, F_many_of_lengths := F_many_of_lengths, b_many_of_lengths := b_many_of_lengths,
    g__law_well := PySem.W.mg_of X G a__law_well, F__law_well := F__law_well, b__law_well := b__law_well,
    g__law_take := PySem.W.mg_of X G a__law_take, F__law_take := F__law_take, b__law_take := b__law_take,
    g__law_joined := PySem.W.mg_of X G a__law_joined, F__law_joined := F__law_joined, b__law_joined := b__law_joined,
    g__law_is := PySem.W.mg_of X G a__law_is, F__law_is := F__law_is, b__law_is := b__law_is,
    g__law_steps := PySem.W.mg_of X G a__law_steps, F__law_steps := F__law_steps, b__law_steps := b__law_steps,
    g__law_times := PySem.W.mg_of X G a__law_times, F__law_times := F__law_times, b__law_times := b__law_times,
    g__law_number := PySem.W.mg_of X G a__law_number, F__law_number := F__law_number, b__law_number := b__law_number,
    g_is_letters := PySem.W.mg_of X G a_is_letters, F_is_letters := F_is_letters, b_is_letters := b_is_letters,
    g_is_step_of := PySem.W.mg_of X G a_is_step_of, F_is_step_of := F_is_step_of, b_is_step_of := b_is_step_of,
    g_check_least := PySem.W.mg_of X G a_check_least, F_check_least := F_check_least, b_check_least := b_check_least,
    g_steps_behind := PySem.W.mg_of X G a_steps_behind, F_steps_behind := F_steps_behind, b_steps_behind := b_steps_behind,
    g__law_walk := PySem.W.mg_of X G a__law_walk, F__law_walk := F__law_walk, b__law_walk := b__law_walk,
    g__law_straight := PySem.W.mg_of X G a__law_straight, F__law_straight := F__law_straight, b__law_straight := b__law_straight,
    g__law_many := PySem.W.mg_of X G a__law_many, F__law_many := F__law_many, b__law_many := b__law_many,
    g__law_least := PySem.W.mg_of X G a__law_least, F__law_least := F__law_least, b__law_least := b__law_least,
    g__law_all := PySem.W.mg_of X G a__law_all, F__law_all := F__law_all, b__law_all := b__law_all,
    g_is_walk_of := PySem.W.mg_of X G a_is_walk_of, F_is_walk_of := F_is_walk_of, b_is_walk_of := b_is_walk_of,
    g_check_letters := PySem.W.mg_of X G a_check_letters, F_check_letters := F_check_letters, b_check_letters := b_check_letters,
    g_place_among_all := PySem.W.mg_of X G a_place_among_all, F_place_among_all := F_place_among_all, b_place_among_all := b_place_among_all,
    g_walk_at_place := PySem.W.mg_of X G a_walk_at_place, F_walk_at_place := F_walk_at_place, b_walk_at_place := b_walk_at_place,
    g__law_ahead := PySem.W.mg_of X G a__law_ahead, F__law_ahead := F__law_ahead, b__law_ahead := b__law_ahead,
    g__law_next := PySem.W.mg_of X G a__law_next, F__law_next := F__law_next, b__law_next := b__law_next,
    g_check_walk := PySem.W.mg_of X G a_check_walk, F_check_walk := F_check_walk, b_check_walk := b_check_walk,
    g_how_many := PySem.W.mg_of X G a_how_many, F_how_many := F_how_many, b_how_many := b_how_many,
    g_nth_walk := PySem.W.mg_of X G a_nth_walk, F_nth_walk := F_nth_walk, b_nth_walk := b_nth_walk,
    g_number_of := PySem.W.mg_of X G a_number_of, F_number_of := F_number_of, b_number_of := b_number_of,
    g_next_walk := PySem.W.mg_of X G a_next_walk, F_next_walk := F_next_walk, b_next_walk := b_next_walk,
    g__law_short := PySem.W.mg_of X G a__law_short, F__law_short := F__law_short, b__law_short := b__law_short,
    g__law_great := PySem.W.mg_of X G a__law_great, F__law_great := F__law_great, b__law_great := b__law_great,
    g__law_walked := PySem.W.mg_of X G a__law_walked, F__law_walked := F__law_walked, b__law_walked := b__law_walked,
    g__law_right := PySem.W.mg_of X G a__law_right, F__law_right := F__law_right, b__law_right := b__law_right,
    g_law := PySem.W.mg_of X G a_law, F_law := F_law, b_law := b_law,
    n_abs := PySem.W.mg_none_of X G z_abs,
    n_all := PySem.W.mg_none_of X G z_all,
    n_bool := PySem.W.mg_none_of X G z_bool,
    n_divmod := PySem.W.mg_none_of X G z_divmod,
    n_enumerate := PySem.W.mg_none_of X G z_enumerate,
    n_int := PySem.W.mg_none_of X G z_int,
    n_isinstance := PySem.W.mg_none_of X G z_isinstance,
    n_len := PySem.W.mg_none_of X G z_len,
    n_max := PySem.W.mg_none_of X G z_max,
    n_min := PySem.W.mg_none_of X G z_min,
    n_range := PySem.W.mg_none_of X G z_range,
    n_sum := PySem.W.mg_none_of X G z_sum,
    n_tuple := PySem.W.mg_none_of X G z_tuple,
    c_MOST_LETTERS := ⟨_, PySem.W.mg_of X G v_MOST_LETTERS⟩ }
  exact ⟨PySem.W.fnOf "law" "law" (defArgs s_law) (defBody s_law) (defScope s_law) .none kV_law dc_law pm_law an_law cd_law ct_law, fun s v => .of_eq rfl, fun base _ _ => ok_law T⟩

end Lw
open PySem PySem.W PyProof.Rows
set_option maxHeartbeats 0 in
theorem PySem.Challenge.cw_walkclubs_k05_walks_in_their_order_holds : PySem.Challenge.rw_walkclubs_k05_walks_in_their_order.Holds := by
  w_on; o_law; k_head; (case hw => w_witness2)
  k_fill
  refine L2.walk_of (l := PySem.Challenge.rw_walkclubs_k05_walks_in_their_order) (n := 63) (k := 8) (x := "_law_script") (CX := fun _ => L2.CX0) (sp := fun w => Lw.sp_law _) rfl (by decide) rfl ⟨rfl, by decide, by decide⟩ (fun w h Y => PySem.W.kIn_of Y) ?F (fun _ _ a ns hl _ hS => ⟨a, ns, rfl, hS, hl, fun _ => rfl⟩) (fun _ _ _ _ _ h => h)
  case F =>
    intro w mg fa h KX G hmg
    refine' Lw.all_mk KX G hmg ?a_is_integer ?l_is_integer ?c_is_integer ?k_is_integer ?a_steps_of ?l_steps_of ?c_steps_of ?k_steps_of ?a_straightened ?l_straightened ?c_straightened ?k_straightened ?a_many_of_lengths ?l_many_of_lengths ?c_many_of_lengths ?k_many_of_lengths ?a__law_well ?l__law_well ?c__law_well ?k__law_well ?a__law_take ?l__law_take ?c__law_take ?k__law_take ?a__law_joined ?l__law_joined ?c__law_joined ?k__law_joined ?a__law_is ?l__law_is ?c__law_is ?k__law_is ?a__law_steps ?l__law_steps ?c__law_steps ?k__law_steps ?a__law_times ?l__law_times ?c__law_times ?k__law_times ?a__law_number ?l__law_number ?c__law_number ?k__law_number ?a_is_letters ?l_is_letters ?c_is_letters ?k_is_letters ?a_is_step_of ?l_is_step_of ?c_is_step_of ?k_is_step_of ?a_check_least ?l_check_least ?c_check_least ?k_check_least ?a_steps_behind ?l_steps_behind ?c_steps_behind ?k_steps_behind ?a__law_walk ?l__law_walk ?c__law_walk ?k__law_walk ?a__law_straight ?l__law_straight ?c__law_straight ?k__law_straight ?a__law_many ?l__law_many ?c__law_many ?k__law_many ?a__law_least ?l__law_least ?c__law_least ?k__law_least ?a__law_all ?l__law_all ?c__law_all ?k__law_all ?a_is_walk_of ?l_is_walk_of ?c_is_walk_of ?k_is_walk_of ?a_check_letters ?l_check_letters ?c_check_letters ?k_check_letters ?a_place_among_all ?l_place_among_all ?c_place_among_all ?k_place_among_all ?a_walk_at_place ?l_walk_at_place ?c_walk_at_place ?k_walk_at_place ?a__law_ahead ?l__law_ahead ?c__law_ahead ?k__law_ahead ?a__law_next ?l__law_next ?c__law_next ?k__law_next ?a_check_walk ?l_check_walk ?c_check_walk ?k_check_walk ?a_how_many ?l_how_many ?c_how_many ?k_how_many ?a_nth_walk ?l_nth_walk ?c_nth_walk ?k_nth_walk ?a_number_of ?l_number_of ?c_number_of ?k_number_of ?a_next_walk ?l_next_walk ?c_next_walk ?k_next_walk ?a__law_short ?l__law_short ?c__law_short ?k__law_short ?a__law_great ?l__law_great ?c__law_great ?k__law_great ?a__law_walked ?l__law_walked ?c__law_walked ?k__law_walked ?a__law_right ?l__law_right ?c__law_right ?k__law_right ?a_law ?l_law ?c_law ?k_law ?z_abs ?z_all ?z_bool ?z_divmod ?z_enumerate ?z_int ?z_isinstance ?z_len ?z_max ?z_min ?z_range ?z_sum ?z_tuple ?v_MOST_LETTERS
    (case a_is_integer => k_is); (case l_is_integer => k_is); (case c_is_integer => k_is); (case k_is_integer => k_is); (case a_steps_of => k_is); (case l_steps_of => k_is); (case c_steps_of => k_is); (case k_steps_of => k_is); (case a_straightened => k_is); (case l_straightened => k_is); (case c_straightened => k_is); (case k_straightened => k_is); (case a_many_of_lengths => k_is); (case l_many_of_lengths => k_is); (case c_many_of_lengths => k_is); (case k_many_of_lengths => k_is); (case a__law_well => k_is); (case l__law_well => k_is); (case c__law_well => k_is); (case k__law_well => k_is); (case a__law_take => k_is); (case l__law_take => k_is); (case c__law_take => k_is); (case k__law_take => k_is); (case a__law_joined => k_is); (case l__law_joined => k_is); (case c__law_joined => k_is); (case k__law_joined => k_is); (case a__law_is => k_is); (case l__law_is => k_is); (case c__law_is => k_is); (case k__law_is => k_is); (case a__law_steps => k_is); (case l__law_steps => k_is); (case c__law_steps => k_is); (case k__law_steps => k_is); (case a__law_times => k_is); (case l__law_times => k_is); (case c__law_times => k_is); (case k__law_times => k_is); (case a__law_number => k_is); (case l__law_number => k_is); (case c__law_number => k_is); (case k__law_number => k_is); (case a_is_letters => k_is); (case l_is_letters => k_is); (case c_is_letters => k_is); (case k_is_letters => k_is); (case a_is_step_of => k_is); (case l_is_step_of => k_is); (case c_is_step_of => k_is); (case k_is_step_of => k_is); (case a_check_least => k_is); (case l_check_least => k_is); (case c_check_least => k_is); (case k_check_least => k_is); (case a_steps_behind => k_is); (case l_steps_behind => k_is); (case c_steps_behind => k_is); (case k_steps_behind => k_is); (case a__law_walk => k_is); (case l__law_walk => k_is); (case c__law_walk => k_is); (case k__law_walk => k_is); (case a__law_straight => k_is); (case l__law_straight => k_is); (case c__law_straight => k_is); (case k__law_straight => k_is); (case a__law_many => k_is); (case l__law_many => k_is); (case c__law_many => k_is); (case k__law_many => k_is); (case a__law_least => k_is); (case l__law_least => k_is); (case c__law_least => k_is); (case k__law_least => k_is); (case a__law_all => k_is); (case l__law_all => k_is); (case c__law_all => k_is); (case k__law_all => k_is); (case a_is_walk_of => k_is); (case l_is_walk_of => k_is); (case c_is_walk_of => k_is); (case k_is_walk_of => k_is); (case a_check_letters => k_is); (case l_check_letters => k_is); (case c_check_letters => k_is); (case k_check_letters => k_is); (case a_place_among_all => k_is); (case l_place_among_all => k_is); (case c_place_among_all => k_is); (case k_place_among_all => k_is); (case a_walk_at_place => k_is); (case l_walk_at_place => k_is); (case c_walk_at_place => k_is); (case k_walk_at_place => k_is); (case a__law_ahead => k_is); (case l__law_ahead => k_is); (case c__law_ahead => k_is); (case k__law_ahead => k_is); (case a__law_next => k_is); (case l__law_next => k_is); (case c__law_next => k_is); (case k__law_next => k_is); (case a_check_walk => k_is); (case l_check_walk => k_is); (case c_check_walk => k_is); (case k_check_walk => k_is); (case a_how_many => k_is); (case l_how_many => k_is); (case c_how_many => k_is); (case k_how_many => k_is); (case a_nth_walk => k_is); (case l_nth_walk => k_is); (case c_nth_walk => k_is); (case k_nth_walk => k_is); (case a_number_of => k_is); (case l_number_of => k_is); (case c_number_of => k_is); (case k_number_of => k_is); (case a_next_walk => k_is); (case l_next_walk => k_is); (case c_next_walk => k_is); (case k_next_walk => k_is); (case a__law_short => k_is); (case l__law_short => k_is); (case c__law_short => k_is); (case k__law_short => k_is); (case a__law_great => k_is); (case l__law_great => k_is); (case c__law_great => k_is); (case k__law_great => k_is); (case a__law_walked => k_is); (case l__law_walked => k_is); (case c__law_walked => k_is); (case k__law_walked => k_is); (case a__law_right => k_is); (case l__law_right => k_is); (case c__law_right => k_is); (case k__law_right => k_is); (case a_law => k_is); (case l_law => k_is); (case c_law => k_is); (case k_law => k_is); (case z_abs => k_is); (case z_all => k_is); (case z_bool => k_is); (case z_divmod => k_is); (case z_enumerate => k_is); (case z_int => k_is); (case z_isinstance => k_is); (case z_len => k_is); (case z_max => k_is); (case z_min => k_is); (case z_range => k_is); (case z_sum => k_is); (case z_tuple => k_is); (case v_MOST_LETTERS => k_is)

#print axioms PySem.Challenge.cw_walkclubs_k05_walks_in_their_order_holds
