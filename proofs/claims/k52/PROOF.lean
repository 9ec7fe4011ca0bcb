import PyProof.Rows.All
import Wide.All
import OpenK.AllK
import Wide.FinOn
import HandS.ForMost
import HandS.Flow
import HandS.IsInst
import HandS.Style
import HandS.TupAny
import HandS.TupMul
import HandS.Wide
import HandS.Evl
import HandS.SortKw
import PyProof.ReprReads
import HandS.Zip
import PyProof.ReprLen
import KE.GoesNew
import KE.GoesMore
import KE.GoesEnum
import PyProof.ReprRoads
import HandS.Conv
import PyProof.ReprBulk
import HandS.WideMore
import HandS.WideBits
import HandS.RaiseMore
import HandS.Gcd
import KE.KMathGC
import PyProof.AutoIntOps
import HandS.DictComp
import HandS.ListItems
import HandS.Iter
import KE.KDictList
import HandS.TupLe
import PyProof.P3Eq
import HandS.List
import PySem.Challenge.RW_walkclubs_k52_whole_numbers_there_and_ba
set_option Elab.async false
set_option linter.all false
set_option maxRecDepth 100000
set_option maxHeartbeats 4000000
/-! rules that the layer lacks: ** of wide ints, tuple * any int, t[::-1] of a tuple, a call of keywords alone -/
namespace HT
open PySem PySem.Spec PyProof.Rows
section
variable {prog : Program} {w : World} {A : Around} {E : Value → Shared → Prop} {s : Shared}
theorem wk_pick (xs : Array Value) : ((List.range xs.size).filterMap fun (k : Nat) => xs[((((xs.size : Nat) : Int) - 1) + (k : Int) * (-1)).toNat]?).toArray = xs.toList.reverse.toArray := by
  have e : (List.range xs.size).filterMap (fun (k : Nat) => xs[((((xs.size : Nat) : Int) - 1) + (k : Int) * (-1)).toNat]?) = ((List.range xs.size).map fun k => xs.size - 1 - k).filterMap (xs[·]?) := by
    rw [List.filterMap_map]
    have e0 : (fun (k : Nat) => xs[((((xs.size : Nat) : Int) - 1) + (k : Int) * (-1)).toNat]?) = ((xs[·]?) ∘ fun k => xs.size - 1 - k) := by
      funext k
      have e1 : ((((xs.size : Nat) : Int) - 1) + (k : Int) * (-1)).toNat = xs.size - 1 - k := by omega
      show xs[((((xs.size : Nat) : Int) - 1) + (k : Int) * (-1)).toNat]? = xs[xs.size - 1 - k]?
      rw [e1]
    rw [e0]
  rw [e, PySem.W.krv_range, List.filterMap_reverse, PySem.W.krv_all]
theorem wk_places (n : Nat) : Builtin.Slice.slicePlaces ((n : Int) - 1) (-1) (-1) = n := by
  unfold Builtin.Slice.slicePlaces
  rw [if_neg (by decide)]
  by_cases h : n = 0
  · subst h
    rfl
  · rw [if_pos (by omega), show (- -1 : Int) = 1 from rfl, Int.ediv_one]
    omega
theorem wk_applied {sl : Addr} {vs : Value} {n : Nat} {Q : Int × Int × Nat → Shared → Prop} (hs : s.heap.IsSliceOf sl .none .none vs) (ps : IsPart vs (some (-1)))
    (h : Q ((n : Int) - 1, -1, n) s) : wpAny (model prog w) A (Builtin.Slice.sliceApplied (.ref sl) (pure (n : Int))) Q E s := by
  obtain ⟨os, hos, hcs, hds⟩ := id hs
  unfold Builtin.Slice.sliceApplied Builtin.Slice.sliceFields
  refine wpAny_bind (wpAny_bind (wpAny_field hos hds (x := .none) rfl (wpAny_bind (wpAny_field hos hds (x := .none) rfl (wpAny_bind (wpAny_field hos hds (x := vs) rfl (wpAny_pure ?_)))))))
  refine wpAny_bind (slicePart_ ps ?_)
  show wpAny _ _ (if ((-1 : Int) == 0) = true then _ else _) _ _ s
  rw [if_neg (by decide)]
  refine wpAny_bind (slicePart_none (wpAny_bind (slicePart_none (wpAny_bind (wpAny_pure ?_)))))
  show wpAny _ _ (pure (((n : Int) - 1), (-1 : Int), Builtin.Slice.slicePlaces ((n : Int) - 1) (-1) (-1))) _ _ s
  rw [wk_places]
  exact wpAny_pure h
theorem wk_getItem_tuple_rev {t sl : Addr} {items : Array Value} {vs : Value} {Q : Value → Shared → Prop} (ht : IsTup s.heap t items) (hs : s.heap.IsSliceOf sl .none .none vs) (ps : IsPart vs (some (-1)))
    (h : Q (.ref s.heap.objs.size) { s with heap := s.heap.push { cls := .type "tuple", data := .seq items.toList.reverse.toArray } })
    (hsz : items.size ≤ sizeLine) : wpAny (model prog w) A (getItem (.ref t) (.ref sl)) Q E s := by
  have htake : sizeOk (.seq items.toList.reverse.toArray) := by
    show items.toList.reverse.toArray.size ≤ sizeLine
    rw [List.size_toArray, List.length_reverse, Array.length_toList]
    exact hsz
  obtain ⟨os, hos, hcs, hds⟩ := id hs
  have hTs : s.TypeIs (.ref sl) "slice" := ⟨os, hos, hcs⟩
  unfold getItem
  try with_reducible refine wpAny_holding ?_
  first | refine wpAny_bind (wpAny_pure ?_) | skip
  refine wpAny_bind (wpAny_sequenceKey ht.typeIs (by decide) ?_)
  refine wpAny_bind (wpAny_callSpecial?_slot (name := Str.ofString "__getitem__") ht.typeIs PyProof.Rows.slot_tuple_getitem
    (wpAny_call_entry PyProof.Rows.slot_tuple_getitem ht.typeIs entry_tuple_getitem ?_ (args_tuple_getitem _ _)))
  show wpAny _ _ (Builtin.Tuple.tupleItemsOf (.ref t) >>= _) _ _ s
  refine wpAny_bind (tupleItemsOf_ ht ?_)
  refine wpAny_bind (wpAny_typeOf hTs ?_)
  rw [if_pos (by decide)]
  refine wpAny_bind (wk_applied hs ps ?_)
  have hno : ¬ (((((items.size : Nat) : Int) - 1) == 0 && (-1 : Int) == 1 && items.size == items.size) = true) := by
    intro q
    rw [Bool.and_eq_true, Bool.and_eq_true] at q
    exact absurd q.1.2 (by decide)
  show wpAny _ _ (if ((((items.size : Nat) : Int) - 1) == 0 && (-1 : Int) == 1 && items.size == items.size) = true then _ else _) _ _ s
  rw [if_neg hno, wk_pick]
  first
    | exact wpAny_bind (m := Builtin.Tuple.tupleExact _) (wpAny_newObj_type (wpAny_pure ⟨_, rfl, wpAny_pure h⟩) htake)
    | exact wpAny_bind (m := Builtin.Tuple.tupleExact _) (wpAny_newObj_type (wpAny_bind (wpAny_pure (wpAny_pure ⟨_, rfl, wpAny_pure h⟩))) htake)
    | exact wpAny_bind (wpAny_bind (m := Builtin.Tuple.tupleExact _) (wpAny_newObj_type (wpAny_pure (wpAny_pure ⟨_, rfl, wpAny_pure h⟩)) htake))
    | exact wpAny_bind (wpAny_bind (m := Builtin.Tuple.tupleExact _) (wpAny_newObj_type (wpAny_pure ⟨_, rfl, wpAny_pure h⟩) htake))
end
end HT
namespace L2
open PySem PySem.Spec PyProof.Rows HT
/-! ### ** -/
def CPowW (i j : Int) : Prop := 0 ≤ j ∧ (Builtin.Int.intBits i : Int) * j ≤ 2 ^ 27
section
variable {X : Cx}
theorem op_powW : OpR X (binaryOp .Pow) (rI CPowW fun i j => .int (i ^ j.toNat)) := opI fun _ _ _ _ _ _ _ hc q => pow_int hc.1 hc.2 q
end
theorem wide_bits {i : Int} {a : Nat} (h0 : 0 < a) (ha : i.natAbs < 2 ^ a) : Builtin.Int.intBits i ≤ a := by
  have x := PySem.Flt.log2_lt_of h0 ha
  unfold Builtin.Int.intBits
  split <;> omega
theorem wide_pow {i : Int} {a k : Nat} (h0 : 0 < a) (ha : i.natAbs < 2 ^ a) (h : a * k ≤ 134217728) : CPowW i (k : Int) := by
  refine ⟨by omega, ?_⟩
  have x := wide_bits h0 ha
  have y : Builtin.Int.intBits i * k ≤ a * k := Nat.mul_le_mul_right k x
  have z : ((Builtin.Int.intBits i * k : Nat) : Int) ≤ 2 ^ 27 := by
    have : Builtin.Int.intBits i * k ≤ 134217728 := Nat.le_trans y h
    have e : (2 : Int) ^ 27 = 134217728 := by decide
    rw [e]
    omega
  rw [Int.natCast_mul] at z
  exact z
/-! ### tuple * int, any -/
theorem wk_tuple_same (l : Addr) (items : Array Value) (n : Nat) (dd : Option Addr) (sl : Array (Option Value)) (x : Int) (u : Tok) (c0 : (decide (x < -(2 ^ 63)) || decide (x ≥ 2 ^ 63)) = false) (c1 : (items.isEmpty || x == 1) = true) :
    Meets (Builtin.«tuple.__mul__» ⟨[.ref l, .int x u], []⟩) (fun _ R s => s.heap.get? l = some { cls := .type "tuple", dict := dd, data := .seq items n, slots := sl } ∧ R (.ok (.ret (Value.ref l))) s) :=
  .of_wp fun prog w A R s h => by
    obtain ⟨hp, g, d, tk, os⟩ := s
    obtain ⟨hl, h⟩ := h
    have f1 := AutoSeq1.idx_int
    wp_walk using wpAny_loadPart' hl
    repeat (first
      | (refine wpAny_ite_false (decide_eq_false (by rw [c0]; exact Bool.false_ne_true)) ?_; wp_walk using wpAny_loadPart' hl)
      | (refine wpAny_ite_true (decide_eq_true c1) ?_; wp_walk using wpAny_loadPart' hl))
    exact ⟨_, rfl, h⟩
theorem wk_tuple_none (l : Addr) (items : Array Value) (n : Nat) (dd : Option Addr) (sl : Array (Option Value)) (x : Int) (u : Tok) (c0 : (decide (x < -(2 ^ 63)) || decide (x ≥ 2 ^ 63)) = false) (c1 : (items.isEmpty || x == 1) = false) (c2 : (decide (x ≤ 0) || items.isEmpty) = true) :
    Meets (Builtin.«tuple.__mul__» ⟨[.ref l, .int x u], []⟩) (fun _ R s => s.heap.get? l = some { cls := .type "tuple", dict := dd, data := .seq items n, slots := sl } ∧
      R (.ok (.ret (Value.ref s.heap.objs.size))) { s with heap := s.heap.push { cls := Value.type "tuple", data := Data.seq #[] }, toks := s.toks }) :=
  .of_wp fun prog w A R s h => by
    obtain ⟨hp, g, d, tk, os⟩ := s
    obtain ⟨hl, h⟩ := h
    have f1 := AutoSeq1.idx_int
    wp_walk using wpAny_loadPart' hl
    repeat (first
      | (refine wpAny_ite_false (decide_eq_false (by rw [c0]; exact Bool.false_ne_true)) ?_; wp_walk using wpAny_loadPart' hl)
      | (refine wpAny_ite_false (decide_eq_false (by rw [c1]; exact Bool.false_ne_true)) ?_; wp_walk using wpAny_loadPart' hl)
      | (refine wpAny_ite_true (decide_eq_true c2) ?_; wp_walk using wpAny_loadPart' hl))
    exact ⟨_, rfl, h⟩
def rRepTA (K : PySem.W.Frag) : R2 := fun x y H Q => ∃ l k xs, x = .ref l ∧ y = .int k ∧ SqT K H l xs ∧ 0 ≤ k ∧ k ≤ 1000 ∧ xs.length ≤ 1000 ∧
  (xs = [] ∨ k = 1 → Q (.ref l) H) ∧ (¬ (xs = [] ∨ k = 1) → ∀ p, H p = none → Q (.ref p) (upd H p (.tup (List.replicate k.toNat xs).flatten)))
section
variable {X : Cx}
theorem op_repTA : OpR X (binaryOp .Mult) (rRepTA X.K) := by
  intro pins s σ H x y v u Q I rx ry h
  obtain ⟨l, k, xs, rfl, rfl, hT, h1, h2, hz, q1, q2⟩ := h
  by_cases h2k : 2 ≤ k ∧ xs ≠ []
  · exact op_repT pins s σ H _ _ v u Q I rx ry ⟨l, k, xs, rfl, rfl, hT, h2k.2, h2k.1, h2, hz, q2 (fun z => z.elim h2k.2 fun e => by have := h2k.1; omega)⟩
  · cases rx
    obtain ⟨t, rfl⟩ := ry
    obtain ⟨its, r, ⟨⟨cls, dd, data, sl⟩, ho, hc, n, hd⟩, hs⟩ := I.tuple hT
    simp only at hc hd
    subst hc hd
    have hle : its.length = xs.length := r.length.symm
    have c0 : (decide (k < -(2 ^ 63)) || decide (k ≥ 2 ^ 63)) = false := by
      rw [decide_eq_false (by omega), decide_eq_false (by omega)] <;> rfl
    have hi : its.toArray.isEmpty = decide (xs = []) := by
      cases its with
      | nil =>
        have e : xs = [] := List.eq_nil_of_length_eq_zero (by simpa using hle.symm)
        subst e
        rfl
      | cons a b =>
        have e : xs ≠ [] := fun z => by
          subst z
          simp at hle
        rw [decide_eq_false e]
        rfl
    by_cases hw : xs = [] ∨ k = 1
    · have c1 : (its.toArray.isEmpty || k == 1) = true := by
        rw [hi]
        rcases hw with e | e
        · simp [e]
        · simp [e]
      refine wpAny_binaryOp_repeat_ref (T := "tuple") (U := "int") (by decide) ⟨_, ho, rfl⟩ (fun s' => typeIs_int s' k t) noFill_tuple_mul F.fills_int_mul F.slot_int_rmul repeat_tuple F.slot_int_index.lookup
        (call_meets F.slot_int_rmul (typeIs_int s k t) F.entry_int_rmul (F.args_int_rmul_2 _ _) (int_rmul_tuple k t l its.toArray n dd sl)
          ⟨ho, rfl, ⟨_, ho, rfl⟩, call_meets F.slot_tuple_mul ⟨_, ho, rfl⟩ F.entry_tuple_mul (F.args_tuple_mul_2 _ _) (wk_tuple_same l its.toArray n dd sl k t c0 c1) ⟨ho, ?_⟩⟩)
      exact ⟨.ref l, H, I, rfl, q1 hw⟩
    · have hne : xs ≠ [] := fun e => hw (.inl e)
      have hk0 : k = 0 := by
        have h3 : ¬ 2 ≤ k := fun z => h2k ⟨z, hne⟩
        have h4 : k ≠ 1 := fun z => hw (.inr z)
        omega
      have c1 : (its.toArray.isEmpty || k == 1) = false := by
        rw [hi, decide_eq_false hne, hk0]
        rfl
      have c2 : (decide (k ≤ 0) || its.toArray.isEmpty) = true := by
        rw [hk0]
        rfl
      refine wpAny_binaryOp_repeat_ref (T := "tuple") (U := "int") (by decide) ⟨_, ho, rfl⟩ (fun s' => typeIs_int s' k t) noFill_tuple_mul F.fills_int_mul F.slot_int_rmul repeat_tuple F.slot_int_index.lookup
        (call_meets F.slot_int_rmul (typeIs_int s k t) F.entry_int_rmul (F.args_int_rmul_2 _ _) (int_rmul_tuple k t l its.toArray n dd sl)
          ⟨ho, rfl, ⟨_, ho, rfl⟩, call_meets F.slot_tuple_mul ⟨_, ho, rfl⟩ F.entry_tuple_mul (F.args_tuple_mul_2 _ _) (wk_tuple_none l its.toArray n dd sl k t c0 c1 c2) ⟨ho, ?_⟩⟩)
      refine ⟨.ref s.heap.objs.size, _, I.laid (t' := s.toks) (o := .tup (List.replicate k.toNat xs).flatten) (fun b ob q => Heap.get?_push_of_some _ q) (Nat.le_refl _) ?_, rfl, q2 hw _ (I.hok.fresh (Nat.le_refl _))⟩
      subst hk0
      exact ⟨Nat.zero_le _, [], .nil, IsTup.new _ _⟩
/-! ### t[::-1] -/
def tRevT (K : PySem.W.Frag) (te : TE) : TE := fun σ H Q => te σ H fun x H1 => ∃ a xs, x = .ref a ∧ SqT K H1 a xs ∧ ∀ p, H1 p = none → Q (.ref p) (upd H1 p (.tup xs.reverse))
theorem pe_revT {e : Expr} {te : TE} {k : Nat} {p1 p2 p3 pos : Pos} (he : PE X e te) : PE X (.Subscript e (.Slice none none (some (.UnaryOp .USub (.Constant (.int 1) k p1) p2)) p3) pos) (tRevT X.K te) := by
  refine ⟨fun pins s σ H Q I h => ?_⟩
  refine Subscript_ (thn (he.run pins s σ H _ I h) fun v s1 ⟨x, H1, I1, r1, q1⟩ => ?_)
  obtain ⟨a, xs, ex, hx, q⟩ := q1
  subst ex
  cases r1
  have hst : PO X (some (.UnaryOp .USub (.Constant (.int 1) k p1) p2)) (tPart (tUn (rU fun i => .int (-i)) (tC (.int 1)))) := po_some (pe_un un_neg pe_int)
  refine wpAny_Slice (thn (po_none.run pins s1 σ H1 (fun o H2 => o = none ∧ H2 = H1) I1 ⟨rfl, rfl⟩) fun vl s2 ⟨l, H2, I2, pl, el, e2⟩ => ?_)
  subst el e2
  cases pl
  refine thn (po_none.run pins s2 σ H2 (fun o H3 => o = none ∧ H3 = H2) I2 ⟨rfl, rfl⟩) fun vu s3 ⟨u, H3, I3, pu, eu, e3⟩ => ?_
  subst eu e3
  cases pu
  refine thn (hst.run pins s3 σ H3 (fun o H4 => o = some (-1) ∧ H4 = H3) I3 ⟨1, rfl, -1, rfl, rfl, rfl⟩) fun vs s4 ⟨o, H4, I4, ps, eo, e4⟩ => ?_
  subst eo e4
  have I5 : Inv X pins σ H4 { s4 with heap := s4.heap.push { cls := .type "slice", data := .fields #[.none, .none, vs] } } := I4.kept (t' := s4.toks) fun b ob q => Heap.get?_push_of_some _ q
  obtain ⟨its, r, ht, hz⟩ := I5.tuple hx
  have hlen := r.length
  show wpAny (model X.prog X.w) X.A (subscriptTail e (.Slice none none (some (.UnaryOp .USub (.Constant (.int 1) k p1) p2)) p3) (.ref a) (.ref s4.heap.objs.size)) (EP X pins σ Q) X.xe { s4 with heap := s4.heap.push { cls := .type "slice", data := .fields #[.none, .none, vs] } }
  refine tail_any (ops := [.ref a, .ref s4.heap.objs.size]) ht.typeIs (PyProof.Rows.slot_tuple_getitem.lookup) ?_ (by with_unfolding_all rfl)
  refine wk_getItem_tuple_rev ht (Heap.IsSliceOf.new _ .none .none vs) ps ?_ (by rw [List.size_toArray]; omega)
  refine ⟨.ref _, _, I5.laid (t' := s4.toks) (o := .tup xs.reverse) (fun b ob q => Heap.get?_push_of_some _ q) (Nat.le_refl _) ?_, rfl, q _ (I5.hok.fresh (Nat.le_refl _))⟩
  exact ⟨by rw [List.length_reverse]; exact hz, _, r.reverse, IsTup.new _ _⟩
end
/-! ### f(k = v, ..) -/
section
variable {X : Cx} {CX : CXT} {k : Nat} {f : Addr} {fd : FuncData} {ps ks : List Str} {sp : Sp} {E : XK} {x : Str} {p pos : Pos} {kws : List Keyword} {tk : TA} {g : List Value → List Value → List Value} {gV : List V → List V → List V}
theorem pe_callK0 (F : FnOk X.prog X.w X.K X.mg X.base CX k f fd ps sp) (hr : Room k X.A) (hg : Gl X x) (hm : X.mg x = some (.ref f)) (hk : PySem.W.keepIn X.K (.ref f) = true) (hb : KBinds X.K fd ps ks g gV) (hx : Passes CX X E)
    (hkw : PK X kws tk) (hall : (backToKw pos (keywordEach kws X.env)).all (·.1.isSome) = true := by rfl) (hks : (backToKw pos (keywordEach kws X.env)).filterMap (·.1) = ks := by rfl)
    (hdb : (x == ("__debug__" : Str)) = false := by decide)
    (hpl : ((backTo pos (starEach [] X.env)).any (·.1) || (backToKw pos (keywordEach kws X.env)).any (·.1.isNone)) = false := by rfl) :
    PE X (.Call (.Name x p) [] kws pos) (tCallK sp gV E tNil tk) := by
  refine ⟨fun pins s σ H Q I h => ?_⟩
  refine wpAny_Call_Name_kw (ld_glob I hg hm ?_ hdb)
  refine PySem.W.callWith_KW0 (h₀ := X.base) I.ok.mod.kin hk hall ?_ hpl
  refine thn (hkw.run pos pins s σ H _ I h) fun ws s2 ⟨zs, H2, I2, rz, q2⟩ => ⟨I2.kIn, ?_⟩
  rw [hks]
  exact run_fnk (us := []) (vs := []) F hr hb hx I2 .nil rz q2
end
end L2
/-! operators that go by what they meet: ints, lists, tuples -/
namespace L2
open PySem PySem.Spec PyProof.Rows Evl
def rAddI : R2 := rI0 fun i j => .int (i + j)
def rSubI : R2 := rI0 fun i j => .int (i - j)
def rMulI : R2 := rI CMul fun i j => .int (i * j)
def rMulJ : R2 := rI CMulW fun i j => .int (i * j)
def rModI : R2 := rI (fun _ j => 0 < j) fun i j => .int (i % j)
def rAddU (K : PySem.W.Frag) : R2 := fun x y H Q => rAddI x y H Q ∨ rCat x y H Q ∨ rCatA K x y H Q
def rMulU (K : PySem.W.Frag) : R2 := fun x y H Q => rMulI x y H Q ∨ rMulJ x y H Q ∨ rRep x y H Q ∨ rRepTA K x y H Q
def rEqU (K : PySem.W.Frag) : R2 := fun x y H Q => rEq x y H Q ∨ rEqD K x y H Q
def rNeU (K : PySem.W.Frag) : R2 := fun x y H Q => rNe x y H Q ∨ rNeD K x y H Q
def rSlU (K : PySem.W.Frag) : V → Option Int → Option Int → Hp → VK → Prop := fun x lo hi H Q => rSlL K x lo hi H Q ∨ rSlA K x lo hi H Q
section
variable {X : Cx}
theorem op_addU : OpR X (binaryOp .Add) (rAddU X.K) := op_add.or (op_cat.or op_catA)
theorem op_mulU : OpR X (binaryOp .Mult) (rMulU X.K) := op_mul.or (op_mulW.or (op_rep.or op_repTA))
theorem op_eqU (hu : X.A.units + 64 < cLine) : OpR X (compareOp .Eq) (rEqU X.K) := op_eq.or (op_eqD hu)
theorem op_neU (hu : X.A.units + 64 < cLine) : OpR X (compareOp .NotEq) (rNeU X.K) := op_ne.or (op_neD hu)
theorem sl_U : SlR X (rSlU X.K) := sl_list.or sl_tupA
def tRevU (K : PySem.W.Frag) (te : TE) : TE := fun σ H Q => te σ H fun x H1 => (∃ a xs, x = .ref a ∧ SqL K H1 a xs ∧ ∀ p, H1 p = none → Q (.ref p) (upd H1 p (.lst xs.reverse))) ∨ (∃ a xs, x = .ref a ∧ SqT K H1 a xs ∧ ∀ p, H1 p = none → Q (.ref p) (upd H1 p (.tup xs.reverse)))
/-- the reading of a part may be parted: what it gives is one of two -/
theorem pe_revU {e : Expr} {te : TE} {k : Nat} {p1 p2 p3 pos : Pos} (he : PE X e te) : PE X (.Subscript e (.Slice none none (some (.UnaryOp .USub (.Constant (.int 1) k p1) p2)) p3) pos) (tRevU X.K te) := by
  refine ⟨fun pins s σ H Q I h => ?_⟩
  refine Subscript_ (thn (he.run pins s σ H _ I h) fun v s1 ⟨x, H1, I1, r1, q1⟩ => ?_)
  have hst : PO X (some (.UnaryOp .USub (.Constant (.int 1) k p1) p2)) (tPart (tUn (rU fun i => .int (-i)) (tC (.int 1)))) := po_some (pe_un un_neg pe_int)
  refine wpAny_Slice (thn (po_none.run pins s1 σ H1 (fun o H2 => o = none ∧ H2 = H1) I1 ⟨rfl, rfl⟩) fun vl s2 ⟨l, H2, I2, pl, el, e2⟩ => ?_)
  subst el e2
  cases pl
  refine thn (po_none.run pins s2 σ H2 (fun o H3 => o = none ∧ H3 = H2) I2 ⟨rfl, rfl⟩) fun vu s3 ⟨u, H3, I3, pu, eu, e3⟩ => ?_
  subst eu e3
  cases pu
  refine thn (hst.run pins s3 σ H3 (fun o H4 => o = some (-1) ∧ H4 = H3) I3 ⟨1, rfl, -1, rfl, rfl, rfl⟩) fun vs s4 ⟨o, H4, I4, ps, eo, e4⟩ => ?_
  subst eo e4
  have I5 : Inv X pins σ H4 { s4 with heap := s4.heap.push { cls := .type "slice", data := .fields #[.none, .none, vs] } } := I4.kept (t' := s4.toks) fun b ob q => Heap.get?_push_of_some _ q
  rcases q1 with ⟨a, xs, ex, hx, q⟩ | ⟨a, xs, ex, hx, q⟩
  · subst ex
    cases r1
    obtain ⟨its, r, ht, hz⟩ := I5.list hx
    have hlen := r.length
    show wpAny (model X.prog X.w) X.A (subscriptTail e (.Slice none none (some (.UnaryOp .USub (.Constant (.int 1) k p1) p2)) p3) (.ref a) (.ref s4.heap.objs.size)) (EP X pins σ Q) X.xe { s4 with heap := s4.heap.push { cls := .type "slice", data := .fields #[.none, .none, vs] } }
    refine tail_any (ops := [.ref a, .ref s4.heap.objs.size]) ht.isList.typeIs (PySem.slot_list_getitem.lookup) ?_ (by with_unfolding_all rfl)
    refine wpAny_getItem_list_slice ht.isList (Heap.IsSliceOf.new _ .none .none vs) .none .none ps (by decide) ?_ (by rw [List.size_toArray]; omega)
    rw [PySem.W.krv_pick]
    refine ⟨.ref _, _, I5.laid (t' := s4.toks) (o := .lst xs.reverse) (fun b ob q => Heap.get?_push_of_some _ q) (Nat.le_refl _) ?_, rfl, q _ (I5.hok.fresh (Nat.le_refl _))⟩
    exact ⟨by rw [List.length_reverse]; exact hz, _, 0, r.reverse, Heap.get?_push_size _ rfl⟩
  · subst ex
    cases r1
    obtain ⟨its, r, ht, hz⟩ := I5.tuple hx
    have hlen := r.length
    show wpAny (model X.prog X.w) X.A (subscriptTail e (.Slice none none (some (.UnaryOp .USub (.Constant (.int 1) k p1) p2)) p3) (.ref a) (.ref s4.heap.objs.size)) (EP X pins σ Q) X.xe { s4 with heap := s4.heap.push { cls := .type "slice", data := .fields #[.none, .none, vs] } }
    refine tail_any (ops := [.ref a, .ref s4.heap.objs.size]) ht.typeIs (PyProof.Rows.slot_tuple_getitem.lookup) ?_ (by with_unfolding_all rfl)
    refine HT.wk_getItem_tuple_rev ht (Heap.IsSliceOf.new _ .none .none vs) ps ?_ (by rw [List.size_toArray]; omega)
    refine ⟨.ref _, _, I5.laid (t' := s4.toks) (o := .tup xs.reverse) (fun b ob q => Heap.get?_push_of_some _ q) (Nat.le_refl _) ?_, rfl, q _ (I5.hok.fresh (Nat.le_refl _))⟩
    exact ⟨by rw [List.length_reverse]; exact hz, _, r.reverse, IsTup.new _ _⟩
end

/-! ### heaps -/
abbrev IT (K : PySem.W.Frag) (H : Hp) (a : Addr) (ns : List Int) : Prop := SqT K H a (ns.map V.int)
abbrev IL (K : PySem.W.Frag) (H : Hp) (a : Addr) (ns : List Int) : Prop := SqL K H a (ns.map V.int)
/-- all but what stands at w is as it was -/
def ExW (w : Addr) (H H' : Hp) : Prop := ∀ a o, H a = some o → a ≠ w → H' a = some o
theorem ExW.refl {w : Addr} (H : Hp) : ExW w H H := fun _ _ h _ => h
theorem ExW.trans {w : Addr} {H H1 H2 : Hp} (a : ExW w H H1) (b : ExW w H1 H2) : ExW w H H2 := fun x o h n => b x o (a x o h n) n
theorem ExW.of {w : Addr} {H H' : Hp} (e : Ex H H') : ExW w H H' := fun a o h _ => e a o h
theorem ExW.upd {w : Addr} {H : Hp} {o : HO} : ExW w H (upd H w o) := fun a u h n => by
  rw [upd_ne n]
  exact h
theorem exw_t {K : PySem.W.Frag} {w : Addr} {H H' : Hp} {a : Addr} {xs ys : List V} (e : ExW w H H') (hw : H w = some (.lst ys)) (h : SqT K H a xs) : SqT K H' a xs := by
  rcases h with (h | ⟨o, h⟩) | h
  · exact .inl (.inl (e _ _ h (ne_of h hw (by intro z; cases z))))
  · exact .inl (.inr ⟨o, e _ _ h (ne_of h hw (by intro z; cases z))⟩)
  · exact .inr h
theorem exw_l {K : PySem.W.Frag} {w : Addr} {H H' : Hp} {a : Addr} {xs : List V} (e : ExW w H H') (hw : a ≠ w) (h : SqL K H a xs) : SqL K H' a xs := by
  rcases h with (h | ⟨o, h⟩) | h
  · exact .inl (.inl (e _ _ h hw))
  · exact .inl (.inr ⟨o, e _ _ h hw⟩)
  · exact .inr h
/-- a new object, the heap behind it unnamed -/
theorem alloc {H : Hp} {o : HO} {Q : VK} (h : ∀ p H1, H p = none → Ex H H1 → H1 p = some o → Q (.ref p) H1) : ∀ p, H p = none → Q (.ref p) (upd H p o) :=
  fun p hp => h p _ hp (Ex.new hp) upd_same
theorem t_of {K : PySem.W.Frag} {H : Hp} {a : Addr} {xs : List V} (h : H a = some (.tup xs)) : SqT K H a xs := .inl (.inl h)
theorem l_of {K : PySem.W.Frag} {H : Hp} {a : Addr} {xs : List V} (h : H a = some (.lst xs)) : SqL K H a xs := .inl (.inl h)
/-- a tuple of the heap is no list of it -/
theorem t_ne {K : PySem.W.Frag} {H : Hp} {a w : Addr} {xs ys : List V} (h : H a = some (.tup xs)) (hw : H w = some (.lst ys)) : a ≠ w := ne_of h hw (by intro z; cases z)
/-- data of ints -/
theorem dp_ints {K : PySem.W.Frag} {H : Hp} : ∀ ns : List Int, DpAll K H (ns.map V.int) (ns.map PyData.int)
  | [] => .nil
  | n :: r => .cons (.int n) (dp_ints r)
theorem dp_t {K : PySem.W.Frag} {H : Hp} {a : Addr} {ns : List Int} (h : IT K H a ns) : Dp K H (.ref a) (.tuple (ns.map .int)) := .tup h (dp_ints ns)
theorem dp_l {K : PySem.W.Frag} {H : Hp} {a : Addr} {ns : List Int} (h : IL K H a ns) : Dp K H (.ref a) (.list (ns.map .int)) := .lst h (dp_ints ns)
end L2
namespace L2
open PySem PySem.Spec PyProof.Rows Evl
/-! ### == of sequences of ints -/
theorem eqvAll_ints : ∀ ns ms : List Int, PyData.eqvAll (ns.map .int) (ms.map .int) = decide (ns = ms)
  | [], [] => by simp [PyData.eqvAll]
  | [], m :: ms => by simp [PyData.eqvAll]
  | n :: ns, [] => by simp [PyData.eqvAll]
  | n :: ns, m :: ms => by
    rw [List.map_cons, List.map_cons, PyData.eqvAll, eqvAll_ints ns ms, PyData.eqv]
    by_cases h : n = m
    · subst h
      simp
    · simp [h]
theorem eqv_tints (ns ms : List Int) : PyData.eqv (.tuple (ns.map .int)) (.tuple (ms.map .int)) = decide (ns = ms) := by rw [PyData.eqv, eqvAll_ints]
theorem eqv_lints (ns ms : List Int) : PyData.eqv (.list (ns.map .int)) (.list (ms.map .int)) = decide (ns = ms) := by rw [PyData.eqv, eqvAll_ints]
theorem canLay_ints : ∀ ns : List Int, PyData.canLayAll0 (ns.map .int) = true
  | [] => by simp [PyData.canLayAll0]
  | n :: ns => by
    rw [List.map_cons, PyData.canLayAll0, canLay_ints ns]
    simp [PyData.canLay0]
theorem depth_ints : ∀ ns : List Int, PyData.depthAll (ns.map .int) = 0
  | [] => by simp [PyData.depthAll]
  | n :: ns => by
    rw [List.map_cons, PyData.depthAll, depth_ints ns]
    simp [PyData.depth]
theorem shaped_t (ns : List Int) : SeqAt.shaped (.tuple (ns.map .int)) = true := by
  unfold SeqAt.shaped
  rw [PyData.canLay0, canLay_ints, PyData.depth, depth_ints]
  rfl
theorem shaped_l (ns : List Int) : SeqAt.shaped (.list (ns.map .int)) = true := by
  unfold SeqAt.shaped
  rw [PyData.canLay0, canLay_ints, PyData.depth, depth_ints]
  rfl
section
variable {K : PySem.W.Frag} {H : Hp} {Q : VK} {a b : Addr} {ns ms : List Int}
theorem r_eqT (ha : IT K H a ns) (hb : IT K H b ms) (q : Q (.bl (decide (ns = ms))) H) : rEqU K (.ref a) (.ref b) H Q :=
  .inr ⟨_, _, dp_t ha, dp_t hb, shaped_t ns, shaped_t ms, by rw [eqv_tints]; exact q⟩
theorem r_neT (ha : IT K H a ns) (hb : IT K H b ms) (q : Q (.bl (!decide (ns = ms))) H) : rNeU K (.ref a) (.ref b) H Q :=
  .inr ⟨_, _, dp_t ha, dp_t hb, shaped_t ns, shaped_t ms, by rw [eqv_tints]; exact q⟩
theorem r_eqL (ha : IL K H a ns) (hb : IL K H b ms) (q : Q (.bl (decide (ns = ms))) H) : rEqU K (.ref a) (.ref b) H Q :=
  .inr ⟨_, _, dp_l ha, dp_l hb, shaped_l ns, shaped_l ms, by rw [eqv_lints]; exact q⟩
theorem r_neL (ha : IL K H a ns) (hb : IL K H b ms) (q : Q (.bl (!decide (ns = ms))) H) : rNeU K (.ref a) (.ref b) H Q :=
  .inr ⟨_, _, dp_l ha, dp_l hb, shaped_l ns, shaped_l ms, by rw [eqv_lints]; exact q⟩
theorem r_eqI {i j : Int} (q : Q (.bl (decide (i = j))) H) : rEqU K (.int i) (.int j) H Q := .inl ⟨rfl, by
  have e : decide ((V.int i) = V.int j) = decide (i = j) := by simp
  rw [e]
  exact q⟩
theorem r_neI {i j : Int} (q : Q (.bl (!decide (i = j))) H) : rNeU K (.int i) (.int j) H Q := .inl ⟨rfl, by
  have e : decide ((V.int i) = V.int j) = decide (i = j) := by simp
  rw [e]
  exact q⟩
theorem r_add {i j : Int} (q : Q (.int (i + j)) H) : rAddU K (.int i) (.int j) H Q := .inl ⟨i, j, rfl, rfl, q⟩
theorem r_mul {i j : Int} (h : CMul i j) (q : Q (.int (i * j)) H) : rMulU K (.int i) (.int j) H Q := .inl ⟨i, j, rfl, rfl, h, q⟩
theorem r_mulW {i j : Int} (h : CMulW i j) (q : Q (.int (i * j)) H) : rMulU K (.int i) (.int j) H Q := .inr (.inl ⟨i, j, rfl, rfl, h, q⟩)
/-- the tuple of both -/
theorem r_catT {xs ys : List V} (ha : SqT K H a xs) (hb : SqT K H b ys) (hz : xs.length + ys.length ≤ 100000) (q : ∀ p H1, Ex H H1 → SqT K H1 p (xs ++ ys) → Q (.ref p) H1) : rAddU K (.ref a) (.ref b) H Q := by
  refine .inr (.inr ⟨a, b, xs, ys, rfl, rfl, ha, hb, sz_of hz, fun e => ?_, fun _ e => ?_, fun _ _ => alloc fun p H1 _ e h => q p H1 e (t_of h)⟩)
  · subst e
    exact q b H (Ex.refl H) hb
  · subst e
    refine q a H (Ex.refl H) ?_
    rw [List.append_nil]
    exact ha
theorem r_catL {xs ys : List V} (ha : H a = some (.lst xs)) (hb : H b = some (.lst ys)) (hz : xs.length + ys.length ≤ 100000) (q : ∀ p H1, H p = none → Ex H H1 → H1 p = some (.lst (xs ++ ys)) → Q (.ref p) H1) : rAddU K (.ref a) (.ref b) H Q :=
  .inr (.inl ⟨a, b, xs, ys, rfl, rfl, ha, hb, sz_of hz, alloc q⟩)
theorem r_repT {xs : List V} {k : Int} (ha : SqT K H a xs) (h0 : 0 ≤ k) (hk : k ≤ 1000) (hz : xs.length ≤ 1000) (q : ∀ p H1, Ex H H1 → SqT K H1 p (List.replicate k.toNat xs).flatten → Q (.ref p) H1) : rMulU K (.ref a) (.int k) H Q := by
  refine .inr (.inr (.inr ⟨a, k, xs, rfl, rfl, ha, h0, hk, hz, fun e => ?_, fun _ => alloc fun p H1 _ e h => q p H1 e (t_of h)⟩))
  refine q a H (Ex.refl H) ?_
  rcases e with e | e
  · subst e
    have e2 : (List.replicate k.toNat ([] : List V)).flatten = [] := by simp
    rw [e2]
    exact ha
  · subst e
    have e2 : (List.replicate (1 : Int).toNat xs).flatten = xs := by simp
    rw [e2]
    exact ha
/-- a tuple's part -/
theorem r_slT {xs : List V} {lo hi : Option Int} (ha : SqT K H a xs) (q : ∀ p H1, Ex H H1 → SqT K H1 p (cutV xs lo hi) → Q (.ref p) H1) : rSlU K (.ref a) lo hi H Q := by
  refine .inr ⟨a, xs, rfl, ha, fun e => ?_, fun _ => alloc fun p H1 _ e h => q p H1 e (t_of h)⟩
  refine q a H (Ex.refl H) ?_
  have e2 : cutV xs lo hi = xs := by
    unfold cutV
    rw [e.1, e.2, List.drop_zero, Nat.sub_zero, List.take_length]
  rw [e2]
  exact ha
theorem r_slL {xs : List V} {lo hi : Option Int} (ha : SqL K H a xs) (q : ∀ p H1, H p = none → Ex H H1 → H1 p = some (.lst (cutV xs lo hi)) → Q (.ref p) H1) : rSlU K (.ref a) lo hi H Q := .inl ⟨a, xs, rfl, ha, alloc q⟩
end
theorem cut_map {ns : List Int} {lo hi : Option Int} : cutV (ns.map V.int) lo hi = ((ns.drop (HT.sIx ns.length 0 lo)).take (HT.sIx ns.length ns.length hi - HT.sIx ns.length 0 lo)).map V.int := by
  unfold cutV
  rw [List.length_map, List.map_take, List.map_drop]
theorem sIx_int {n d : Nat} {v : Int} (h : 0 ≤ v) : HT.sIx n d (some v) = min v.toNat n := by
  obtain ⟨k, rfl⟩ := Int.eq_ofNat_of_zero_le h
  exact HT.sIx_nat n d k
/-- xs[:k] -/
theorem cut_to {ns : List Int} {k : Int} (h : 0 ≤ k) : cutV (ns.map V.int) none (some k) = (ns.take k.toNat).map V.int := by
  rw [cut_map, HT.sIx_none, sIx_int h, List.drop_zero, Nat.sub_zero]
  congr 1
  rw [Nat.min_def]
  split
  · rfl
  · rw [List.take_of_length_le (Nat.le_refl _), List.take_of_length_le (by omega)]
/-- xs[k:] -/
theorem cut_from {ns : List Int} {k : Int} (h : 0 ≤ k) : cutV (ns.map V.int) (some k) none = (ns.drop k.toNat).map V.int := by
  rw [cut_map, HT.sIx_none, sIx_int h]
  congr 1
  by_cases hk : k.toNat ≤ ns.length
  · rw [Nat.min_eq_left hk, List.take_of_length_le (by rw [List.length_drop]; exact Nat.le_refl _)]
  · rw [Nat.min_eq_right (by omega), List.drop_of_length_le (Nat.le_refl _), List.drop_of_length_le (by omega)]
    simp
/-- an item at a place from 0 on -/
theorem at_int {ns : List Int} {i : Int} {x : Int} (h0 : 0 ≤ i) (hx : ns[i.toNat]? = some x) : atI (ns.map V.int) i = some (.int x) := by
  have e : i = ((i.toNat : Nat) : Int) := by omega
  rw [e]
  exact atI_nat (by rw [List.getElem?_map, hx]; rfl)
theorem at_last {ns : List Int} {x : Int} (hx : ns.getLast? = some x) : atI (ns.map V.int) (-1) = some (.int x) := by
  obtain ⟨ys, rfl⟩ := List.getLast?_eq_some_iff.mp hx
  rw [List.map_append]
  exact atI_last _ _
/-! ### the draws' three ints -/
structure Well (H : Hp) (w : Addr) (n : Nat) : Prop where
  ex : ∃ a b c : Int, H w = some (.lst [.int a, .int b, .int c]) ∧ 0 ≤ a ∧ 0 ≤ b ∧ b.natAbs < 2 ^ 160 ∧ 0 ≤ c ∧ c ≤ n
theorem Well.mono {H H' : Hp} {w : Addr} {n : Nat} (h : Well H w n) (e : Ex H H') : Well H' w n := by
  obtain ⟨a, b, c, h1, h2⟩ := h.ex
  exact ⟨a, b, c, e _ _ h1, h2⟩
theorem Well.more {H : Hp} {w : Addr} {n m : Nat} (h : Well H w n) (e : n ≤ m) : Well H w m := by
  obtain ⟨a, b, c, h1, h2, h3, h4, h5, h6⟩ := h.ex
  exact ⟨a, b, c, h1, h2, h3, h4, h5, by omega⟩
theorem Well.t {K : PySem.W.Frag} {H H' : Hp} {w a : Addr} {n : Nat} {xs : List V} (h : Well H w n) (e : ExW w H H') (t : SqT K H a xs) : SqT K H' a xs := by
  obtain ⟨_, _, _, h1, _⟩ := h.ex
  exact exw_t e h1 t
theorem Well.ne {H : Hp} {w p : Addr} {n : Nat} (h : Well H w n) (hp : H p = none) : p ≠ w := by
  obtain ⟨_, _, _, h1, _⟩ := h.ex
  exact fun e => by
    subst e
    rw [hp] at h1
    cases h1
/-- from what is drawn on -/
def spTake : Sp := fun vs H Q _ => ∃ w n m, vs = [.ref w, .int m] ∧ 0 < m ∧ m < 2 ^ 60 ∧ Well H w n ∧ n < 2 ^ 30 ∧ ∀ r H', 0 ≤ r → r < m → ExW w H H' → Well H' w (n + 1) → Q (.int r) H'
theorem small_t {n : Nat} (h : n ≤ 100000) : n ≤ sizeLine := sz_of h
end L2
namespace L2
open PySem PySem.Spec PyProof.Rows Evl
theorem ty_t {K : PySem.W.Frag} {H : Hp} {a : Addr} {xs : List V} (h : SqT K H a xs) : TyX K H (.ref a) (.type "tuple") := by
  rcases h with (h | ⟨o, h⟩) | ⟨o, its, n, h, c, _⟩
  · exact .base (.tup h)
  · exact .fTuple h
  · exact .kTuple h c
theorem ty_l {K : PySem.W.Frag} {H : Hp} {a : Addr} {xs : List V} (h : SqL K H a xs) : TyX K H (.ref a) (.type "list") := by
  rcases h with (h | ⟨o, h⟩) | ⟨o, its, n, h, c, _⟩
  · exact .base (.lst h)
  · exact .base (.frz h)
  · exact .kList h c
/-! ### comprehensions whose turns change nothing -/
section
variable {K : PySem.W.Frag} {σ : L2.St} {H : Hp} {te tl : TE} {Q : VK} {j : Nat} {vs : List Nat} {a : Addr} {xs ys : List V}
theorem take_snoc {α : Type} {l : List α} {i : Nat} {y : α} (h : l[i]? = some y) : l.take (i + 1) = l.take i ++ [y] := by
  rw [List.take_add_one, h]
  rfl
/-- what one turn does -/
theorem cm_turn {H0 H' : Hp} {D : Addr} {i : Nat} {y : V} {σ2 : L2.St} (hy : ys[i]? = some y) (hz : ys.length ≤ 100000) (hD : H0 D = none) (p : Ex H0 H' ∧ H' D = some (.lst (ys.take i)))
    (he : ∀ Q' : VK, (∀ H2, Ex H' H2 → Q' y H2) → te σ2 H' Q') :
    te σ2 H' fun y H4 => ∃ acc, H4 D = some (.lst acc) ∧ acc.length < sizeLine ∧ (Ex H0 (upd H4 D (.lst (acc ++ [y]))) ∧ (upd H4 D (.lst (acc ++ [y]))) D = some (.lst (ys.take (i + 1)))) := by
  refine he _ fun H2 e2 => ⟨ys.take i, e2 _ _ p.2, ?_, Ex.mut (p.1.trans e2) hD, ?_⟩
  · have := (List.getElem?_eq_some_iff.mp hy).1
    rw [List.length_take]
    exact Nat.lt_of_le_of_lt (Nat.min_le_left _ _) (Nat.lt_of_lt_of_le this (sz_of hz))
  · rw [upd_same, take_snoc hy]
theorem cm_tup (hl : ∀ R : VK, (∀ a H1, Ex H H1 → SqT K H1 a xs → R (.ref a) H1) → tl σ H R) (hxy : ys.length = xs.length) (hz : ys.length ≤ 100000) (hw : ∀ x, wipe ((wipe σ vs).set j (some x)) vs = wipe σ vs)
    (he : ∀ (i : Nat) (x y : V) (H1 : Hp), xs[i]? = some x → ys[i]? = some y → Ex H H1 → ∀ Q' : VK, (∀ H2, Ex H1 H2 → Q' y H2) → te ((wipe σ vs).set j (some x)) H1 Q')
    (q : ∀ D H1, H D = none → Ex H H1 → H1 D = some (.lst ys) → Q (.ref D) H1) : tLc (iTup K tl) (gName j) tYes te vs σ H Q := by
  refine hl _ fun a H1 e1 ht => ⟨a, rfl, ⟨xs, ht⟩, fun D hD => ?_⟩
  refine lc_tup (K := K) (a := a) (xs := xs) (fun i H' => Ex H1 H' ∧ H' D = some (.lst (ys.take i))) ⟨Ex.new hD, by rw [upd_same]; rfl⟩ (fun i H' _ p => ex_t p.1 ht) (fun i x H' hx p => ⟨hw x, ?_⟩) (fun H' p => q D H' ?_ (e1.trans p.1) ?_)
  · have hi : i < ys.length := by rw [hxy]; exact (List.getElem?_eq_some_iff.mp hx).1
    exact cm_turn (List.getElem?_eq_getElem hi) hz hD p fun Q' k => he i x _ H' hx (List.getElem?_eq_getElem hi) (e1.trans p.1) Q' k
  · exact fresh_back e1 hD
  · rw [p.2, ← hxy, List.take_length]
theorem cm_list (hl : ∀ R : VK, (∀ a H1, Ex H H1 → SqL K H1 a xs → R (.ref a) H1) → tl σ H R) (hxy : ys.length = xs.length) (hz : ys.length ≤ 100000) (hw : ∀ x, wipe ((wipe σ vs).set j (some x)) vs = wipe σ vs)
    (he : ∀ (i : Nat) (x y : V) (H1 : Hp), xs[i]? = some x → ys[i]? = some y → Ex H H1 → ∀ Q' : VK, (∀ H2, Ex H1 H2 → Q' y H2) → te ((wipe σ vs).set j (some x)) H1 Q')
    (q : ∀ D H1, H D = none → Ex H H1 → H1 D = some (.lst ys) → Q (.ref D) H1) : tLc (iList K tl) (gName j) tYes te vs σ H Q := by
  refine hl _ fun a H1 e1 ht => ⟨a, rfl, ⟨xs, ht⟩, fun D hD => ?_⟩
  refine lc_list (K := K) (a := a) (xs := xs) (fun i H' => Ex H1 H' ∧ H' D = some (.lst (ys.take i))) ⟨Ex.new hD, by rw [upd_same]; rfl⟩ (fun i H' _ p => ex_l p.1 ht) (fun i x H' hx p => ⟨hw x, ?_⟩) (fun H' p => q D H' ?_ (e1.trans p.1) ?_)
  · have hi : i < ys.length := by rw [hxy]; exact (List.getElem?_eq_some_iff.mp hx).1
    exact cm_turn (List.getElem?_eq_getElem hi) hz hD p fun Q' k => he i x _ H' hx (List.getElem?_eq_getElem hi) (e1.trans p.1) Q' k
  · exact fresh_back e1 hD
  · rw [p.2, ← hxy, List.take_length]
/-- [e for i in range(n) if t] -/
theorem cm_rngF {ta : TA} {tt : TT} {n : Int} (f : Nat → Bool) (v : Nat → V) (hl : ∀ R : List V → Hp → Prop, (∀ H1, Ex H H1 → R [.int n] H1) → ta σ H R) (hn : n ≤ 50000) (hlo : -100000 ≤ n) (hw : ∀ x, wipe ((wipe σ vs).set j (some x)) vs = wipe σ vs)
    (ht : ∀ (i : Nat) H1, (i : Int) < n → Ex H H1 → ∀ Q' : Bool → Hp → Prop, (∀ H2, Ex H1 H2 → Q' (f i) H2) → tt ((wipe σ vs).set j (some (.int (i : Int)))) H1 Q')
    (he : ∀ (i : Nat) H1, (i : Int) < n → f i = true → Ex H H1 → ∀ Q' : VK, (∀ H2, Ex H1 H2 → Q' (v i) H2) → te ((wipe σ vs).set j (some (.int (i : Int)))) H1 Q')
    (q : ∀ D H1, H D = none → Ex H H1 → H1 D = some (.lst (given n.toNat f v)) → Q (.ref D) H1) : tLc (iRng1 ta) (gName j) tt te vs σ H Q := by
  refine hl _ fun H1 e1 => ⟨n, rfl, by omega, by omega, fun D hD => ?_⟩
  refine lc_range (lo := 0) (n := n.toNat) (fun i H' => Ex H1 H' ∧ H' D = some (.lst (given i f v))) ⟨Ex.new hD, by rw [upd_same]; rfl⟩ (fun i H' hi p => ?_) (fun H' p => q D H' ?_ (e1.trans p.1) p.2)
  · rw [show (0 : Int) + (i : Int) = (i : Int) by omega]
    refine ⟨hw _, ht i H' (by omega) (e1.trans p.1) _ fun H2 e2 => ?_⟩
    cases hf : f i with
    | false =>
      refine iteF ⟨p.1.trans e2, ?_⟩
      rw [given_no hf]
      exact e2 _ _ p.2
    | true =>
      refine iteT (he i H2 (by omega) hf ((e1.trans p.1).trans e2) _ fun H3 e3 => ⟨given i f v, e3 _ _ (e2 _ _ p.2), ?_, Ex.mut ((p.1.trans e2).trans e3) hD, ?_⟩)
      · have := given_len i f v
        exact sz_lt (by omega)
      · rw [upd_same, given_yes hf]
  · exact fresh_back e1 hD
/-- [e for i in range(n)], the turns change the heap: S is what stands between them, P what is said of an item -/
theorem cm_rngS {ta : TA} {n : Int} (S : Nat → Hp → Prop) (Pr : V → Prop) (hn : n ≤ 50000) (hlo : -100000 ≤ n) (hw : ∀ x, wipe ((wipe σ vs).set j (some x)) vs = wipe σ vs)
    (hl : ∀ R : List V → Hp → Prop, (∀ H1, S 0 H1 → R [.int n] H1) → ta σ H R)
    (hnew : ∀ i H1 D o, S i H1 → H1 D = none → S i (upd H1 D o))
    (he : ∀ (i : Nat) H1 D acc, (i : Int) < n → S i H1 → H1 D = some (.lst acc) → (∀ o, S i (upd H1 D o)) →
      ∀ Q' : VK, (∀ y H2, Pr y → H2 D = some (.lst acc) → (∀ o, S (i + 1) (upd H2 D o)) → Q' y H2) → te ((wipe σ vs).set j (some (.int (i : Int)))) H1 Q')
    (q : ∀ D H1 ys, ys.length = n.toNat → (∀ y ∈ ys, Pr y) → S n.toNat H1 → (∀ o, S n.toNat (upd H1 D o)) → H1 D = some (.lst ys) → Q (.ref D) H1) : tLc (iRng1 ta) (gName j) tYes te vs σ H Q := by
  refine hl _ fun H1 s1 => ⟨n, rfl, by omega, by omega, fun D hD => ?_⟩
  refine lc_range (lo := 0) (n := n.toNat) (fun i H' => ∃ ys : List V, ys.length = i ∧ (∀ y ∈ ys, Pr y) ∧ S i H' ∧ (∀ o, S i (upd H' D o)) ∧ H' D = some (.lst ys)) ⟨[], rfl, (fun _ h => by cases h), hnew 0 H1 D _ s1 hD, fun o => by rw [upd_upd]; exact hnew 0 H1 D o s1 hD, upd_same⟩ (fun i H' hi p => ?_) (fun H' p => ?_)
  · obtain ⟨ys, h1, h2, h3, h4, h5⟩ := p
    rw [show (0 : Int) + (i : Int) = (i : Int) by omega]
    refine ⟨hw _, ?_⟩
    refine he i H' D ys (by omega) h3 h5 h4 _ fun y H2 z1 z2 z3 => ?_
    refine ⟨ys, z2, sz_lt (by omega), ys ++ [y], by rw [List.length_append, h1]; rfl, fun x hx => ?_, z3 _, fun o => by rw [upd_upd]; exact z3 o, upd_same⟩
    rcases List.mem_append.mp hx with hx | hx
    · exact h2 x hx
    · rw [List.mem_singleton.mp hx]
      exact z1
  · obtain ⟨ys, h1, h2, h3, h4, h5⟩ := p
    exact q D H' ys h1 h2 h3 h4 h5
end
end L2
namespace L2
open PySem PySem.Spec PyProof.Rows Evl
section
variable {K : PySem.W.Frag} {σ : L2.St} {H : Hp} {te tl : TE} {t : TA} {Q : VK} {a : Addr} {xs ys : List V}
theorem st_lst (h : t σ H fun xs H1 => xs.length ≤ 100000 ∧ ∀ p H2, H1 p = none → Ex H1 H2 → H2 p = some (.lst xs) → Q (.ref p) H2) (mono : ∀ A B : List V → Hp → Prop, (∀ xs H, A xs H → B xs H) → t σ H A → t σ H B) : tLst t σ H Q :=
  mono _ _ (fun xs H1 z => ⟨sz_of z.1, alloc z.2⟩) h
theorem st_nil (h : ∀ p H2, H p = none → Ex H H2 → H2 p = some (.lst []) → Q (.ref p) H2) : tLst tNil σ H Q := ⟨Nat.zero_le _, alloc h⟩
/-- tuple(xs), xs a list | a tuple -/
theorem r_tuL {R : VK} (ha : SqL K H a xs) (q : ∀ p H1, H p = none → Ex H H1 → SqT K H1 p xs → R (.ref p) H1) :
    ∃ p ys, [V.ref a] = [.ref p] ∧ ((SqL K H p ys ∧ ∀ l, H l = none → R (.ref l) (upd H l (.tup ys))) ∨ (SqT K H p ys ∧ R (.ref p) H)) :=
  ⟨a, xs, rfl, .inl ⟨ha, alloc fun p H1 hp e h => q p H1 hp e (t_of h)⟩⟩
/-- list(xs) -/
theorem r_liL {R : VK} (ha : SqL K H a xs ∨ SqT K H a xs) (q : ∀ p H1, H p = none → Ex H H1 → H1 p = some (.lst xs) → R (.ref p) H1) :
    ∃ p ys, [V.ref a] = [.ref p] ∧ (SqL K H p ys ∨ SqT K H p ys) ∧ ∀ l, H l = none → R (.ref l) (upd H l (.lst ys)) := ⟨a, xs, rfl, ha, alloc q⟩
/-- xs[::-1] -/
theorem st_revL {te : TE} {a : Addr} {xs : List V} (he : ∀ R : VK, R (.ref a) H → te σ H R) (ha : SqL K H a xs) (q : ∀ p H1, H p = none → Ex H H1 → H1 p = some (.lst xs.reverse) → Q (.ref p) H1) : tRevU K te σ H Q := he _ (.inl ⟨a, xs, rfl, ha, alloc q⟩)
theorem st_revT {te : TE} {a : Addr} {xs : List V} (he : ∀ R : VK, R (.ref a) H → te σ H R) (ha : SqT K H a xs) (q : ∀ p H1, H p = none → Ex H H1 → H1 p = some (.tup xs.reverse) → Q (.ref p) H1) : tRevU K te σ H Q := he _ (.inr ⟨a, xs, rfl, ha, alloc q⟩)
theorem he_var {i : Nat} (h : σ[i]? = some (some (.ref a))) : ∀ R : VK, R (.ref a) H → tVar i σ H R := fun _ r => ⟨_, h, r⟩
end
end L2
namespace L2
open PySem PySem.Spec PyProof.Rows Evl
section
variable {K : PySem.W.Frag} {σ : L2.St} {H : Hp} {te tl ta tb : TE} {t tr : TA} {Q : VK} {D : Ends} {tu tw : TS} {g : TG} {tc : TT}
theorem st_seq (h : tu { D with nx := tw D } σ H) : tSeq tu tw D σ H := h
theorem st_asg (h : te σ H fun x H1 => g x σ H1 D.nx) : tAsg te g D σ H := h
theorem st_set {i : Nat} (h : te σ H fun x H1 => D.nx (σ.set i (some x)) H1) : tAsg te (gName i) D σ H := h
theorem st_ret (h : te σ H D.rt) : tRet te D σ H := h
theorem st_drop (h : te σ H fun _ H1 => D.nx σ H1) : tDrop te D σ H := h
theorem st_if (h : tc σ H fun b H1 => if b = true then tu D σ H1 else tw D σ H1) : tIfS tc tu tw D σ H := h
theorem st_cb {r : List V → Hp → VK → Prop} (h : t σ H fun vs H1 => r vs H1 Q) : tCB r t σ H Q := h
theorem st_cons {R : List V → Hp → Prop} (h : ta σ H fun x H1 => tr σ H1 fun xs H2 => R (x :: xs) H2) : tCons ta tr σ H R := h
theorem st_op {r : R2} (h : ta σ H fun x H1 => tb σ H1 fun y H2 => r x y H2 Q) : tOp r ta tb σ H Q := h
theorem st_un {r : V → Hp → VK → Prop} (h : ta σ H fun x H1 => r x H1 Q) : tUn r ta σ H Q := h
theorem st_test {R : Bool → Hp → Prop} (h : te σ H fun x H1 => ∃ k, x = .bl k ∧ R k H1) : tTest te σ H R := h
theorem st_call {sp : Sp} {dvs : List V} {E : XK} (h : t σ H fun vs H1 => sp (vs ++ dvs) H1 Q E) : tCall sp dvs E t σ H Q := h
theorem st_sl {r : V → Option Int → Option Int → Hp → VK → Prop} {lo hi : TO} (h : te σ H fun x H1 => lo σ H1 fun l H2 => hi σ H2 fun u H3 => r x l u H3 Q) : tSl r te lo hi σ H Q := h
theorem st_tup (h : t σ H fun xs H1 => xs.length ≤ sizeLine ∧ ∀ p, H1 p = none → Q (.ref p) (upd H1 p (.tup xs))) : tTup t σ H Q := h
theorem st_par {i j : Nat} (h : t σ H fun vs H1 => ∃ v w, vs = [v, w] ∧ D.nx ((σ.set i (some v)).set j (some w)) H1) : tPar i j t D σ H := h
end
end L2
namespace L2
open PySem PySem.Spec PyProof.Rows Evl
section
variable {K : PySem.W.Frag} {H : Hp} {Q : VK} {a : Addr} {xs : List V} {i j : Int} {v : V}
theorem r_ixL (h : SqL K H a xs) (e : atI xs i = some v) (q : Q v H) : rIx K (.ref a) (.int i) H Q := .inl ⟨a, xs, i, v, rfl, rfl, h, e, q⟩
theorem r_ixT (h : SqT K H a xs) (e : atI xs i = some v) (q : Q v H) : rIx K (.ref a) (.int i) H Q := .inr (.inl ⟨a, xs, i, v, rfl, rfl, h, e, q⟩)
theorem r_I {C : Int → Int → Prop} {g : Int → Int → V} (h : C i j) (q : Q (g i j) H) : rI C g (.int i) (.int j) H Q := ⟨i, j, rfl, rfl, h, q⟩
theorem r_0 {g : Int → Int → V} (q : Q (g i j) H) : rI0 g (.int i) (.int j) H Q := ⟨i, j, rfl, rfl, q⟩
theorem r_test {b : Bool} {R : Bool → Hp → Prop} (q : R b H) : ∃ k, V.bl b = .bl k ∧ R k H := ⟨b, rfl, q⟩
theorem r_set {R : Hp → Prop} {k : Nat} (h : H a = some (.lst xs)) (e : ixN xs.length i = some k) (q : R (upd H a (.lst (xs.set k v)))) : rSetL (.ref a) (.int i) v H R := ⟨a, xs, i, k, rfl, rfl, h, e, q⟩
end
/-- if by what is known of the answer -/
theorem if_t {c : Prop} [Decidable c] {A B : Prop} (hc : c) (h : A) : if decide c = true then A else B := by
  rw [decide_eq_true hc]
  exact h
theorem if_f {c : Prop} [Decidable c] {A B : Prop} (hc : ¬ c) (h : B) : if decide c = true then A else B := by
  rw [decide_eq_false hc]
  exact h
theorem if_2 {c : Prop} [Decidable c] {A B : Prop} (h1 : c → A) (h2 : ¬ c → B) : if decide c = true then A else B := by
  by_cases hc : c
  · exact if_t hc (h1 hc)
  · exact if_f hc (h2 hc)
/-- the same for a test not .. -/
theorem ifn_2 {c : Prop} [Decidable c] {A B : Prop} (h1 : ¬ c → A) (h2 : c → B) : if (!decide c) = true then A else B := by
  by_cases hc : c
  · rw [decide_eq_true hc]
    exact h2 hc
  · rw [decide_eq_false hc]
    exact h1 hc
end L2
namespace L2
open PySem PySem.Spec PyProof.Rows Evl
theorem st_c {v : V} {σ : L2.St} {H : Hp} {Q : VK} (q : Q v H) : tC v σ H Q := q
theorem st_v {i : Nat} {v : V} {σ : L2.St} {H : Hp} {Q : VK} (h : σ[i]? = some (some v)) (q : Q v H) : tVar i σ H Q := ⟨v, h, q⟩
theorem st_n {σ : L2.St} {H : Hp} {R : List V → Hp → Prop} (q : R [] H) : tNil σ H R := q
end L2
namespace L2
open PySem PySem.Spec PyProof.Rows Evl
theorem r_setG {H : Hp} {a : Addr} {xs : List V} {i : Int} {v : V} {R : Hp → Prop} {k : Nat} (h : H a = some (.lst xs)) (e : ixN xs.length i = some k) (q : ∀ H1, ExW a H H1 → H1 a = some (.lst (xs.set k v)) → R H1) : rSetL (.ref a) (.int i) v H R :=
  ⟨a, xs, i, k, rfl, rfl, h, e, q _ ExW.upd upd_same⟩
end L2
/-! the rules that lean on the written part, with that part named: so they fit within a comprehension's block, too -/
namespace L2
open PySem PySem.Spec PyProof.Rows Evl
section
variable {X : Cx} {K : PySem.W.Frag}
theorem op_addK (K : PySem.W.Frag) (h : X.K = K := by rfl) : OpR X (binaryOp .Add) (rAddU K) := h ▸ op_addU
theorem op_mulK (K : PySem.W.Frag) (h : X.K = K := by rfl) : OpR X (binaryOp .Mult) (rMulU K) := h ▸ op_mulU
theorem op_eqK (K : PySem.W.Frag) (hu : X.A.units + 64 < cLine) (h : X.K = K := by rfl) : OpR X (compareOp .Eq) (rEqU K) := h ▸ op_eqU hu
theorem op_neK (K : PySem.W.Frag) (hu : X.A.units + 64 < cLine) (h : X.K = K := by rfl) : OpR X (compareOp .NotEq) (rNeU K) := h ▸ op_neU hu
theorem op_inK (K : PySem.W.Frag) (h : X.K = K := by rfl) : OpR X (compareOp .In) (rIn K false) := h ▸ op_in_seq
theorem op_notInK (K : PySem.W.Frag) (h : X.K = K := by rfl) : OpR X (compareOp .NotIn) (rIn K true) := h ▸ op_notIn_seq
theorem ix_K (K : PySem.W.Frag) (h : X.K = K := by rfl) : IxR X (rIx K) := h ▸ ix_seq
theorem sl_K (K : PySem.W.Frag) (h : X.K = K := by rfl) : SlR X (rSlU K) := h ▸ sl_U
def rLenU (K : PySem.W.Frag) : List V → Hp → VK → Prop := fun xs H Q => ∃ p ys, xs = [.ref p] ∧ (SqL K H p ys ∨ SqT K H p ys) ∧ Q (.int ys.length) H
def rTupU (K : PySem.W.Frag) : List V → Hp → VK → Prop := fun xs H Q => ∃ p ys, xs = [.ref p] ∧ ((SqL K H p ys ∧ ∀ l, H l = none → Q (.ref l) (upd H l (.tup ys))) ∨ (SqT K H p ys ∧ Q (.ref p) H))
def rLstU (K : PySem.W.Frag) : List V → Hp → VK → Prop := fun xs H Q => ∃ p ys, xs = [.ref p] ∧ (SqL K H p ys ∨ SqT K H p ys) ∧ ∀ l, H l = none → Q (.ref l) (upd H l (.lst ys))
def rAbs : List V → Hp → VK → Prop := fun xs H Q => ∃ i, xs = [.int i] ∧ Q (.int (if i < 0 then -i else i)) H
def rMax2 : List V → Hp → VK → Prop := fun xs H Q => ∃ i j, xs = [.int i, .int j] ∧ Q (.int (if j > i then j else i)) H
def rMin2 : List V → Hp → VK → Prop := fun xs H Q => ∃ i j, xs = [.int i, .int j] ∧ Q (.int (if j < i then j else i)) H
def rInt1 : List V → Hp → VK → Prop := fun xs H Q => (∃ i, xs = [.int i] ∧ Q (.int i) H) ∨ ∃ k, xs = [.bl k] ∧ Q (.int (if k then 1 else 0)) H
theorem len_K (K : PySem.W.Frag) (h : X.K = K := by rfl) : CallR X (.builtin "len") (rLenU K) := h ▸ call_len_seq
theorem tuple_K (K : PySem.W.Frag) (h : X.K = K := by rfl) : CallR X (.type "tuple") (rTupU K) := h ▸ call_tuple_of
theorem list_K (K : PySem.W.Frag) (h : X.K = K := by rfl) : CallR X (.type "list") (rLstU K) := h ▸ call_list_of
theorem abs_K : CallR X (.builtin "abs") rAbs := call_abs
theorem max2_K (hc : X.calm = true) : CallR X (.builtin "max") rMax2 := call_max2 hc
theorem min2_K (hc : X.calm = true) : CallR X (.builtin "min") rMin2 := call_min2 hc
theorem int_K : CallR X (.type "int") rInt1 := call_int1
theorem all_K (K : PySem.W.Frag) (hc : X.calm = true) (h : X.K = K := by rfl) : CallR X (.builtin "all") (rAll K) := h ▸ cr_all hc
theorem any_K (K : PySem.W.Frag) (hc : X.calm = true) (h : X.K = K := by rfl) : CallR X (.builtin "any") (rAny K) := h ▸ cr_any hc
theorem sum_K (K : PySem.W.Frag) (hc : X.calm = true) (h : X.K = K := by rfl) : CallR X (.builtin "sum") (rSum K) := h ▸ cr_sum hc
theorem maxl_K (K : PySem.W.Frag) (hc : X.calm = true) (h : X.K = K := by rfl) : CallR X (.builtin "max") (rMax K) := h ▸ cr_max hc
theorem minl_K (K : PySem.W.Frag) (hc : X.calm = true) (h : X.K = K := by rfl) : CallR X (.builtin "min") (rMin K) := h ▸ cr_min hc
theorem isi_K (K : PySem.W.Frag) (h : X.K = K := by rfl) : CallR X (.builtin "isinstance") (rIsi K) := h ▸ call_isi
theorem pe_revK (K : PySem.W.Frag) {e : Expr} {te : TE} {k : Nat} {p1 p2 p3 pos : Pos} (he : PE X e te) (h : X.K = K := by rfl) : PE X (.Subscript e (.Slice none none (some (.UnaryOp .USub (.Constant (.int 1) k p1) p2)) p3) pos) (tRevU K te) := h ▸ pe_revU he
theorem pi_listK (K : PySem.W.Frag) {tg l : Expr} {tl : TE} (hl : PE X l tl) (h : X.K = K := by rfl) : PI X tg l (iList K tl) := h ▸ pi_list hl
theorem pi_tupK (K : PySem.W.Frag) {tg l : Expr} {tl : TE} (hl : PE X l tl) (h : X.K = K := by rfl) : PI X tg l (iTup K tl) := h ▸ pi_tup hl
def tTruU (K : PySem.W.Frag) (ta : TE) : TT := fun σ H Q => ta σ H fun x H' => ∃ k, TruV K x H' k ∧ Q k H'
theorem pt_truK (K : PySem.W.Frag) {a : Expr} {ta : TE} (ha : PE X a ta) (he : ∀ whole, isTrue a X.env whole = (do let v ← whole; standAt a.pos; holding [v] (truthy v)) := by intro _; rfl) (h : X.K = K := by rfl) : PT X a (tTruU K ta) := h ▸ pt_truth ha he
theorem pg_tupK (K : PySem.W.Frag) {es : List Expr} {k : Nat} {t : TGs} {n : Nat} {pos : Pos} (hc : X.calm = true) (h : PGs X es t) (hn : (assignEach es X.env).length = n := by rfl) (hst : (assignEach es X.env).findIdx? (·.1) = none := by rfl) (hK : X.K = K := by rfl) : PG X (.Tuple es k pos) (gTup K n t) := hK ▸ pg_tup hc h hn hst
theorem pe_bmU (K : PySem.W.Frag) {T : String} {name : Str} {id : String} {r : V → List V → Hp → VK → Prop} {o e : Expr} {es : List Expr} {to : TE} {t : TA} {apos cpos : Pos}
    (pa : PlainAttrs T) (slot : Slot T name id) (hty : typeOf (.builtin id) = pure (.type "method_descriptor")) (hm : MtR X id r) (ho : PE X o to) (ha : PA X (e :: es) t)
    (hbase : attributeBase o name X.env (eval o X.env) = eval o X.env := by rfl)
    (hfew : ((backTo cpos (starEach (e :: es) X.env)).all (fun x => !x.1) && (backToKw cpos (keywordEach [] X.env)).all (fun x => x.1.isSome) && decide ((e :: es).length + ([] : List Keyword).length + (if ([] : List Keyword).isEmpty then 0 else 1) < 30)) = true := by rfl)
    (hline : (apos.endLine == cpos.line) = true := by rfl) (hs : starEach (e :: es) X.env = (false, eval e X.env) :: starEach es X.env := by rfl) (hplain : (backTo cpos (starEach es X.env)).any (·.1) = false := by rfl) (h : X.K = K := by rfl) :
    PE X (.Call (.Attribute o name apos) (e :: es) [] cpos) (tBM K T r to t) := h ▸ pe_bm pa slot hty hm ho ha hbase hfew hline hs hplain
theorem pe_bm0U (K : PySem.W.Frag) {T : String} {name : Str} {id : String} {r : V → List V → Hp → VK → Prop} {o : Expr} {to : TE} {apos cpos : Pos}
    (pa : PlainAttrs T) (slot : Slot T name id) (hty : typeOf (.builtin id) = pure (.type "method_descriptor")) (hm : MtR X id r) (ho : PE X o to)
    (hbase : attributeBase o name X.env (eval o X.env) = eval o X.env := by rfl) (hline : (apos.endLine == cpos.line) = true := by rfl) (h : X.K = K := by rfl) : PE X (.Call (.Attribute o name apos) [] [] cpos) (tBM0 K T r to) := h ▸ pe_bm0 pa slot hty hm ho hbase hline
end
section
variable {K : PySem.W.Frag} {σ : L2.St} {H : Hp} {Q : VK} {a : Addr} {xs : List V}
theorem r_lenL (h : SqL K H a xs) (q : Q (.int (xs.length : Int)) H) : rLenU K [.ref a] H Q := ⟨a, xs, rfl, .inl h, q⟩
theorem r_lenT (h : SqT K H a xs) (q : Q (.int (xs.length : Int)) H) : rLenU K [.ref a] H Q := ⟨a, xs, rfl, .inr h, q⟩
theorem r_tupL (ha : SqL K H a xs) (q : ∀ p H1, H p = none → Ex H H1 → SqT K H1 p xs → Q (.ref p) H1) : rTupU K [.ref a] H Q := r_tuL ha q
theorem r_tupT (ha : SqT K H a xs) (q : Q (.ref a) H) : rTupU K [.ref a] H Q := ⟨a, xs, rfl, .inr ⟨ha, q⟩⟩
theorem r_lstL (ha : SqL K H a xs) (q : ∀ p H1, H p = none → Ex H H1 → H1 p = some (.lst xs) → Q (.ref p) H1) : rLstU K [.ref a] H Q := r_liL (.inl ha) q
theorem r_lstT (ha : SqT K H a xs) (q : ∀ p H1, H p = none → Ex H H1 → H1 p = some (.lst xs) → Q (.ref p) H1) : rLstU K [.ref a] H Q := r_liL (.inr ha) q
theorem r_abs {i : Int} (q : Q (.int ((i.natAbs : Nat) : Int)) H) : rAbs [.int i] H Q := ⟨i, rfl, by
  have e : (if i < 0 then -i else i) = ((i.natAbs : Nat) : Int) := by split <;> omega
  rw [e]
  exact q⟩
theorem r_max2 {i j : Int} (q : Q (.int (max i j)) H) : rMax2 [.int i, .int j] H Q := ⟨i, j, rfl, by
  have e : (if j > i then j else i) = max i j := by split <;> omega
  rw [e]
  exact q⟩
theorem r_min2 {i j : Int} (q : Q (.int (min i j)) H) : rMin2 [.int i, .int j] H Q := ⟨i, j, rfl, by
  have e : (if j < i then j else i) = min i j := by split <;> omega
  rw [e]
  exact q⟩
theorem r_intI {i : Int} (q : Q (.int i) H) : rInt1 [.int i] H Q := .inl ⟨i, rfl, q⟩
theorem r_intB {b : Bool} (q : Q (.int (if b then 1 else 0)) H) : rInt1 [.bl b] H Q := .inr ⟨b, rfl, q⟩
theorem r_sum {ns : List Int} (h : IL K H a ns) (q : Q (.int ns.sum) H) : rSum K [.ref a] H Q := ⟨a, ns, rfl, h, q⟩
theorem r_all {bs : List Bool} (h : SqL K H a (bs.map V.bl)) (q : Q (.bl (bs.all id)) H) : rAll K [.ref a] H Q := ⟨a, bs, rfl, h, q⟩
theorem r_isiI {i : Int} {n : String} {b : Bool} (hb : PySem.W.kitOne K (.type "int") (.type n) = some b) (q : Q (.bl b) H) : rIsi K [.int i, .ty n] H Q := ⟨_, _, _, _, b, rfl, .ty _, .base (.int i), hb, q⟩
theorem r_isiT {n : String} {b : Bool} (h : SqT K H a xs) (hb : PySem.W.kitOne K (.type "tuple") (.type n) = some b) (q : Q (.bl b) H) : rIsi K [.ref a, .ty n] H Q := ⟨_, _, _, _, b, rfl, .ty _, ty_t h, hb, q⟩
end
end L2
namespace L2
open PySem PySem.Spec PyProof.Rows Evl
section
variable {K : PySem.W.Frag} {σ : L2.St} {H : Hp} {Q : VK} {i j : Int} {D : Ends} {tc tc2 : TT}
theorem st_bl {b : Bool} {R : Bool → Prop} (q : R b) : ∃ k, V.bl b = V.bl k ∧ R k := ⟨b, rfl, q⟩
theorem st_in {R : Int → Prop} (q : R i) : ∃ k, V.int i = V.int k ∧ R k := ⟨i, rfl, q⟩
theorem r_neg {g : Int → V} (q : Q (g i) H) : rU g (.int i) H Q := ⟨i, rfl, q⟩
theorem r_mod (h : 0 < j) {g : Int → Int → V} (q : Q (g i j) H) : rI (fun _ j => 0 < j) g (.int i) (.int j) H Q := ⟨i, j, rfl, rfl, h, q⟩
theorem r_div {b : Nat} (h : 0 < j) (hb : j.natAbs < 2 ^ b) (h0 : 0 < b) (h9 : b ≤ 9000) {g : Int → Int → V} (q : Q (g i j) H) : rI CDivW g (.int i) (.int j) H Q := ⟨i, j, rfl, rfl, wide_div h hb h0 h9, q⟩
theorem r_pow {a k : Nat} (h0 : 0 < a) (ha : i.natAbs < 2 ^ a) (h : a * k ≤ 134217728) {g : Int → Int → V} (q : Q (g i (k : Int)) H) : rI CPowW g (.int i) (.int (k : Int)) H Q := ⟨i, _, rfl, rfl, wide_pow h0 ha h, q⟩
theorem st_tru {K : PySem.W.Frag} {ta : TE} {R : Bool → Hp → Prop} (h : ta σ H fun x H' => ∃ k, TruV K x H' k ∧ R k H') : tTruU K ta σ H R := h
theorem r_truB {b : Bool} {R : Bool → Prop} (q : R b) : ∃ k, TruV K (.bl b) H k ∧ R k := ⟨b, rfl, q⟩
theorem r_truL {a : Addr} {xs : List V} {R : Bool → Prop} (h : SqL K H a xs) (q : R (!xs.isEmpty)) : ∃ k, TruV K (.ref a) H k ∧ R k := ⟨_, .inl ⟨xs, h, rfl⟩, q⟩
theorem r_truT {a : Addr} {xs : List V} {R : Bool → Prop} (h : SqT K H a xs) (q : R (!xs.isEmpty)) : ∃ k, TruV K (.ref a) H k ∧ R k := ⟨_, .inr (.inl ⟨xs, h, rfl⟩), q⟩
theorem st_and {R : Bool → Hp → Prop} (h : tc σ H fun c H1 => if c = true then tc2 σ H1 R else R false H1) : tAnd tc tc2 σ H R := h
theorem st_or {R : Bool → Hp → Prop} (h : tc σ H fun c H1 => if c = true then R true H1 else tc2 σ H1 R) : tOr tc tc2 σ H R := h
theorem st_not {R : Bool → Hp → Prop} (h : tc σ H fun c H1 => R (!c) H1) : tNot tc σ H R := h
theorem st_B {te : TE} {R : Bool → Hp → Prop} (h : te σ H fun x H1 => ∃ c, x = .bl c ∧ R c H1) : tB te σ H R := h
theorem st_andV {ta tb : TE} (h : ta σ H fun x H1 => ∃ c, x = .bl c ∧ if c = true then tb σ H1 Q else Q (.bl false) H1) : tAndV ta tb σ H Q := h
theorem st_orV {ta tb : TE} (h : ta σ H fun x H1 => ∃ c, x = .bl c ∧ if c = true then Q (.bl true) H1 else tb σ H1 Q) : tOrV ta tb σ H Q := h
theorem st_notV {ta : TE} (h : ta σ H fun x H1 => ∃ c, x = .bl c ∧ Q (.bl (!c)) H1) : tNotV ta σ H Q := h
theorem st_ifE {ta tb : TE} (h : tc σ H fun c H1 => if c = true then ta σ H1 Q else tb σ H1 Q) : tIf tc ta tb σ H Q := h
theorem st_part {te : TE} {R : Option Int → Hp → Prop} (h : te σ H fun x H1 => ∃ i, x = .int i ∧ R (some i) H1) : tPart te σ H R := h
theorem st_nop {R : Option Int → Hp → Prop} (h : R none H) : tNoPart σ H R := h
theorem st_sub {to ti : TE} {t : TSet} {v : V} {R : St → Hp → Prop} (h : to σ H fun o H1 => ti σ H1 fun i H2 => t o i v H2 fun H3 => R σ H3) : gSub to ti t v σ H R := h
theorem st_callK {sp : Sp} {gV : List V → List V → List V} {E : XK} {t tk : TA} (h : t σ H fun vs H1 => tk σ H1 fun zs H2 => sp (gV vs zs) H2 Q E) : tCallK sp gV E t tk σ H Q := h
theorem if_T {A B : Prop} (h : A) : if true = true then A else B := h
theorem if_F {A B : Prop} (h : B) : if false = true then A else B := h
theorem if_nT {A B : Prop} (h : B) : if (!true) = true then A else B := h
theorem if_nF {A B : Prop} (h : A) : if (!false) = true then A else B := h
theorem st_nameG {i : Nat} {v : V} {R : St → Hp → Prop} (h : R (σ.set i (some v)) H) : gName i v σ H R := h
theorem st_chain {ta tb tc : TE} {r r' : R2} (h : ta σ H fun x H1 => tb σ H1 fun y H2 => r x y H2 fun z H3 => ∃ k, z = .bl k ∧ (if k = true then tc σ H3 fun w' H4 => r' y w' H4 Q else Q (.bl false) H3)) : tChain r r' ta tb tc σ H Q := h
end
end L2
namespace L2
section
variable {σ : L2.St} {H : Hp} {D : Ends}
theorem st_nxt (h : D.nx σ H) : tNext D σ H := h
theorem st_cnt (h : D.ct σ H) : tCont D σ H := h
theorem st_brk (h : D.bk σ H) : tBreak D σ H := h
theorem st_retn (h : D.rt .non H) : tRetN D σ H := h
end
end L2
namespace L2
open PySem PySem.Spec PyProof.Rows Evl
section
variable {σ : L2.St} {H : Hp} {t : TA} {Q : VK} {xs : List V}
def rNewL (xs : List V) (H : Hp) (Q : VK) : Prop := xs.length ≤ sizeLine ∧ ∀ p, H p = none → Q (.ref p) (upd H p (.lst xs))
def rNewT (xs : List V) (H : Hp) (Q : VK) : Prop := xs.length ≤ sizeLine ∧ ∀ p, H p = none → Q (.ref p) (upd H p (.tup xs))
theorem st_lstN (h : t σ H fun xs H1 => rNewL xs H1 Q) : tLst t σ H Q := h
theorem st_tupN (h : t σ H fun xs H1 => rNewT xs H1 Q) : tTup t σ H Q := h
theorem r_newL (hz : xs.length ≤ 100000) (q : ∀ p H1, H p = none → Ex H H1 → H1 p = some (.lst xs) → Q (.ref p) H1) : rNewL xs H Q := ⟨sz_of hz, alloc q⟩
theorem r_newT (hz : xs.length ≤ 100000) (q : ∀ p H1, H p = none → Ex H H1 → H1 p = some (.tup xs) → Q (.ref p) H1) : rNewT xs H Q := ⟨sz_of hz, alloc q⟩
end
end L2
namespace L2
open PySem PySem.Spec PyProof.Rows Evl
section
variable {σ : L2.St} {H : Hp} {D : Ends} {c : TT} {tb : TS}
theorem st_while (W : Nat → L2.St → Hp → Prop) (m0 : Nat) (h0 : W m0 σ H)
    (hs : ∀ m σ' H', W m σ' H' → c σ' H' fun b H1 => if b = true then ∃ N : L2.St → Hp → Prop, (∀ σ2 H2, N σ2 H2 → ∃ m', m' < m ∧ W m' σ2 H2) ∧ tb { D with nx := N, ct := N, bk := D.nx } σ' H1 else D.nx σ' H1) : tWhile c tb D σ H :=
  ⟨W, ⟨m0, h0⟩, hs⟩
theorem wh_in {W : Nat → L2.St → Hp → Prop} {m : Nat} (h : tb { D with nx := fun σ2 H2 => ∃ m', m' < m ∧ W m' σ2 H2, ct := fun σ2 H2 => ∃ m', m' < m ∧ W m' σ2 H2, bk := D.nx } σ H) :
    ∃ N : L2.St → Hp → Prop, (∀ σ2 H2, N σ2 H2 → ∃ m', m' < m ∧ W m' σ2 H2) ∧ tb { D with nx := N, ct := N, bk := D.nx } σ H := ⟨_, fun _ _ h => h, h⟩
end
end L2
/-! loops and comprehensions by what is walked -/
namespace L2
open PySem PySem.Spec PyProof.Rows Evl
def rFor (J : It) (g : TG) (tb : TS) (D : Ends) (σ : L2.St) (H1 : Hp) : Prop := ∃ W : Nat → Nat → L2.St → Hp → Prop, (∃ m, W 0 m σ H1) ∧ ∀ i m σ H, W i m σ H →
  (J.stop i H ∧ D.nx σ H) ∨ (J.go i H ∧ ∃ N : L2.St → Hp → Prop, (∀ σ' H', N σ' H' → ∃ m', m' < m ∧ W (i + 1) m' σ' H') ∧ ∀ x H', J.yld i H x H' → g x σ H' fun σ2 H2 => tb { D with nx := N, ct := N, bk := D.nx } σ2 H2)
def rLc (J : It) (g : TG) (tt : TT) (te : TE) (vs : List Nat) (σ : L2.St) (Q : VK) (H1 : Hp) : Prop := ∀ D, H1 D = none → ∃ W : Nat → Nat → Hp → Prop, (∃ m, W 0 m (upd H1 D (.lst []))) ∧ ∀ i m H, W i m H →
  (J.stop i H ∧ Q (.ref D) H) ∨ (J.go i H ∧ ∃ Nx : Hp → Prop, (∀ H', Nx H' → ∃ m', m' < m ∧ W (i + 1) m' H') ∧ ∀ x H', J.yld i H x H' → g x (wipe σ vs) H' fun σ2 H2 => wipe σ2 vs = wipe σ vs ∧ tt σ2 H2 fun b H3 =>
    if b = true then te σ2 H3 fun y H4 => ∃ acc, H4 D = some (.lst acc) ∧ acc.length < sizeLine ∧ Nx (upd H4 D (.lst (acc ++ [y]))) else Nx H3)
def rRng1 (vs : List V) (R : It → Hp → Prop) (H1 : Hp) : Prop := ∃ j : Int, vs = [.int j] ∧ -(2 ^ 62) ≤ j ∧ j < 2 ^ 62 ∧ R (Itr 0 j.toNat) H1
def rRng2 (vs : List V) (R : It → Hp → Prop) (H1 : Hp) : Prop := ∃ i j : Int, vs = [.int i, .int j] ∧ (-(2 ^ 62) ≤ i ∧ i < 2 ^ 62 ∧ -(2 ^ 62) ≤ j ∧ j < 2 ^ 62) ∧ R (Itr i (j - i).toNat) H1
def rItL (K : PySem.W.Frag) (x : V) (R : It → Hp → Prop) (H1 : Hp) : Prop := ∃ a, x = .ref a ∧ (∃ xs, SqL K H1 a xs) ∧ R (Itl K a) H1
def rItT (K : PySem.W.Frag) (x : V) (R : It → Hp → Prop) (H1 : Hp) : Prop := ∃ a, x = .ref a ∧ (∃ xs, SqT K H1 a xs) ∧ R (Itt K a) H1
def rRev (K : PySem.W.Frag) (x : V) (H1 : Hp) (Q : VK) : Prop := (∃ a xs, x = .ref a ∧ SqL K H1 a xs ∧ ∀ p, H1 p = none → Q (.ref p) (upd H1 p (.lst xs.reverse))) ∨ (∃ a xs, x = .ref a ∧ SqT K H1 a xs ∧ ∀ p, H1 p = none → Q (.ref p) (upd H1 p (.tup xs.reverse)))
def rApp (K : PySem.W.Frag) (T : String) (r : V → List V → Hp → VK → Prop) (t : TA) (σ : L2.St) (x : V) (H1 : Hp) (Q : VK) : Prop := tyV K T x H1 ∧ t σ H1 fun xs H2 => r x xs H2 Q
def rApp0 (K : PySem.W.Frag) (T : String) (r : V → List V → Hp → VK → Prop) (x : V) (H1 : Hp) (Q : VK) : Prop := tyV K T x H1 ∧ r x [] H1 Q
section
variable {K : PySem.W.Frag} {σ : L2.St} {H : Hp} {Q : VK} {D : Ends} {g : TG} {tb : TS} {wi : TI} {ta : TA} {te tl : TE} {tt : TT} {vs : List Nat} {R : It → Hp → Prop} {a : Addr} {xs ys : List V} {j : Nat} {n lo : Int}
theorem st_for (h : wi σ H fun J H1 => rFor J g tb D σ H1) : tFor wi g tb D σ H := h
theorem st_lc (h : wi σ H fun J H1 => rLc J g tt te vs σ Q H1) : tLc wi g tt te vs σ H Q := h
theorem st_rng1 (h : ta σ H fun us H1 => rRng1 us R H1) : iRng1 ta σ H R := h
theorem st_rng2 (h : ta σ H fun us H1 => rRng2 us R H1) : iRng2 ta σ H R := h
theorem st_itL (h : tl σ H fun x H1 => rItL K x R H1) : iList K tl σ H R := h
theorem st_itT (h : tl σ H fun x H1 => rItT K x R H1) : iTup K tl σ H R := h
theorem st_rev (h : te σ H fun x H1 => rRev K x H1 Q) : tRevU K te σ H Q := h
theorem st_bm {T : String} {r : V → List V → Hp → VK → Prop} {t : TA} (h : te σ H fun x H1 => rApp K T r t σ x H1 Q) : tBM K T r te t σ H Q := h
theorem st_bm0 {T : String} {r : V → List V → Hp → VK → Prop} (h : te σ H fun x H1 => rApp0 K T r x H1 Q) : tBM0 K T r te σ H Q := h
theorem r_rng1 (h1 : n < 2 ^ 62) (h0 : -(2 ^ 62) ≤ n) (q : R (Itr 0 n.toNat) H) : rRng1 [.int n] R H := ⟨n, rfl, h0, h1, q⟩
theorem r_rng2 (h : -(2 ^ 62) ≤ lo ∧ lo < 2 ^ 62 ∧ -(2 ^ 62) ≤ n ∧ n < 2 ^ 62) (q : R (Itr lo (n - lo).toNat) H) : rRng2 [.int lo, .int n] R H := ⟨lo, n, rfl, h, q⟩
theorem r_itL (h : SqL K H a xs) (q : R (Itl K a) H) : rItL K (.ref a) R H := ⟨a, rfl, ⟨xs, h⟩, q⟩
theorem r_itT (h : SqT K H a xs) (q : R (Itt K a) H) : rItT K (.ref a) R H := ⟨a, rfl, ⟨xs, h⟩, q⟩
theorem r_revL (h : SqL K H a xs) (q : ∀ p H1, H p = none → Ex H H1 → H1 p = some (.lst xs.reverse) → Q (.ref p) H1) : rRev K (.ref a) H Q := .inl ⟨a, xs, rfl, h, alloc q⟩
theorem r_revT (h : SqT K H a xs) (q : ∀ p H1, H p = none → Ex H H1 → H1 p = some (.tup xs.reverse) → Q (.ref p) H1) : rRev K (.ref a) H Q := .inr ⟨a, xs, rfl, h, alloc q⟩
/-- xs.append(v): the argument is read first -/
theorem r_app {t : TA} (h : SqL K H a xs) (q : t σ H fun us H2 => rAppend (.ref a) us H2 Q) : rApp K "list" rAppend t σ (.ref a) H Q := ⟨.inl ⟨rfl, xs, h⟩, q⟩
theorem r_appd {v : V} (h : H a = some (.lst xs)) (hz : xs.length < 100000) (q : ∀ H1, ExW a H H1 → H1 a = some (.lst (xs ++ [v])) → Q .non H1) : rAppend (.ref a) [v] H Q := ⟨a, xs, v, rfl, rfl, h, sz_lt hz, q _ ExW.upd upd_same⟩
theorem r_pop {v : V} (h : H a = some (.lst (xs ++ [v]))) (q : ∀ H1, ExW a H H1 → H1 a = some (.lst xs) → Q v H1) : rApp0 K "list" rPop (.ref a) H Q := by
  refine ⟨.inl ⟨rfl, _, l_of h⟩, a, _, v, rfl, rfl, h, by simp, ?_⟩
  refine q _ ExW.upd ?_
  rw [upd_same]
  simp
/-! ### for -/
theorem r_forR {m : Nat} (Pv : Nat → L2.St → Hp → Prop) (h0 : Pv 0 σ H) (hs : ∀ i σ' H', i < m → Pv i σ' H' → g (.int (lo + i)) σ' H' fun σ2 H2 => tb { D with nx := Pv (i + 1), ct := Pv (i + 1), bk := D.nx } σ2 H2)
    (hd : ∀ σ' H', Pv m σ' H' → D.nx σ' H') : rFor (Itr lo m) g tb D σ H := for_range (lo := lo) (n := m) Pv h0 hs hd
theorem r_forL (Pv : Nat → L2.St → Hp → Prop) (h0 : Pv 0 σ H) (hl : ∀ i σ' H', i ≤ xs.length → Pv i σ' H' → SqL K H' a xs)
    (hs : ∀ i x σ' H', xs[i]? = some x → Pv i σ' H' → g x σ' H' fun σ2 H2 => tb { D with nx := Pv (i + 1), ct := Pv (i + 1), bk := D.nx } σ2 H2) (hd : ∀ σ' H', Pv xs.length σ' H' → D.nx σ' H') : rFor (Itl K a) g tb D σ H := for_list Pv h0 hl hs hd
theorem r_forT (Pv : Nat → L2.St → Hp → Prop) (h0 : Pv 0 σ H) (hl : ∀ i σ' H', i ≤ xs.length → Pv i σ' H' → SqT K H' a xs)
    (hs : ∀ i x σ' H', xs[i]? = some x → Pv i σ' H' → g x σ' H' fun σ2 H2 => tb { D with nx := Pv (i + 1), ct := Pv (i + 1), bk := D.nx } σ2 H2) (hd : ∀ σ' H', Pv xs.length σ' H' → D.nx σ' H') : rFor (Itt K a) g tb D σ H := for_tup Pv h0 hl hs hd
/-! ### comprehensions whose turns change nothing -/
theorem r_cmT (ht : SqT K H a xs) (hxy : ys.length = xs.length) (hz : ys.length ≤ 100000) (hw : ∀ x, wipe ((wipe σ vs).set j (some x)) vs = wipe σ vs)
    (he : ∀ (i : Nat) (x y : V) (H1 : Hp), xs[i]? = some x → ys[i]? = some y → Ex H H1 → ∀ Q' : VK, (∀ H2, Ex H1 H2 → Q' y H2) → te ((wipe σ vs).set j (some x)) H1 Q')
    (q : ∀ p H1, H p = none → Ex H H1 → H1 p = some (.lst ys) → Q (.ref p) H1) : rLc (Itt K a) (gName j) tYes te vs σ Q H := fun D hD =>
  lc_tup (K := K) (a := a) (xs := xs) (fun i H' => Ex H H' ∧ H' D = some (.lst (ys.take i))) ⟨Ex.new hD, by rw [upd_same]; rfl⟩ (fun i H' _ p => ex_t p.1 ht) (fun i x H' hx p => ⟨hw x, by
    have hi : i < ys.length := by rw [hxy]; exact (List.getElem?_eq_some_iff.mp hx).1
    exact cm_turn (List.getElem?_eq_getElem hi) hz hD p fun Q' k => he i x _ H' hx (List.getElem?_eq_getElem hi) p.1 Q' k⟩) (fun H' p => q D H' hD p.1 (by rw [p.2, ← hxy, List.take_length]))
theorem r_cmL (ht : SqL K H a xs) (hxy : ys.length = xs.length) (hz : ys.length ≤ 100000) (hw : ∀ x, wipe ((wipe σ vs).set j (some x)) vs = wipe σ vs)
    (he : ∀ (i : Nat) (x y : V) (H1 : Hp), xs[i]? = some x → ys[i]? = some y → Ex H H1 → ∀ Q' : VK, (∀ H2, Ex H1 H2 → Q' y H2) → te ((wipe σ vs).set j (some x)) H1 Q')
    (q : ∀ p H1, H p = none → Ex H H1 → H1 p = some (.lst ys) → Q (.ref p) H1) : rLc (Itl K a) (gName j) tYes te vs σ Q H := fun D hD =>
  lc_list (K := K) (a := a) (xs := xs) (fun i H' => Ex H H' ∧ H' D = some (.lst (ys.take i))) ⟨Ex.new hD, by rw [upd_same]; rfl⟩ (fun i H' _ p => ex_l p.1 ht) (fun i x H' hx p => ⟨hw x, by
    have hi : i < ys.length := by rw [hxy]; exact (List.getElem?_eq_some_iff.mp hx).1
    exact cm_turn (List.getElem?_eq_getElem hi) hz hD p fun Q' k => he i x _ H' hx (List.getElem?_eq_getElem hi) p.1 Q' k⟩) (fun H' p => q D H' hD p.1 (by rw [p.2, ← hxy, List.take_length]))
theorem r_cmR {m : Nat} (hxy : ys.length = m) (hz : ys.length ≤ 100000) (hw : ∀ x, wipe ((wipe σ vs).set j (some x)) vs = wipe σ vs)
    (he : ∀ (i : Nat) (y : V) (H1 : Hp), i < m → ys[i]? = some y → Ex H H1 → ∀ Q' : VK, (∀ H2, Ex H1 H2 → Q' y H2) → te ((wipe σ vs).set j (some (.int (lo + (i : Int))))) H1 Q')
    (q : ∀ p H1, H p = none → Ex H H1 → H1 p = some (.lst ys) → Q (.ref p) H1) : rLc (Itr lo m) (gName j) tYes te vs σ Q H := fun D hD =>
  lc_range (lo := lo) (n := m) (fun i H' => Ex H H' ∧ H' D = some (.lst (ys.take i))) ⟨Ex.new hD, by rw [upd_same]; rfl⟩ (fun i H' hi' p => ⟨hw _, by
    have hi : i < ys.length := by rw [hxy]; exact hi'
    exact cm_turn (List.getElem?_eq_getElem hi) hz hD p fun Q' k => he i _ H' hi' (List.getElem?_eq_getElem hi) p.1 Q' k⟩) (fun H' p => q D H' hD p.1 (by rw [p.2, ← hxy, List.take_length]))
/-- [e for i in range(..) if t] -/
theorem r_cmRF {m : Nat} (f : Nat → Bool) (v : Nat → V) (hz : m ≤ 100000) (hw : ∀ x, wipe ((wipe σ vs).set j (some x)) vs = wipe σ vs)
    (ht : ∀ (i : Nat) H1, i < m → Ex H H1 → ∀ Q' : Bool → Hp → Prop, (∀ H2, Ex H1 H2 → Q' (f i) H2) → tt ((wipe σ vs).set j (some (.int (lo + (i : Int))))) H1 Q')
    (he : ∀ (i : Nat) H1, i < m → f i = true → Ex H H1 → ∀ Q' : VK, (∀ H2, Ex H1 H2 → Q' (v i) H2) → te ((wipe σ vs).set j (some (.int (lo + (i : Int))))) H1 Q')
    (q : ∀ p H1, H p = none → Ex H H1 → H1 p = some (.lst (given m f v)) → Q (.ref p) H1) : rLc (Itr lo m) (gName j) tt te vs σ Q H := fun D hD => by
  refine lc_range (lo := lo) (n := m) (fun i H' => Ex H H' ∧ H' D = some (.lst (given i f v))) ⟨Ex.new hD, by rw [upd_same]; rfl⟩ (fun i H' hi p => ⟨hw _, ?_⟩) (fun H' p => q D H' hD p.1 p.2)
  refine ht i H' hi p.1 _ fun H2 e2 => ?_
  cases hf : f i with
  | false =>
    refine if_F ⟨p.1.trans e2, ?_⟩
    rw [given_no hf]
    exact e2 _ _ p.2
  | true =>
    refine if_T (he i H2 hi hf (p.1.trans e2) _ fun H3 e3 => ⟨given i f v, e3 _ _ (e2 _ _ p.2), ?_, Ex.mut ((p.1.trans e2).trans e3) hD, ?_⟩)
    · have := given_len i f v
      exact Nat.lt_of_le_of_lt this (Nat.lt_of_lt_of_le hi (sz_of hz))
    · rw [upd_same, given_yes hf]
/-- [e for i in range(..)], a turn may change the heap: S is what stands between the turns, Pr what is said of an item -/
theorem r_cmRS {m : Nat} (S : Nat → Hp → Prop) (Pr : V → Prop) (hm : m ≤ 100000) (hw : ∀ x, wipe ((wipe σ vs).set j (some x)) vs = wipe σ vs) (h0 : S 0 H)
    (hnew : ∀ i H1 D o, S i H1 → H1 D = none → S i (upd H1 D o))
    (he : ∀ (i : Nat) H1 D acc, i < m → S i H1 → H1 D = some (.lst acc) → (∀ o, S i (upd H1 D o)) →
      ∀ Q' : VK, (∀ y H2, Pr y → H2 D = some (.lst acc) → (∀ o, S (i + 1) (upd H2 D o)) → Q' y H2) → te ((wipe σ vs).set j (some (.int (lo + (i : Int))))) H1 Q')
    (q : ∀ D H1 ys, H D = none → ys.length = m → (∀ y ∈ ys, Pr y) → S m H1 → H1 D = some (.lst ys) → Q (.ref D) H1) : rLc (Itr lo m) (gName j) tYes te vs σ Q H := fun D hD => by
  refine lc_range (lo := lo) (n := m) (fun i H' => ∃ ys : List V, ys.length = i ∧ (∀ y ∈ ys, Pr y) ∧ S i H' ∧ (∀ o, S i (upd H' D o)) ∧ H' D = some (.lst ys)) ⟨[], rfl, (fun _ h => by cases h), hnew 0 H D _ h0 hD, fun o => by rw [upd_upd]; exact hnew 0 H D o h0 hD, upd_same⟩ (fun i H' hi p => ?_) (fun H' p => ?_)
  · obtain ⟨ys, h1, h2, h3, h4, h5⟩ := p
    refine ⟨hw _, ?_⟩
    refine he i H' D ys hi h3 h5 h4 _ fun y H2 z1 z2 z3 => ?_
    refine ⟨ys, z2, sz_lt (by omega), ys ++ [y], by rw [List.length_append, h1]; rfl, fun x hx => ?_, z3 _, fun o => by rw [upd_upd]; exact z3 o, upd_same⟩
    rcases List.mem_append.mp hx with hx | hx
    · exact h2 x hx
    · rw [List.mem_singleton.mp hx]
      exact z1
  · obtain ⟨ys, h1, h2, h3, h4, h5⟩ := p
    exact q D H' ys hD h1 h2 h3 h5
end
end L2
namespace L2
open PySem PySem.Spec PyProof.Rows Evl
section
variable {K : PySem.W.Frag} {H : Hp} {Q : VK} {a : Addr} {xs : List V}
theorem r_repL {k : Int} (h : H a = some (.lst xs)) (h0 : 0 ≤ k) (hk : k ≤ 100000) (hz : xs.length * k.toNat ≤ 100000) (q : ∀ p H1, H p = none → Ex H H1 → H1 p = some (.lst (List.replicate k.toNat xs).flatten) → Q (.ref p) H1) : rMulU K (.ref a) (.int k) H Q :=
  .inr (.inr (.inl ⟨a, k, xs, rfl, rfl, h, by omega, by omega, sz_of hz, alloc q⟩))
/-! ### draws: what stands between -/
/-- all but the well is as it was; n draws are done -/
structure DrS (w : Addr) (H0 : Hp) (n : Nat) (H : Hp) : Prop where
  ex : ExW w H0 H
  well : Well H w n
theorem Well.upd {H : Hp} {w D : Addr} {n : Nat} {o : HO} (h : Well H w n) (hD : D ≠ w) : Well (upd H D o) w n := by
  obtain ⟨a, b, c, h1, h2⟩ := h.ex
  exact ⟨a, b, c, by rw [upd_ne hD.symm]; exact h1, h2⟩
theorem DrS.new {w D : Addr} {H0 H : Hp} {n : Nat} {o : HO} (h : DrS w H0 n H) (hD : H D = none) : DrS w H0 n (upd H D o) :=
  ⟨fun a u e ha => by rw [upd_ne (ne_of_none (h.ex a u e ha) hD)]; exact h.ex a u e ha, h.well.upd (h.well.ne hD)⟩
theorem DrS.at {w D : Addr} {H0 H : Hp} {n : Nat} (h : ∀ o, DrS w H0 n (L2.upd H D o)) : D ≠ w ∧ H0 D = none := by
  have hw : D ≠ w := fun e => by
    obtain ⟨a, b, c, h1, _⟩ := (h (.lst [])).well.ex
    rw [← e, upd_same] at h1
    cases h1
  refine ⟨hw, ?_⟩
  cases e : H0 D with
  | none => rfl
  | some u =>
    have h1 := (h (.lst [])).ex D u e hw
    have h2 := (h (.tup [])).ex D u e hw
    rw [upd_same] at h1 h2
    rw [← h1] at h2
    cases h2
theorem DrS.put {w D : Addr} {H0 H : Hp} {n : Nat} {o : HO} (h : DrS w H0 n H) (hD : D ≠ w) (h0 : H0 D = none) : DrS w H0 n (L2.upd H D o) :=
  ⟨fun a u e ha => by rw [upd_ne (ne_of_none e h0)]; exact h.ex a u e ha, h.well.upd hD⟩
theorem DrS.on {w : Addr} {H0 H H1 : Hp} {n m : Nat} (h : DrS w H0 n H) (e : ExW w H H1) (k : Well H1 w m) : DrS w H0 m H1 := ⟨h.ex.trans e, k⟩
theorem DrS.ext {w : Addr} {H0 H H1 : Hp} {n : Nat} (h : DrS w H0 n H) (e : Ex H H1) : DrS w H0 n H1 := ⟨h.ex.trans (.of e), h.well.mono e⟩
theorem DrS.more {w : Addr} {H0 H : Hp} {n m : Nat} (h : DrS w H0 n H) (e : n ≤ m) : DrS w H0 m H := ⟨h.ex, h.well.more e⟩
theorem DrS.t {w : Addr} {H0 H : Hp} {n : Nat} {a : Addr} {xs : List V} {k : Nat} (h : DrS w H0 n H) (h0 : Well H0 w k) (t : SqT K H0 a xs) : SqT K H a xs := h0.t h.ex t
end
/-- all items are ints of which so much is said -/
theorem ints_of {P : Int → Prop} : ∀ ys : List V, (∀ y ∈ ys, ∃ z, y = .int z ∧ P z) → ∃ ns : List Int, ys = ns.map V.int ∧ ∀ z ∈ ns, P z
  | [], _ => ⟨[], rfl, fun _ h => by cases h⟩
  | y :: ys, h => by
    obtain ⟨ns, e, k⟩ := ints_of ys fun x hx => h x (List.mem_cons_of_mem _ hx)
    obtain ⟨z, e2, k2⟩ := h y List.mem_cons_self
    refine ⟨z :: ns, by rw [e, e2]; rfl, fun x hx => ?_⟩
    rcases List.mem_cons.mp hx with rfl | hx
    · exact k2
    · exact k x hx
end L2
/-! walks of steps: pairs left out -/
namespace Fg
abbrev Wk := List Int
/-- what is kept, the last one first -/
def stp (st : Wk) (x : Int) : Wk := match st with
  | [] => [x]
  | y :: r => if y = -x then r else x :: y :: r
def run (st : Wk) (u : Wk) : Wk := u.foldl stp st
def rd (u : Wk) : Wk := (run [] u).reverse
def bk (u : Wk) : Wk := (u.map fun x => -x).reverse
/-- no step beside its opposite one (of what is kept) -/
def Red : Wk → Prop
  | [] => True
  | [_] => True
  | x :: y :: r => y ≠ -x ∧ Red (y :: r)
theorem Red.tail {x : Int} {r : Wk} (h : Red (x :: r)) : Red r := by
  cases r with
  | nil => trivial
  | cons y r => exact h.2
theorem red_stp {st : Wk} (x : Int) (h : Red st) : Red (stp st x) := by
  cases st with
  | nil => trivial
  | cons y r =>
    show Red (if y = -x then r else x :: y :: r)
    by_cases e : y = -x
    · rw [if_pos e]
      exact h.tail
    · rw [if_neg e]
      exact ⟨e, h⟩
theorem red_run : ∀ (u : Wk) {st : Wk}, Red st → Red (run st u)
  | [], _, h => h
  | x :: u, _, h => red_run u (red_stp x h)
theorem run_append (st u v : Wk) : run st (u ++ v) = run (run st u) v := List.foldl_append
/-- a step and its opposite one are as nothing -/
theorem stp_pair {st : Wk} (x : Int) (h : Red st) : stp (stp st x) (-x) = st := by
  cases st with
  | nil =>
    show (if x = - -x then [] else [-x, x]) = []
    rw [if_pos (by omega)]
  | cons y r =>
    show stp (if y = -x then r else x :: y :: r) (-x) = y :: r
    by_cases e : y = -x
    · rw [if_pos e]
      cases r with
      | nil => rw [e]; rfl
      | cons z r =>
        show (if z = - -x then r else -x :: z :: r) = y :: z :: r
        have hz : z ≠ -y := h.1
        rw [if_neg (by rw [e] at hz; exact hz), e]
    · rw [if_neg e]
      show (if x = - -x then y :: r else -x :: x :: y :: r) = y :: r
      rw [if_pos (by omega)]
/-- the same from all -/
def Eqv (u v : Wk) : Prop := ∀ st, Red st → run st u = run st v
theorem Eqv.refl (u : Wk) : Eqv u u := fun _ _ => rfl
theorem Eqv.symm {u v : Wk} (h : Eqv u v) : Eqv v u := fun st r => (h st r).symm
theorem Eqv.trans {u v w : Wk} (h : Eqv u v) (k : Eqv v w) : Eqv u w := fun st r => (h st r).trans (k st r)
theorem Eqv.app {u v a b : Wk} (h : Eqv u v) (k : Eqv a b) : Eqv (u ++ a) (v ++ b) := fun st r => by
  rw [run_append, run_append, h st r]
  exact k _ (red_run v r)
theorem eqv_pair (x : Int) : Eqv [x, -x] [] := fun st r => stp_pair x r
theorem eqv_cut (u v : Wk) (x : Int) : Eqv (u ++ [x, -x] ++ v) (u ++ v) := by
  have h := ((Eqv.refl u).app (eqv_pair x)).app (Eqv.refl v)
  rw [List.append_nil] at h
  exact h
theorem rd_eq {u v : Wk} (h : Eqv u v) : rd u = rd v := by
  unfold rd
  rw [h [] trivial]
theorem rd_snoc (u : Wk) (x : Int) : rd (u ++ [x]) = (stp (rd u).reverse x).reverse := by
  unfold rd
  rw [run_append, List.reverse_reverse]
  rfl
theorem run_snoc (st u : Wk) (x : Int) : run st (u ++ [x]) = stp (run st u) x := by
  rw [run_append]
  rfl
/-- what is left is the same -/
theorem eqv_rd : ∀ (n : Nat) (u : Wk), u.length = n → Eqv (rd u) u
  | 0, u, h => by
    have e : u = [] := List.eq_nil_of_length_eq_zero h
    subst e
    exact .refl _
  | n + 1, u, h => by
    obtain ⟨m, x, rfl⟩ : ∃ m x, u = m ++ [x] := ⟨u.dropLast, u.getLast (by intro e; subst e; cases h), (List.dropLast_concat_getLast _).symm⟩
    have ih := eqv_rd n m (by rw [List.length_append] at h; simpa using h)
    have hr : Red (rd m).reverse := by
      unfold rd
      rw [List.reverse_reverse]
      exact red_run m trivial
    intro st r
    rw [rd_snoc, run_snoc, ← ih st r]
    generalize hq : (rd m).reverse = q at hr
    have hm : rd m = q.reverse := by rw [← hq, List.reverse_reverse]
    rw [hm]
    cases q with
    | nil => rfl
    | cons y q =>
      show run st (if y = -x then q else x :: y :: q).reverse = stp (run st (y :: q).reverse) x
      by_cases e : y = -x
      · rw [if_pos e, List.reverse_cons, run_snoc, e]
        have k := stp_pair (-x) (red_run q.reverse r)
        rw [Int.neg_neg] at k
        exact k.symm
      · rw [if_neg e, List.reverse_cons, run_snoc]
theorem eqv_of_rd {u v : Wk} (h : rd u = rd v) : Eqv u v := (eqv_rd _ u rfl).symm.trans (h ▸ eqv_rd _ v rfl)
theorem rd_rd (u : Wk) : rd (rd u) = rd u := rd_eq (eqv_rd _ u rfl)
theorem rd_app (u v : Wk) : rd (rd u ++ rd v) = rd (u ++ v) := rd_eq ((eqv_rd _ u rfl).app (eqv_rd _ v rfl))
theorem bk_app (u v : Wk) : bk (u ++ v) = bk v ++ bk u := by unfold bk; rw [List.map_append, List.reverse_append]
theorem bk_bk (u : Wk) : bk (bk u) = u := by
  unfold bk
  rw [List.map_reverse, List.reverse_reverse, List.map_map]
  have e : ((fun x : Int => -x) ∘ fun x => -x) = id := funext fun x => by show - -x = x; omega
  rw [e, List.map_id]
theorem bk_len (u : Wk) : (bk u).length = u.length := by unfold bk; rw [List.length_reverse, List.length_map]
theorem eqv_bk : ∀ u : Wk, Eqv (u ++ bk u) []
  | [] => .refl _
  | x :: u => by
    have e : bk (x :: u) = bk u ++ [-x] := by
      unfold bk
      rw [List.map_cons, List.reverse_cons]
    rw [e]
    have h := ((Eqv.refl [x]).app (eqv_bk u)).app (Eqv.refl [-x])
    rw [List.append_nil] at h
    refine Eqv.trans ?_ (eqv_pair x)
    have e2 : (x :: u) ++ (bk u ++ [-x]) = [x] ++ (u ++ bk u) ++ [-x] := by simp
    rw [e2]
    exact h
theorem eqv_kb (u : Wk) : Eqv (bk u ++ u) [] := by
  have h := eqv_bk (bk u)
  rw [bk_bk] at h
  exact h
theorem Eqv.bk {u v : Wk} (h : Eqv u v) : Eqv (Fg.bk u) (Fg.bk v) := by
  -- back u ~ back u, v, back v ~ back u, u, back v ~ back v
  have h1 : Eqv (Fg.bk u) (Fg.bk u ++ (v ++ Fg.bk v)) := by
    have k := (Eqv.refl (Fg.bk u)).app (eqv_bk v).symm
    rw [List.append_nil] at k
    exact k
  have h2 : Eqv (Fg.bk u ++ (v ++ Fg.bk v)) (Fg.bk u ++ (u ++ Fg.bk v)) := (Eqv.refl _).app (h.symm.app (.refl _))
  have h3 : Eqv (Fg.bk u ++ (u ++ Fg.bk v)) (Fg.bk v) := by
    rw [← List.append_assoc]
    have k := (eqv_kb u).app (Eqv.refl (Fg.bk v))
    exact k
  exact (h1.trans h2).trans h3
/-- straight: no pair side by side -/
def Str (u : Wk) : Prop := ∀ i x, u[i]? = some x → u[i + 1]? ≠ some (-x)
theorem str_nil : Str [] := fun i x h => by simp at h
theorem str_snoc {u : Wk} {x : Int} (h : Str u) (hl : u.getLast? ≠ some (-x)) : Str (u ++ [x]) := by
  intro i z hz e
  by_cases hi : i + 1 < u.length
  · rw [List.getElem?_append_left (by omega)] at hz
    rw [List.getElem?_append_left hi] at e
    exact h i z hz e
  · by_cases hi2 : i + 1 = u.length
    · rw [List.getElem?_append_left (by omega)] at hz
      rw [List.getElem?_append_right (by omega), hi2, Nat.sub_self] at e
      have e' : x = -z := Option.some.inj e
      apply hl
      rw [List.getLast?_eq_getElem?]
      have e3 : u.length - 1 = i := by omega
      rw [e3, hz, e']
      congr 1
      omega
    · rw [List.getElem?_eq_none (by rw [List.length_append]; simp; omega)] at e
      cases e
theorem str_init {u : Wk} {x : Int} (h : Str (u ++ [x])) : Str u ∧ u.getLast? ≠ some (-x) := by
  refine ⟨fun i z hz e => ?_, fun e => ?_⟩
  · have l2 : i + 1 < u.length := (List.getElem?_eq_some_iff.mp e).1
    refine h i z ?_ ?_
    · rw [List.getElem?_append_left (by omega)]
      exact hz
    · rw [List.getElem?_append_left l2]
      exact e
  · rw [List.getLast?_eq_getElem?] at e
    have l1 : u.length - 1 < u.length := (List.getElem?_eq_some_iff.mp e).1
    refine h (u.length - 1) (-x) ?_ ?_
    · rw [List.getElem?_append_left l1]
      exact e
    · rw [show u.length - 1 + 1 = u.length by omega, List.getElem?_append_right (Nat.le_refl _), Nat.sub_self, Int.neg_neg]
      rfl
/-- a straight one stays -/
theorem rd_of_str : ∀ (n : Nat) (u : Wk), u.length = n → Str u → rd u = u
  | 0, u, h, _ => by
    have e : u = [] := List.eq_nil_of_length_eq_zero h
    subst e
    rfl
  | n + 1, u, h, s => by
    obtain ⟨m, x, rfl⟩ : ∃ m x, u = m ++ [x] := ⟨u.dropLast, u.getLast (by intro e; subst e; cases h), (List.dropLast_concat_getLast _).symm⟩
    obtain ⟨s1, s2⟩ := str_init s
    have ih := rd_of_str n m (by rw [List.length_append] at h; simpa using h) s1
    rw [rd_snoc, ih]
    generalize hq : m.reverse = q
    have hm : m = q.reverse := by rw [← hq, List.reverse_reverse]
    cases q with
    | nil => rw [hm]; rfl
    | cons y q =>
      have hl : m.getLast? = some y := by rw [hm, List.reverse_cons, List.getLast?_append]; rfl
      have hy : y ≠ -x := fun e => s2 (by rw [hl, e])
      show (if y = -x then q else x :: y :: q).reverse = m ++ [x]
      rw [if_neg hy, List.reverse_cons, ← hm]
theorem str_of_red : ∀ {st : Wk}, Red st → Str st.reverse
  | [], _ => str_nil
  | [x], _ => str_snoc (u := []) (x := x) str_nil (by simp)
  | x :: y :: r, h => by
    rw [List.reverse_cons]
    refine str_snoc (str_of_red h.2) ?_
    rw [List.reverse_cons, List.getLast?_append]
    intro e
    exact h.1 (Option.some.inj e)
theorem str_rd (u : Wk) : Str (rd u) := str_of_red (red_run u trivial)
theorem rd_str {u : Wk} (h : Str u) : rd u = u := rd_of_str _ u rfl h
theorem str_bk {u : Wk} (h : Str u) : Str (bk u) := by
  intro i x hx e
  unfold bk at hx e
  have l1 : i + 1 < u.length := by
    have := (List.getElem?_eq_some_iff.mp e).1
    simpa using this
  rw [List.getElem?_reverse (by simpa using (by omega : i < u.length)), List.getElem?_map] at hx
  rw [List.getElem?_reverse (by simpa using l1), List.getElem?_map] at e
  simp only [List.length_map] at hx e
  cases h1 : u[u.length - 1 - i]? with
  | none => rw [h1] at hx; cases hx
  | some z =>
    rw [h1] at hx
    have ez : -z = x := Option.some.inj hx
    cases h2 : u[u.length - 1 - (i + 1)]? with
    | none => rw [h2] at e; cases e
    | some y =>
      rw [h2] at e
      have ey : -y = -x := Option.some.inj e
      refine h (u.length - 1 - (i + 1)) y h2 ?_
      rw [show u.length - 1 - (i + 1) + 1 = u.length - 1 - i by omega, h1]
      congr 1
      omega
theorem rd_bk (u : Wk) : rd (bk u) = bk (rd u) := by
  rw [← rd_str (str_bk (str_rd u))]
  exact rd_eq (eqv_rd _ u rfl).symm.bk
theorem rd_len_le : ∀ (n : Nat) (u : Wk), u.length = n → (rd u).length ≤ u.length
  | 0, u, h => by
    have e : u = [] := List.eq_nil_of_length_eq_zero h
    subst e
    exact Nat.le_refl _
  | n + 1, u, h => by
    obtain ⟨m, x, rfl⟩ : ∃ m x, u = m ++ [x] := ⟨u.dropLast, u.getLast (by intro e; subst e; cases h), (List.dropLast_concat_getLast _).symm⟩
    have ih := rd_len_le n m (by rw [List.length_append] at h; simpa using h)
    rw [rd_snoc]
    generalize hq : (rd m).reverse = q
    have hm : rd m = q.reverse := by rw [← hq, List.reverse_reverse]
    rw [hm] at ih
    rw [List.length_append]
    cases q with
    | nil =>
      show 1 ≤ m.length + 1
      omega
    | cons y q =>
      show (if y = -x then q else x :: y :: q).reverse.length ≤ m.length + 1
      rw [List.length_reverse] at ih ⊢
      rw [List.length_cons] at ih
      split
      · omega
      · simp only [List.length_cons]
        omega
theorem rd_len (u : Wk) : (rd u).length ≤ u.length := rd_len_le _ u rfl
/-- u so many times -/
def rep : Nat → Wk → Wk
  | 0, _ => []
  | k + 1, u => rep k u ++ u
theorem rep_flat (k : Nat) (u : Wk) : (List.replicate k u).flatten = rep k u := by
  induction k with
  | zero => rfl
  | succ k ih =>
    rw [List.replicate_succ', List.flatten_append, ih]
    show rep k u ++ (u ++ []) = rep k u ++ u
    rw [List.append_nil]
theorem rep_len (k : Nat) (u : Wk) : (rep k u).length = k * u.length := by
  induction k with
  | zero => simp [rep]
  | succ k ih =>
    show (rep k u ++ u).length = (k + 1) * u.length
    rw [List.length_append, ih, Nat.succ_mul]
theorem eqv_rep {u v : Wk} (h : Eqv u v) : ∀ k, Eqv (rep k u) (rep k v)
  | 0 => .refl _
  | k + 1 => (eqv_rep h k).app h
end Fg
namespace Fg
/-- so many steps at the end of one are opposite to those ahead of the other -/
def Opp (u v : Wk) (s : Nat) : Prop := s ≤ u.length ∧ s ≤ v.length ∧ ∀ j, j < s → ∀ x y, u[u.length - 1 - j]? = some x → v[j]? = some y → x = -y
theorem opp_zero (u v : Wk) : Opp u v 0 := ⟨Nat.zero_le _, Nat.zero_le _, fun j h => absurd h (Nat.not_lt_zero j)⟩
theorem opp_succ {u v : Wk} {s : Nat} {x y : Int} (h : Opp u v s) (hu : s < u.length) (hv : s < v.length) (hx : u[u.length - 1 - s]? = some x) (hy : v[s]? = some y) (e : x = -y) : Opp u v (s + 1) := by
  refine ⟨hu, hv, fun j hj a b ha hb => ?_⟩
  by_cases hjs : j < s
  · exact h.2.2 j hjs a b ha hb
  · have : j = s := by omega
    subst this
    rw [hx] at ha
    rw [hy] at hb
    cases ha
    cases hb
    exact e
theorem eqv_opp {u v : Wk} : ∀ {s : Nat}, Opp u v s → Eqv (u ++ v) (u.take (u.length - s) ++ v.drop s)
  | 0, _ => by
    rw [Nat.sub_zero, List.take_length, List.drop_zero]
    exact .refl _
  | s + 1, h => by
    have h0 : Opp u v s := ⟨by have := h.1; omega, by have := h.2.1; omega, fun j hj => h.2.2 j (by omega)⟩
    refine (eqv_opp h0).trans ?_
    have hu : u.length - 1 - s < u.length := by have := h.1; omega
    have hv : s < v.length := h.2.1
    have e := h.2.2 s (by omega) u[u.length - 1 - s] v[s] (List.getElem?_eq_getElem hu) (List.getElem?_eq_getElem hv)
    have e1 : u.take (u.length - s) = u.take (u.length - (s + 1)) ++ [u[u.length - 1 - s]] := by
      have k : u.length - s = (u.length - 1 - s) + 1 := by have := h.1; omega
      have k2 : u.length - (s + 1) = u.length - 1 - s := by omega
      rw [k, k2, List.take_add_one, List.getElem?_eq_getElem hu]
      rfl
    have e2 : v.drop s = v[s] :: v.drop (s + 1) := List.drop_eq_getElem_cons hv
    rw [e1, e2, e]
    have e3 : u.take (u.length - (s + 1)) ++ [-v[s]] ++ (v[s] :: v.drop (s + 1)) = u.take (u.length - (s + 1)) ++ [-v[s], - -v[s]] ++ v.drop (s + 1) := by
      rw [Int.neg_neg]
      simp
    rw [e3]
    exact eqv_cut _ _ _
theorem str_take {u : Wk} (n : Nat) (h : Str u) : Str (u.take n) := by
  intro i x hx e
  have l2 : i + 1 < (u.take n).length := (List.getElem?_eq_some_iff.mp e).1
  rw [List.length_take] at l2
  rw [List.getElem?_take, if_pos (by omega)] at hx e
  exact h i x hx e
theorem str_drop {u : Wk} (n : Nat) (h : Str u) : Str (u.drop n) := by
  intro i x hx e
  rw [List.getElem?_drop] at hx e
  exact h (n + i) x hx (by rw [← e]; congr 1)
theorem str_app {u v : Wk} (hu : Str u) (hv : Str v) (h : ∀ x y, u.getLast? = some x → v.head? = some y → y ≠ -x) : Str (u ++ v) := by
  intro i x hx e
  by_cases h1 : i + 1 < u.length
  · rw [List.getElem?_append_left (by omega)] at hx
    rw [List.getElem?_append_left h1] at e
    exact hu i x hx e
  · by_cases h2 : i < u.length
    · rw [List.getElem?_append_left h2] at hx
      rw [List.getElem?_append_right (by omega)] at e
      have e0 : i + 1 - u.length = 0 := by omega
      rw [e0] at e
      refine h x (-x) ?_ ?_ rfl
      · rw [List.getLast?_eq_getElem?, show u.length - 1 = i by omega, hx]
      · rw [List.head?_eq_getElem?, e]
    · rw [List.getElem?_append_right (by omega)] at hx
      rw [List.getElem?_append_right (by omega)] at e
      have e0 : i + 1 - u.length = (i - u.length) + 1 := by omega
      rw [e0] at e
      exact hv _ x hx e
theorem join_ok {u v : Wk} {s : Nat} (hu : Str u) (hv : Str v) (h : Opp u v s) (hend : s < u.length → s < v.length → ∀ x y, u[u.length - 1 - s]? = some x → v[s]? = some y → x ≠ -y) :
    u.take (u.length - s) ++ v.drop s = rd (u ++ v) := by
  have hs : Str (u.take (u.length - s) ++ v.drop s) := by
    refine str_app (str_take _ hu) (str_drop _ hv) fun x y hx hy e => ?_
    rw [List.getLast?_eq_getElem?, List.length_take] at hx
    rw [List.head?_eq_getElem?, List.getElem?_drop] at hy
    have hx0 := (List.getElem?_eq_some_iff.mp hx).1
    rw [List.length_take] at hx0
    have hy0 := (List.getElem?_eq_some_iff.mp hy).1
    rw [List.getElem?_take, if_pos (by omega)] at hx
    have k1 : min (u.length - s) u.length - 1 = u.length - 1 - s := by omega
    rw [k1] at hx
    refine hend (by omega) (by omega) x y hx (by simpa using hy) (by omega)
  rw [rd_eq (eqv_opp h), rd_str hs]
theorem rd_rep_rd (u : Wk) (k : Nat) : rd (rep k (rd u)) = rd (rep k u) := rd_eq (eqv_rep (eqv_rd _ u rfl) k)
theorem rd_app_l (u v : Wk) : rd (rd u ++ v) = rd (u ++ v) := rd_eq ((eqv_rd _ u rfl).app (.refl v))
theorem rd_app_r (u v : Wk) : rd (u ++ rd v) = rd (u ++ v) := rd_eq ((Eqv.refl u).app (eqv_rd _ v rfl))
/-- one pair out -/
theorem rd_out {u : Wk} {i : Nat} {x y : Int} (hx : u[i]? = some x) (hy : u[i + 1]? = some y) (e : x = -y) : rd (u.take i ++ u.drop (i + 2)) = rd u := by
  have h1 := (List.getElem?_eq_some_iff.mp hx).1
  have h2 := (List.getElem?_eq_some_iff.mp hy).1
  have e1 : u = u.take i ++ [x, -x] ++ u.drop (i + 2) := by
    have k : u.drop i = x :: y :: u.drop (i + 2) := by
      rw [List.drop_eq_getElem_cons h1, List.drop_eq_getElem_cons h2]
      rw [List.getElem?_eq_getElem h1] at hx
      rw [List.getElem?_eq_getElem h2] at hy
      rw [Option.some.inj hx, Option.some.inj hy]
    have k2 : -x = y := by omega
    rw [k2]
    conv => lhs; rw [← List.take_append_drop i u, k]
    simp
  conv => rhs; rw [e1]
  exact (rd_eq (eqv_cut _ _ x)).symm
/-- no pair: straight -/
theorem str_of_none {u : Wk} (h : ∀ i x y, u[i]? = some x → u[i + 1]? = some y → x ≠ -y) : Str u := fun i x hx e => h i x (-x) hx e (by omega)
theorem mem_stp {st : Wk} {x y : Int} (h : y ∈ stp st x) : y ∈ st ∨ y = x := by
  cases st with
  | nil => exact .inr (List.mem_singleton.mp h)
  | cons z r =>
    have h' : y ∈ (if z = -x then r else x :: z :: r) := h
    split at h'
    · exact .inl (List.mem_cons_of_mem _ h')
    · rcases List.mem_cons.mp h' with e | e
      · exact .inr e
      · exact .inl e
theorem mem_run : ∀ (u : Wk) {st : Wk} {y : Int}, y ∈ run st u → y ∈ st ∨ y ∈ u
  | [], _, _, h => .inl h
  | x :: u, st, y, h => by
    rcases mem_run u (st := stp st x) h with k | k
    · rcases mem_stp k with k | k
      · exact .inl k
      · exact .inr (by rw [k]; exact List.mem_cons_self)
    · exact .inr (List.mem_cons_of_mem _ k)
theorem mem_rd {u : Wk} {y : Int} (h : y ∈ rd u) : y ∈ u := by
  rcases mem_run u (List.mem_reverse.mp h) with k | k
  · cases k
  · exact k
theorem mem_bk {u : Wk} {y : Int} (h : y ∈ bk u) : -y ∈ u := by
  unfold bk at h
  obtain ⟨x, hx, e⟩ := List.mem_map.mp (List.mem_reverse.mp h)
  rw [← e, Int.neg_neg]
  exact hx
theorem mem_rep : ∀ {k : Nat} {u : Wk} {y : Int}, y ∈ rep k u → y ∈ u
  | 0, _, _, h => by cases h
  | k + 1, _, _, h => by
    rcases List.mem_append.mp h with h | h
    · exact mem_rep h
    · exact h
theorem rep_nil : ∀ k : Nat, rep k [] = []
  | 0 => rfl
  | k + 1 => by
    show rep k [] ++ [] = []
    rw [rep_nil k]
    rfl
theorem rep_one (u : Wk) : rep 1 u = u := by
  show [] ++ u = u
  rfl
theorem rd_nil : rd [] = [] := rfl
theorem rd_app_bk (u : Wk) : rd (u ++ bk u) = [] := rd_eq (eqv_bk u)
theorem rd_bk_app (u : Wk) : rd (bk u ++ u) = [] := rd_eq (eqv_kb u)
end Fg
/-! leads, cores, roots -/
namespace Fg
theorem tw_len {p : Nat → Bool} : ∀ (m s : Nat), s ≤ m → (∀ j, j < s → p j = true) → (s < m → p s = false) → ((List.range m).takeWhile p).length = s := by
  intro m s hs h1 h2
  have e : List.range m = List.range s ++ (List.range (m - s)).map (s + ·) := by
    have k : m = s + (m - s) := by omega
    conv => lhs; rw [k]
    rw [List.range_add]
  rw [e, List.takeWhile_append_of_pos (fun a ha => h1 a (List.mem_range.mp ha)), List.length_append, List.length_range]
  by_cases h : s < m
  · have k : m - s = (m - s - 1) + 1 := by omega
    rw [k, List.range_succ_eq_map, List.map_cons, List.takeWhile_cons_of_neg (by rw [Nat.add_zero, h2 h]; exact Bool.false_ne_true)]
    rfl
  · have k : m - s = 0 := by omega
    rw [k]
    rfl
def mt (u : Wk) (j : Nat) : Bool := decide (u.getD j 0 = -(u.getD (u.length - 1 - j) 0))
/-- how many steps the lead has -/
def ld (u : Wk) : Nat := ((List.range (u.length / 2)).takeWhile (mt u)).length
theorem ld_eq {u : Wk} {s : Nat} (h : s ≤ u.length / 2) (h1 : ∀ j, j < s → mt u j = true) (h2 : s < u.length / 2 → mt u s = false) : ld u = s := tw_len _ s h h1 h2
theorem ld_le (u : Wk) : ld u ≤ u.length / 2 := by
  unfold ld
  have h := (List.takeWhile_sublist (mt u) (l := List.range (u.length / 2))).length_le
  rw [List.length_range] at h
  exact h
theorem ld_mt {u : Wk} {j : Nat} (h : j < ld u) : mt u j = true := by
  have hl := ld_le u
  have hs := List.takeWhile_prefix (mt u) (l := List.range (u.length / 2))
  have hm : ((List.range (u.length / 2)).takeWhile (mt u))[j]'h ∈ (List.range (u.length / 2)).takeWhile (mt u) := List.getElem_mem h
  have e : ((List.range (u.length / 2)).takeWhile (mt u))[j]'h = j := by
    rw [hs.getElem h, List.getElem_range]
  have hall := List.all_takeWhile (p := mt u) (l := List.range (u.length / 2))
  rw [List.all_eq_true] at hall
  have k := hall _ hm
  rw [e] at k
  exact k
theorem mt_of {u : Wk} {j : Nat} {x y : Int} (hx : u[j]? = some x) (hy : u[u.length - 1 - j]? = some y) : mt u j = decide (x = -y) := by
  unfold mt
  rw [List.getD_eq_getElem?_getD, List.getD_eq_getElem?_getD, hx, hy]
  rfl
/-- beyond the lead nothing fits -/
theorem ld_end {u : Wk} (h : ld u < u.length / 2) : mt u (ld u) = false := by
  cases e : mt u (ld u) with
  | false => rfl
  | true =>
    exfalso
    -- then the lead would be longer
    have hmono : ∀ j, j < ld u + 1 → mt u j = true := fun j hj => by
      rcases Nat.lt_or_ge j (ld u) with k | k
      · exact ld_mt k
      · have : j = ld u := by omega
        rw [this]
        exact e
    -- the first s that does not fit, or the half
    have : ∃ s, ld u + 1 ≤ s ∧ s ≤ u.length / 2 ∧ (∀ j, j < s → mt u j = true) ∧ (s < u.length / 2 → mt u s = false) := by
      have go : ∀ (d s : Nat), u.length / 2 - s = d → ld u + 1 ≤ s → s ≤ u.length / 2 → (∀ j, j < s → mt u j = true) → ∃ s, ld u + 1 ≤ s ∧ s ≤ u.length / 2 ∧ (∀ j, j < s → mt u j = true) ∧ (s < u.length / 2 → mt u s = false) := by
        intro d
        induction d with
        | zero => exact fun s hd h1 h2 h3 => ⟨s, h1, h2, h3, fun z => absurd z (by omega)⟩
        | succ d ih =>
          intro s hd h1 h2 h3
          cases k : mt u s with
          | false => exact ⟨s, h1, h2, h3, fun _ => k⟩
          | true =>
            refine ih (s + 1) (by omega) (by omega) (by omega) fun j hj => ?_
            rcases Nat.lt_or_ge j s with z | z
            · exact h3 j z
            · have : j = s := by omega
              rw [this]
              exact k
      exact go _ (ld u + 1) rfl (Nat.le_refl _) h hmono
    obtain ⟨s, s1, s2, s3, s4⟩ := this
    have := ld_eq s2 s3 s4
    omega
theorem ld_str {u : Wk} (h : Str u) (hn : u ≠ []) : ld u ≤ (u.length - 1) / 2 := by
  have hl := ld_le u
  have hp : 0 < u.length := List.length_pos_iff.mpr hn
  refine Nat.le_of_not_lt fun z => ?_
  -- then it is the half of an even number
  have e1 : ld u = u.length / 2 := by omega
  have e2 : u.length = 2 * (u.length / 2) := by omega
  have hj : u.length / 2 - 1 < ld u := by omega
  have k := ld_mt hj
  have l1 : u.length / 2 - 1 < u.length := by omega
  have l2 : u.length - 1 - (u.length / 2 - 1) < u.length := by omega
  rw [mt_of (List.getElem?_eq_getElem l1) (List.getElem?_eq_getElem l2)] at k
  have k2 := of_decide_eq_true k
  refine h (u.length / 2 - 1) _ (List.getElem?_eq_getElem l1) ?_
  have e3 : u.length / 2 - 1 + 1 = u.length - 1 - (u.length / 2 - 1) := by omega
  rw [e3, List.getElem?_eq_getElem l2, k2, Int.neg_neg]
def lead (u : Wk) : Wk := u.take (ld u)
def mid (u : Wk) : Wk := (u.drop (ld u)).take (u.length - ld u - ld u)
/-- so many steps ahead are those at the end turned back -/
theorem take_bk {u : Wk} {s : Nat} (hs : s ≤ u.length) : u.take s = bk (u.drop (u.length - s)) ↔ ∀ j, j < s → mt u j = true := by
  have len1 : (u.take s).length = s := by rw [List.length_take]; omega
  have len2 : (bk (u.drop (u.length - s))).length = s := by rw [bk_len, List.length_drop]; omega
  have at2 : ∀ j, j < s → (bk (u.drop (u.length - s)))[j]? = (u[u.length - 1 - j]?).map fun x => -x := fun j hj => by
    unfold bk
    rw [List.getElem?_reverse (by rw [List.length_map, List.length_drop]; omega), List.getElem?_map, List.length_map, List.length_drop, List.getElem?_drop]
    congr 2
    omega
  constructor
  · intro e j hj
    have l1 : j < u.length := by omega
    have l2 : u.length - 1 - j < u.length := by omega
    rw [mt_of (List.getElem?_eq_getElem l1) (List.getElem?_eq_getElem l2)]
    have k : (u.take s)[j]? = (bk (u.drop (u.length - s)))[j]? := by rw [e]
    rw [at2 j hj, List.getElem?_take, if_pos hj, List.getElem?_eq_getElem l1, List.getElem?_eq_getElem l2] at k
    exact decide_eq_true (Option.some.inj k)
  · intro h
    apply List.ext_getElem?
    intro j
    by_cases hj : j < s
    · have l1 : j < u.length := by omega
      have l2 : u.length - 1 - j < u.length := by omega
      have k := h j hj
      rw [mt_of (List.getElem?_eq_getElem l1) (List.getElem?_eq_getElem l2)] at k
      rw [at2 j hj, List.getElem?_take, if_pos hj, List.getElem?_eq_getElem l1, List.getElem?_eq_getElem l2, of_decide_eq_true k]
      rfl
    · rw [List.getElem?_eq_none (by omega), List.getElem?_eq_none (by omega)]
theorem take_bk_ld {u : Wk} {s : Nat} (hs : s ≤ u.length / 2) : (u.take s = bk (u.drop (u.length - s))) ↔ s ≤ ld u := by
  rw [take_bk (by omega)]
  constructor
  · intro h
    refine Nat.le_of_not_lt fun z => ?_
    have := ld_end (u := u) (by omega)
    rw [h (ld u) z] at this
    cases this
  · exact fun h j hj => ld_mt (by omega)
/-! ### once round -/
def Per (u : Wk) (l : Nat) : Prop := rep (u.length / l) (u.take l) = u
instance (u : Wk) (l : Nat) : Decidable (Per u l) := inferInstanceAs (Decidable (_ = _))
structure Om (u : Wk) (l : Nat) : Prop where
  pos : 1 ≤ l
  le : l ≤ u.length
  per : Per u l
  least : ∀ k, 1 ≤ k → k < l → ¬ Per u k
theorem per_full (u : Wk) (h : u ≠ []) : Per u u.length := by
  unfold Per
  rw [Nat.div_self (List.length_pos_iff.mpr h), List.take_length, rep_one]
theorem per_len {u : Wk} {l : Nat} (h : Per u l) (hl : l ≤ u.length) : u.length / l * l = u.length := by
  have e := congrArg List.length h
  rw [rep_len, List.length_take, Nat.min_eq_left hl] at e
  exact e
/-- so many times the part -/
def Tm (u : Wk) (t : Nat) : Prop := rep t (u.take (u.length / t)) = u
theorem tm_one (u : Wk) : Tm u 1 := by
  unfold Tm
  rw [Nat.div_one, List.take_length, rep_one]
theorem om_tm {u : Wk} {l : Nat} (h : Om u l) : Tm u (u.length / l) ∧ u.length / (u.length / l) = l ∧ 1 ≤ u.length / l ∧ u.length / l ≤ u.length := by
  have e := per_len h.per h.le
  have hp := h.pos
  have h1 : 1 ≤ u.length / l := Nat.div_pos h.le hp
  have e2 : u.length / (u.length / l) = l := by
    apply Nat.div_eq_of_eq_mul_right h1
    exact e.symm
  refine ⟨?_, e2, h1, Nat.div_le_self _ _⟩
  unfold Tm
  rw [e2]
  exact h.per
theorem tm_le {u : Wk} {l t : Nat} (h : Om u l) (ht : Tm u t) (h1 : 1 ≤ t) (h2 : t ≤ u.length) : t ≤ u.length / l := by
  have e : t * (u.length / t) = u.length := by
    have k := congrArg List.length ht
    rw [rep_len, List.length_take, Nat.min_eq_left (Nat.div_le_self _ _)] at k
    exact k
  have hl : 1 ≤ u.length / t := Nat.div_pos h2 h1
  have ht2 : u.length / (u.length / t) = t := by
    apply Nat.div_eq_of_eq_mul_right hl
    rw [Nat.mul_comm]
    exact e.symm
  have hp : Per u (u.length / t) := by
    unfold Per
    rw [ht2]
    exact ht
  have hge : l ≤ u.length / t := Nat.le_of_not_lt fun z => h.least _ hl z hp
  have hp2 := h.pos
  rw [← ht2]
  exact Nat.div_le_div_left hge hp2
end Fg
/-! what the words of several laws say -/
namespace L2
open PySem PySem.Spec PyProof.Rows Evl
/-- steps of so many letters -/
def Stp (l : Int) (ns : List Int) : Prop := ∀ x ∈ ns, x ≠ 0 ∧ -l ≤ x ∧ x ≤ l
theorem bk_rev (ns : List Int) : Fg.bk ns = ns.reverse.map fun x => -x := by unfold Fg.bk; rw [List.map_reverse]
theorem bk_get {ns : List Int} {k : Nat} {x y : V} (hx : ((ns.map V.int).reverse)[k]? = some x) (hy : ((Fg.bk ns).map V.int)[k]? = some y) : ∃ z, x = .int z ∧ y = .int (-z) := by
  rw [← List.map_reverse, List.getElem?_map] at hx
  rw [List.getElem?_map, bk_rev, List.getElem?_map] at hy
  cases hn : ns.reverse[k]? with
  | none => rw [hn] at hx; cases hx
  | some z =>
    rw [hn] at hx hy
    cases hx
    cases hy
    exact ⟨z, rfl, rfl⟩
/-- the walk so many times, back for a number below 0 -/
def pw (ns : List Int) (k : Int) : List Int := Fg.rd (Fg.rep k.natAbs (if 0 ≤ k then ns else Fg.bk ns))
theorem abs_if (k : Int) : (if k < 0 then -k else k) = ((k.natAbs : Nat) : Int) := by
  split <;> omega
theorem stp_of_mem {l : Int} {ns ms : List Int} (h : Stp l ns) (k : ∀ x ∈ ms, x ∈ ns) : Stp l ms := fun x hx => h x (k x hx)
theorem given_ints (m : Nat) (f : Nat → Bool) : given m f (fun i => V.int (0 + (i : Int))) = (((List.range m).filter f).map fun i => ((i : Nat) : Int)).map V.int := by
  unfold given
  rw [List.map_map]
  congr 1
  funext i
  show V.int (0 + (i : Int)) = V.int (i : Int)
  rw [Int.zero_add]
theorem pw_rd (ns : List Int) (k : Int) : pw (Fg.rd ns) k = pw ns k := by
  unfold pw
  split
  · exact Fg.rd_rep_rd ns _
  · rw [← Fg.rd_bk]
    exact Fg.rd_rep_rd _ _
theorem pw_zero (ns : List Int) : pw ns 0 = [] := rfl
theorem pw_one (ns : List Int) : pw ns 1 = Fg.rd ns := by
  show Fg.rd (Fg.rep 1 ns) = Fg.rd ns
  rw [Fg.rep_one]
theorem pw_nil (k : Int) : pw [] k = [] := by
  unfold pw
  have e : (if 0 ≤ k then ([] : List Int) else Fg.bk []) = [] := by split <;> rfl
  rw [e, Fg.rep_nil]
  rfl
theorem stp_rd {ns : List Int} (h : Stp 4 ns) : Stp 4 (Fg.rd ns) := fun x hx => h x (Fg.mem_rd hx)
theorem stp_bk {ns : List Int} (h : Stp 4 ns) : Stp 4 (Fg.bk ns) := fun x hx => by
  have := h _ (Fg.mem_bk hx)
  omega
theorem stp_pw {ns : List Int} {k : Int} (h : Stp 4 ns) : Stp 4 (pw ns k) := by
  unfold pw
  refine stp_rd fun x hx => ?_
  have := Fg.mem_rep hx
  split at this
  · exact h x this
  · exact stp_bk h x this
theorem str_pw (ns : List Int) (k : Int) : Fg.Str (pw ns k) := Fg.str_rd _
theorem pw_len {ns : List Int} {k : Int} (h : ns.length ≤ 60) (hlo : -20 ≤ k) (hhi : k ≤ 20) : (pw ns k).length ≤ 1200 := by
  unfold pw
  refine Nat.le_trans (Fg.rd_len _) ?_
  rw [Fg.rep_len]
  have e : (if 0 ≤ k then ns else Fg.bk ns).length ≤ 60 := by
    split
    · exact h
    · rw [Fg.bk_len]
      exact h
  exact Nat.le_trans (Nat.mul_le_mul (by omega : k.natAbs ≤ 20) e) (by decide)
theorem rd60 {ns : List Int} (h : ns.length ≤ 60) : (Fg.rd ns).length ≤ 60 := Nat.le_trans (Fg.rd_len ns) h
theorem stp_nil : Stp 4 [] := fun x hx => by cases hx
theorem stp_le {l : Int} {ns : List Int} (h : Stp l ns) (e : l ≤ 4) : Stp 4 ns := fun x hx => by
  have := h x hx
  omega
end L2
namespace L2
open PySem PySem.Spec PyProof.Rows Evl
section
variable {K : PySem.W.Frag} {σ : L2.St} {H H' : Hp} {Q : VK} {D : Ends} {te : TE} {a : Addr} {xs : List V}
def rAug (i : Nat) (x : V) (ti : TIp) (D : Ends) (σ : L2.St) (y : V) (H1 : Hp) : Prop := ti x y H1 fun z H2 => D.nx (σ.set i (some z)) H2
theorem st_aug {i : Nat} {x : V} {ti : TIp} (hx : σ[i]? = some (some x)) (h : te σ H fun y H1 => rAug i x ti D σ y H1) : tAug i te ti D σ H := ⟨x, hx, h⟩
theorem r_augI {i : Nat} {x y : Int} {f : Int → Int → Int} (h : D.nx (σ.set i (some (.int (f x y)))) H) : rAug i (.int x) (ipI f) D σ (.int y) H := ⟨x, y, rfl, rfl, h⟩
/-- a, b = t -/
theorem r_tup2 {i j : Nat} {x y : V} {R : L2.St → Hp → Prop} (h : SqT K H a [x, y]) (q : R ((σ.set i (some x)).set j (some y)) H) : gTup K 2 (gCons (gName i) (gCons (gName j) gNil)) (.ref a) σ H R := ⟨a, _, rfl, h, rfl, x, [y], rfl, y, [], rfl, rfl, q⟩
theorem at_negI {ns : List Int} {k : Nat} {x : Int} (hk : k < ns.length) (hx : ns[ns.length - 1 - k]? = some x) : atI (ns.map V.int) (-1 - (k : Int)) = some (.int x) := by
  have e : ixN (ns.map V.int).length (-1 - (k : Int)) = some (ns.length - 1 - k) := by
    unfold ixN
    rw [List.length_map, if_neg (by omega), if_pos (by omega)]
    congr 1
    omega
  unfold atI
  rw [e]
  show (ns.map V.int)[ns.length - 1 - k]? = _
  rw [List.getElem?_map, hx]
  rfl
theorem cut_mid {ns : List Int} {lo hi : Int} (h0 : 0 ≤ lo) (h1 : 0 ≤ hi) (h2 : hi ≤ ns.length) : cutV (ns.map V.int) (some lo) (some hi) = ((ns.drop lo.toNat).take (hi.toNat - lo.toNat)).map V.int := by
  rw [cut_map, sIx_int h0, sIx_int h1]
  congr 1
  rw [Nat.min_eq_left (by omega : hi.toNat ≤ ns.length)]
  by_cases h : lo.toNat ≤ ns.length
  · rw [Nat.min_eq_left h]
  · rw [Nat.min_eq_right (by omega), List.drop_of_length_le (Nat.le_refl _), List.drop_of_length_le (by omega)]
    simp
theorem r_eqB {x y : Bool} (q : Q (.bl (decide (x = y))) H) : rEqU K (.bl x) (.bl y) H Q := .inl ⟨rfl, by
  have e : decide ((V.bl x) = V.bl y) = decide (x = y) := by simp
  rw [e]
  exact q⟩
/-- a tuple of two walks -/
structure P2 (K : PySem.W.Frag) (H : Hp) (q : Addr) (u v : List Int) : Prop where
  ex : ∃ a b, SqT K H q [.ref a, .ref b] ∧ IT K H a u ∧ IT K H b v
theorem P2.mono {q : Addr} {u v : List Int} (h : P2 K H q u v) (e : Ex H H') : P2 K H' q u v := by
  obtain ⟨a, b, h1, h2, h3⟩ := h.ex
  exact ⟨a, b, ex_t e h1, ex_t e h2, ex_t e h3⟩
/-- a tuple of a walk and a number -/
structure P1N (K : PySem.W.Frag) (H : Hp) (q : Addr) (u : List Int) (t : Int) : Prop where
  ex : ∃ a, SqT K H q [.ref a, .int t] ∧ IT K H a u
theorem P1N.mono {q : Addr} {u : List Int} {t : Int} (h : P1N K H q u t) (e : Ex H H') : P1N K H' q u t := by
  obtain ⟨a, h1, h2⟩ := h.ex
  exact ⟨a, ex_t e h1, ex_t e h2⟩
/-- the tuples stay -/
def TX (H H' : Hp) : Prop := ∀ a xs, H a = some (.tup xs) ∨ (∃ o, H a = some (.frz o (.tup xs))) → H' a = H a
theorem TX.refl (H : Hp) : TX H H := fun _ _ _ => rfl
theorem TX.trans {H H1 H2 : Hp} (a : TX H H1) (b : TX H1 H2) : TX H H2 := fun x xs h => by
  have e := a x xs h
  rw [← e] at h
  rw [b x xs h, e]
theorem TX.of (e : Ex H H') : TX H H' := fun a xs h => by
  rcases h with h | ⟨o, h⟩
  · rw [h, e _ _ h]
  · rw [h, e _ _ h]
theorem TX.w {w : Addr} {n : Nat} (e : ExW w H H') (k : Well H w n) : TX H H' := fun a xs h => by
  obtain ⟨_, _, _, h1, _⟩ := k.ex
  rcases h with h | ⟨o, h⟩
  · rw [h, e _ _ h (ne_of h h1 (by intro z; cases z))]
  · rw [h, e _ _ h (ne_of h h1 (by intro z; cases z))]
theorem tx_t (e : TX H H') (h : SqT K H a xs) : SqT K H' a xs := by
  rcases h with (h | ⟨o, h⟩) | h
  · exact .inl (.inl (by rw [e _ _ (.inl h)]; exact h))
  · exact .inl (.inr ⟨o, by rw [e _ _ (.inr ⟨o, h⟩)]; exact h⟩)
  · exact .inr h
theorem DrS.tx {w : Addr} {n k : Nat} (h : DrS w H n H') (h0 : Well H w k) : TX H H' := .w h.ex h0
end
theorem str_one (x : Int) : Fg.Str [x] := Fg.str_snoc (u := []) Fg.str_nil (by simp)
theorem om_unique {u : List Int} {l k : Nat} (h1 : Fg.Om u l) (h2 : Fg.Om u k) : l = k := by
  rcases Nat.lt_trichotomy l k with h | h | h
  · exact absurd h1.per (h2.least l h1.pos h)
  · exact h
  · exact absurd h2.per (h1.least k h2.pos h)
/-- what the root of a straight walk is -/
def RootIs (ns u : List Int) (t : Int) : Prop := (Fg.mid ns = [] ∧ u = [] ∧ t = 0) ∨ (Fg.mid ns ≠ [] ∧ ∃ l, Fg.Om (Fg.mid ns) l ∧ u = Fg.lead ns ++ (Fg.mid ns).take l ++ Fg.bk (Fg.lead ns) ∧ t = (((Fg.mid ns).length / l : Nat) : Int))
theorem rootIs_unique {ns u v : List Int} {t s : Int} (h1 : RootIs ns u t) (h2 : RootIs ns v s) : u = v ∧ t = s := by
  rcases h1 with ⟨e1, rfl, rfl⟩ | ⟨n1, l, o1, rfl, rfl⟩
  · rcases h2 with ⟨_, rfl, rfl⟩ | ⟨n2, _⟩
    · exact ⟨rfl, rfl⟩
    · exact absurd e1 n2
  · rcases h2 with ⟨e2, _⟩ | ⟨n2, k, o2, rfl, rfl⟩
    · exact absurd e2 n1
    · have := om_unique o1 o2
      subst this
      exact ⟨rfl, rfl⟩
theorem lead_len (ns : List Int) : (Fg.lead ns).length ≤ ns.length := by
  unfold Fg.lead
  rw [List.length_take]
  exact Nat.min_le_right _ _
theorem mid_len (ns : List Int) : (Fg.mid ns).length ≤ ns.length := by
  unfold Fg.mid
  rw [List.length_take, List.length_drop]
  omega
theorem root_len {ns u : List Int} {t : Int} (h : RootIs ns u t) : u.length ≤ 3 * ns.length := by
  rcases h with ⟨_, rfl, _⟩ | ⟨_, l, _, rfl, _⟩
  · exact Nat.zero_le _
  · have h1 := lead_len ns
    have h2 := mid_len ns
    rw [List.length_append, List.length_append, Fg.bk_len, List.length_take]
    omega
end L2
/-! promises of defs that are entered where no text of an object is being written: repr of data can be told there -/
namespace L2
open PySem PySem.Spec PyProof.Rows
/-- no object's text is under way -/
def Quiet (A : Around) : Prop := A.guards = some []
structure FnG (P : Program) (w : World) (K : PySem.W.Frag) (mg : Str → Option Value) (base : Heap) (CX : CXT) (k : Nat) (f : Addr) (fd : FuncData) (ps : List Str) (sp : Sp) : Prop where
  len : ∀ xs H Q E, sp xs H Q E → xs.length = ps.length
  run : ∀ (A : Around), Quiet A → Room k A → ∀ (outer : List Env) (s : Shared) (H : Hp), Env0 P w K mg base A outer s H →
    ∀ (args : Args) (us : List Value) (xs : List V), BindsTo s fd args (ps.zip us) → Vals xs us → ∀ (Q : VK) (E : XK), sp xs H Q E →
    codeAny (model P w) A (.call (.ref f) args) (CR CX outer P w H s Q E) s
section
variable {P : Program} {w : World} {K : PySem.W.Frag} {mg : Str → Option Value} {base : Heap} {CX : CXT} {k : Nat} {f : Addr} {fd : FuncData} {ps : List Str} {sp : Sp}
theorem FnOk.quiet (F : FnOk P w K mg base CX k f fd ps sp) : FnG P w K mg base CX k f fd ps sp :=
  ⟨F.len, fun A _ hr outer s H e0 args us xs hb hv Q E h => F.run A outer s H args us xs Q E hr e0 hb hv h⟩
theorem FnG.room {j : Nat} (F : FnG P w K mg base CX j f fd ps sp) (h : j ≤ k) : FnG P w K mg base CX k f fd ps sp :=
  ⟨F.len, fun A g hr => F.run A g (hr.mono h)⟩
/-- a def of the text, by its body; nothing is being written where it is entered, so nothing is within -/
theorem fnG_of {name qual : Str} {params : Arguments} {body : List Stmt} {scope : Scope} {dV kV doc pm cdv ct oc : Value} {an od : Option Addr} {osl : Array (Option Value)} {N : List Str}
    (lk : K.lookup f = some ⟨oc, od, .func (PySem.W.fnOf name qual params body scope dV kV doc pm an cdv ct), osl⟩)
    (code : PySem.W.codeIn K cdv qual = true) (S : FnScope N ps scope) (len : ∀ xs H Q E, sp xs H Q E → xs.length = ps.length)
    (inner : ∀ (A : Around), Quiet (A.deeper (envOfC qual scope 0 f cdv)) → ∀ (outer : List Env) (s : Shared) (H : Hp) (xs : List V) (Q : VK) (E : XK),
      Room k (A.deeper (envOfC qual scope s.heap.objs.size f cdv)) → sp xs H Q E →
      ∃ t, PSs (cxOf CX P w K mg base N qual scope f cdv A outer s H E) body t ∧ t { nx := fun _ H' => Q .non H', rt := Q } (start N xs) H) :
    FnG P w K mg base CX (k + 1) f (PySem.W.fnOf name qual params body scope dV kV doc pm an cdv ct) ps sp := by
  refine ⟨len, fun A g hr outer s H e0 args us xs hb hv Q E hsp => ?_⟩
  have inK : K.In s.heap := e0.mod.kin.keeps fun c oc e => (e0.bs c oc e).1
  have nolim : s.heap.NoLimit := e0.mod.nolimit.keeps fun c oc e => (e0.bs c oc e).1
  refine codeAny_call_function hr.depth (inK _ _ lk) rfl S.co S.gen rfl (PySem.W.codeRec_of inK code) (hb _ _ _ _ ?_)
  refine wpAny_newFunctionEnv_cells S.kind ?kinds fun env he s1 x => ?_
  case kinds =>
    intro y hy
    cases S.par y.1 (List.of_mem_zip (show (y.1, y.2) ∈ ps.zip us from hy)).1 with
    | inl q => exact Or.inl q
    | inr q => exact Or.inr ⟨q, PySem.W.cellsFrom_some _ _ _ (Or.inl q)⟩
  cases he
  refine ⟨nolim.keeps x.toInCall.keep, codeAny_func ?_⟩
  have hd := inner A g outer s H xs Q E (hr.deeper _) hsp
  have I : Inv (cxOf CX P w K mg base N qual scope f cdv A outer s H E) [] (start N xs) H s1 :=
    inv_start S hr.hd e0 (len _ _ _ _ hsp) hv x
  have over : ∀ σ' H' v u s', Inv (cxOf CX P w K mg base N qual scope f cdv A outer s H E) [] σ' H' s' → RelV v u → Q v H' → CE outer P w H s Q u s' :=
    fun σ' H' v u s' J rv q => ⟨v, H', J.os, J.bare, J.base, J.hok, rv, q⟩
  obtain ⟨t, ht, hq⟩ := hd
  refine wpAny_mono (ht.run [] s1 (start N xs) H _ I hq) (fun fl s' hs => ?_) fun _ _ hs => hs
  match fl, hs with
  | .ret u, ⟨v, σ', H', J, rv, q⟩ => exact over σ' H' v u s' J rv q
  | .next, ⟨σ', H', J, q⟩ => exact over σ' H' .non .none s' J rfl q
  | .brk, ⟨_, _, _, q⟩ => exact False.elim q
  | .cont, ⟨_, _, _, q⟩ => exact False.elim q
end
section
variable {P : Program} {w : World} {K : PySem.W.Frag} {mg : Str → Option Value} {base : Heap}
theorem Fun.okG {x qual : Str} {st : Stmt} {f : Addr} {fd : FuncData} {N ps : List Str} {k : Nat} {sp : Sp} (F : Fun K x qual st f fd) (S : FnScope N ps (defScope st))
    (len : ∀ xs H Q E, sp xs H Q E → xs.length = ps.length)
    (inner : ∀ (cdv : Value) (A : Around) (outer : List Env) (s : Shared) (H : Hp) (xs : List V) (Q : VK) (E : XK),
      Quiet A → Room k (A.deeper (envOfC qual (defScope st) s.heap.objs.size f cdv)) → sp xs H Q E →
      ∃ t, PSs (cxOf CX0 P w K mg base N qual (defScope st) f cdv A outer s H E).nox (defBody st) t ∧ t { nx := fun _ H' => Q .non H', rt := Q } (start N xs) H) :
    FnG P w K mg base CX0 (k + 1) f fd ps sp := by
  obtain ⟨oc, od, kV, doc, pm, an, cdv, ct, osl, e, lk, code⟩ := F.ex
  subst e
  refine fnG_of lk code S len fun A g outer s H xs Q E hr hsp => ?_
  obtain ⟨t, body, q⟩ := inner cdv A outer s H xs Q E g hr hsp
  exact ⟨t, body.nox, q⟩
end
section
variable {X : Cx} {CX : CXT} {k : Nat} {f : Addr} {fd : FuncData} {ps : List Str} {sp : Sp} {dvs : List V} {ds : List Value} {E : XK} {x : Str} {p pos : Pos} {e : Expr} {es : List Expr} {t : TA}
/-- f(..) of such a def, from where nothing is being written -/
theorem pe_callG (F : FnG X.prog X.w X.K X.mg X.base CX k f fd ps sp) (g : Quiet X.A) (hr : Room k X.A) (hg : Gl X x) (hm : X.mg x = some (.ref f))
    (hk : PySem.W.keepIn X.K (.ref f) = true) (hb : Binds X.K fd ps ds) (hd : Vals dvs ds) (hx : Passes CX X E) (ha : PA X (e :: es) t)
    (hdb : (x == ("__debug__" : Str)) = false := by decide) (he : starEach (e :: es) X.env = (false, eval e X.env) :: starEach es X.env := by rfl)
    (hpl : (backTo pos (starEach es X.env)).any (·.1) = false := by rfl) :
    PE X (.Call (.Name x p) (e :: es) [] pos) (tCall sp dvs E t) := by
  constructor
  intro pins s σ H Q I h
  refine wpAny_Call_Name_kw (ld_glob I hg hm ?_ hdb)
  refine PySem.W.callWith_K (h₀ := X.base) I.ok.mod.kin hk (thn (ha.run pos pins s σ H _ I h) fun us s1 got => ?_) he hpl
  obtain ⟨xs, H1, J, r, q⟩ := got
  have r2 : Vals (xs ++ dvs) (us ++ ds) := r.append hd
  have hl : (us ++ ds).length = ps.length := r2.length.symm.trans (F.len _ _ _ _ q)
  refine ⟨J.kIn, wpAny_call (codeAny_mono (F.run X.A g hr X.stack s1 H1 J.env0 ⟨us, []⟩ (us ++ ds) (xs ++ dvs) (hb s1 us J.kIn hl) r2 Q E q) fun res s' hq => ?_)⟩
  match res, hq with
  | .error v, hq => exact hx pins σ H1 s1 v s' J hq
  | .ok (.ret u), hq => exact J.after hq
  | .ok .next, hq => exact False.elim hq
  | .ok .brk, hq => exact False.elim hq
  | .ok .cont, hq => exact False.elim hq
end
/-! ### the end -/
section
variable {P : Program} {w : World} {K : PySem.W.Frag} {mg mb : Str → Option Value} {CX : CXT} {k : Nat} {fa a : Addr} {fd : FuncData} {x : Str} {sp : Sp} {s₁ : Shared} {us : List Value} {ns : List Int}
/-- from a heap in which nothing but the script is tracked -/
theorem quiet_call (KX : K.In s₁.heap) (hns : s₁.heap.Ns mainGlobals mg) (hb : s₁.heap.Ns builtinsNs mb) (hbb : ∀ y : Str, y ≠ "__name__" → mb y = bootBuiltins y)
    (hlim : s₁.heap.NoLimit) (hg : s₁.gens = #[]) (hr : Room k callerA) (F : ∀ base : Heap, K.In base → base.Ns mainGlobals mg → FnG P w K mg base CX k fa fd [x] sp)
    (hbind : ∀ (s : Shared) (u : Value), BindsTo s fd ⟨[u], []⟩ [(x, u)]) (hCX : ∀ H e s', CX [] H s₁ (fun _ _ _ => False) e s' → False)
    (H : Hp) (hO : Only H) (hS : sp [.ref a] H (fun v _ => v = .bl true) fun _ _ _ => False) (hok : HOk P w H s₁.heap)
    (noA : ∀ c (o : Obj) es ep, s₁.heap.get? c = some o → o.data = .dict es ep → H c = none) (noK : ∀ c o, K.lookup c = some o → H c = none) :
    codeAny (model P w) callerA (.call (.ref fa) ⟨[.ref a], []⟩) (fun r s' => r = .ok (.ret (.bool true)) ∧ OldK s₁.heap s'.heap ∧ s'.os = s₁.os ∧ AllBare s'.gens) s₁ := by
  have shown : ∀ {c : Addr} {m : Str → Option Value}, s₁.heap.Ns c m → (hidT s₁.heap H).Ns c m := by
    rintro c m ⟨o, es, ep, e, d, r⟩
    exact ⟨o, es, ep, hidT_get e (noA c o es ep e d), d, r⟩
  have inK : K.In (hidT s₁.heap H) := fun c o e => hidT_get (KX c o e) (noK c o e)
  have lim : (hidT s₁.heap H).NoLimit := by
    obtain ⟨mc, q1, q2⟩ := hlim
    exact ⟨mc, shown q1, q2⟩
  have e0 : Env0 P w K mg (hidT s₁.heap H) callerA [] s₁ H :=
    { frames := rfl, mod := ⟨inK, shown hns, ⟨mb, shown hb, hbb⟩, lim⟩, bs := fun c o e => of_hidT e, bsz := Nat.le_of_eq (hidT_size _ _), funs := trivial,
      frf := fun c hc => (nomatch (show c ∈ ([] : List Addr) from hc)), hok := hok, bare := .of_eq hg }
  have go := (F _ inK (shown hns)).run callerA rfl hr [] s₁ H e0 ⟨[.ref a], []⟩ [.ref a] [.ref a] (hbind s₁ (.ref a)) (.cons rfl .nil) _ _ hS
  refine codeAny_mono go fun res s' h => ?_
  match res, h with
  | .error e, h => exact (hCX H e s' h).elim
  | .ok .next, h => exact False.elim h
  | .ok .brk, h => exact False.elim h
  | .ok .cont, h => exact False.elim h
  | .ok (.ret u), ⟨v, H', os, bare, un, hok', r', q⟩ =>
    cases (show v = .bl true from q)
    cases (show u = Value.bool true from r')
    refine ⟨rfl, OldK.of_keep fun c o e => ?_, os, bare⟩
    match q : H c with
    | none => exact un.keep c o e q (fun z => nomatch (show c ∈ ([] : List Addr) from z)) (by simp)
    | some u =>
      rcases hO c with z | ⟨ob, ys, z⟩
      · exact nomatch q.symm.trans z
      · obtain ⟨e2, _⟩ := hok' c _ (un.frzs c ob _ z)
        obtain ⟨e1, _⟩ := hok c _ z
        cases e.symm.trans e1
        exact e2
theorem law_quiet (KX : K.In s₁.heap) (hns : s₁.heap.Ns mainGlobals mg) (hb : s₁.heap.Ns builtinsNs mb) (hbb : ∀ y : Str, y ≠ "__name__" → mb y = bootBuiltins y)
    (hlim : s₁.heap.NoLimit) (hg : s₁.gens = #[]) (ha : s₁.heap.get? a = some { cls := .type "list", data := .seq us.toArray }) (hi : IntsAre us ns) (hl : ns.length ≤ sizeLine)
    (hr : Room k callerA) (F : ∀ base : Heap, K.In base → base.Ns mainGlobals mg → FnG P w K mg base CX k fa fd [x] sp)
    (hbind : ∀ (s : Shared) (u : Value), BindsTo s fd ⟨[u], []⟩ [(x, u)]) (hCX : ∀ H e s', CX [] H s₁ (fun _ _ _ => False) e s' → False)
    (hsp : ∀ H : Hp, Only H → SqL K H a (ns.map V.int) → sp [.ref a] H (fun v _ => v = .bl true) fun _ _ _ => False) :
    codeAny (model P w) callerA (.call (.ref fa) ⟨[.ref a], []⟩) (fun r s' => r = .ok (.ret (.bool true)) ∧ OldK s₁.heap s'.heap ∧ s'.os = s₁.os ∧ AllBare s'.gens) s₁ := by
  have rv := vals_ints hi
  have lz := hi.length
  have lz2 : (ns.map V.int).length ≤ sizeLine := by rw [List.length_map]; exact hl
  match hk : K.lookup a with
  | some o =>
    cases ha.symm.trans (KX a o hk)
    refine quiet_call KX hns hb hbb hlim hg hr F hbind hCX (fun _ => none) (fun _ => .inl rfl) (hsp _ (fun _ => .inl rfl) ?_) (fun c u z => nomatch z) (fun _ _ _ _ _ _ => rfl) fun _ _ _ => rfl
    exact .inr ⟨_, us.toArray, _, hk, rfl, rfl, rfl, by rw [List.size_toArray, lz]; exact hl, by simpa using rv⟩
  | none =>
    let o₁ : Obj := { cls := .type "list", data := .seq us.toArray }
    let H₁ : Hp := fun c => if c = a then some (.frz o₁ (.lst (ns.map V.int))) else none
    have at_a : H₁ a = some (.frz o₁ (.lst (ns.map V.int))) := if_pos rfl
    have off : ∀ c, c ≠ a → H₁ c = none := fun c h => if_neg h
    have only : Only H₁ := fun c => by
      by_cases h : c = a
      · cases h; exact .inr ⟨_, _, at_a⟩
      · exact .inl (off c h)
    refine quiet_call KX hns hb hbb hlim hg hr F hbind hCX H₁ only (hsp _ only (.inl (.inr ⟨o₁, at_a⟩))) (fun c u z => ?_) (fun c o es ep e d => ?_) fun c o e => ?_
    · by_cases h : c = a
      · cases h
        cases at_a.symm.trans z
        exact ⟨ha, lz2, us, _, rv, ha⟩
      · exact nomatch (off c h).symm.trans z
    · refine off c fun h => ?_
      cases h
      cases ha.symm.trans e
      exact nomatch (show Data.seq us.toArray _ = Data.dict es ep from d)
    · refine off c fun h => ?_
      cases h
      exact nomatch hk.symm.trans e
end
theorem walk_quiet {l : PySem.W.OpenLaw} {n k : Nat} {q : Program} {loose : List Str} {XP : (Str → Option Value) → Heap → Prop} {YP : World → Heap → Prop} {d : DefRec} {K : Params → PySem.W.Frag} {CX : World → CXT} {sp : World → Sp} {x : Str}
    (hn : l.most = some n) (hn2 : n ≤ sizeLine) (hdf : d.params.defaults = []) (hr : Room k callerA) (hY : ∀ (w : World) (h : Heap), YP w h → (K w.params).In h)
    (F : ∀ (w : World) (mg : Str → Option Value) (fa : Addr) (h : Heap), (K w.params).In h → h.Ns mainGlobals mg → mg d.name = some (.ref fa) → ∃ fd : FuncData,
      (∀ (s : Shared) (u : Value), BindsTo s fd ⟨[u], []⟩ [(x, u)]) ∧ ∀ base : Heap, (K w.params).In base → base.Ns mainGlobals mg → FnG l.prog w (K w.params) mg base (CX w) k fa fd [x] (sp w))
    (hsp : ∀ (w : World) (H : Hp) (a : Addr) (ns : List Int), ns.length ≤ n → Only H → SqL (K w.params) H a (ns.map V.int) → sp w [.ref a] H (fun v _ => v = .bl true) fun _ _ _ => False)
    (hCX : ∀ (w : World) (H : Hp) (s : Shared) (e : Value) (s' : Shared), CX w [] H s (fun _ _ _ => False) e s' → False) :
    PySem.W.WalkO q loose XP YP l.row.toRowW d [] (fun f vs => PySem.call f vs) := by
  refine Att.attach_call hn hdf fun w s₀ s₁ mg mb fa o pm cd doc a vs ns G Y ho hd hcd hmg hobj hints hlen hg => ?_
  have inK := hY w _ Y
  obtain ⟨fd, hb, hF⟩ := F w mg fa _ inK G.T.g hmg
  exact law_quiet inK G.T.g G.T.b G.T.builtins G.T.nolimit hg hobj hints (Nat.le_trans hlen hn2) hr hF hb (fun H e s' => hCX w H s₁ e s') fun H hO hS => hsp w H a ns hlen hO hS
/-! ### an expression cut off from what follows: both ways of a conditional expression come to one word -/
def tCutE (t : TE) : TE := fun σ H Q => ∃ M : VK, t σ H M ∧ ∀ x H1, M x H1 → Q x H1
theorem pe_cutE {X : Cx} {e : Expr} {t : TE} (h : PE X e t) : PE X e (tCutE t) := by
  constructor
  rintro pins s σ H Q I ⟨M, h1, h2⟩
  refine thn (h.run pins s σ H M I h1) fun v s1 got => ?_
  obtain ⟨x, H1, J, r, q⟩ := got
  exact ⟨x, H1, J, r, h2 x H1 q⟩
theorem st_cutE {t : TE} {σ : L2.St} {H : Hp} {Q : VK} (M : VK) (h : t σ H M) (k : ∀ x H1, M x H1 → Q x H1) : tCutE t σ H Q := ⟨M, h, k⟩
end L2
/-! what is walked in pairs and in threes: lists and tuples, mixed -/
namespace L2
open PySem PySem.Spec PyProof.Rows Evl
/-- a kind of sequence: how it stands in the abstract heap and in the heap, and its iterator -/
structure SK where
  Sq : PySem.W.Frag → Hp → Addr → List V → Prop
  Is : Heap → Addr → Array Value → Prop
  It : Heap → Addr → Addr → Nat → Prop
  o : Addr → Obj
  seen : ∀ {X : Cx} {pins : List (Addr × Obj)} {σ : L2.St} {H : Hp} {s : Shared} {a : Addr} {xs : List V}, Inv X pins σ H s → Sq X.K H a xs → ∃ its : List Value, Vals xs its ∧ Is s.heap a its.toArray
  one : ∀ {X : Cx} {pins : List (Addr × Obj)} {σ : L2.St} {H : Hp} {s : Shared} {a : Addr} {xs ys : List V}, Inv X pins σ H s → Sq X.K H a xs → Sq X.K H a ys → xs = ys
  lt : ∀ {h : Heap} {a : Addr} {its : Array Value}, Is h a its → a < h.objs.size
  draws : ∀ {P : Program} {w : World} {A : Around} (_ : A.handled = none) (it a : Addr) (_ : a ≠ it) (its : Array Value), Draws P w A it [it, a] its.size (fun i v => its[i]? = some v) (fun i h => It h it a i ∧ Is h a its)
  begins : ∀ (a : Addr) (its : Array Value), Begins (.ref a) (o a) fun h => Is h a its
  it0 : ∀ {h : Heap} {it a : Addr}, h.get? it = some (o a) → It h it a 0
  live : ∀ {h : Heap} {it a : Addr} {i : Nat}, It h it a i → ∃ ob, h.get? it = some ob ∧ ∀ v, ob.data ≠ .cell v
  keep : ∀ {h h' : Heap} {it a : Addr} {i : Nat}, It h it a i → (∀ ob, h.get? it = some ob → h'.get? it = some ob) → It h' it a i
def skL : SK where
  Sq := SqL
  Is := fun h a its => h.IsList a its
  It := fun h it a i => h.IsListIter it a i
  o := fun a => { cls := .type "list_iterator", data := .fields #[.ref a, .int 0 0] }
  seen := fun I q => let ⟨its, rv, p, _⟩ := I.list q; ⟨its, rv, p.isList⟩
  one := fun I q r => I.list_inj q r
  lt := fun h => let ⟨_, e, _⟩ := h; Heap.lt_size e
  draws := fun hh it a hne its => Draws.list hh it a hne its
  begins := fun a its => begins_list a its
  it0 := fun e => ⟨_, e, rfl, rfl⟩
  live := fun h => let ⟨ob, e, _, d⟩ := h; ⟨ob, e, fun v q => nomatch d.symm.trans q⟩
  keep := fun h k => h.at k
def skT : SK where
  Sq := SqT
  Is := fun h a its => h.IsTuple a its
  It := fun h it a i => h.IsTupleIter it a i
  o := fun a => { cls := .type "tuple_iterator", data := .fields #[.ref a, .int 0 0] }
  seen := fun I q => let ⟨its, rv, p, _⟩ := I.tuple q; ⟨its, rv, p⟩
  one := fun I q r => I.tuple_inj q r
  lt := fun h => let ⟨_, e, _⟩ := h; Heap.lt_size e
  draws := fun hh it a hne its => Draws.tuple hh it a hne its
  begins := fun a its => begins_tuple a its
  it0 := fun e => ⟨_, e, rfl, rfl⟩
  live := fun h => let ⟨ob, e, _, d⟩ := h; ⟨ob, e, fun v q => nomatch d.symm.trans q⟩
  keep := fun h k => h.at k
/-- the items, counted from k0, in new pairs -/
def ItE (k : SK) (K : PySem.W.Frag) (k0 : Int) (a : Addr) : It where
  go := fun i H => ∃ (xs : List V) (x : V), k.Sq K H a xs ∧ xs[i]? = some x
  yld := fun i H v H' => ∃ T x, v = .ref T ∧ H T = none ∧ H' = upd H T (.tup [.int (k0 + (i : Int)), x]) ∧ ∀ xs, k.Sq K H a xs → xs[i]? = some x
  stop := fun i H => ∃ xs : List V, k.Sq K H a xs ∧ xs.length = i
/-- a new tuple, the iterators' cells turned -/
theorem Inv.pairNew {X : Cx} {pins : List (Addr × Obj)} {σ : L2.St} {H : Hp} {s : Shared} {h' : Heap} {tk : Nat} {ch : List Addr} {T : Addr} {xs : List V} {us : List Value} (I : Inv X pins σ H s)
    (hk : ∀ b o, b ∉ ch → s.heap.get? b = some o → h'.get? b = some o) (hf : ∀ b ∈ ch, FpOk X pins H b) (hT : s.heap.objs.size ≤ T) (hz : xs.length ≤ 100) (rv : Vals xs us) (ht : h'.IsTuple T us.toArray) :
    Inv X pins σ (upd H T (.tup xs)) { s with heap := h', toks := tk } :=
  I.turnedNew (t' := tk) (ch := ch) hk hf hT ⟨Nat.le_trans hz (by decide), us, rv, ht⟩
theorem turn_enumE {P : Program} {w : World} {K : PySem.W.Frag} {elts : List Expr} {kk : Nat} {tpos : Pos} (k : SK) (k0 : Int) (a e it : Addr) :
    Turn P w K (.Tuple elts kk tpos) (ItE k K k0 a) [e, it] e (fun i h => (∃ old, IsEnum h e it (k0 + (i : Int)) old) ∧ k.It h it a i ∧ e ≠ it ∧ a ≠ it ∧ e ≠ a) where
  mem := List.mem_cons_self ..
  obj := by
    rintro i h ⟨⟨old, he⟩, hi, _⟩ b hb
    rcases List.mem_cons.mp hb with z | hb
    · subst z; exact ⟨_, he, fun v q => nomatch q⟩
    · cases List.mem_singleton.mp hb
      exact k.live hi
  keep := by
    rintro i h h' ⟨⟨old, he⟩, hi, hne⟩ q
    exact ⟨⟨old, q e (List.mem_cons_self ..) _ he⟩, k.keep hi fun o z => q it (List.mem_cons_of_mem _ (List.mem_cons_self ..)) o z, hne⟩
  item := by
    intro X hP hw hK hc i pins s σ H E I hf st hg
    cases hP; cases hw; cases hK
    obtain ⟨⟨old, he⟩, hi, n1, n2, n3⟩ := st
    obtain ⟨xs, x, hq, hx⟩ := hg
    obtain ⟨its, rv, p⟩ := k.seen I hq
    obtain ⟨u, hu, ru⟩ := rv.get hx
    have hlt : i < its.toArray.size := by
      obtain ⟨z, _⟩ := List.getElem?_eq_some_iff.mp hu
      simpa using z
    have D := k.draws (P := X.prog) (w := X.w) (A := X.A.in1) (I.ok.hd hc) it a n2 its.toArray
    have W := GoesN.enumFrom (elts := elts) (x1 := kk) (pos := tpos) k0 D e n1 (by simp [n1, n3]) (List.mem_cons_self ..)
    refine W.goes i s _ E hlt ⟨⟨old, he⟩, hi, p⟩ fun v h' tk hY hS hk _ => ?_
    obtain ⟨T, t, y, rfl, hT, hy, ht⟩ := hY
    have hy' : its[i]? = some y := by simpa using hy
    cases hu.symm.trans hy'
    have el : e < s.heap.objs.size := Heap.lt_size he
    have il : it < s.heap.objs.size := by obtain ⟨ob, z, _⟩ := k.live hi; exact Heap.lt_size z
    refine ⟨.ref T, _, I.pairNew (ch := [e, it]) (xs := [.int (k0 + (i : Int)), x]) hk hf hT (show 2 ≤ 100 by decide) (.cons ⟨t, rfl⟩ (.cons ru .nil)) ht, rfl, ⟨T, x, rfl, I.hok.fresh hT, rfl, fun ys hys => by rw [k.one I hys hq]; exact hx⟩, ⟨?_, hS.2.1, n1, n2, n3⟩, fun b hb => ?_⟩
    · exact hS.1
    · have bl : b < s.heap.objs.size := by
        rcases List.mem_cons.mp hb with z | hb
        · exact z ▸ el
        · exact (List.mem_singleton.mp hb) ▸ il
      rw [upd_ne (Nat.ne_of_lt (Nat.lt_of_lt_of_le bl hT))]
      exact (hf b hb).1
  done := by
    intro X hP hw hK hc i pins s σ H E I hf st hg
    cases hP; cases hw; cases hK
    obtain ⟨⟨old, he⟩, hi, n1, n2, n3⟩ := st
    obtain ⟨xs, hq, rfl⟩ := hg
    obtain ⟨its, rv, p⟩ := k.seen I hq
    have D := k.draws (P := X.prog) (w := X.w) (A := X.A.in1) (I.ok.hd hc) it a n2 its.toArray
    have W := GoesN.enumFrom (elts := elts) (x1 := kk) (pos := tpos) k0 D e n1 (by simp [n1, n3]) (List.mem_cons_self ..)
    have hl : its.toArray.size = xs.length := by rw [List.size_toArray, rv.length]
    exact W.stops s (fun s1 => Inv X pins σ H s1) E (by rw [hl]; exact ⟨⟨old, he⟩, hi, p⟩) fun h' tk hk _ => I.turnedL (t' := tk) hk hf
  self := fun A i s Q E st h => let ⟨⟨_, he⟩, _⟩ := st; wpAny_pyIter_enum he h

/-! ### the call of enumerate -/
theorem enum1_typeCall (v : Value) : checkTypeCall "enumerate" ⟨[v], []⟩ = pure () := F.typeCall_enumerate_1 v
set_option maxHeartbeats 1000000 in
theorem enum1_meets {v : Value} {o : Obj} {G : Heap → Prop} (B : Begins v o G) :
    Meets (Builtin.«enumerate.__new__» ⟨[.type "enumerate", v], []⟩) (fun _ R s => G s.heap ∧
      R (.ok (.ret (.ref (s.heap.push o).objs.size)))
        { s with heap := (s.heap.push o).push { cls := .type "enumerate", data := .fields #[.none, .bool false, .ref s.heap.objs.size, rawInt 0, .none, .none] } }) := by
  refine .of_wp fun prog w A R s hs => ?_
  obtain ⟨hp, gens, drawn, tk, os⟩ := s
  obtain ⟨hG, hR⟩ := hs
  have hsub := sub_enumerate
  have q1 : ∀ {A' : Around} {E' : Value → Shared → Prop} {R' : Value → Shared → Prop}, R' (.ref hp.objs.size) ⟨hp.push o, gens, drawn, tk, os⟩ → wpAny (model prog w) A' (pyIter v) R' E' ⟨hp, gens, drawn, tk, os⟩ :=
    fun q => B.iter prog w _ _ ⟨hp, gens, drawn, tk, os⟩ _ hG q
  wp_walk using q1
  refine wpAny_stack_any fun st => wpAny_pure ?_
  split
  · rename_i c _ _ _ _ _
    cases (c == Value.type "enumerate")
    all_goals
      wp_walk using q1
      exact ⟨_, rfl, hR⟩
  · wp_walk using q1
    exact ⟨_, rfl, hR⟩
section
variable {prog : Program} {w : World} {A : Around} {E : Value → Shared → Prop} {s : Shared}
theorem enum1_call {v : Value} {o : Obj} {G : Heap → Prop} {Q : Value → Shared → Prop} (B : Begins v o G) (hG : G s.heap)
    (h : ∀ h', IsEnum h' (s.heap.objs.size + 1) s.heap.objs.size 0 .none → h'.get? s.heap.objs.size = some o →
      (∀ b ob, s.heap.get? b = some ob → h'.get? b = some ob) → Q (.ref (s.heap.objs.size + 1)) { s with heap := h' }) :
    wpAny (model prog w) A (call (.type "enumerate") [v]) Q E s := by
  refine callType_new F.called_enumerate (by decide) (enum1_typeCall _) (F.newCall_enumerate_1 _) (fun ob => F.args_object_init_2 ob _) F.entry_enumerate_new (enum1_meets B) ⟨hG, ?_⟩
  have z1 : (s.heap.push o).objs.size = s.heap.objs.size + 1 := Heap.size_push ..
  let oe : Obj := { cls := .type "enumerate", data := .fields #[.none, .bool false, .ref s.heap.objs.size, rawInt 0, .none, .none] }
  have he : ((s.heap.push o).push oe).get? (s.heap.push o).objs.size = some oe := Heap.get?_push_size (s.heap.push o) rfl
  rw [z1] at he
  show _ ∧ _
  rw [z1]
  exact ⟨⟨oe, he, rfl⟩, h _ he (Heap.get?_push_of_some _ (Heap.get?_push_size _ B.free)) fun b ob e => Heap.get?_push_of_some _ (Heap.get?_push_of_some _ e)⟩
end
def iEnumE (k : SK) (K : PySem.W.Frag) (ta : TA) : TI := fun σ H R => ta σ H fun vs H1 => ∃ a xs, vs = [.ref a] ∧ k.Sq K H1 a xs ∧ R (ItE k K 0 a) H1
theorem pi_enumE {X : Cx} (K : PySem.W.Frag) (k : SK) {e : Expr} {ta : TA} {p pos tpos : Pos} {elts : List Expr} {kk : Nat} (hg : Gl X "enumerate") (hm : X.mg "enumerate" = none) (ha : PA X [e] ta)
    (hs : starEach [e] X.env = [(false, eval e X.env)] := by rfl) (h : X.K = K := by rfl) :
    PI X (.Tuple elts kk tpos) (.Call (.Name "enumerate" p) [e] [] pos) (iEnumE k K ta) := by
  cases h
  constructor
  intro pins s σ H R I h
  refine Call_ (ld_blt I hg hm boot_enumerate (PyProof.Rows.callWith_type1 (thn (ha.run pos pins s σ H _ I h) fun us s1 got => ?_) hs rfl))
  obtain ⟨vs, H1, J, r, a, xs, ex, hq, q⟩ := got
  subst ex
  obtain ⟨u, rfl, ru⟩ : ∃ u, us = [u] ∧ u = Value.ref a := by
    cases r with
    | cons r0 rr =>
      cases rr
      exact ⟨_, rfl, r0⟩
  subst ru
  obtain ⟨its, rv, p'⟩ := k.seen J hq
  have al := k.lt p'
  refine enum1_call (k.begins a its.toArray) p' fun h' he hi hk => wpAny_pyIter_enum he ?_
  refine ⟨s1.heap.objs.size + 1, [s1.heap.objs.size + 1, s1.heap.objs.size], _, _, H1, rfl, J.kept (t' := s1.toks) hk, turn_enumE k 0 a (s1.heap.objs.size + 1) s1.heap.objs.size,
    ⟨⟨.none, he⟩, k.it0 hi, Nat.succ_ne_self _, Nat.ne_of_lt al, Nat.ne_of_gt (Nat.lt_succ_of_lt al)⟩, fun b hb => ?_, q⟩
  have hle : s1.heap.objs.size ≤ b := by
    rcases List.mem_cons.mp hb with z | hb
    · exact z ▸ Nat.le_succ _
    · exact (List.mem_singleton.mp hb) ▸ Nat.le_refl _
  exact J.fpOk hle (J.hok.fresh hle)

/-! ### three beside one another -/
def ItZ3 (k1 k2 k3 : SK) (K : PySem.W.Frag) (a b c : Addr) : It where
  go := fun i H => ∃ (xs ys zs : List V) (x y z : V), (k1.Sq K H a xs ∧ k2.Sq K H b ys ∧ k3.Sq K H c zs) ∧ xs[i]? = some x ∧ ys[i]? = some y ∧ zs[i]? = some z
  yld := fun i H v H' => ∃ T x y z, v = .ref T ∧ H T = none ∧ H' = upd H T (.tup [x, y, z]) ∧ (∀ xs, k1.Sq K H a xs → xs[i]? = some x) ∧ (∀ ys, k2.Sq K H b ys → ys[i]? = some y) ∧ ∀ zs, k3.Sq K H c zs → zs[i]? = some z
  stop := fun i H => ∃ xs ys zs : List V, (k1.Sq K H a xs ∧ k2.Sq K H b ys ∧ k3.Sq K H c zs) ∧ min (min xs.length ys.length) zs.length = i
structure Z3 (k1 k2 k3 : SK) (z TI TO i1 i2 i3 a b c : Addr) (i : Nat) (h : Heap) : Prop where
  zp : IsZip h z TI TO .none
  its : IsTupOf3 h TI (.ref i1) (.ref i2) (.ref i3)
  outs : ∃ v1 v2 v3, IsTupOf3 h TO v1 v2 v3
  one : k1.It h i1 a i
  two : k2.It h i2 b i
  three : k3.It h i3 c i
theorem mem6 {b z t o x y u : Addr} (h : b ∈ [z, t, o, x, y, u]) : b = z ∨ b = t ∨ b = o ∨ b = x ∨ b = y ∨ b = u := by simpa using h
theorem Z3.lt {k1 k2 k3 : SK} {z TI TO i1 i2 i3 a b c : Addr} {i : Nat} {h : Heap} (t : Z3 k1 k2 k3 z TI TO i1 i2 i3 a b c i h) : ∀ q ∈ [z, TI, TO, i1, i2, i3], q < h.objs.size := fun q hq => by
  obtain ⟨v1, v2, v3, ho⟩ := t.outs
  rcases mem6 hq with e | e | e | e | e | e
  · exact e ▸ Heap.lt_size t.zp
  · exact e ▸ Heap.lt_size t.its
  · exact e ▸ Heap.lt_size ho
  · obtain ⟨o, g, _⟩ := k1.live t.one
    exact e ▸ Heap.lt_size g
  · obtain ⟨o, g, _⟩ := k2.live t.two
    exact e ▸ Heap.lt_size g
  · obtain ⟨o, g, _⟩ := k3.live t.three
    exact e ▸ Heap.lt_size g
theorem turn_zip3 {P : Program} {w : World} {K : PySem.W.Frag} {elts : List Expr} {kk : Nat} {tpos : Pos} (k1 k2 k3 : SK) {z TI TO i1 i2 i3 a b c : Addr} (S : ZipSep3 z TI TO i1 i2 i3 [i1, a] [i2, b] [i3, c])
    (n1 : a ≠ i1) (n2 : b ≠ i2) (n3 : c ≠ i3) :
    Turn P w K (.Tuple elts kk tpos) (ItZ3 k1 k2 k3 K a b c) [z, TI, TO, i1, i2, i3] z (Z3 k1 k2 k3 z TI TO i1 i2 i3 a b c) where
  mem := List.mem_cons_self ..
  obj := fun i h t q hq => by
    obtain ⟨v1, v2, v3, ho⟩ := t.outs
    rcases mem6 hq with e | e | e | e | e | e
    · exact e ▸ ⟨_, t.zp, fun v q => nomatch q⟩
    · exact e ▸ ⟨_, t.its, fun v q => nomatch q⟩
    · exact e ▸ ⟨_, ho, fun v q => nomatch q⟩
    · exact e ▸ k1.live t.one
    · exact e ▸ k2.live t.two
    · exact e ▸ k3.live t.three
  keep := fun i h h' t q => by
    obtain ⟨v1, v2, v3, ho⟩ := t.outs
    have m : ∀ d, d ∈ [z, TI, TO, i1, i2, i3] → ∀ o, h.get? d = some o → h'.get? d = some o := q
    exact ⟨m z (by simp) _ t.zp, m TI (by simp) _ t.its, ⟨v1, v2, v3, m TO (by simp) _ ho⟩, k1.keep t.one (m i1 (by simp)), k2.keep t.two (m i2 (by simp)), k3.keep t.three (m i3 (by simp))⟩
  item := by
    intro X hP hw hK hc i pins s σ H E I hf t hg
    cases hP; cases hw; cases hK
    obtain ⟨xs, ys, zs, x, y, u, ⟨qa, qb, qc⟩, hx, hy, hu⟩ := hg
    obtain ⟨as, ra, pa⟩ := k1.seen I qa
    obtain ⟨bs, rb, pb⟩ := k2.seen I qb
    obtain ⟨cs, rc, pc⟩ := k3.seen I qc
    obtain ⟨u1, g1, r1⟩ := ra.get hx
    obtain ⟨u2, g2, r2⟩ := rb.get hy
    obtain ⟨u3, g3, r3⟩ := rc.get hu
    have W := GoesN.zip3 (elts := elts) (x1 := kk) (pos := tpos) S (k1.draws (P := X.prog) (w := X.w) (A := X.A.in1) (I.ok.hd hc) i1 a n1 as.toArray) (k2.draws (A := X.A.in1) (I.ok.hd hc) i2 b n2 bs.toArray) (k3.draws (A := X.A.in1) (I.ok.hd hc) i3 c n3 cs.toArray)
    have l1 := (List.getElem?_eq_some_iff.mp g1).1
    have l2 := (List.getElem?_eq_some_iff.mp g2).1
    have l3 := (List.getElem?_eq_some_iff.mp g3).1
    have hlt : i < min (min as.toArray.size bs.toArray.size) cs.toArray.size := by
      rw [List.size_toArray, List.size_toArray, List.size_toArray]
      omega
    have sub : ∀ q ∈ [z, TO, i1, i2, i3], q ∈ [z, TI, TO, i1, i2, i3] := fun q hq => by
      have e : q = z ∨ q = TO ∨ q = i1 ∨ q = i2 ∨ q = i3 := by simpa using hq
      rcases e with e | e | e | e | e <;> (rw [e]; simp)
    refine W.goes i s _ E hlt ⟨t.zp, t.its, t.outs, ⟨t.one, pa⟩, ⟨t.two, pb⟩, ⟨t.three, pc⟩⟩ fun v h' tk hY hS hk _ => ?_
    obtain ⟨T, w1, w2, w3, rfl, hT, e1, e2, e3, ht⟩ := hY
    have e1' : as[i]? = some w1 := by simpa using e1
    have e2' : bs[i]? = some w2 := by simpa using e2
    have e3' : cs[i]? = some w3 := by simpa using e3
    cases g1.symm.trans e1'
    cases g2.symm.trans e2'
    cases g3.symm.trans e3'
    refine ⟨.ref T, _, I.pairNew (ch := [z, TO, i1, i2, i3]) (xs := [x, y, u]) hk (fun q hq => hf q (sub q hq)) hT (show 3 ≤ 100 by decide) (.cons r1 (.cons r2 (.cons r3 .nil))) ht, rfl,
      ⟨T, x, y, u, rfl, I.hok.fresh hT, rfl, fun l hl => by rw [k1.one I hl qa]; exact hx, fun l hl => by rw [k2.one I hl qb]; exact hy, fun l hl => by rw [k3.one I hl qc]; exact hu⟩, ?_, fun q hq => ?_⟩
    · exact ⟨hS.1, hS.2.1, hS.2.2.1, hS.2.2.2.1.1, hS.2.2.2.2.1.1, hS.2.2.2.2.2.1⟩
    · rw [upd_ne (Nat.ne_of_lt (Nat.lt_of_lt_of_le (t.lt q hq) hT))]
      exact (hf q hq).1
  done := by
    intro X hP hw hK hc i pins s σ H E I hf t hg
    cases hP; cases hw; cases hK
    obtain ⟨xs, ys, zs, ⟨qa, qb, qc⟩, rfl⟩ := hg
    obtain ⟨as, ra, pa⟩ := k1.seen I qa
    obtain ⟨bs, rb, pb⟩ := k2.seen I qb
    obtain ⟨cs, rc, pc⟩ := k3.seen I qc
    have W := GoesN.zip3 (elts := elts) (x1 := kk) (pos := tpos) S (k1.draws (P := X.prog) (w := X.w) (A := X.A.in1) (I.ok.hd hc) i1 a n1 as.toArray) (k2.draws (A := X.A.in1) (I.ok.hd hc) i2 b n2 bs.toArray) (k3.draws (A := X.A.in1) (I.ok.hd hc) i3 c n3 cs.toArray)
    have hl : min (min as.toArray.size bs.toArray.size) cs.toArray.size = min (min xs.length ys.length) zs.length := by
      rw [List.size_toArray, List.size_toArray, List.size_toArray, ra.length, rb.length, rc.length]
    have sub : ∀ q ∈ [z, TO, i1, i2, i3], q ∈ [z, TI, TO, i1, i2, i3] := fun q hq => by
      have e : q = z ∨ q = TO ∨ q = i1 ∨ q = i2 ∨ q = i3 := by simpa using hq
      rcases e with e | e | e | e | e <;> (rw [e]; simp)
    exact W.stops s (fun s1 => Inv X pins σ H s1) E (by rw [hl]; exact ⟨t.zp, t.its, t.outs, ⟨t.one, pa⟩, ⟨t.two, pb⟩, ⟨t.three, pc⟩⟩) fun h' tk hk _ => I.turnedL (t' := tk) hk fun q hq => hf q (sub q hq)
  self := fun A i s Q E t h => wpAny_pyIter_zip t.zp h
def iZip3 (k1 k2 k3 : SK) (K : PySem.W.Frag) (ta : TA) : TI := fun σ H R => ta σ H fun vs H1 => ∃ a b c xs ys zs, vs = [.ref a, .ref b, .ref c] ∧ (k1.Sq K H1 a xs ∧ k2.Sq K H1 b ys ∧ k3.Sq K H1 c zs) ∧ R (ItZ3 k1 k2 k3 K a b c) H1
theorem pi_zip3 {X : Cx} (K : PySem.W.Frag) (k1 k2 k3 : SK) {e e2 e3 : Expr} {ta : TA} {p pos tpos : Pos} {elts : List Expr} {kk : Nat} (hg : Gl X "zip") (hm : X.mg "zip" = none) (ha : PA X [e, e2, e3] ta)
    (hs : starEach [e, e2, e3] X.env = (false, eval e X.env) :: starEach [e2, e3] X.env := by rfl) (hpl : (backTo pos (starEach [e2, e3] X.env)).any (·.1) = false := by rfl) (h : X.K = K := by rfl) :
    PI X (.Tuple elts kk tpos) (.Call (.Name "zip" p) [e, e2, e3] [] pos) (iZip3 k1 k2 k3 K ta) := by
  cases h
  constructor
  intro pins s σ H R I h
  refine Call_ (ld_blt I hg hm PyProof.Rows.boot_zip (PyProof.Rows.callWith_type1 (thn (ha.run pos pins s σ H _ I h) fun us s1 got => ?_) hs hpl))
  obtain ⟨vs, H1, J, r, a, b, c, xs, ys, zs, ex, ⟨qa, qb, qc⟩, q⟩ := got
  subst ex
  obtain rfl : us = [Value.ref a, Value.ref b, Value.ref c] := by
    cases r with
    | cons r0 r => cases r with
      | cons r1 r => cases r with
        | cons r2 r =>
          cases r
          rw [show _ = Value.ref a from r0, show _ = Value.ref b from r1, show _ = Value.ref c from r2]
  obtain ⟨as, ra, pa⟩ := k1.seen J qa
  obtain ⟨bs, rb, pb⟩ := k2.seen J qb
  obtain ⟨cs, rc, pc⟩ := k3.seen J qc
  have la := k1.lt pa
  have lb := k2.lt pb
  have lc := k3.lt pc
  have one : ∀ {d : Addr}, d < s1.heap.objs.size → ∀ b ∈ [d], b < s1.heap.objs.size := fun hd b hb => (List.mem_singleton.mp hb) ▸ hd
  refine zip_begins3 (k1.begins a as.toArray) (k2.begins b bs.toArray) (k3.begins c cs.toArray) pa pb pc fun h' hz hTI hTO o1 o2 o3 _ hk => wpAny_pyIter_zip hz ?_
  refine ⟨s1.heap.objs.size + 5, [s1.heap.objs.size + 5, s1.heap.objs.size + 3, s1.heap.objs.size + 4, s1.heap.objs.size, s1.heap.objs.size + 1, s1.heap.objs.size + 2], _, _, H1, rfl, J.kept (t' := s1.toks) hk,
    turn_zip3 k1 k2 k3 (zip_sep3 (one la) (one lb) (one lc)) (Nat.ne_of_lt la) (Nat.ne_of_lt (Nat.lt_of_lt_of_le lb (Nat.le_add_right _ _))) (Nat.ne_of_lt (Nat.lt_of_lt_of_le lc (Nat.le_add_right _ _))),
    ⟨hz, hTI, ⟨_, _, _, hTO⟩, k1.it0 o1, k2.it0 o2, k3.it0 o3⟩, fun d hd => ?_, q⟩
  have hle : s1.heap.objs.size ≤ d := by
    rcases mem6 hd with e | e | e | e | e | e
    · exact e ▸ Nat.le_add_right _ _
    · exact e ▸ Nat.le_add_right _ _
    · exact e ▸ Nat.le_add_right _ _
    · exact e ▸ Nat.le_refl _
    · exact e ▸ Nat.le_add_right _ _
    · exact e ▸ Nat.le_add_right _ _
  exact J.fpOk hle (J.hok.fresh hle)

section
variable {K : PySem.W.Frag} {σ : L2.St} {H : Hp} {Q : VK} {D : Ends} {tb : TS} {ta : TA} {R : It → Hp → Prop} {k k1 k2 k3 : SK} {a b c : Addr} {xs ys zs : List V} {k0 : Int} {m n o : Nat}
def rItE (k : SK) (K : PySem.W.Frag) (vs : List V) (R : It → Hp → Prop) (H1 : Hp) : Prop := ∃ a xs, vs = [.ref a] ∧ k.Sq K H1 a xs ∧ R (ItE k K 0 a) H1
def rItZ3 (k1 k2 k3 : SK) (K : PySem.W.Frag) (vs : List V) (R : It → Hp → Prop) (H1 : Hp) : Prop := ∃ a b c xs ys zs, vs = [.ref a, .ref b, .ref c] ∧ (k1.Sq K H1 a xs ∧ k2.Sq K H1 b ys ∧ k3.Sq K H1 c zs) ∧ R (ItZ3 k1 k2 k3 K a b c) H1
theorem st_enumE (h : ta σ H fun us H1 => rItE k K us R H1) : iEnumE k K ta σ H R := h
theorem st_zip3 (h : ta σ H fun us H1 => rItZ3 k1 k2 k3 K us R H1) : iZip3 k1 k2 k3 K ta σ H R := h
theorem r_enumE (h : k.Sq K H a xs) (q : R (ItE k K 0 a) H) : rItE k K [.ref a] R H := ⟨a, xs, rfl, h, q⟩
theorem r_zip3 (h1 : k1.Sq K H a xs) (h2 : k2.Sq K H b ys) (h3 : k3.Sq K H c zs) (q : R (ItZ3 k1 k2 k3 K a b c) H) : rItZ3 k1 k2 k3 K [.ref a, .ref b, .ref c] R H := ⟨a, b, c, xs, ys, zs, rfl, ⟨h1, h2, h3⟩, q⟩
theorem r_tup3 {i j l : Nat} {x y z : V} {R : L2.St → Hp → Prop} (h : SqT K H a [x, y, z]) (q : R (((σ.set i (some x)).set j (some y)).set l (some z)) H) : gTup K 3 (gCons (gName i) (gCons (gName j) (gCons (gName l) gNil))) (.ref a) σ H R :=
  ⟨a, _, rfl, h, rfl, x, [y, z], rfl, y, [z], rfl, z, [], rfl, rfl, q⟩
/-- for i, x in enumerate(xs) -/
theorem r_forE (Pv : Nat → L2.St → Hp → Prop) (h0 : Pv 0 σ H) (hl : ∀ i σ' H', i ≤ xs.length → Pv i σ' H' → k.Sq K H' a xs)
    (hs : ∀ i x σ' H' H1, xs[i]? = some x → Pv i σ' H' → Ex H' H1 → tb { D with nx := Pv (i + 1), ct := Pv (i + 1), bk := D.nx } ((σ'.set m (some (.int (k0 + (i : Int))))).set n (some x)) H1)
    (hd : ∀ σ' H', Pv xs.length σ' H' → D.nx σ' H') : rFor (ItE k K k0 a) (gTup K 2 (gCons (gName m) (gCons (gName n) gNil))) tb D σ H := by
  refine ⟨fun i d σ H => d = xs.length - i ∧ i ≤ xs.length ∧ Pv i σ H, ⟨_, rfl, Nat.zero_le _, h0⟩, ?_⟩
  rintro i d σ H ⟨rfl, hi, p⟩
  have hq := hl i σ H hi p
  rcases Nat.lt_or_ge i xs.length with lt | ge
  · have hx := List.getElem?_eq_getElem lt
    refine .inr ⟨⟨xs, _, hq, hx⟩, Pv (i + 1), fun σ' H' q => ⟨xs.length - (i + 1), by omega, rfl, lt, q⟩, ?_⟩
    rintro v H' ⟨T, x, rfl, hT, rfl, e⟩
    exact r_tup2 (t_of upd_same) (hs i x σ H _ (e xs hq) p (Ex.new hT))
  · have e : xs.length = i := by omega
    refine .inl ⟨⟨xs, hq, e⟩, hd σ H (by rw [e]; exact p)⟩
/-- for x, y, z in zip(xs, ys, zs) -/
theorem r_forZ3 {N : Nat} (hN : min (min xs.length ys.length) zs.length = N) (Pv : Nat → L2.St → Hp → Prop) (h0 : Pv 0 σ H)
    (hl : ∀ i σ' H', i ≤ N → Pv i σ' H' → k1.Sq K H' a xs ∧ k2.Sq K H' b ys ∧ k3.Sq K H' c zs)
    (hs : ∀ i x y z σ' H' H1, xs[i]? = some x → ys[i]? = some y → zs[i]? = some z → Pv i σ' H' → Ex H' H1 →
      tb { D with nx := Pv (i + 1), ct := Pv (i + 1), bk := D.nx } (((σ'.set m (some x)).set n (some y)).set o (some z)) H1)
    (hd : ∀ σ' H', Pv N σ' H' → D.nx σ' H') : rFor (ItZ3 k1 k2 k3 K a b c) (gTup K 3 (gCons (gName m) (gCons (gName n) (gCons (gName o) gNil)))) tb D σ H := by
  refine ⟨fun i d σ H => d = N - i ∧ i ≤ N ∧ Pv i σ H, ⟨_, rfl, Nat.zero_le _, h0⟩, ?_⟩
  rintro i d σ H ⟨rfl, hi, p⟩
  have hq := hl i σ H hi p
  rcases Nat.lt_or_ge i N with lt | ge
  · have hx := List.getElem?_eq_getElem (show i < xs.length by omega)
    have hy := List.getElem?_eq_getElem (show i < ys.length by omega)
    have hz := List.getElem?_eq_getElem (show i < zs.length by omega)
    refine .inr ⟨⟨xs, ys, zs, _, _, _, hq, hx, hy, hz⟩, Pv (i + 1), fun σ' H' q => ⟨N - (i + 1), by omega, rfl, lt, q⟩, ?_⟩
    rintro v H' ⟨T, x, y, z, rfl, hT, rfl, e1, e2, e3⟩
    exact r_tup3 (t_of upd_same) (hs i x y z σ H _ (e1 xs hq.1) (e2 ys hq.2.1) (e3 zs hq.2.2) p (Ex.new hT))
  · have e : i = N := by omega
    exact .inl ⟨⟨xs, ys, zs, hq, by rw [hN, e]⟩, hd σ H (by rw [← e]; exact p)⟩
end
/-! ### repr of data -/
/-- the text of data that fits -/
structure Shows (d : PyData) : Prop where
  can : PyData.showable d = true
  plain : PyData.hasDict d = false
  depth : PyData.depth d ≤ 50
  fits : d.shown.length ≤ sizeLine
def rRepr (K : PySem.W.Frag) : List V → Hp → VK → Prop := fun xs H Q => ∃ a d, xs = [.ref a] ∧ Dp K H (.ref a) d ∧ Shows d ∧ Q (.str d.shown) H
theorem repr_K {X : Cx} (K : PySem.W.Frag) (g : Quiet X.A) {k : Nat} (hr : Room k X.A) (h : X.K = K := by rfl) : CallR X (.builtin "repr") (rRepr K) := by
  cases h
  intro pins s σ H xs us Q I r h
  obtain ⟨a, d, rfl, hd, sd, q⟩ := h
  obtain ⟨u, rfl, ru⟩ : ∃ u, us = [u] ∧ RelV (.ref a) u := by
    cases r with
    | cons r0 rr =>
      cases rr
      exact ⟨_, rfl, r0⟩
  cases (show u = Value.ref a from ru)
  obtain ⟨as, rd⟩ := Dp.reads I d _ _ hd ru
  have hu : X.A.units + (d.depth + 1) < cLine := by
    have h1 := sd.depth
    have h2 := hr.units
    omega
  exact repr_of_reads' rd sd.can (fun e => nomatch (sd.plain.symm.trans e)) g hu (fun _ _ e => e) (fun h' u tk hk => ⟨.str d.shown, H, I.kept (t' := tk) hk, ⟨u, rfl⟩, q⟩) sd.fits
section
variable {K : PySem.W.Frag} {H : Hp} {Q : VK} {a b : Addr} {d : PyData}
theorem r_repr (h : Dp K H (.ref a) d) (sd : Shows d) (q : Q (.str d.shown) H) : rRepr K [.ref a] H Q := ⟨a, d, rfl, h, sd, q⟩
theorem r_eqS {x y : Str} (q : Q (.bl (decide (x = y))) H) : rEqU K (.str x) (.str y) H Q := .inl ⟨rfl, by
  have e : decide ((V.str x) = V.str y) = decide (x = y) := by simp
  rw [e]
  exact q⟩
theorem r_neS {x y : Str} (q : Q (.bl (!decide (x = y))) H) : rNeU K (.str x) (.str y) H Q := .inl ⟨rfl, by
  have e : decide ((V.str x) = V.str y) = decide (x = y) := by simp
  rw [e]
  exact q⟩
/-- two things that read alike -/
theorem r_eqD {e : PyData} (ha : Dp K H (.ref a) d) (hb : Dp K H (.ref b) e) (s1 : SeqAt.shaped d = true) (s2 : SeqAt.shaped e = true) (q : Q (.bl (PyData.eqv d e)) H) : rEqU K (.ref a) (.ref b) H Q := .inr ⟨d, e, ha, hb, s1, s2, q⟩
theorem r_neD {e : PyData} (ha : Dp K H (.ref a) d) (hb : Dp K H (.ref b) e) (s1 : SeqAt.shaped d = true) (s2 : SeqAt.shaped e = true) (q : Q (.bl (!PyData.eqv d e)) H) : rNeU K (.ref a) (.ref b) H Q := .inr ⟨d, e, ha, hb, s1, s2, q⟩
end
/-! ### data of ints, in sequences -/
/-- a list of sequences -/
def dWs (ws : List (List Int)) : List PyData := ws.map fun w => .tuple (w.map .int)
theorem dWs_lay : ∀ ws, PyData.canLayAll0 (dWs ws) = true
  | [] => rfl
  | w :: ws => by
    show (PyData.canLayAll0 (w.map .int) && PyData.canLayAll0 (dWs ws)) = true
    rw [canLay_ints, dWs_lay ws]
    rfl
theorem dWs_depth : ∀ ws, PyData.depthAll (dWs ws) ≤ 1
  | [] => Nat.zero_le _
  | w :: ws => by
    have h := dWs_depth ws
    show max (PyData.depth (.tuple (w.map .int))) (PyData.depthAll (dWs ws)) ≤ 1
    rw [PyData.depth, depth_ints]
    omega
theorem dWs_eqv : ∀ us ws, PyData.eqvAll (dWs us) (dWs ws) = decide (us = ws)
  | [], [] => by simp [dWs, PyData.eqvAll]
  | [], _ :: _ => by simp [dWs, PyData.eqvAll]
  | _ :: _, [] => by simp [dWs, PyData.eqvAll]
  | u :: us, w :: ws => by
    show (PyData.eqv (.tuple (u.map .int)) (.tuple (w.map .int)) && PyData.eqvAll (dWs us) (dWs ws)) = _
    rw [eqv_tints, dWs_eqv us ws]
    by_cases h : u = w
    · subst h; simp
    · simp [h]
theorem shaped_dWs (ws : List (List Int)) : SeqAt.shaped (.list (dWs ws)) = true := by
  unfold SeqAt.shaped
  have h := dWs_depth ws
  rw [PyData.canLay0, dWs_lay, PyData.depth]
  simp
  omega
theorem shaped_dWsT (ws : List (List Int)) : SeqAt.shaped (.tuple (dWs ws)) = true := by
  unfold SeqAt.shaped
  have h := dWs_depth ws
  rw [PyData.canLay0, dWs_lay, PyData.depth]
  simp
  omega

/-! ### list(range(..)) -/
section
variable {K : PySem.W.Frag} {σ : L2.St} {H : Hp} {Q : VK} {ta tb : TE} {te : L2.St → Hp → (Int → Int → Hp → Prop) → Prop} {R : Int → Int → Hp → Prop} {i j : Int}
def rLstRg (a b : Int) (H1 : Hp) (Q : VK) : Prop := RgOk a b ∧ ∀ q, H1 q = none → Q (.ref q) (upd H1 q (.lst (rgV a b)))
def rTwoI (x y : V) (H2 : Hp) (R : Int → Int → Hp → Prop) : Prop := ∃ i j, x = .int i ∧ y = .int j ∧ R i j H2
theorem st_lstRg (h : te σ H fun a b H1 => rLstRg a b H1 Q) : tLstRg te σ H Q := h
theorem st_rg2 (h : ta σ H fun x H1 => tb σ H1 fun y H2 => rTwoI x y H2 R) : tRg2 ta tb σ H R := h
theorem r_twoI (q : R i j H) : rTwoI (.int i) (.int j) H R := ⟨i, j, rfl, rfl, q⟩
/-- the ints from a on, below b -/
def rgI (a b : Int) : List Int := (List.range (b - a).toNat).map fun i => a + (i : Nat)
theorem rgI_len (a b : Int) : (rgI a b).length = (b - a).toNat := by
  unfold rgI
  rw [List.length_map, List.length_range]
theorem r_lstRg (h0 : 0 ≤ i) (h1 : j ≤ 16777216) (h2 : i ≤ 16777216) (h3 : 0 ≤ j) (q : ∀ p H1, H p = none → Ex H H1 → H1 p = some (.lst ((rgI i j).map V.int)) → Q (.ref p) H1) : rLstRg i j H Q := by
  refine ⟨RgOk.of_le h0 h1 h2 h3, fun p hp => ?_⟩
  refine q p _ hp (Ex.new hp) ?_
  rw [upd_same]
  unfold rgV rgI
  rw [List.map_map]
  rfl
end
end L2
/-! lists of sequences of ints, and data of them that can be written out -/
namespace L2
open PySem PySem.Spec PyProof.Rows Evl
section
variable {K : PySem.W.Frag} {σ : L2.St} {H H' : Hp} {Q : VK} {a : Addr} {xs ys : List V} {ws us : List (List Int)} {x : V} {u : List Int}
/-- a tuple of ints -/
def WkV (K : PySem.W.Frag) (H : Hp) (x : V) (w : List Int) : Prop := ∃ a, x = .ref a ∧ IT K H a w
/-- such tuples, one behind the other -/
structure WkA (K : PySem.W.Frag) (H : Hp) (xs : List V) (ws : List (List Int)) : Prop where
  len : xs.length = ws.length
  at' : ∀ (i : Nat) x w, xs[i]? = some x → ws[i]? = some w → WkV K H x w
theorem WkV.tx (h : WkV K H x u) (e : TX H H') : WkV K H' x u := by
  obtain ⟨a, rfl, h1⟩ := h
  exact ⟨a, rfl, tx_t e h1⟩
theorem WkA.tx (h : WkA K H xs ws) (e : TX H H') : WkA K H' xs ws := ⟨h.len, fun i x w h1 h2 => (h.at' i x w h1 h2).tx e⟩
theorem WkA.ex (h : WkA K H xs ws) (e : Ex H H') : WkA K H' xs ws := h.tx (.of e)
theorem WkA.nil : WkA K H [] [] := ⟨rfl, fun i x w h => by simp at h⟩
theorem WkA.get (h : WkA K H xs ws) {i : Nat} (hx : xs[i]? = some x) : ∃ w, ws[i]? = some w ∧ WkV K H x w := by
  have hi := (List.getElem?_eq_some_iff.mp hx).1
  rw [h.len] at hi
  exact ⟨_, List.getElem?_eq_getElem hi, h.at' i _ _ hx (List.getElem?_eq_getElem hi)⟩
theorem WkA.snoc (h : WkA K H xs ws) (hx : WkV K H x u) : WkA K H (xs ++ [x]) (ws ++ [u]) := by
  refine ⟨by rw [List.length_append, List.length_append, h.len]; rfl, fun i y w h1 h2 => ?_⟩
  rcases Nat.lt_or_ge i xs.length with lt | ge
  · rw [List.getElem?_append_left lt] at h1
    rw [List.getElem?_append_left (h.len ▸ lt)] at h2
    exact h.at' i y w h1 h2
  · rw [List.getElem?_append_right ge] at h1
    rw [List.getElem?_append_right (h.len ▸ ge)] at h2
    have e : i - xs.length = 0 := by
      have := (List.getElem?_eq_some_iff.mp h1).1
      simp at this
      omega
    rw [e] at h1
    rw [← h.len, e] at h2
    cases h1
    cases h2
    exact hx
theorem WkA.set (h : WkA K H xs ws) (hx : WkV K H x u) (k : Nat) : WkA K H (xs.set k x) (ws.set k u) := by
  refine ⟨by rw [List.length_set, List.length_set, h.len], fun i y w h1 h2 => ?_⟩
  rw [List.getElem?_set] at h1 h2
  by_cases e : k = i
  · rw [if_pos e] at h1 h2
    split at h1
    · cases h1
      split at h2
      · cases h2
        exact hx
      · cases h2
    · cases h1
  · rw [if_neg e] at h1 h2
    exact h.at' i y w h1 h2
theorem WkA.app {us : List (List Int)} (h : WkA K H xs ws) (k : WkA K H ys us) : WkA K H (xs ++ ys) (ws ++ us) := by
  refine ⟨by rw [List.length_append, List.length_append, h.len, k.len], fun i y w h1 h2 => ?_⟩
  rcases Nat.lt_or_ge i xs.length with lt | ge
  · rw [List.getElem?_append_left lt] at h1
    rw [List.getElem?_append_left (h.len ▸ lt)] at h2
    exact h.at' i y w h1 h2
  · rw [List.getElem?_append_right ge] at h1
    rw [List.getElem?_append_right (h.len ▸ ge), ← h.len] at h2
    exact k.at' _ y w h1 h2
theorem dp_wks : ∀ {xs : List V} {ws : List (List Int)}, WkA K H xs ws → DpAll K H xs (dWs ws)
  | [], [], _ => .nil
  | [], _ :: _, h => by have := h.len; simp at this
  | _ :: _, [], h => by have := h.len; simp at this
  | x :: xs, w :: ws, h => by
    obtain ⟨a, rfl, h1⟩ := h.at' 0 x w rfl rfl
    exact .cons (dp_t h1) (dp_wks ⟨by have := h.len; simpa using this, fun i y u e1 e2 => h.at' (i + 1) y u (by simpa using e1) (by simpa using e2)⟩)
theorem dp_wl (hl : SqL K H a xs) (h : WkA K H xs ws) : Dp K H (.ref a) (.list (dWs ws)) := .lst hl (dp_wks h)
theorem dp_wt (hl : SqT K H a xs) (h : WkA K H xs ws) : Dp K H (.ref a) (.tuple (dWs ws)) := .tup hl (dp_wks h)
theorem eqv_dWs : PyData.eqv (.list (dWs us)) (.list (dWs ws)) = decide (us = ws) := by rw [PyData.eqv, dWs_eqv]
theorem eqv_dWsT : PyData.eqv (.tuple (dWs us)) (.tuple (dWs ws)) = decide (us = ws) := by rw [PyData.eqv, dWs_eqv]
/-- == of lists of sequences -/
theorem r_eqW {b : Addr} (ha : SqL K H a xs) (wa : WkA K H xs ws) (hb : SqL K H b ys) (wb : WkA K H ys us) (q : Q (.bl (decide (ws = us))) H) : rEqU K (.ref a) (.ref b) H Q :=
  r_eqD (dp_wl ha wa) (dp_wl hb wb) (shaped_dWs _) (shaped_dWs _) (by rw [eqv_dWs]; exact q)
theorem r_neW {b : Addr} (ha : SqL K H a xs) (wa : WkA K H xs ws) (hb : SqL K H b ys) (wb : WkA K H ys us) (q : Q (.bl (!decide (ws = us))) H) : rNeU K (.ref a) (.ref b) H Q :=
  r_neD (dp_wl ha wa) (dp_wl hb wb) (shaped_dWs _) (shaped_dWs _) (by rw [eqv_dWs]; exact q)
/-- what stood at a list is written anew: the tuples stay -/
theorem TX.upd {D : Addr} {o : HO} (h : H D = some (.lst xs)) : TX H (upd H D o) := fun a ys q => by
  rw [upd_ne (fun e => by subst e; rcases q with q | ⟨o', q⟩ <;> (rw [h] at q; cases q))]
theorem TX.w2 {D : Addr} (h : H D = some (.lst xs)) (e : ExW D H H') : TX H H' := fun a ys q => by
  have hne : a ≠ D := fun e => by subst e; rcases q with q | ⟨o', q⟩ <;> (rw [h] at q; cases q)
  rcases q with q | ⟨o', q⟩
  · rw [q, e a _ q hne]
  · rw [q, e a _ q hne]
/-- [e for i in range(..)], a turn may change the heap: S tells of the items so far -/
theorem r_cmRA {vs : List Nat} {j : Nat} {te : TE} {lo : Int} {m : Nat} (S : Nat → List V → Hp → Prop) (hm : m ≤ 100000) (hw : ∀ x, wipe ((wipe σ vs).set j (some x)) vs = wipe σ vs)
    (h0 : ∀ D, H D = none → ∀ o, S 0 [] (L2.upd H D o))
    (he : ∀ i H1 D acc, i < m → acc.length = i → H1 D = some (.lst acc) → (∀ o, S i acc (L2.upd H1 D o)) →
      ∀ Q' : VK, (∀ y H2, H2 D = some (.lst acc) → (∀ o, S (i + 1) (acc ++ [y]) (L2.upd H2 D o)) → Q' y H2) → te ((wipe σ vs).set j (some (.int (lo + (i : Int))))) H1 Q')
    (q : ∀ D H1 ys, H D = none → ys.length = m → H1 D = some (.lst ys) → (∀ o, S m ys (L2.upd H1 D o)) → Q (.ref D) H1) : rLc (Itr lo m) (gName j) tYes te vs σ Q H := fun D hD => by
  refine lc_range (lo := lo) (n := m) (fun i H' => ∃ ys : List V, ys.length = i ∧ (∀ o, S i ys (L2.upd H' D o)) ∧ H' D = some (.lst ys)) ⟨[], rfl, fun o => by rw [upd_upd]; exact h0 D hD o, upd_same⟩ (fun i H' hi p => ?_) (fun H' p => ?_)
  · obtain ⟨ys, h1, h4, h5⟩ := p
    refine ⟨hw _, ?_⟩
    refine he i H' D ys hi h1 h5 h4 _ fun y H2 z2 z3 => ?_
    exact ⟨ys, z2, sz_lt (by omega), ys ++ [y], by rw [List.length_append, h1]; rfl, fun o => by rw [upd_upd]; exact z3 o, upd_same⟩
  · obtain ⟨ys, h1, h4, h5⟩ := p
    exact q D H' ys hD h1 h5 h4
end
theorem upd_id {H : Hp} {D : Addr} {o : HO} (h : H D = some o) : upd H D o = H := by
  funext a
  by_cases e : a = D
  · subst e
    rw [upd_same, h]
  · rw [upd_ne e]
/-! ### texts that fit -/
theorem int_short {i : Int} (h : i.natAbs < 10 ^ 12) : PyData.leavesShort 13 (.int i) = true := by
  rw [PyData.leavesShort, decide_eq_true_eq]
  have e := int_text_length_le10 (k := 12) (by decide) h
  show (Str.ofString (toString i)).length ≤ 13
  rw [PySem.ofString_length]
  exact e
theorem int_can {i : Int} (h : i.natAbs < 10 ^ 12) : PyData.showable (.int i) = true := by
  rw [PyData.showable, decide_eq_true_eq]
  by_cases h0 : i.natAbs = 0
  · rw [h0]; decide
  · have := (Nat.log2_lt h0 (k := 40)).mpr (Nat.lt_of_lt_of_le h (by decide))
    omega
/-- all ints small -/
def Sml (ns : List Int) : Prop := ∀ x ∈ ns, x.natAbs < 10 ^ 12
theorem sml_short : ∀ {ns : List Int}, Sml ns → PyData.leavesShortAll 13 (ns.map .int) = true
  | [], _ => rfl
  | n :: ns, h => by
    rw [List.map_cons, PyData.leavesShortAll, int_short (h n List.mem_cons_self), sml_short fun x hx => h x (List.mem_cons_of_mem _ hx)]
    rfl
theorem sml_can : ∀ {ns : List Int}, Sml ns → PyData.showableAll (ns.map .int) = true
  | [], _ => rfl
  | n :: ns, h => by
    rw [List.map_cons, PyData.showableAll, int_can (h n List.mem_cons_self), sml_can fun x hx => h x (List.mem_cons_of_mem _ hx)]
    rfl
theorem ints_plain : ∀ ns : List Int, PyData.hasDictAll (ns.map .int) = false
  | [] => rfl
  | n :: ns => by
    rw [List.map_cons, PyData.hasDictAll, ints_plain ns]
    rfl
theorem ints_bulk : ∀ ns : List Int, PyData.bulkAll (ns.map .int) = ns.length
  | [] => rfl
  | n :: ns => by
    rw [List.map_cons, PyData.bulkAll, ints_bulk ns, PyData.bulk, List.length_cons]
    omega
theorem wks_short : ∀ {ws : List (List Int)}, (∀ w ∈ ws, Sml w) → PyData.leavesShortAll 13 (dWs ws) = true
  | [], _ => rfl
  | w :: ws, h => by
    show (PyData.leavesShortAll 13 (w.map .int) && PyData.leavesShortAll 13 (dWs ws)) = true
    rw [sml_short (h w List.mem_cons_self), wks_short fun x hx => h x (List.mem_cons_of_mem _ hx)]
    rfl
theorem wks_can : ∀ {ws : List (List Int)}, (∀ w ∈ ws, Sml w) → PyData.showableAll (dWs ws) = true
  | [], _ => rfl
  | w :: ws, h => by
    show (PyData.showableAll (w.map .int) && PyData.showableAll (dWs ws)) = true
    rw [sml_can (h w List.mem_cons_self), wks_can fun x hx => h x (List.mem_cons_of_mem _ hx)]
    rfl
theorem wks_plain : ∀ ws : List (List Int), PyData.hasDictAll (dWs ws) = false
  | [] => rfl
  | w :: ws => by
    show (PyData.hasDictAll (w.map .int) || PyData.hasDictAll (dWs ws)) = false
    rw [ints_plain, wks_plain ws]
    rfl
theorem wks_bulk {n : Nat} : ∀ {ws : List (List Int)}, (∀ w ∈ ws, w.length ≤ n) → PyData.bulkAll (dWs ws) ≤ ws.length * (n + 1)
  | [], _ => Nat.zero_le _
  | w :: ws, h => by
    have h1 := wks_bulk (n := n) (ws := ws) fun x hx => h x (List.mem_cons_of_mem _ hx)
    have h2 := h w List.mem_cons_self
    have e : PyData.bulkAll (dWs (w :: ws)) = PyData.bulkAll (w.map .int) + 1 + PyData.bulkAll (dWs ws) := rfl
    rw [e, ints_bulk, List.length_cons, Nat.add_mul]
    omega
theorem Shows.of {d : PyData} (h1 : PyData.showable d = true) (h2 : PyData.hasDict d = false) (h3 : PyData.depth d ≤ 50) (h4 : PyData.leavesShort 13 d = true) (h5 : PyData.bulk d ≤ 2 ^ 20) : Shows d :=
  ⟨h1, h2, h3, by
    have h := PyData.shown_le_bulk 13 (by decide) d h4
    have e : sizeLine = 16777216 := by decide
    omega⟩
/-! ### more of draws -/
theorem DrS.refl {w : Addr} {H : Hp} {n : Nat} (h : Well H w n) : DrS w H n H := ⟨ExW.refl H, h⟩
/-- something of our own is changed between the draws -/
theorem DrS.mut {w f : Addr} {H0 H H1 : Hp} {n : Nat} (h : DrS w H0 n H) (e : ExW f H H1) (h0 : H0 f = none) (hf : f ≠ w) : DrS w H0 n H1 := by
  refine ⟨fun a o ha hw => e a o (h.ex a o ha hw) (ne_of_none ha h0), ?_⟩
  obtain ⟨a, b, c, h1, h2⟩ := h.well.ex
  exact ⟨a, b, c, e w _ h1 (Ne.symm hf), h2⟩
theorem fresh_w {w p : Addr} {H H1 : Hp} (e : ExW w H H1) (hw : p ≠ w) (hp : H1 p = none) : H p = none := by
  cases h : H p with
  | none => rfl
  | some o =>
    rw [e p o h hw] at hp
    cases hp
theorem DrS.fresh {w p : Addr} {H0 H : Hp} {n : Nat} (h : DrS w H0 n H) (hp : H p = none) : H0 p = none := fresh_w h.ex (h.well.ne hp) hp
theorem ixN_in {n : Nat} {i : Int} (h0 : 0 ≤ i) (h : i.toNat < n) : ixN n i = some i.toNat := by
  unfold ixN
  rw [if_pos h0, if_pos (by omega)]
theorem atI_at {xs : List V} {i : Int} {x : V} (h0 : 0 ≤ i) (hx : xs[i.toNat]? = some x) : atI xs i = some x := by
  have e : i = ((i.toNat : Nat) : Int) := by omega
  rw [e]
  exact atI_nat hx
/-! ### [e for x in xs if t], each turn told by S -/
def CmP (S : Nat → List V → Hp → Prop) (D : Addr) (i : Nat) (H' : Hp) : Prop := ∃ ys : List V, ys.length ≤ i ∧ (∀ o, S i ys (upd H' D o)) ∧ H' D = some (.lst ys)
def CmY (S : Nat → List V → Hp → Prop) (D : Addr) (i : Nat) (y : V) (H' : Hp) : Prop := ∃ acc, H' D = some (.lst acc) ∧ acc.length < sizeLine ∧ CmP S D (i + 1) (upd H' D (.lst (acc ++ [y])))
theorem cm_yes {S : Nat → List V → Hp → Prop} {D : Addr} {i : Nat} {y : V} {H' : Hp} {acc : List V} (h : H' D = some (.lst acc)) (hz : acc.length ≤ i) (hi : i < 100000) (s : ∀ o, S (i + 1) (acc ++ [y]) (upd H' D o)) : CmY S D i y H' :=
  ⟨acc, h, sz_lt (by omega), acc ++ [y], by rw [List.length_append]; simpa using hz, fun o => by rw [upd_upd]; exact s o, upd_same⟩
theorem cm_no {S : Nat → List V → Hp → Prop} {D : Addr} {i : Nat} {H' : Hp} {acc : List V} (h : H' D = some (.lst acc)) (hz : acc.length ≤ i) (s : ∀ o, S (i + 1) acc (upd H' D o)) : CmP S D (i + 1) H' := ⟨acc, by omega, s, h⟩
section
variable {K : PySem.W.Frag} {σ : L2.St} {H : Hp} {Q : VK} {a : Addr} {xs : List V} {vs : List Nat} {j : Nat} {tt : TT} {te : TE}
theorem r_cmLA (S : Nat → List V → Hp → Prop) (hz : xs.length ≤ 100000) (hw : ∀ x, wipe ((wipe σ vs).set j (some x)) vs = wipe σ vs) (hl : ∀ i ys H', S i ys H' → SqL K H' a xs)
    (h0 : ∀ D, H D = none → ∀ o, S 0 [] (upd H D o))
    (he : ∀ i x H1 D acc, xs[i]? = some x → acc.length ≤ i → H1 D = some (.lst acc) → S i acc H1 → (∀ o, S i acc (upd H1 D o)) →
      tt ((wipe σ vs).set j (some x)) H1 fun b H2 => if b = true then te ((wipe σ vs).set j (some x)) H2 (fun y H3 => CmY S D i y H3) else CmP S D (i + 1) H2)
    (q : ∀ D H1 ys, H D = none → H1 D = some (.lst ys) → S xs.length ys H1 → (∀ o, S xs.length ys (upd H1 D o)) → Q (.ref D) H1) : rLc (Itl K a) (gName j) tt te vs σ Q H := fun D hD => by
  have at1 : ∀ {i : Nat} {ys : List V} {H' : Hp}, (∀ o, S i ys (upd H' D o)) → H' D = some (.lst ys) → S i ys H' := fun {i ys H'} h e => by
    have z := h (.lst ys)
    rw [upd_id e] at z
    exact z
  refine lc_list (K := K) (a := a) (xs := xs) (fun i H' => CmP S D i H') ⟨[], Nat.le_refl _, fun o => by rw [upd_upd]; exact h0 D hD o, upd_same⟩ (fun i H' _ p => ?_) (fun i x H' hx p => ⟨hw x, ?_⟩) (fun H' p => ?_)
  · obtain ⟨ys, h1, h2, h3⟩ := p
    exact hl i ys H' (at1 h2 h3)
  · obtain ⟨ys, h1, h2, h3⟩ := p
    exact he i x H' D ys hx h1 h3 (at1 h2 h3) h2
  · obtain ⟨ys, h1, h2, h3⟩ := p
    exact q D H' ys hD h3 (at1 h2 h3) h2
end
/-- xs[:-1] -/
theorem cut_init (xs : List V) (x : V) : cutV (xs ++ [x]) none (some (-1)) = xs := by
  unfold cutV
  rw [HT.sIx_none, List.drop_zero, Nat.sub_zero]
  have e : HT.sIx (xs ++ [x]).length (xs ++ [x]).length (some (-1)) = xs.length := by
    rw [List.length_append]
    show (if (-1 : Int) < 0 then ((-1 : Int) + ((xs.length + 1 : Nat) : Int)).toNat else min (-1 : Int).toNat (xs.length + 1)) = xs.length
    rw [if_pos (by decide)]
    omega
  rw [e, List.take_left']
  rfl
section
variable {K : PySem.W.Frag} {H : Hp} {Q : VK} {a b : Addr} {xs ys : List V} {ws : List (List Int)} {x : Str}
theorem same_neS (q : Q (.bl false) H) : rNeU K (.str x) (.str x) H Q := r_neS (by rw [decide_eq_true (rfl : x = x)]; exact q)
theorem same_eqS (q : Q (.bl true) H) : rEqU K (.str x) (.str x) H Q := r_eqS (by rw [decide_eq_true (rfl : x = x)]; exact q)
theorem same_neW (ha : SqL K H a xs) (wa : WkA K H xs ws) (hb : SqL K H b ys) (wb : WkA K H ys ws) (q : Q (.bl false) H) : rNeU K (.ref a) (.ref b) H Q :=
  r_neW ha wa hb wb (by rw [decide_eq_true (rfl : ws = ws)]; exact q)
theorem same_eqW (ha : SqL K H a xs) (wa : WkA K H xs ws) (hb : SqL K H b ys) (wb : WkA K H ys ws) (q : Q (.bl true) H) : rEqU K (.ref a) (.ref b) H Q :=
  r_eqW ha wa hb wb (by rw [decide_eq_true (rfl : ws = ws)]; exact q)
end
theorem ex_none {H H1 : Hp} {D : Addr} (h : ∀ o, Ex H (upd H1 D o)) : H D = none := by
  cases e : H D with
  | none => rfl
  | some u =>
    have h1 := h (.lst []) D u e
    have h2 := h (.tup []) D u e
    rw [upd_same] at h1 h2
    rw [← h1] at h2
    cases h2
theorem ex_put {H H1 : Hp} {D : Addr} {o : HO} (e : Ex H H1) (h : H D = none) : Ex H (upd H1 D o) := fun a u q => by
  rw [upd_ne (ne_of_none q h)]
  exact e a u q
theorem WkA.init {K : PySem.W.Frag} {H : Hp} {xs : List V} {ws : List (List Int)} {x : V} {w : List Int} (h : WkA K H (xs ++ [x]) (ws ++ [w])) : WkA K H xs ws := by
  have e : xs.length = ws.length := by
    have := h.len
    rw [List.length_append, List.length_append] at this
    simpa using this
  refine ⟨e, fun i y u h1 h2 => h.at' i y u ?_ ?_⟩
  · rw [List.getElem?_append_left (List.getElem?_eq_some_iff.mp h1).1]
    exact h1
  · rw [List.getElem?_append_left (List.getElem?_eq_some_iff.mp h2).1]
    exact h2
theorem WkA.split {K : PySem.W.Frag} {H : Hp} {xs : List V} {ws : List (List Int)} {w : List Int} (h : WkA K H xs (ws ++ [w])) : ∃ ys y, xs = ys ++ [y] ∧ WkA K H ys ws := by
  rcases List.eq_nil_or_concat xs with e | ⟨ys, y, e⟩
  · have := h.len
    rw [e, List.length_append] at this
    simp at this
  · rw [List.concat_eq_append] at e
    subst e
    exact ⟨ys, y, rfl, h.init⟩
end L2
/-! more rules: x *= y, x //= y, x -= y, divmod, list.index, two clauses, in -/
namespace L2
open PySem PySem.Spec PyProof.Rows Evl
section
variable {X : Cx}
theorem ip_mul : PIp X .Mult (rI CMul fun i j => .int (i * j)) := fun pins s σ H x y v u Q I r1 r2 h => iop_mul pins s σ H x y v u Q I r1 r2 h
theorem ip_fdiv : PIp X .FloorDiv (rI CDivW fun i j => .int (i / j)) := fun pins s σ H x y v u Q I r1 r2 h => iop_fdivW pins s σ H x y v u Q I r1 r2 h
def rDivm : List V → Hp → VK → Prop := fun xs H Q => ∃ i j, xs = [.int i, .int j] ∧ CDivW i j ∧ ∀ p, H p = none → Q (.ref p) (upd H p (.tup [.int (i / j), .int (i % j)]))
theorem divmod_K : CallR X (.builtin "divmod") rDivm := by
  intro pins s σ H xs us Q I r h
  obtain ⟨i, j, e, ⟨h1, h2⟩, q⟩ := h
  exact call_divmodW pins s σ H xs us Q I r ⟨i, j, e, ⟨h1, PyProof.noPylong_of_log2 h2⟩, q⟩
theorem mt_indexK (K : PySem.W.Frag) (h : X.K = K := by rfl) : MtR X "list.index" (rIndex K) := h ▸ mt_index
end
theorem idxOf_le : ∀ {ns : List Int} {m : Nat} {x : Int}, ns[m]? = some x → ns.idxOf x ≤ m
  | [], _, _, h => by simp at h
  | n :: ns, 0, x, h => by
    cases h
    rw [List.idxOf_cons_self]
    exact Nat.le_refl 0
  | n :: ns, m + 1, x, h => by
    have ih := idxOf_le (ns := ns) (m := m) (x := x) (by simpa using h)
    rw [List.idxOf_cons]
    cases n == x with
    | true => exact Nat.zero_le _
    | false => exact Nat.succ_le_succ ih
section
variable {K : PySem.W.Frag} {σ : L2.St} {H : Hp} {Q : VK} {D : Ends} {a : Addr} {ns : List Int} {x y : Int}
theorem r_augM {i : Nat} {f : Int → Int → V} {C : Int → Int → Prop} (hc : C x y) (h : D.nx (σ.set i (some (f x y))) H) : rAug i (.int x) (rI C f) D σ (.int y) H := ⟨x, y, rfl, rfl, hc, h⟩
theorem r_divm {b : Nat} (h : 0 < y) (hb : y.natAbs < 2 ^ b) (h0 : 0 < b) (h9 : b ≤ 9000) (q : ∀ p H1, H p = none → Ex H H1 → H1 p = some (.tup [.int (x / y), .int (x % y)]) → Q (.ref p) H1) : rDivm [.int x, .int y] H Q :=
  ⟨x, y, rfl, wide_div h hb h0 h9, alloc q⟩
/-- xs.index(x), a list of ints -/
theorem r_index (h : IL K H a ns) (hx : x ∈ ns) (q : Q (.int ((ns.idxOf x : Nat) : Int)) H) : rIndex K (.ref a) [.int x] H Q := by
  have hi := List.idxOf_lt_length_of_mem hx
  refine ⟨a, _, .int x, ns.idxOf x, .int x, rfl, rfl, h, rfl, ?_, ?_, ?_, fun m z' hm hz => ?_, q⟩
  · rw [List.all_eq_true]
    intro v hv
    obtain ⟨n, _, rfl⟩ := List.mem_map.mp hv
    rfl
  · rw [List.getElem?_map, List.getElem?_eq_getElem hi, List.getElem_idxOf]
    rfl
  · show decide (x = x) = true
    exact decide_eq_true rfl
  · rw [List.getElem?_map] at hz
    cases e : ns[m]? with
    | none => rw [e] at hz; cases hz
    | some n =>
      rw [e] at hz
      cases hz
      show decide (n = x) = false
      refine decide_eq_false fun e2 => ?_
      subst e2
      exact absurd (idxOf_le e) (by omega)
/-- x in xs, a list of ints -/
theorem inV_int (x : Int) (ns : List Int) : inV (.int x) (ns.map V.int) = decide (x ∈ ns) := by
  unfold inV
  induction ns with
  | nil => rfl
  | cons n ns ih =>
    rw [List.map_cons, List.any_cons, ih]
    show ((n == x) || decide (x ∈ ns)) = _
    by_cases e : n = x
    · subst e; simp
    · have e2 : ¬ x = n := fun z => e z.symm
      simp [e, e2]
theorem flat_ints (ns : List Int) : (ns.map V.int).all flatV = true := by
  rw [List.all_eq_true]
  intro v hv
  obtain ⟨n, _, rfl⟩ := List.mem_map.mp hv
  rfl
theorem r_inL (h : IL K H a ns) (q : Q (.bl (decide (x ∈ ns))) H) : rIn K false (.int x) (.ref a) H Q :=
  ⟨a, _, rfl, .inl h, rfl, flat_ints ns, by rw [if_neg (by decide), inV_int]; exact q⟩
theorem r_ninL (h : IL K H a ns) (q : Q (.bl (!decide (x ∈ ns))) H) : rIn K true (.int x) (.ref a) H Q :=
  ⟨a, _, rfl, .inl h, rfl, flat_ints ns, by rw [if_pos rfl, inV_int]; exact q⟩
end
/-! ### two clauses -/
def rLc2 (J : It) (g : TG) (tt : TT) (wi1 : TI) (g1 : TG) (tt1 : TT) (te : TE) (vs vs1 : List Nat) (σ : L2.St) (Q : VK) (H1 : Hp) : Prop := ∀ D, H1 D = none → ∃ W : Nat → Nat → Hp → Prop, (∃ m, W 0 m (upd H1 D (.lst []))) ∧ ∀ i m H, W i m H →
  (J.stop i H ∧ Q (.ref D) H) ∨ (J.go i H ∧ ∃ Nx : Hp → Prop, (∀ H', Nx H' → ∃ m', m' < m ∧ W (i + 1) m' H') ∧ ∀ x H', J.yld i H x H' → g x (wipe σ vs) H' fun σ2 H2 => wipe σ2 vs = wipe σ vs ∧ tt σ2 H2 fun b H3 =>
    if b = true then wi1 σ2 H3 fun J1 H4 => ∃ W1 : Nat → Nat → Hp → Prop, (∃ m, W1 0 m H4) ∧ ∀ j k H, W1 j k H →
      (J1.stop j H ∧ Nx H) ∨ (J1.go j H ∧ ∃ Nx1 : Hp → Prop, (∀ H', Nx1 H' → ∃ k', k' < k ∧ W1 (j + 1) k' H') ∧ ∀ x H', J1.yld j H x H' → g1 x (wipe σ2 vs1) H' fun σ3 H5 => wipe σ3 vs1 = wipe σ2 vs1 ∧ tt1 σ3 H5 fun b H6 =>
        if b = true then te σ3 H6 fun y H7 => ∃ acc, H7 D = some (.lst acc) ∧ acc.length < sizeLine ∧ Nx1 (upd H7 D (.lst (acc ++ [y]))) else Nx1 H6)
    else Nx H3)
theorem st_lc2 {wi : TI} {g : TG} {tt : TT} {wi1 : TI} {g1 : TG} {tt1 : TT} {te : TE} {vs vs1 : List Nat} {σ : L2.St} {H : Hp} {Q : VK} (h : wi σ H fun J H1 => rLc2 J g tt wi1 g1 tt1 te vs vs1 σ Q H1) : tLc2 wi g tt wi1 g1 tt1 te vs vs1 σ H Q := h
section
variable {K : PySem.W.Frag} {σ : L2.St} {H : Hp} {Q : VK} {vs vs1 : List Nat} {j j1 m : Nat} {lo : Int} {wi1 : TI} {te : TE}
theorem t_yes {R : Bool → Hp → Prop} (h : R true H) : tYes σ H R := h
def flat (f : Nat → List V) (i : Nat) : List V := (List.range i).flatMap f
theorem flat_succ (f : Nat → List V) (i : Nat) : flat f (i + 1) = flat f i ++ f i := by
  unfold flat
  rw [List.range_succ, List.flatMap_append]
  simp
/-- [e for i in range(..) for x in (.., ..)], the turns change nothing; f i: what is told at the turn i -/
theorem r_lc2R (f : Nat → List V) (hf : ∀ i, i ≤ m → (flat f i).length ≤ 10000) (hk : ∀ i, i < m → (f i).length ≤ 10000) (hw : ∀ x, wipe ((wipe σ vs).set j (some x)) vs = wipe σ vs) (hw1 : ∀ x y, wipe ((wipe ((wipe σ vs).set j (some x)) vs1).set j1 (some y)) vs1 = wipe ((wipe σ vs).set j (some x)) vs1)
    (h1 : ∀ (i : Nat) (H1 : Hp) (R : It → Hp → Prop), i < m → Ex H H1 → (∀ a H2, Ex H1 H2 → SqT K H2 a (f i) → R (Itt K a) H2) → wi1 ((wipe σ vs).set j (some (.int (lo + (i : Int))))) H1 R)
    (he : ∀ (i : Nat) (y : V) (H1 : Hp) (Q' : VK), i < m → y ∈ f i → Ex H H1 → (∀ H2, Ex H1 H2 → Q' y H2) → te ((wipe ((wipe σ vs).set j (some (.int (lo + (i : Int))))) vs1).set j1 (some y)) H1 Q')
    (q : ∀ p H1, H p = none → Ex H H1 → H1 p = some (.lst (flat f m)) → Q (.ref p) H1) : rLc2 (Itr lo m) (gName j) tYes wi1 (gName j1) tYes te vs vs1 σ Q H := fun D hD => by
  refine ⟨fun i d H' => d = m - i ∧ i ≤ m ∧ Ex H H' ∧ H' D = some (.lst (flat f i)), ⟨m, by simp, Nat.zero_le _, Ex.new hD, upd_same⟩, ?_⟩
  rintro i d H' ⟨rfl, hi, e, h⟩
  rcases Nat.lt_or_ge i m with lt | ge
  · refine .inr ⟨lt, fun H'' => Ex H H'' ∧ H'' D = some (.lst (flat f (i + 1))), fun H'' p => ⟨m - (i + 1), by omega, rfl, lt, p⟩, ?_⟩
    rintro x H'' ⟨rfl, rfl⟩
    refine ⟨hw _, t_yes ?_⟩
    dsimp only
    rw [if_pos rfl]
    refine h1 i _ _ lt e fun a H4 e4 ha => ?_
    refine ⟨fun k d H' => d = (f i).length - k ∧ k ≤ (f i).length ∧ Ex H H' ∧ SqT K H' a (f i) ∧ H' D = some (.lst (flat f i ++ (f i).take k)), ⟨(f i).length, by simp, Nat.zero_le _, e.trans e4, ha, by rw [List.take_zero, List.append_nil]; exact e4 _ _ h⟩, ?_⟩
    rintro k d H5 ⟨rfl, hk', e5, ha5, h5⟩
    rcases Nat.lt_or_ge k (f i).length with lt2 | ge2
    · have hx := List.getElem?_eq_getElem lt2
      refine .inr ⟨⟨_, _, ha5, hx⟩, fun H'' => Ex H H'' ∧ SqT K H'' a (f i) ∧ H'' D = some (.lst (flat f i ++ (f i).take (k + 1))), fun H'' p => ⟨(f i).length - (k + 1), by omega, rfl, lt2, p⟩, ?_⟩
      rintro y H6 ⟨rfl, hy⟩
      have hy' := hy _ ha5
      refine ⟨hw1 _ _, t_yes ?_⟩
      dsimp only
      rw [if_pos rfl]
      refine he i y H6 _ lt (List.mem_of_getElem? hy') e5 fun H7 e7 => ?_
      have h7 := e7 _ _ h5
      have z1 := hf i hi
      have z2 := hk i lt
      refine ⟨_, h7, sz_lt (by rw [List.length_append, List.length_take]; omega), Ex.mut (e5.trans e7) hD, ?_, ?_⟩
      · exact tx_t (TX.upd h7) (ex_t e7 ha5)
      · rw [upd_same, take_snoc hy', List.append_assoc]
    · have e2 : k = (f i).length := by omega
      subst e2
      refine .inl ⟨⟨_, ha5, Nat.le_refl _⟩, e5, ?_⟩
      rw [h5, List.take_length, flat_succ]
  · have e2 : i = m := by omega
    subst e2
    exact .inl ⟨Nat.le_refl _, q D H' hD e h⟩
end
/-! ### [e for x in ints if t], the turns change nothing -/
section
variable {K : PySem.W.Frag} {σ : L2.St} {H : Hp} {Q : VK} {a : Addr} {ns : List Int} {vs : List Nat} {j : Nat} {tt : TT} {te : TE}
theorem r_cmIF (hl : IL K H a ns) (f : Int → Bool) (v : Int → V) (hz : ns.length ≤ 10000) (hw : ∀ x, wipe ((wipe σ vs).set j (some x)) vs = wipe σ vs)
    (ht : ∀ x, x ∈ ns → ∀ (H1 : Hp) (R : Bool → Hp → Prop), Ex H H1 → (∀ H2, Ex H1 H2 → R (f x) H2) → tt ((wipe σ vs).set j (some (.int x))) H1 R)
    (he : ∀ x, x ∈ ns → f x = true → ∀ (H1 : Hp) (Q' : VK), Ex H H1 → (∀ H2, Ex H1 H2 → Q' (v x) H2) → te ((wipe σ vs).set j (some (.int x))) H1 Q')
    (q : ∀ p H1, H p = none → Ex H H1 → H1 p = some (.lst ((ns.filter f).map v)) → Q (.ref p) H1) : rLc (Itl K a) (gName j) tt te vs σ Q H := by
  refine r_cmLA (xs := ns.map V.int) (fun i acc H' => Ex H H' ∧ acc = ((ns.take i).filter f).map v) (by rw [List.length_map]; omega) hw (fun i ys H' p => ex_l p.1 hl) (fun D hD o => ⟨Ex.new hD, rfl⟩) (fun i x H1 D acc hx hz' hacc p hall => ?_) fun D H1 ys hD h p _ => ?_
  · obtain ⟨e, rfl⟩ := p
    have hD : H D = none := ex_none fun o => (hall o).1
    rw [List.getElem?_map] at hx
    cases hn : ns[i]? with
    | none => rw [hn] at hx; cases hx
    | some n =>
      rw [hn] at hx
      cases hx
      have hi := (List.getElem?_eq_some_iff.mp hn).1
      have hm := List.mem_of_getElem? hn
      have tk := take_snoc hn
      refine ht n hm H1 _ e fun H2 e2 => ?_
      cases hf : f n with
      | true =>
        refine if_T (he n hm hf H2 _ (e.trans e2) fun H3 e3 => ?_)
        refine cm_yes ((e2.trans e3) _ _ hacc) hz' (by omega) fun o => ⟨ex_put ((e.trans e2).trans e3) hD, ?_⟩
        rw [tk, List.filter_append, List.map_append, List.filter_cons_of_pos hf, List.filter_nil]
        rfl
      | false =>
        refine if_F (cm_no (e2 _ _ hacc) hz' fun o => ⟨ex_put (e.trans e2) hD, ?_⟩)
        rw [tk, List.filter_append, List.map_append, List.filter_cons_of_neg (by rw [hf]; decide), List.filter_nil, List.map_nil, List.append_nil]
  · obtain ⟨e, rfl⟩ := p
    rw [List.length_map, List.take_length] at h
    exact q D H1 hD e h
end
/-- a method of a list -/
theorem r_met {K : PySem.W.Frag} {r : V → List V → Hp → VK → Prop} {t : TA} {σ : L2.St} {a : Addr} {xs : List V} {H : Hp} {Q : VK} (h : SqL K H a xs) (q : t σ H fun us H2 => r (.ref a) us H2 Q) : rApp K "list" r t σ (.ref a) H Q := ⟨.inl ⟨rfl, xs, h⟩, q⟩
/-- draws from up to 2 ^ 220 -/
def spTakeW : Sp := fun vs H Q _ => ∃ w n m, vs = [.ref w, .int m] ∧ 0 < m ∧ m < 2 ^ 220 ∧ Well H w n ∧ n < 2 ^ 30 ∧ ∀ r H', 0 ≤ r → r < m → ExW w H H' → Well H' w (n + 1) → Q (.int r) H'
/-- the last of a sequence, as a sequence -/
theorem cut_last {ns : List Int} : cutV (ns.map V.int) (some (-1)) none = (ns.drop (ns.length - 1)).map V.int := by
  rw [cut_map, HT.sIx_none]
  have e : HT.sIx ns.length 0 (some (-1)) = ns.length - 1 := by
    show (if (-1 : Int) < 0 then ((-1 : Int) + (ns.length : Int)).toNat else min (-1 : Int).toNat ns.length) = ns.length - 1
    rw [if_pos (by decide)]
    omega
  rw [e, List.take_of_length_le (by rw [List.length_drop]; exact Nat.le_refl _)]
/-! ### ranges downward -/
section
variable {σ : L2.St} {H : Hp} {D : Ends} {g : TG} {tb : TS} {ta : TA} {R : It → Hp → Prop} {i j lo c : Int} {m : Nat}
def rRng3 (vs : List V) (R : It → Hp → Prop) (H1 : Hp) : Prop := ∃ (i j c : Int) (n : Nat), vs = [.int i, .int j, .int c] ∧ RgC i j c n ∧ R (Itc i c n) H1
theorem st_rng3 (h : ta σ H fun us H1 => rRng3 us R H1) : iRng3 ta σ H R := h
theorem r_rngD (h : -(2 ^ 62) ≤ i ∧ i < 2 ^ 62 ∧ -(2 ^ 62) ≤ j ∧ j < 2 ^ 62) (q : R (Itc i (-1) (i - j).toNat) H) : rRng3 [.int i, .int j, .int (-1)] R H := ⟨i, j, -1, _, rfl, RgC.neg h.1 h.2.1 h.2.2.1 h.2.2.2, q⟩
theorem r_forC (Pv : Nat → L2.St → Hp → Prop) (h0 : Pv 0 σ H) (hs : ∀ i σ' H', i < m → Pv i σ' H' → g (.int (lo + (i : Nat) * c)) σ' H' fun σ2 H2 => tb { D with nx := Pv (i + 1), ct := Pv (i + 1), bk := D.nx } σ2 H2)
    (hd : ∀ σ' H', Pv m σ' H' → D.nx σ' H') : rFor (Itc lo c m) g tb D σ H := for_rangeC (lo := lo) (c := c) (n := m) Pv h0 hs hd
end
/-! ### the same over a tuple -/
section
variable {K : PySem.W.Frag} {σ : L2.St} {H : Hp} {Q : VK} {a : Addr} {xs : List V} {ns : List Int} {vs : List Nat} {j : Nat} {tt : TT} {te : TE}
theorem r_cmTA (S : Nat → List V → Hp → Prop) (hz : xs.length ≤ 100000) (hw : ∀ x, wipe ((wipe σ vs).set j (some x)) vs = wipe σ vs) (hl : ∀ i ys H', S i ys H' → SqT K H' a xs)
    (h0 : ∀ D, H D = none → ∀ o, S 0 [] (upd H D o))
    (he : ∀ i x H1 D acc, xs[i]? = some x → acc.length ≤ i → H1 D = some (.lst acc) → S i acc H1 → (∀ o, S i acc (upd H1 D o)) →
      tt ((wipe σ vs).set j (some x)) H1 fun b H2 => if b = true then te ((wipe σ vs).set j (some x)) H2 (fun y H3 => CmY S D i y H3) else CmP S D (i + 1) H2)
    (q : ∀ D H1 ys, H D = none → H1 D = some (.lst ys) → S xs.length ys H1 → (∀ o, S xs.length ys (upd H1 D o)) → Q (.ref D) H1) : rLc (Itt K a) (gName j) tt te vs σ Q H := fun D hD => by
  have at1 : ∀ {i : Nat} {ys : List V} {H' : Hp}, (∀ o, S i ys (upd H' D o)) → H' D = some (.lst ys) → S i ys H' := fun {i ys H'} h e => by
    have z := h (.lst ys)
    rw [upd_id e] at z
    exact z
  refine lc_tup (K := K) (a := a) (xs := xs) (fun i H' => CmP S D i H') ⟨[], Nat.le_refl _, fun o => by rw [upd_upd]; exact h0 D hD o, upd_same⟩ (fun i H' _ p => ?_) (fun i x H' hx p => ⟨hw x, ?_⟩) (fun H' p => ?_)
  · obtain ⟨ys, h1, h2, h3⟩ := p
    exact hl i ys H' (at1 h2 h3)
  · obtain ⟨ys, h1, h2, h3⟩ := p
    exact he i x H' D ys hx h1 h3 (at1 h2 h3) h2
  · obtain ⟨ys, h1, h2, h3⟩ := p
    exact q D H' ys hD h3 (at1 h2 h3) h2
theorem r_cmIFt (hl : IT K H a ns) (f : Int → Bool) (v : Int → V) (hz : ns.length ≤ 10000) (hw : ∀ x, wipe ((wipe σ vs).set j (some x)) vs = wipe σ vs)
    (ht : ∀ x, x ∈ ns → ∀ (H1 : Hp) (R : Bool → Hp → Prop), Ex H H1 → (∀ H2, Ex H1 H2 → R (f x) H2) → tt ((wipe σ vs).set j (some (.int x))) H1 R)
    (he : ∀ x, x ∈ ns → f x = true → ∀ (H1 : Hp) (Q' : VK), Ex H H1 → (∀ H2, Ex H1 H2 → Q' (v x) H2) → te ((wipe σ vs).set j (some (.int x))) H1 Q')
    (q : ∀ p H1, H p = none → Ex H H1 → H1 p = some (.lst ((ns.filter f).map v)) → Q (.ref p) H1) : rLc (Itt K a) (gName j) tt te vs σ Q H := by
  refine r_cmTA (xs := ns.map V.int) (fun i acc H' => Ex H H' ∧ acc = ((ns.take i).filter f).map v) (by rw [List.length_map]; omega) hw (fun i ys H' p => ex_t p.1 hl) (fun D hD o => ⟨Ex.new hD, rfl⟩) (fun i x H1 D acc hx hz' hacc p hall => ?_) fun D H1 ys hD h p _ => ?_
  · obtain ⟨e, rfl⟩ := p
    have hD : H D = none := ex_none fun o => (hall o).1
    rw [List.getElem?_map] at hx
    cases hn : ns[i]? with
    | none => rw [hn] at hx; cases hx
    | some n =>
      rw [hn] at hx
      cases hx
      have hi := (List.getElem?_eq_some_iff.mp hn).1
      have hm := List.mem_of_getElem? hn
      have tk := take_snoc hn
      refine ht n hm H1 _ e fun H2 e2 => ?_
      cases hf : f n with
      | true =>
        refine if_T (he n hm hf H2 _ (e.trans e2) fun H3 e3 => ?_)
        refine cm_yes ((e2.trans e3) _ _ hacc) hz' (by omega) fun o => ⟨ex_put ((e.trans e2).trans e3) hD, ?_⟩
        rw [tk, List.filter_append, List.map_append, List.filter_cons_of_pos hf, List.filter_nil]
        rfl
      | false =>
        refine if_F (cm_no (e2 _ _ hacc) hz' fun o => ⟨ex_put (e.trans e2) hD, ?_⟩)
        rw [tk, List.filter_append, List.map_append, List.filter_cons_of_neg (by rw [hf]; decide), List.filter_nil, List.map_nil, List.append_nil]
  · obtain ⟨e, rfl⟩ := p
    rw [List.length_map, List.take_length] at h
    exact q D H1 hD e h
end
theorem at_lastV {xs : List V} {x : V} (h : 0 < xs.length) (hx : xs[xs.length - 1]? = some x) : atI xs (-1) = some x := by
  have e : ixN xs.length (-1) = some (xs.length - 1) := by
    unfold ixN
    rw [if_neg (by decide), if_pos (by omega)]
    congr 1
    omega
  unfold atI
  rw [e]
  exact hx
end L2
namespace L2
open PySem PySem.Spec PyProof.Rows Evl
section
variable {X : Cx} {K : PySem.W.Frag} {σ : L2.St} {H : Hp} {Q : VK} {D : Ends}
/-- str(i), repr(i) -/
def rTxtI : List V → Hp → VK → Prop := fun xs H Q => ∃ i, xs = [.int i] ∧ i.natAbs.log2 < 1920 ∧ Q (.str (toString i)) H
theorem str_I : CallR X (.type "str") rTxtI := call_str_int
theorem repr_I : CallR X (.builtin "repr") rTxtI := SkE.call_repr_int
theorem r_txtI {i : Int} (h : i.natAbs < 2 ^ 1900) (q : Q (.str (toString i)) H) : rTxtI [.int i] H Q := ⟨i, rfl, Nat.lt_of_lt_of_le (PySem.Flt.log2_lt_of (by decide) h) (by decide), q⟩
/-- factorial(i) -/
def rFact : List V → Hp → VK → Prop := fun vs H Q => ∃ a : Int, vs = [.int a] ∧ 0 ≤ a ∧ a ≤ 20000 ∧ Q (.int ((Builtin.Math.factorialNat a.toNat : Nat) : Int)) H
theorem cr_fact : CallR X (.builtin "math.factorial") rFact := by
  intro pins s σ H vs us Q I r h
  obtain ⟨a, rfl, h0, h1, q⟩ := h
  obtain ⟨u, rfl, t, rfl⟩ := vals1 r
  exact PySem.W.mc_factorial h0 h1 fun _ => ⟨.int _, H, I.tok _, ⟨_, rfl⟩, q⟩
/-- x *= i -/
def ipMulW : TIp := fun x y H Q => ∃ i j, x = .int i ∧ y = .int j ∧ CMulW i j ∧ Q (.int (i * j)) H
theorem ip_mulW : PIp X .Mult ipMulW := by
  intro pins s σ H x y v u Q I r1 r2 h
  obtain ⟨i, j, e1, e2, hc, q⟩ := h
  subst e1; subst e2
  obtain ⟨t, rfl⟩ := r1
  obtain ⟨t', rfl⟩ := r2
  exact PySem.AutoIntOps.imul_0 ⟨.int _, H, I.tok _, ⟨_, rfl⟩, q⟩ hc.ok
theorem r_augMul {i : Nat} {x y : Int} (hc : CMulW x y) (h : D.nx (σ.set i (some (.int (x * y)))) H) : rAug i (.int x) ipMulW D σ (.int y) H := ⟨x, y, rfl, rfl, hc, h⟩
theorem st_par3 {i j l : Nat} {t : TA} (h : t σ H fun vs H1 => ∃ u v w, vs = [u, v, w] ∧ D.nx (((σ.set i (some u)).set j (some v)).set l (some w)) H1) : tPar3 i j l t D σ H := h
end
end L2
/-! dicts: what their keys are, and the rules by what is walked -/
namespace L2
open PySem PySem.Spec PyProof.Rows Evl
/-! ### list(d.values()) -/
theorem kv_vals : ∀ {kvs : List (Key × V)} {vs : List (Key × Value)}, KV kvs vs → Paired (fun (x : V) (u : Value) => RelV x u) (kvs.map (·.2)) (vs.map (·.2))
  | _, _, .nil => .nil
  | _, _, .cons h t => .cons h.2 (kv_vals t)
def rValsL : V → Hp → VK → Prop := fun x H Q => ∃ (d : Addr) (kvs : List (Key × V)), x = .ref d ∧ H d = some (.dK kvs) ∧ ∀ p, H p = none → Q (.ref p) (upd H p (.lst (kvs.map (·.2))))
def tListVals (te : TE) : TE := fun σ H Q => te σ H fun x H1 => rValsL x H1 Q
section
variable {X : Cx} {e : Expr} {te : TE} {p apos cpos pos : Pos}
theorem pe_listVals (hc : X.calm = true) (he : PE X e te) (hg : Gl X "list") (hm : X.mg "list" = none) (hv : bootBuiltins "list" = some (.type "list")) (hbase : attributeBase e "values" X.env (eval e X.env) = eval e X.env := by rfl) (hline : (apos.endLine == cpos.line) = true := by rfl)
    (hs : starEach [.Call (.Attribute e "values" apos) [] [] cpos] X.env = (false, eval (.Call (.Attribute e "values" apos) [] [] cpos) X.env) :: starEach [] X.env := by rfl) :
    PE X (.Call (.Name "list" p) [.Call (.Attribute e "values" apos) [] [] cpos] [] pos) (tListVals te) := by
  refine ⟨fun pins s σ H Q I hq => ?_⟩
  refine wpAny_Call_Name_kw (ld_blt I hg hm hv ?_)
  refine PyProof.Rows.callWith_type1 ?_ hs rfl
  rw [hs]
  show wpAny _ _ (spliced ((false, eval (.Call (.Attribute e "values" apos) [] [] cpos) X.env) :: backTo pos (starEach [] X.env))) _ _ s
  refine Calls.spliced_cons ?_
  refine wpAny_Call_method (T := "dict") (id := "dict.values") hbase rfl hline F.plainAttrs_dict F.slot_dict_values F.type_dict_values (thn (he.run pins s σ H _ I hq) fun u s1 ⟨x, H1, I1, rx, d, kvs, ex, hd, q⟩ => ?_)
  subst ex
  obtain rfl : u = Value.ref d := rx
  obtain ⟨hz, hs0, vs, kv, hdo⟩ := I1.hok d _ hd
  obtain ⟨ep, hat⟩ := hdo.dictAt
  have lk : kvs.length = vs.length := Paired.length kv
  have I2 : Inv X pins σ H1 { s1 with heap := s1.heap.push { cls := .type "dict_values", data := .fields #[.ref d] } } := I1.kept (t' := s1.toks) fun b ob q => Heap.get?_push_of_some _ q
  refine ⟨hdo.typeIs, hdo.mapOf.noDict, ?_⟩
  show wpAny _ _ (callWith cpos (.builtin "dict.values") [.ref d] [] []) _ X.xe s1
  refine method_meetsIn F.slot_dict_values F.entry_dict_values rfl (PySem.evalArgs_none ⟨rfl, hdo.typeIs, F.args_dict_values_1 _, _, meets_dict_values (mixKind X.prog X.w) d hs0, ⟨vs, hdo⟩, ?_⟩)
  refine Calls.spliced_nil ?_
  refine PySem.W.kdl_call (PySem.W.kdl_values (knd := mixKind X.prog X.w) (kvs := vs) (ep := ep) (d := d)) (I1.ok.hd hc) ⟨⟨_, Heap.get?_push_size _ rfl, rfl, rfl⟩, hat.push _⟩ (by rw [← lk]; exact hz) fun h' tk acc c hk hS hacc => ?_
  refine ⟨.ref _, _, I2.laid hk (Nat.le_refl _) (show ObjOk X.prog X.w _ _ _ (.lst (kvs.map (·.2))) from ⟨?_, acc.toList, c, ?_, ?_⟩), rfl, q _ (I2.hok.fresh (Nat.le_refl _))⟩
  · rw [List.length_map]; exact hz
  · have el : acc.toList.length = acc.size := by simp
    have kp := kv_vals kv
    refine vals_of_at (by rw [List.length_map, el, hacc.1, lk]) fun j x w h1 h2 => ?_
    obtain ⟨k, hi⟩ := hacc.2 j w (by rw [← Array.getElem?_toList]; exact h2)
    obtain ⟨y, hy, ry⟩ := LiI.paired_get kp h1
    rw [List.getElem?_map, hi] at hy
    cases hy
    exact ry
  · rw [Array.toArray_toList]; exact hS
end
/-! ### dicts with numbers for keys, in their sequence -/
def dm (l : List Int) (f : Int → V) : List (Key × V) := l.map fun s => (Sum.inl s, f s)
theorem dm_len (l : List Int) (f : Int → V) : (dm l f).length = l.length := by unfold dm; rw [List.length_map]
theorem dm_vals (l : List Int) (f : Int → V) : (dm l f).map (·.2) = l.map f := by unfold dm; rw [List.map_map]; rfl
theorem valV_dm {f : Int → V} : ∀ {l : List Int} {x : Int}, x ∈ l → valV (dm l f) (Sum.inl x) = some (f x)
  | y :: l, x, h => by
    show valV ((Sum.inl y, f y) :: dm l f) (Sum.inl x) = _
    by_cases e : y = x
    · subst e
      exact valV_pos rfl
    · rw [valV_neg (fun z => e (Sum.inl.inj z))]
      rcases List.mem_cons.mp h with h | h
      · exact absurd h.symm e
      · exact valV_dm h
theorem valV_dm_no {f : Int → V} : ∀ {l : List Int} {x : Int}, x ∉ l → valV (dm l f) (Sum.inl x) = none
  | [], _, _ => rfl
  | y :: l, x, h => by
    show valV ((Sum.inl y, f y) :: dm l f) (Sum.inl x) = _
    rw [valV_neg (fun z => h (by rw [Sum.inl.inj z]; exact List.mem_cons_self))]
    exact valV_dm_no fun z => h (List.mem_cons_of_mem _ z)
theorem putK_dm {f : Int → V} {l : List Int} {x : Int} (h : x ∈ l) (y : V) : putK (dm l f) (Sum.inl x) y = dm l fun s => if s = x then y else f s := by
  have e : ((dm l f).any fun kv => decide (kv.1 = Sum.inl x)) = true := by rw [valV_any, valV_dm h]; rfl
  unfold putK
  rw [if_pos e]
  unfold dm
  rw [List.map_map]
  refine List.map_congr_left fun s _ => ?_
  show (if (Sum.inl s : Key) = Sum.inl x then ((Sum.inl s : Key), y) else (Sum.inl s, f s)) = _
  by_cases e2 : s = x
  · rw [if_pos (by rw [e2])]
    show _ = (Sum.inl s, if s = x then y else f s)
    rw [if_pos e2]
  · rw [if_neg (fun z => e2 (Sum.inl.inj z))]
    show _ = (Sum.inl s, if s = x then y else f s)
    rw [if_neg e2]
theorem putK_dm_new {f : Int → V} {l : List Int} {x : Int} (h : x ∉ l) (y : V) : putK (dm l f) (Sum.inl x) y = dm l f ++ [(Sum.inl x, y)] := putK_new y (valV_dm_no h)
theorem dm_snoc (f : Int → V) (l : List Int) (x : Int) : dm (l ++ [x]) f = dm l f ++ [(Sum.inl x, f x)] := by unfold dm; rw [List.map_append]; rfl
def rDc (J : It) (g : TG) (tt : TT) (tk tv : TE) (vs : List Nat) (σ : L2.St) (Q : VK) (H1 : Hp) : Prop := ∀ D, H1 D = none → ∃ W : Nat → Nat → Hp → Prop, (∃ m, W 0 m (upd H1 D (.dK []))) ∧ ∀ i m H, W i m H →
  (J.stop i H ∧ Q (.ref D) H) ∨ (J.go i H ∧ ∃ Nx : Hp → Prop, (∀ H', Nx H' → ∃ m', m' < m ∧ W (i + 1) m' H') ∧ ∀ x H', J.yld i H x H' → g x (wipe σ vs) H' fun σ2 H2 => wipe σ2 vs = wipe σ vs ∧ tt σ2 H2 fun b H3 =>
    if b = true then tk σ2 H3 fun y H4 => tv σ2 H4 fun z H5 => ∃ kvs k, y = kV k ∧ H5 D = some (.dK kvs) ∧ kvs.length < sizeLine ∧ Nx (upd H5 D (.dK (putK kvs k z))) else Nx H3)
def rKeys (x : V) (R : It → Hp → Prop) (H1 : Hp) : Prop := ∃ d o, x = .ref d ∧ ((∃ kvs, H1 d = some (.frz o (.dK kvs)) ∧ R (Itk d o kvs) H1) ∨ ∃ kvs, H1 d = some (.frz o (.dT kvs)) ∧ R (Itkt d o kvs) H1)
def rLockE (t : TE) (σ : L2.St) (H : Hp) (Q : VK) : Prop := tLockE t σ H Q
def rDGet (x y : V) (H2 : Hp) (Q : VK) : Prop := ∃ a v, x = .ref a ∧ DGet H2 a y (some v) ∧ Q v H2
def rDIn (neg : Bool) (x y : V) (H2 : Hp) (Q : VK) : Prop := ∃ a o, x = .ref a ∧ DGet H2 a y o ∧ Q (.bl (if neg then !o.isSome else o.isSome)) H2
def rDPut (x y v : V) (H3 : Hp) (R : Hp → Prop) : Prop := ∃ a H4, x = .ref a ∧ DPut H3 a y v H4 ∧ R H4
def rNewD (H : Hp) (Q : VK) : Prop := ∀ p, H p = none → Q (.ref p) (upd H p (.dK []))
section
variable {K : PySem.W.Frag} {σ : L2.St} {H : Hp} {Q : VK} {D : Ends} {g : TG} {tt : TT} {wi : TI} {td ty tv tk : TE} {vs : List Nat} {a d : Addr} {j : Nat} {R : It → Hp → Prop} {ns l : List Int} {f : Int → V} {x : Int} {kvs : List (Key × V)}
theorem st_lvals (h : td σ H fun x H1 => rValsL x H1 Q) : tListVals td σ H Q := h
theorem r_lvals (h : H d = some (.dK kvs)) (q : ∀ p H1, H p = none → Ex H H1 → H1 p = some (.lst (kvs.map (·.2))) → Q (.ref p) H1) : rValsL (.ref d) H Q := ⟨d, kvs, rfl, h, alloc q⟩
theorem st_dc (h : wi σ H fun J H1 => rDc J g tt tk tv vs σ Q H1) : tDc wi g tt tk tv vs σ H Q := h
theorem st_keys (h : td σ H fun x H1 => rKeys x R H1) : iKeys td σ H R := h
theorem st_dget (h : td σ H fun x H1 => ty σ H1 fun y H2 => rDGet x y H2 Q) : tDGet td ty σ H Q := h
theorem st_din (h : ty σ H fun y H1 => td σ H1 fun x H2 => rDIn false x y H2 Q) : tDIn ty td σ H Q := h
theorem st_dnin (h : ty σ H fun y H1 => td σ H1 fun x H2 => rDIn true x y H2 Q) : tDNotIn ty td σ H Q := h
theorem st_dput (h : tv σ H fun v H1 => td σ H1 fun x H2 => ty σ H2 fun y H3 => rDPut x y v H3 fun H4 => D.nx σ H4) : sDPut td ty tv D σ H := h
theorem st_dnew (h : rNewD H Q) : tDNewK σ H Q := h
theorem r_dnew (q : ∀ p H1, H p = none → Ex H H1 → H1 p = some (.dK []) → Q (.ref p) H1) : rNewD H Q := alloc q
theorem r_dget {v : V} (h : Rd H d (.dK kvs)) (e : valV kvs (Sum.inl x) = some v) (q : Q v H) : rDGet (.ref d) (.int x) H Q := ⟨d, v, rfl, .inl ⟨kvs, Sum.inl x, h, rfl, e.symm⟩, q⟩
theorem r_dput {v : V} {R : Hp → Prop} (h : H d = some (.dK kvs)) (hz : kvs.length < 100000) (q : ∀ H1, ExW d H H1 → H1 d = some (.dK (putK kvs (Sum.inl x) v)) → R H1) : rDPut (.ref d) (.int x) v H R :=
  ⟨d, _, rfl, DPut.k (k := Sum.inl x) h (sz_lt hz), q _ ExW.upd upd_same⟩
/-- {x: e for x in ints} -/
theorem r_dcL (hl : IL K H a ns) (hn : ns.Nodup) (f : Int → V) (hz : ns.length ≤ 10000) (hw : ∀ x, wipe ((wipe σ vs).set j (some x)) vs = wipe σ vs) (hj : ∀ x, ((wipe σ vs).set j (some x))[j]? = some (some x))
    (he : ∀ x, x ∈ ns → ∀ (H1 : Hp) (Q' : VK), Ex H H1 → (∀ H2, Ex H1 H2 → Q' (f x) H2) → tv ((wipe σ vs).set j (some (.int x))) H1 Q')
    (q : ∀ p H1, H p = none → Ex H H1 → H1 p = some (.dK (dm ns f)) → Q (.ref p) H1) : rDc (Itl K a) (gName j) tYes (tVar j) tv vs σ Q H := fun D hD => by
  refine ⟨fun i d H' => d = ns.length - i ∧ i ≤ ns.length ∧ Ex H H' ∧ H' D = some (.dK (dm (ns.take i) f)), ⟨ns.length, by simp, Nat.zero_le _, Ex.new hD, upd_same⟩, ?_⟩
  rintro i d H' ⟨rfl, hi, e, h⟩
  rcases Nat.lt_or_ge i ns.length with lt | ge
  · have hx := List.getElem?_eq_getElem lt
    have hl' := ex_l e hl
    refine .inr ⟨⟨_, _, hl', by rw [List.getElem?_map, hx]; rfl⟩, fun H'' => Ex H H'' ∧ H'' D = some (.dK (dm (ns.take (i + 1)) f)), fun H'' p => ⟨ns.length - (i + 1), by omega, rfl, lt, p⟩, ?_⟩
    rintro y H6 ⟨rfl, hy⟩
    have hy' := hy _ hl'
    rw [List.getElem?_map, hx] at hy'
    cases hy'
    refine ⟨hw _, t_yes ?_⟩
    dsimp only
    rw [if_pos rfl]
    refine ⟨_, hj _, ?_⟩
    refine he _ (List.mem_of_getElem? hx) H6 _ e fun H7 e7 => ?_
    have h7 := e7 _ _ h
    refine ⟨_, Sum.inl ns[i], rfl, h7, sz_lt (by rw [dm_len, List.length_take]; omega), Ex.mut (e.trans e7) hD, ?_⟩
    have nin : ns[i] ∉ ns.take i := fun hm => by
      obtain ⟨k, hk⟩ := List.mem_iff_getElem?.mp hm
      have hki := (List.getElem?_eq_some_iff.mp hk).1
      rw [List.length_take] at hki
      rw [List.getElem?_take_of_lt (by omega)] at hk
      have := (List.getElem?_inj (by omega) hn).mp (hk.trans hx.symm)
      omega
    rw [upd_same, putK_dm_new nin, take_snoc hx, dm_snoc]
  · have e2 : i = ns.length := by omega
    subst e2
    refine .inl ⟨⟨_, ex_l e hl, by rw [List.length_map]; exact Nat.le_refl _⟩, ?_⟩
    rw [List.take_length] at h
    exact q D H' hD e h
/-- {x: e for x in d}, d a dict -/
theorem r_dcD {i0 : Nat} {f0 : Int → V} (hv : σ[i0]? = some (some (.ref d))) (hd : H d = some (.dK (dm ns f0))) (hn : ns.Nodup) (f : Int → V) (hz : ns.length ≤ 10000) (hw : ∀ x, wipe ((wipe σ vs).set j (some x)) vs = wipe σ vs) (hj : ∀ x, ((wipe σ vs).set j (some x))[j]? = some (some x))
    (he : ∀ x, x ∈ ns → ∀ (H1 : Hp) (Q' : VK), ExW d H H1 → Rd H1 d (.dK (dm ns f0)) → (∀ H2, Ex H1 H2 → Q' (f x) H2) → tv ((wipe σ vs).set j (some (.int x))) H1 Q')
    (q : ∀ p H1, H p = none → Ex H H1 → H1 p = some (.dK (dm ns f)) → Q (.ref p) H1) : tLockE (tDc (iKeys (tVar i0)) (gName j) tYes (tVar j) tv vs) σ H Q := by
  refine ⟨d, _, hd, trivial, fun od => ?_⟩
  refine ⟨_, hv, d, od, rfl, .inl ⟨dm ns f0, upd_same, fun D hD => ?_⟩⟩
  have hDd : D ≠ d := fun e => by rw [e, upd_same] at hD; cases hD
  have hD0 : H D = none := by rw [upd_ne hDd] at hD; exact hD
  have fr : (upd H d (.frz od (.dK (dm ns f0)))) d = some (.frz od (.dK (dm ns f0))) := upd_same
  have wx : ExW d H (upd H d (.frz od (.dK (dm ns f0)))) := ExW.upd
  generalize upd H d (.frz od (.dK (dm ns f0))) = H0 at hD fr wx
  refine ⟨fun i m H' => m = ns.length - i ∧ i ≤ ns.length ∧ Ex H0 H' ∧ H' D = some (.dK (dm (ns.take i) f)), ⟨ns.length, by simp, Nat.zero_le _, Ex.new hD, upd_same⟩, ?_⟩
  rintro i m H' ⟨rfl, hi, e, h⟩
  have fr' := e _ _ fr
  rcases Nat.lt_or_ge i ns.length with lt | ge
  · have hx := List.getElem?_eq_getElem lt
    refine .inr ⟨⟨fr', by rw [dm_len]; exact lt⟩, fun H'' => Ex H0 H'' ∧ H'' D = some (.dK (dm (ns.take (i + 1)) f)), fun H'' p => ⟨ns.length - (i + 1), by omega, rfl, lt, p⟩, ?_⟩
    rintro y H6 ⟨rfl, k, v, hy, rfl⟩
    unfold dm at hy
    rw [List.getElem?_map, hx] at hy
    cases hy
    refine ⟨hw _, t_yes ?_⟩
    dsimp only
    rw [if_pos rfl]
    refine ⟨_, hj _, ?_⟩
    refine he _ (List.mem_of_getElem? hx) H6 _ (wx.trans (.of e)) (.inr ⟨od, fr'⟩) fun H7 e7 => ?_
    have h7 := e7 _ _ h
    refine ⟨_, Sum.inl ns[i], rfl, h7, sz_lt (by rw [dm_len, List.length_take]; omega), Ex.mut (e.trans e7) hD, ?_⟩
    have nin : ns[i] ∉ ns.take i := fun hm => by
      obtain ⟨k, hk⟩ := List.mem_iff_getElem?.mp hm
      have hki := (List.getElem?_eq_some_iff.mp hk).1
      rw [List.length_take] at hki
      rw [List.getElem?_take_of_lt (by omega)] at hk
      have := (List.getElem?_inj (by omega) hn).mp (hk.trans hx.symm)
      omega
    rw [upd_same, putK_dm_new nin, take_snoc hx, dm_snoc]
  · have e2 : i = ns.length := by omega
    subst e2
    refine .inl ⟨⟨fr', by rw [dm_len]; exact Nat.le_refl _⟩, fr', ?_⟩
    rw [List.take_length] at h
    refine q D _ hD0 (fun b o hb => ?_) (by rw [upd_ne hDd]; exact h)
    by_cases eb : b = d
    · subst eb
      rw [upd_same, ← hb, hd]
    · rw [upd_ne eb]
      exact e _ _ (wx b o hb eb)
end
/-! ### < of tuples (number, tuple of ints) -/
def rLtP (K : PySem.W.Frag) : R2 := fun x y H Q => ∃ (a b p q : Addr) (i j : Int) (ns ms : List Int), x = .ref a ∧ y = .ref b ∧ SqT K H a [.int i, .ref p] ∧ SqT K H b [.int j, .ref q] ∧ IT K H p ns ∧ IT K H q ms ∧ Q (.bl (if i = j then (if ns = ms then false else HT.lexLt ns ms) else decide (i < j))) H
theorem op_ltP {X : Cx} (K : PySem.W.Frag) (hu : X.A.units + 64 < cLine) (hK : X.K = K := by rfl) : OpR X (compareOp .Lt) (rLtP K) := by
  cases hK
  intro pins s σ H x y v u Q I rx ry h
  obtain ⟨a, b, p, q, i, j, ns, ms, rfl, rfl, ha, hb, hp, hq, hQ⟩ := h
  cases rx
  cases ry
  obtain ⟨its, r1, p1, _⟩ := I.tuple ha
  obtain ⟨its2, r2, p2, _⟩ := I.tuple hb
  obtain ⟨t, rfl⟩ : ∃ t, its = [.int i t, .ref p] := by
    cases r1 with
    | cons h1 r1 =>
      cases r1 with
      | cons h2 r1 =>
        cases r1
        obtain ⟨t, rfl⟩ := h1
        cases h2
        exact ⟨t, rfl⟩
  obtain ⟨t2, rfl⟩ : ∃ t, its2 = [.int j t, .ref q] := by
    cases r2 with
    | cons h1 r2 =>
      cases r2 with
      | cons h2 r2 =>
        cases r2
        obtain ⟨t, rfl⟩ := h1
        cases h2
        exact ⟨t, rfl⟩
  obtain ⟨us, s1, q1, _⟩ := I.tuple hp
  obtain ⟨us2, s2, q2, _⟩ := I.tuple hq
  have i1 : IntsAre us.toArray.toList ns := intsAre_of s1
  have i2 : IntsAre us2.toArray.toList ms := intsAre_of s2
  obtain ⟨as, d1⟩ := Dp.reads I _ _ _ (dp_t hp) (rfl : RelV (.ref p) (.ref p))
  obtain ⟨bs, d2⟩ := Dp.reads I _ _ _ (dp_t hq) (rfl : RelV (.ref q) (.ref q))
  have hu0 : X.A.units < cLine := Nat.lt_of_le_of_lt (Nat.le_add_right _ _) hu
  have hin : X.A.in1.units + 60 < cLine := by
    have e : X.A.in1.units ≤ X.A.units + 4 := by show X.A.units + _ ≤ _; simp
    omega
  have beq : (i == j) = decide (i = j) := by
    by_cases z : i = j
    · rw [decide_eq_true z]; exact beq_iff_eq.mpr z
    · rw [decide_eq_false z]; exact beq_eq_false_iff_ne.mpr z
  have R := Ob.RcOp.tuples_lt (A := X.A) (s := s) (e := fun k => if k = 0 then decide (i = j) else decide (ns = ms)) (r := fun k => if k = 0 then decide (i < j) else HT.lexLt ns ms) p1 p2 hu0 (fun k h1 h2 => by
    match k, h1, h2 with
    | 0, _, _ =>
      show SeqAt.EqAt _ _ (.int i t) (.int j t2) (decide (i = j))
      rw [← beq]
      exact SeqAt.EqAt.int_int _ _ _ _
    | 1, _, _ =>
      show SeqAt.EqAt _ _ (.ref p) (.ref q) (decide (ns = ms))
      rw [← eqv_tints]
      exact SeqAt.eqAt_reads _ _ _ _ _ _ _ _ d1 d2 (by rw [PyData.canLay0, canLay_ints]) (by rw [PyData.canLay0, canLay_ints]) (by rw [PyData.depth, depth_ints, PyData.depth, depth_ints]; simp; omega)
    | k + 2, h1, _ => exact absurd h1 (by simp)) (fun k h1 h2 _ => by
    match k, h1, h2 with
    | 0, _, _ => exact Ob.RcOp.lt_int _ _ _ _
    | 1, _, _ => exact fun prog w E Q h => HT.lt_tupInts q1 q2 i1 i2 (by omega) h
    | k + 2, h1, _ => exact absurd h1 (by simp))
  have z : wpAny (model X.prog X.w) X.A (compareOp .Lt (.ref a) (.ref b)) (EP X pins σ Q) X.xe s := by
    refine R X.prog X.w X.xe (EP X pins σ Q) ⟨.bl _, H, I, rfl, ?_⟩
    have e : Ob.lexAt (fun k => if k = 0 then decide (i = j) else decide (ns = ms)) (fun k => if k = 0 then decide (i < j) else HT.lexLt ns ms) (decide (([Value.int i t, Value.ref p] : List Value).toArray.size < ([Value.int j t2, Value.ref q] : List Value).toArray.size)) 0 (min ([Value.int i t, Value.ref p] : List Value).toArray.size ([Value.int j t2, Value.ref q] : List Value).toArray.size) = (if i = j then (if ns = ms then false else HT.lexLt ns ms) else decide (i < j)) := by
      show Ob.lexAt _ _ _ 0 2 = _
      rw [Ob.lexAt_succ, Ob.lexAt_succ, Ob.lexAt_zero]
      by_cases z1 : i = j <;> by_cases z2 : ns = ms <;> simp [z1, z2]
    rw [e]
    exact hQ
  exact z
theorem r_ltP {K : PySem.W.Frag} {H : Hp} {Q : VK} {a b p q : Addr} {i j : Int} {ns ms : List Int} (ha : SqT K H a [.int i, .ref p]) (hb : SqT K H b [.int j, .ref q]) (hp : IT K H p ns) (hq : IT K H q ms)
    (k : Q (.bl (if i = j then (if ns = ms then false else HT.lexLt ns ms) else decide (i < j))) H) : rLtP K (.ref a) (.ref b) H Q := ⟨a, b, p, q, i, j, ns, ms, rfl, rfl, ha, hb, hp, hq, k⟩
theorem r_neB {K : PySem.W.Frag} {H : Hp} {Q : VK} {x y : Bool} (q : Q (.bl (!decide (x = y))) H) : rNeU K (.bl x) (.bl y) H Q := .inl ⟨rfl, by
  have e : decide ((V.bl x) = V.bl y) = decide (x = y) := by simp
  rw [e]
  exact q⟩
end L2
/-! straight walks in their order -/
namespace Od
open L2
/-- the steps of so many letters, in their order -/
def steps (L : Nat) : List Int := (List.range L).flatMap fun (i : Nat) => [(i : Int) + 1, -((i : Int) + 1)]
theorem mem_steps {L : Nat} {x : Int} : x ∈ steps L ↔ (x ≠ 0 ∧ -(L : Int) ≤ x ∧ x ≤ L) := by
  unfold steps
  rw [List.mem_flatMap]
  constructor
  · rintro ⟨i, hi, hx⟩
    have := List.mem_range.mp hi
    have e : x = (i : Int) + 1 ∨ x = -((i : Int) + 1) := by simpa using hx
    omega
  · rintro ⟨h0, h1, h2⟩
    refine ⟨x.natAbs - 1, List.mem_range.mpr (by omega), ?_⟩
    have e : x = ((x.natAbs - 1 : Nat) : Int) + 1 ∨ x = -(((x.natAbs - 1 : Nat) : Int) + 1) := by omega
    simpa using e
theorem steps_succ (L : Nat) : steps (L + 1) = steps L ++ [(L : Int) + 1, -((L : Int) + 1)] := by
  unfold steps
  rw [List.range_succ, List.flatMap_append]
  rfl
theorem steps_len : ∀ L : Nat, (steps L).length = 2 * L
  | 0 => rfl
  | L + 1 => by
    rw [steps_succ, List.length_append, steps_len L]
    rfl
theorem steps_nodup : ∀ L : Nat, (steps L).Nodup
  | 0 => List.nodup_nil
  | L + 1 => by
    rw [steps_succ, List.nodup_append]
    refine ⟨steps_nodup L, by simp; omega, fun a ha b hb => ?_⟩
    have h1 := mem_steps.mp ha
    have e : b = (L : Int) + 1 ∨ b = -((L : Int) + 1) := by simpa using hb
    omega
/-- the steps that may stand behind -/
def bh (L : Nat) (p : Option Int) : List Int := (steps L).filter fun s => decide (p ≠ some (-s))
theorem mem_bh {L : Nat} {p : Option Int} {x : Int} : x ∈ bh L p ↔ (x ∈ steps L ∧ p ≠ some (-x)) := by
  unfold bh
  rw [List.mem_filter, decide_eq_true_eq]
theorem bh_none (L : Nat) : bh L none = steps L := by
  unfold bh
  rw [List.filter_eq_self]
  intro a _
  simp
theorem bh_nodup (L : Nat) (p : Option Int) : (bh L p).Nodup := (steps_nodup L).filter _
theorem filter_one {l : List Int} (h : l.Nodup) {y : Int} (hy : y ∈ l) : (l.filter fun s => decide (s ≠ y)).length + 1 = l.length := by
  induction l with
  | nil => cases hy
  | cons a l ih =>
    rw [List.nodup_cons] at h
    by_cases e : a = y
    · subst e
      rw [List.filter_cons_of_neg (by simp), List.length_cons]
      congr 1
      rw [List.filter_eq_self.mpr]
      intro b hb
      have : b ≠ a := fun e => h.1 (e ▸ hb)
      simpa using this
    · have hy' : y ∈ l := by
        rcases List.mem_cons.mp hy with z | z
        · exact absurd z.symm e
        · exact z
      rw [List.filter_cons_of_pos (by simpa using e), List.length_cons, List.length_cons, ih h.2 hy']
theorem bh_some_len {L : Nat} {x : Int} (hx : x ∈ steps L) : (bh L (some x)).length = 2 * L - 1 := by
  have h1 := mem_steps.mp hx
  have hm : -x ∈ steps L := mem_steps.mpr (by omega)
  have h2 := filter_one (steps_nodup L) hm
  rw [steps_len] at h2
  have e : bh L (some x) = (steps L).filter fun s => decide (s ≠ -x) := by
    unfold bh
    congr 1
    funext s
    congr 1
    rw [Ne, Ne, Option.some.injEq]
    exact propext ⟨fun h e => h (by omega), fun h e => h (by omega)⟩
  rw [e]
  omega
theorem at_idx {l : List Int} {x : Int} (h : x ∈ l) : l[l.idxOf x]? = some x := by
  have hi := List.idxOf_lt_length_of_mem h
  rw [List.getElem?_eq_getElem hi, List.getElem_idxOf]
/-- straight walks of the letters that may stand behind p -/
def G (L : Nat) : Option Int → List Int → Prop
  | _, [] => True
  | p, s :: w => s ∈ bh L p ∧ G L (some s) w
/-- the number of such of a length -/
def tot (L : Nat) (p : Option Int) : Nat → Nat
  | 0 => 1
  | z + 1 => (bh L p).length * (2 * L - 1) ^ z
theorem tot_some {L : Nat} {x : Int} (hx : x ∈ steps L) : ∀ z, tot L (some x) z = (2 * L - 1) ^ z
  | 0 => rfl
  | z + 1 => by
    rw [tot, bh_some_len hx, Nat.pow_succ, Nat.mul_comm]
theorem tot_none (L z : Nat) : tot L none (z + 1) = 2 * L * (2 * L - 1) ^ z := by rw [tot, bh_none, steps_len]
/-- its number among those of its length -/
def V (L : Nat) : Option Int → List Int → Nat
  | _, [] => 0
  | p, s :: w => (bh L p).idxOf s * (2 * L - 1) ^ w.length + V L (some s) w
theorem bh_steps {L : Nat} {p : Option Int} {x : Int} (h : x ∈ bh L p) : x ∈ steps L := (mem_bh.mp h).1
theorem V_lt {L : Nat} : ∀ {w : List Int} {p : Option Int}, G L p w → V L p w < tot L p w.length
  | [], _, _ => Nat.one_pos
  | s :: w, p, h => by
    have ih := V_lt h.2
    rw [tot_some (bh_steps h.1)] at ih
    have hi := List.idxOf_lt_length_of_mem h.1
    rw [V, List.length_cons, tot]
    calc (bh L p).idxOf s * (2 * L - 1) ^ w.length + V L (some s) w
        < (bh L p).idxOf s * (2 * L - 1) ^ w.length + (2 * L - 1) ^ w.length := by omega
      _ = ((bh L p).idxOf s + 1) * (2 * L - 1) ^ w.length := by rw [Nat.add_mul, Nat.one_mul]
      _ ≤ (bh L p).length * (2 * L - 1) ^ w.length := Nat.mul_le_mul_right _ hi
theorem V_inj {L : Nat} : ∀ {w u : List Int} {p : Option Int}, G L p w → G L p u → w.length = u.length → V L p w = V L p u → w = u
  | [], [], _, _, _, _, _ => rfl
  | [], _ :: _, _, _, _, h, _ => by cases h
  | _ :: _, [], _, _, _, h, _ => by cases h
  | s :: w, t :: u, p, h1, h2, hl, hv => by
    have hl' : w.length = u.length := by simpa using hl
    have a := V_lt h1.2
    have b := V_lt h2.2
    rw [tot_some (bh_steps h1.1)] at a
    rw [tot_some (bh_steps h2.1), ← hl'] at b
    rw [V, V, ← hl'] at hv
    have e1 : (bh L p).idxOf s = (bh L p).idxOf t := by
      rcases Nat.lt_trichotomy ((bh L p).idxOf s) ((bh L p).idxOf t) with h | h | h
      · have := Nat.mul_le_mul_right ((2 * L - 1) ^ w.length) (Nat.succ_le_of_lt h)
        rw [Nat.succ_mul] at this
        omega
      · exact h
      · have := Nat.mul_le_mul_right ((2 * L - 1) ^ w.length) (Nat.succ_le_of_lt h)
        rw [Nat.succ_mul] at this
        omega
    rw [e1] at hv
    have e2 : s = t := by
      have q1 := at_idx h1.1
      have q2 := at_idx h2.1
      rw [e1] at q1
      rw [q1] at q2
      exact Option.some.inj q2
    subst e2
    rw [V_inj h1.2 h2.2 hl' (by omega)]
/-- the last step, or what stands ahead -/
def lst (p : Option Int) (w : List Int) : Option Int := match w.getLast? with | some x => some x | none => p
theorem lst_nil (p : Option Int) : lst p [] = p := rfl
theorem lst_snoc (p : Option Int) (w : List Int) (s : Int) : lst p (w ++ [s]) = some s := by
  unfold lst
  rw [List.getLast?_concat]
theorem lst_cons (p : Option Int) (s : Int) (w : List Int) : lst p (s :: w) = lst (some s) w := by
  unfold lst
  cases w with
  | nil => rfl
  | cons t w => rw [List.getLast?_cons_cons]; rw [List.getLast?_eq_some_getLast (List.cons_ne_nil t w)]
theorem G_snoc {L : Nat} : ∀ {w : List Int} {p : Option Int} {s : Int}, G L p (w ++ [s]) ↔ (G L p w ∧ s ∈ bh L (lst p w))
  | [], p, s => by simp [G, lst_nil]
  | t :: w, p, s => by
    rw [List.cons_append, G, G, G_snoc, lst_cons, and_assoc]
theorem G_mem {L : Nat} : ∀ {w : List Int} {p : Option Int}, G L p w → ∀ x ∈ w, x ∈ steps L
  | [], _, _, _, h => by cases h
  | s :: w, p, h, x, hx => by
    rcases List.mem_cons.mp hx with e | hx
    · rw [e]; exact bh_steps h.1
    · exact G_mem h.2 x hx
theorem lst_mem {L : Nat} {w : List Int} {x : Int} (h : G L none w) (hx : lst none w = some x) : x ∈ steps L := by
  unfold lst at hx
  cases e : w.getLast? with
  | none => rw [e] at hx; cases hx
  | some y =>
    rw [e] at hx
    cases hx
    exact G_mem h _ (List.mem_of_getLast? e)
theorem bh_len {L : Nat} {w : List Int} (h : G L none w) : (bh L (lst none w)).length = if w = [] then 2 * L else 2 * L - 1 := by
  rcases List.eq_nil_or_concat w with e | ⟨u, x, e⟩
  · subst e
    rw [lst_nil, bh_none, steps_len, if_pos rfl]
  · rw [List.concat_eq_append] at e
    subst e
    rw [if_neg (by simp), lst_snoc, bh_some_len (G_mem h x (by simp))]
/-- by the last step -/
theorem V_snoc {L : Nat} : ∀ {w : List Int} {p : Option Int} {s : Int}, G L p (w ++ [s]) → V L p (w ++ [s]) = V L p w * (bh L (lst p w)).length + (bh L (lst p w)).idxOf s
  | [], p, s, _ => by simp [V, lst_nil]
  | t :: w, p, s, h => by
    have h' : t ∈ bh L p ∧ G L (some t) (w ++ [s]) := h
    have ih := V_snoc h'.2
    have g := (G_snoc.mp h'.2).1
    have c : (bh L (lst (some t) w)).length = 2 * L - 1 := by
      rcases List.eq_nil_or_concat w with e | ⟨u, x, e⟩
      · subst e
        rw [lst_nil, bh_some_len (bh_steps h'.1)]
      · rw [List.concat_eq_append] at e
        subst e
        rw [lst_snoc, bh_some_len (G_mem g x (by simp))]
    rw [List.cons_append, V, V, ih, lst_cons, c, List.length_append, List.length_singleton, Nat.pow_succ, Nat.add_mul, Nat.mul_assoc, Nat.add_assoc]
/-- all shorter ones -/
def S (L : Nat) : Nat → Nat
  | 0 => 0
  | z + 1 => S L z + tot L none z
def place (L : Nat) (w : List Int) : Nat := S L w.length + V L none w
theorem tot_pos {L : Nat} (hL : 0 < L) : ∀ z, 0 < tot L none z
  | 0 => Nat.one_pos
  | z + 1 => by
    rw [tot_none]
    exact Nat.mul_pos (by omega) (Nat.pow_pos (by omega))
theorem S_mono {L : Nat} {a b : Nat} (h : a ≤ b) : S L a ≤ S L b := by
  induction h with
  | refl => exact Nat.le_refl _
  | step _ ih => exact Nat.le_trans ih (Nat.le_add_right _ _)
theorem S_ge {L : Nat} (hL : 0 < L) : ∀ z, z ≤ S L z
  | 0 => Nat.le_refl _
  | z + 1 => by
    have := S_ge hL z
    have := tot_pos hL z
    rw [S]
    omega
theorem S_pow {L : Nat} : ∀ z, (2 * L - 1) ^ z ≤ S L (z + 1)
  | 0 => by simp [S, tot]
  | z + 1 => by
    rw [S, tot_none, Nat.pow_succ, Nat.mul_comm]
    have : (2 * L - 1) * (2 * L - 1) ^ z ≤ 2 * L * (2 * L - 1) ^ z := Nat.mul_le_mul_right _ (by omega)
    omega
theorem place_lt {L : Nat} {w : List Int} (h : G L none w) : place L w < S L (w.length + 1) := by
  have := V_lt h
  unfold place
  rw [S]
  omega
theorem place_ge (L : Nat) (w : List Int) : S L w.length ≤ place L w := Nat.le_add_right _ _
theorem place_len {L : Nat} {w u : List Int} (h1 : G L none w) (h2 : G L none u) (h : place L w ≤ place L u) : w.length ≤ u.length := by
  rcases Nat.lt_or_ge u.length w.length with lt | ge
  · have a := place_lt h2
    have b := place_ge L w
    have c := S_mono (L := L) (a := u.length + 1) (b := w.length) lt
    omega
  · exact ge
theorem place_inj {L : Nat} {w u : List Int} (h1 : G L none w) (h2 : G L none u) (h : place L w = place L u) : w = u := by
  have e : w.length = u.length := Nat.le_antisymm (place_len h1 h2 (Nat.le_of_eq h)) (place_len h2 h1 (Nat.le_of_eq h.symm))
  refine V_inj h1 h2 e ?_
  unfold place at h
  rw [e] at h
  omega
theorem snoc_ind {α : Type} {C : List α → Prop} (h0 : C []) (h1 : ∀ u x, C u → C (u ++ [x])) (w : List α) : C w := by
  have h : ∀ (n : Nat) (w : List α), w.length = n → C w := by
    intro n
    induction n with
    | zero =>
      intro w h
      rw [List.eq_nil_of_length_eq_zero h]
      exact h0
    | succ n ih =>
      intro w h
      rcases List.eq_nil_or_concat w with e | ⟨u, x, e⟩
      · rw [e]; exact h0
      · rw [List.concat_eq_append] at e
        subst e
        exact h1 u x (ih u (by simpa using h))
  exact h _ w rfl
/-- such walks are the straight ones -/
theorem G_of {L : Nat} : ∀ {w : List Int} , Stp L w → Fg.Str w → G L none w := by
  intro w
  refine snoc_ind (C := fun w => Stp L w → Fg.Str w → G L none w) (fun _ _ => trivial) (fun u x ih => ?_) w
  · intro h1 h2
    obtain ⟨s1, s2⟩ := Fg.str_init h2
    refine G_snoc.mpr ⟨ih (fun y hy => h1 y (List.mem_append_left _ hy)) s1, mem_bh.mpr ⟨mem_steps.mpr (h1 x (by simp)), ?_⟩⟩
    unfold lst
    cases e : u.getLast? with
    | none => simp
    | some y => rw [e] at s2; exact s2
theorem of_G {L : Nat} : ∀ {w : List Int}, G L none w → Stp L w ∧ Fg.Str w := by
  intro w
  refine snoc_ind (C := fun w => G L none w → Stp L w ∧ Fg.Str w) (fun _ => ⟨fun x hx => (nomatch hx), Fg.str_nil⟩) (fun u x ih => ?_) w
  · intro h
    obtain ⟨g, hx⟩ := G_snoc.mp h
    obtain ⟨a, b⟩ := ih g
    obtain ⟨h3, h4⟩ := mem_bh.mp hx
    refine ⟨fun y hy => ?_, Fg.str_snoc b ?_⟩
    · rcases List.mem_append.mp hy with hy | hy
      · exact a y hy
      · rw [List.mem_singleton.mp hy]
        exact mem_steps.mp h3
    · intro e
      unfold lst at h4
      rw [e] at h4
      exact h4 rfl
theorem G_take {L : Nat} {w : List Int} (h : G L none w) (i : Nat) : G L none (w.take i) := by
  obtain ⟨a, b⟩ := of_G h
  refine G_of (fun x hx => a x (List.mem_of_mem_take hx)) fun j x hj hj2 => ?_
  rw [List.getElem?_take] at hj hj2
  split at hj
  · split at hj2
    · exact b j x hj hj2
    · cases hj2
  · cases hj
theorem S_sum (L : Nat) : ∀ z : Nat, ((List.range z).map fun i => ((tot L none i : Nat) : Int)).sum = ((S L z : Nat) : Int)
  | 0 => rfl
  | z + 1 => by
    rw [List.range_succ, List.map_append, List.sum_append, S_sum L z, S, Int.natCast_add]
    simp
theorem tot_next {L : Nat} (z : Nat) : tot L none (z + 1) = tot L none z * (if z = 0 then 2 * L else 2 * L - 1) := by
  cases z with
  | zero => rw [tot_none, tot]; simp
  | succ z => rw [tot_none, tot_none, if_neg (by omega), Nat.pow_succ]; simp only [Nat.mul_assoc]
theorem tot_S {L : Nat} (h4 : L ≤ 4) (z : Nat) : tot L none z ≤ 8 * S L z + 1 := by
  cases z with
  | zero => exact Nat.le_add_left _ _
  | succ z =>
    have h1 : tot L none (z + 1) ≤ tot L none z * 8 := by
      rw [tot_next]
      exact Nat.mul_le_mul_left _ (by split <;> omega)
    have h2 : tot L none z ≤ S L (z + 1) := Nat.le_add_left _ _
    omega
/-- what is left to choose behind i of z steps -/
def left (L z i : Nat) : Nat := if i = 0 then tot L none z else (2 * L - 1) ^ (z - i)
theorem left_next {L z i : Nat} {w : List Int} (h : i < z) (g : G L none w) (hw : w.length = i) : left L z i = (bh L (lst none w)).length * left L z (i + 1) := by
  rw [bh_len g]
  unfold left
  rw [if_neg (by omega : ¬ i + 1 = 0)]
  by_cases h0 : i = 0
  · subst h0
    rw [if_pos rfl, if_pos (List.eq_nil_of_length_eq_zero hw)]
    obtain ⟨y, rfl⟩ : ∃ y, z = y + 1 := ⟨z - 1, by omega⟩
    rw [tot_none]
    rfl
  · rw [if_neg h0, if_neg (by intro e; rw [e] at hw; exact h0 hw.symm), show z - i = (z - (i + 1)) + 1 by omega, Nat.pow_succ, Nat.mul_comm]
theorem left_end (L z : Nat) : left L z z = 1 := by
  unfold left
  split
  · next h => rw [h]; rfl
  · rw [Nat.sub_self, Nat.pow_zero]
theorem left_pos {L : Nat} (hL : 0 < L) (z i : Nat) : 0 < left L z i := by
  unfold left
  split
  · exact tot_pos hL z
  · exact Nat.pow_pos (by omega)
theorem left_le {L z i : Nat} (hL : 0 < L) : left L z i ≤ tot L none z := by
  unfold left
  split
  · exact Nat.le_refl _
  · cases z with
    | zero => rw [Nat.zero_sub, Nat.pow_zero]; exact Nat.le_refl 1
    | succ z =>
      rw [tot_none]
      refine Nat.le_trans (Nat.pow_le_pow_right (by omega) (by omega : z + 1 - i ≤ z)) ?_
      exact Nat.le_mul_of_pos_left _ (by omega)
theorem bh_small {L : Nat} (h4 : L ≤ 4) (p : Option Int) : (bh L p).length ≤ 8 := by
  have h1 : (bh L p).length ≤ (steps L).length := List.length_filter_le _ _
  rw [steps_len] at h1
  omega
theorem G_at {L : Nat} {w : List Int} {i : Nat} {x : Int} (g : G L none w) (hx : w[i]? = some x) : x ∈ bh L (lst none (w.take i)) := by
  have h := G_take g (i + 1)
  rw [take_snoc hx] at h
  exact (G_snoc.mp h).2
theorem V_at {L : Nat} {w : List Int} {i : Nat} {x : Int} (g : G L none w) (hx : w[i]? = some x) : V L none (w.take (i + 1)) = V L none (w.take i) * (bh L (lst none (w.take i))).length + (bh L (lst none (w.take i))).idxOf x := by
  have h := G_take g (i + 1)
  rw [take_snoc hx] at h ⊢
  exact V_snoc h
theorem idx_filter {f : Int → Bool} : ∀ {l : List Int} {x : Int}, x ∈ l → f x = true → (l.filter f).idxOf x = ((l.take (l.idxOf x)).filter f).length
  | [], _, h, _ => by cases h
  | a :: l, x, h, hf => by
    by_cases e : a = x
    · subst e
      rw [List.filter_cons_of_pos hf, List.idxOf_cons_self, List.idxOf_cons_self]
      rfl
    · have hx : x ∈ l := by
        rcases List.mem_cons.mp h with z | z
        · exact absurd z.symm e
        · exact z
      have e2 : (a == x) = false := beq_false_of_ne e
      have ih := idx_filter hx hf
      rw [show (a :: l).idxOf x = l.idxOf x + 1 by rw [List.idxOf_cons, e2]; rfl]
      show _ = ((List.take (l.idxOf x + 1) (a :: l)).filter f).length
      rw [List.take_succ_cons]
      cases hfa : f a with
      | true =>
        rw [List.filter_cons_of_pos hfa, List.filter_cons_of_pos hfa, List.idxOf_cons, e2, List.length_cons, ← ih]
        rfl
      | false =>
        rw [List.filter_cons_of_neg (by rw [hfa]; decide), List.filter_cons_of_neg (by rw [hfa]; decide), ← ih]
theorem take_ne {w : List Int} {i : Nat} (h0 : ¬ i = 0) (hl : i < w.length) : w.take i ≠ [] := fun e => by
  have h := congrArg List.length e
  rw [List.length_take, Nat.min_eq_left (Nat.le_of_lt hl)] at h
  exact h0 h
theorem bh_pos {L : Nat} (h1 : 1 ≤ L) {w : List Int} (g : G L none w) : 0 < (bh L (lst none w)).length := by
  rw [bh_len g]
  split <;> omega
/-- the least step behind -/
theorem V_head {L : Nat} {w : List Int} {s : Int} (g : G L none w) (h : (bh L (lst none w))[0]? = some s) : G L none (w ++ [s]) ∧ V L none (w ++ [s]) = V L none w * (2 * L - 1) := by
  have hm := List.mem_of_getElem? h
  have g' : G L none (w ++ [s]) := G_snoc.mpr ⟨g, hm⟩
  refine ⟨g', ?_⟩
  have h0 : (bh L (lst none w)).idxOf s = 0 := Nat.le_zero.mp (L2.idxOf_le h)
  rw [V_snoc g', h0, Nat.add_zero, bh_len g]
  by_cases e : w = []
  · subst e
    rw [V, Nat.zero_mul, Nat.zero_mul]
  · rw [if_neg e]
/-- what is told of the end of a walk: all its digits behind are the greatest -/
def Top (L : Nat) (w : List Int) (j : Nat) : Prop := if j = 0 then V L none w + 1 = tot L none w.length else V L none w + 1 = (V L none (w.take j) + 1) * (2 * L - 1) ^ (w.length - j)
theorem top_end (L : Nat) (w : List Int) : Top L w w.length := by
  unfold Top
  split
  · next h =>
    rw [List.eq_nil_of_length_eq_zero h]
    rfl
  · rw [List.take_length, Nat.sub_self, Nat.pow_zero, Nat.mul_one]
theorem top_next {L : Nat} {w : List Int} {i : Nat} {x : Int} (g : G L none w) (hx : w[i]? = some x) (h : Top L w (i + 1)) (hi : (bh L (lst none (w.take i))).idxOf x + 1 = (bh L (lst none (w.take i))).length) : Top L w i := by
  have hl := (List.getElem?_eq_some_iff.mp hx).1
  unfold Top at h ⊢
  rw [if_neg (by omega), V_at g hx] at h
  have c := bh_len (G_take g i)
  have e1 : V L none (w.take i) * (bh L (lst none (w.take i))).length + (bh L (lst none (w.take i))).idxOf x + 1 = (V L none (w.take i) + 1) * (bh L (lst none (w.take i))).length := by
    rw [Nat.add_mul, Nat.one_mul]
    omega
  rw [e1] at h
  by_cases h0 : i = 0
  · subst h0
    rw [if_pos rfl, h]
    have c0 : (bh L (lst none (w.take 0))).length = 2 * L := by rw [c, List.take_zero, if_pos rfl]
    rw [c0, List.take_zero, V, Nat.zero_add, Nat.one_mul]
    have e2 : w.length = (w.length - (0 + 1)) + 1 := by omega
    rw [e2, tot_none]
    rfl
  · rw [if_neg h0, h]
    have c1 : (bh L (lst none (w.take i))).length = 2 * L - 1 := by
      rw [c, if_neg (take_ne h0 hl)]
    rw [c1, show w.length - i = (w.length - (i + 1)) + 1 by omega, Nat.pow_succ, Nat.mul_assoc, Nat.mul_comm (2 * L - 1)]
/-- with the next step in its place -/
theorem top_more {L : Nat} {w : List Int} {i : Nat} {x y : Int} (g : G L none w) (hx : w[i]? = some x) (h : Top L w (i + 1)) (hy : (bh L (lst none (w.take i)))[(bh L (lst none (w.take i))).idxOf x + 1]? = some y) :
    G L none (w.take i ++ [y]) ∧ V L none (w.take i ++ [y]) * (2 * L - 1) ^ (w.length - (i + 1)) = V L none w + 1 := by
  have g' : G L none (w.take i ++ [y]) := G_snoc.mpr ⟨G_take g i, List.mem_of_getElem? hy⟩
  refine ⟨g', ?_⟩
  unfold Top at h
  rw [if_neg (by omega), V_at g hx] at h
  have hlt := (List.getElem?_eq_some_iff.mp hy).1
  have hid : (bh L (lst none (w.take i))).idxOf y = (bh L (lst none (w.take i))).idxOf x + 1 := by
    have := (bh_nodup L (lst none (w.take i))).idxOf_getElem _ hlt
    rw [(List.getElem?_eq_some_iff.mp hy).2] at this
    exact this
  rw [V_snoc g', hid, h, Nat.add_assoc]
/-- the sum of what is ahead, as far as it is told -/
theorem ahead_step {L : Nat} {w : List Int} {i : Nat} {x : Int} (g : G L none w) (hx : w[i]? = some x) :
    V L none (w.take (i + 1)) * (2 * L - 1) ^ (w.length - (i + 1)) = V L none (w.take i) * (2 * L - 1) ^ (w.length - i) + (bh L (lst none (w.take i))).idxOf x * (2 * L - 1) ^ (w.length - (i + 1)) := by
  have hl := (List.getElem?_eq_some_iff.mp hx).1
  rw [V_at g hx, Nat.add_mul]
  congr 1
  by_cases h0 : i = 0
  · subst h0
    rw [List.take_zero, V, Nat.zero_mul, Nat.zero_mul, Nat.zero_mul]
  · have c1 : (bh L (lst none (w.take i))).length = 2 * L - 1 := by
      rw [bh_len (G_take g i), if_neg (take_ne h0 hl)]
    rw [c1, show w.length - i = (w.length - (i + 1)) + 1 by omega, Nat.pow_succ, Nat.mul_assoc, Nat.mul_comm (2 * L - 1)]
theorem S_le8 {L : Nat} (h4 : L ≤ 4) : ∀ z, S L z ≤ 8 ^ z ∧ tot L none z ≤ 8 ^ z
  | 0 => ⟨Nat.zero_le _, Nat.le_refl _⟩
  | z + 1 => by
    obtain ⟨a, b⟩ := S_le8 h4 z
    refine ⟨?_, ?_⟩
    · rw [S, Nat.pow_succ]
      omega
    · rw [tot_next, Nat.pow_succ]
      exact Nat.mul_le_mul b (by split <;> omega)
theorem S_lt {L : Nat} (h1 : 1 ≤ L) {a b : Nat} (h : S L a < S L b) : a < b := by
  rcases Nat.lt_or_ge a b with l | g
  · exact l
  · have := S_mono (L := L) g
    omega
theorem near {L : Nat} (h1 : 1 ≤ L) {u : List Int} (g : G L none u) {z : Nat} (h : S L z ≤ place L u + 1) : z ≤ u.length + 1 := by
  have a := place_lt g
  have b := tot_pos h1 (u.length + 1)
  have c : S L (u.length + 2) = S L (u.length + 1) + tot L none (u.length + 1) := rfl
  have := S_lt h1 (a := z) (b := u.length + 2) (by omega)
  omega
theorem place_le8 {L : Nat} (h4 : L ≤ 4) {u : List Int} (g : G L none u) : place L u + 1 ≤ 8 ^ (u.length + 1) := by
  have a := place_lt g
  have b := (S_le8 h4 (u.length + 1)).1
  omega
theorem lst_ne (u : List Int) (x : Int) : decide (lst none u ≠ some (-x)) = !decide (u.drop (u.length - 1) = [-x]) := by
  have e : lst none u = some (-x) ↔ u.drop (u.length - 1) = [-x] := by
    rcases List.eq_nil_or_concat u with e | ⟨v, y, e⟩
    · subst e
      simp [lst]
    · rw [List.concat_eq_append] at e
      subst e
      rw [lst_snoc, List.length_append]
      show some y = some (-x) ↔ List.drop (v.length + 1 - 1) (v ++ [y]) = [-x]
      rw [Nat.add_sub_cancel, List.drop_left']
      · simp
      · rfl
  by_cases h : lst none u = some (-x)
  · have h2 : ¬ (lst none u ≠ some (-x)) := fun z => z h
    rw [decide_eq_false h2, decide_eq_true (e.mp h)]
    rfl
  · have h2 : lst none u ≠ some (-x) := h
    have h3 : ¬ (u.drop (u.length - 1) = [-x]) := fun z => h (e.mpr z)
    rw [decide_eq_true h2, decide_eq_false h3]
    rfl
theorem lst_take {w : List Int} {i : Nat} {y : Int} (hy : w[i]? = some y) : lst none (w.take (i + 1)) = some y := by
  rw [take_snoc hy, lst_snoc]
/-- all of a length, as far as t * c of them -/
structure En (L z : Nat) (n : Nat) (ws : List (List Int)) : Prop where
  len : ws.length = n
  at' : ∀ q w, ws[q]? = some w → G L none w ∧ w.length = z ∧ V L none w = q
theorem en_step {L z t : Nat} {ws : List (List Int)} {w : List Int} (h : En L (z + 1) (t * (bh L (lst none w)).length) ws) (g : G L none w) (hz : w.length = z) (hv : V L none w = t) :
    En L (z + 1) ((t + 1) * (bh L (lst none w)).length) (ws ++ (bh L (lst none w)).map fun s => w ++ [s]) := by
  refine ⟨by rw [List.length_append, List.length_map, h.len, Nat.succ_mul], fun q u hq => ?_⟩
  rcases Nat.lt_or_ge q ws.length with lt | ge
  · rw [List.getElem?_append_left lt] at hq
    exact h.at' q u hq
  · rw [List.getElem?_append_right ge, List.getElem?_map] at hq
    cases hb : (bh L (lst none w))[q - ws.length]? with
    | none => rw [hb] at hq; cases hq
    | some s =>
      rw [hb] at hq
      cases hq
      have hlt := (List.getElem?_eq_some_iff.mp hb).1
      have hid := (bh_nodup L (lst none w)).idxOf_getElem _ hlt
      rw [(List.getElem?_eq_some_iff.mp hb).2] at hid
      have g' : G L none (w ++ [s]) := G_snoc.mpr ⟨g, List.mem_of_getElem? hb⟩
      refine ⟨g', by rw [List.length_append, hz]; rfl, ?_⟩
      rw [V_snoc g', hid, hv]
      have := h.len
      omega
/-- all to a length -/
structure Fd (L z : Nat) (ws : List (List Int)) : Prop where
  len : ws.length = S L (z + 1)
  at' : ∀ q w, ws[q]? = some w → G L none w ∧ w.length ≤ z ∧ place L w = q
theorem fd_step {L z : Nat} {ws us : List (List Int)} (h : Fd L z ws) (k : En L (z + 1) (tot L none (z + 1)) us) : Fd L (z + 1) (ws ++ us) := by
  refine ⟨by rw [List.length_append, h.len, k.len]; rfl, fun q w hq => ?_⟩
  rcases Nat.lt_or_ge q ws.length with lt | ge
  · rw [List.getElem?_append_left lt] at hq
    obtain ⟨a, b, c⟩ := h.at' q w hq
    exact ⟨a, by omega, c⟩
  · rw [List.getElem?_append_right ge] at hq
    obtain ⟨a, b, c⟩ := k.at' _ w hq
    refine ⟨a, by omega, ?_⟩
    unfold place
    rw [b, c, ← h.len]
    omega
theorem en_zero (L : Nat) : En L 0 1 [[]] := ⟨rfl, fun q w h => by
  cases q with
  | zero => cases h; exact ⟨trivial, rfl, rfl⟩
  | succ q => simp at h⟩
theorem fd_zero (L : Nat) : Fd L 0 [[]] := ⟨rfl, fun q w h => by
  cases q with
  | zero => cases h; exact ⟨trivial, Nat.le_refl _, rfl⟩
  | succ q => simp at h⟩
theorem fd_count {L z l : Nat} {ws : List (List Int)} (h : Fd L z ws) : ∀ t, t ≤ ws.length → ((ws.take t).filter fun w => decide (w.length = l)).length = min t (S L (l + 1)) - min t (S L l)
  | 0, _ => by simp
  | t + 1, ht => by
    have ih := fd_count (l := l) h t (by omega)
    have hq := List.getElem?_eq_getElem (show t < ws.length by omega)
    generalize ws[t] = w at hq
    obtain ⟨g, _, pl⟩ := h.at' t w hq
    have a := place_ge L w
    have b := place_lt g
    have s1 : S L (l + 1) = S L l + tot L none l := rfl
    rw [take_snoc hq, List.filter_append, List.length_append, ih]
    by_cases e : w.length = l
    · rw [List.filter_cons_of_pos (by simpa using e), List.filter_nil, List.length_singleton]
      subst e
      omega
    · rw [List.filter_cons_of_neg (by simpa using e), List.filter_nil, List.length_nil]
      rcases Nat.lt_or_ge w.length l with lt | ge
      · have := S_mono (L := L) (a := w.length + 1) (b := l) lt
        omega
      · have := S_mono (L := L) (a := l + 1) (b := w.length) (by omega)
        omega
theorem fd_many {L z l : Nat} {ws : List (List Int)} (h : Fd L z ws) (hl : l ≤ z) : (ws.filter fun w => decide (w.length = l)).length = tot L none l := by
  have := fd_count (l := l) h ws.length (Nat.le_refl _)
  rw [List.take_length, h.len] at this
  rw [this]
  have a := S_mono (L := L) (a := l + 1) (b := z + 1) (by omega)
  have s1 : S L (l + 1) = S L l + tot L none l := rfl
  omega
end Od
/-! walks in their order: keys, ends, shares by first and last steps -/
namespace Od
open L2
/-! ### the sequence of steps -/
def cd (x : Int) : Int := 2 * (x.natAbs : Int) + (if x < 0 then 1 else 0)
theorem cd_inj {x y : Int} (h : cd x = cd y) : x = y := by
  unfold cd at h
  split at h <;> split at h <;> omega
theorem steps_sorted : ∀ L : Nat, (steps L).Pairwise fun a b => cd a < cd b
  | 0 => List.Pairwise.nil
  | L + 1 => by
    rw [steps_succ, List.pairwise_append]
    refine ⟨steps_sorted L, ?_, fun a ha b hb => ?_⟩
    · refine List.Pairwise.cons (fun b hb => ?_) (List.pairwise_singleton _ _)
      rw [List.mem_singleton.mp hb]
      unfold cd
      rw [if_neg (by omega), if_pos (by omega)]
      omega
    · have h := mem_steps.mp ha
      have h2 : cd a ≤ 2 * (L : Int) + 1 := by
        unfold cd
        split <;> omega
      simp only [List.mem_cons, List.not_mem_nil, or_false] at hb
      rcases hb with rfl | rfl <;> (unfold cd at h2 ⊢; split <;> omega)
theorem bh_sorted (L : Nat) (p : Option Int) : (bh L p).Pairwise fun a b => cd a < cd b := (steps_sorted L).filter _
theorem idx_lt {l : List Int} (hs : l.Pairwise fun a b => cd a < cd b) {x y : Int} (hx : x ∈ l) (hy : y ∈ l) (h : cd x < cd y) : l.idxOf x < l.idxOf y := by
  have h1 := List.idxOf_lt_length_of_mem hx
  have h2 := List.idxOf_lt_length_of_mem hy
  have e1 : l[l.idxOf x] = x := List.getElem_idxOf h1
  have e2 : l[l.idxOf y] = y := List.getElem_idxOf h2
  rcases Nat.lt_trichotomy (l.idxOf x) (l.idxOf y) with k | k | k
  · exact k
  · have e3 : l[l.idxOf x] = l[l.idxOf y] := by congr 1
    rw [e1, e2] at e3
    subst e3
    omega
  · have := List.pairwise_iff_getElem.mp hs _ _ h2 h1 k
    rw [e1, e2] at this
    omega
theorem V_lex {L : Nat} : ∀ {w u : List Int} {p : Option Int}, G L p w → G L p u → w.length = u.length → HT.lexLt (w.map cd) (u.map cd) = decide (V L p w < V L p u)
  | [], [], _, _, _, _ => rfl
  | [], _ :: _, _, _, _, h => by cases h
  | _ :: _, [], _, _, _, h => by cases h
  | s :: w, t :: u, p, h1, h2, hl => by
    have hl' : w.length = u.length := by simpa using hl
    have a := V_lt h1.2
    have b := V_lt h2.2
    rw [tot_some (bh_steps h1.1)] at a
    rw [tot_some (bh_steps h2.1), ← hl'] at b
    rw [List.map_cons, List.map_cons, HT.lexLt_cons, V, V, ← hl']
    by_cases e : cd s = cd t
    · have e' := cd_inj e
      subst e'
      rw [if_pos rfl, V_lex h1.2 h2.2 hl']
      congr 1
      exact propext ⟨fun h => by omega, fun h => by omega⟩
    · rw [if_neg e]
      congr 1
      refine propext ⟨fun h => ?_, fun h => ?_⟩
      · have k := idx_lt (bh_sorted L p) h1.1 h2.1 h
        have := Nat.mul_le_mul_right ((2 * L - 1) ^ w.length) (Nat.succ_le_of_lt k)
        rw [Nat.succ_mul] at this
        omega
      · rcases Int.lt_trichotomy (cd s) (cd t) with z | z | z
        · exact z
        · exact absurd z e
        · have k := idx_lt (bh_sorted L p) h2.1 h1.1 z
          have := Nat.mul_le_mul_right ((2 * L - 1) ^ w.length) (Nat.succ_le_of_lt k)
          rw [Nat.succ_mul] at this
          omega
/-- what the keys of two walks say -/
theorem key_place {L : Nat} {w u : List Int} (h1 : G L none w) (h2 : G L none u) :
    (if (w.length : Int) = (u.length : Int) then (if w.map cd = u.map cd then false else HT.lexLt (w.map cd) (u.map cd)) else decide ((w.length : Int) < (u.length : Int))) = decide (place L w < place L u) := by
  by_cases e : w.length = u.length
  · rw [if_pos (by omega), V_lex h1 h2 e]
    unfold place
    rw [e]
    by_cases e2 : w.map cd = u.map cd
    · rw [if_pos e2]
      have e3 := V_lex h1 h2 e
      rw [e2] at e3
      have e4 : HT.lexLt (u.map cd) (u.map cd) = false := by
        rw [V_lex h2 h2 rfl]
        exact decide_eq_false (Nat.lt_irrefl _)
      rw [e4] at e3
      have := of_decide_eq_false e3.symm
      exact (decide_eq_false (by omega)).symm
    · rw [if_neg e2]
      congr 1
      exact propext ⟨fun h => by omega, fun h => by omega⟩
  · rw [if_neg (by omega)]
    congr 1
    refine propext ⟨fun h => ?_, fun h => ?_⟩
    · rcases Nat.lt_or_ge (place L w) (place L u) with k | k
      · exact k
      · have := place_len h2 h1 k
        omega
    · have := place_len h1 h2 (Nat.le_of_lt h)
      omega
/-! ### the length and the first step of a walk by its number -/
theorem len_of {L : Nat} {u : List Int} {n : Nat} (g : G L none u) (h1 : S L n ≤ place L u) (h2 : place L u < S L (n + 1)) : u.length = n := by
  have a := place_lt g
  have b := place_ge L u
  rcases Nat.lt_trichotomy u.length n with h | h | h
  · have := S_mono (L := L) (a := u.length + 1) (b := n) h
    omega
  · exact h
  · have := S_mono (L := L) (a := n + 1) (b := u.length) h
    omega
theorem head_of {L : Nat} {s : Int} {u : List Int} {k r : Nat} (g : G L none (s :: u)) (h : V L none (s :: u) = k * (2 * L - 1) ^ u.length + r) (hr : r < (2 * L - 1) ^ u.length) : (steps L)[k]? = some s := by
  have a := V_lt g.2
  rw [tot_some (bh_steps g.1)] at a
  rw [V] at h
  have e : (bh L none).idxOf s = k := by
    rcases Nat.lt_trichotomy ((bh L none).idxOf s) k with q | q | q
    · have := Nat.mul_le_mul_right ((2 * L - 1) ^ u.length) (Nat.succ_le_of_lt q)
      rw [Nat.succ_mul] at this
      omega
    · exact q
    · have := Nat.mul_le_mul_right ((2 * L - 1) ^ u.length) (Nat.succ_le_of_lt q)
      rw [Nat.succ_mul] at this
      omega
  have z := at_idx g.1
  rw [e, bh_none] at z
  exact z
/-! ### the first and the last walk of a length -/
theorem one_in {L : Nat} (h : 1 ≤ L) : (1 : Int) ∈ steps L := mem_steps.mpr ⟨by decide, by omega, by omega⟩
theorem low_in {L : Nat} (h : 1 ≤ L) : (-(L : Int)) ∈ steps L := mem_steps.mpr ⟨by omega, by omega, by omega⟩
theorem idx_zero {l : List Int} {x : Int} (hs : l.Pairwise fun a b => cd a < cd b) (hx : x ∈ l) (h : ∀ y ∈ l, cd x ≤ cd y) : l.idxOf x = 0 := by
  cases l with
  | nil => cases hx
  | cons y l =>
    by_cases e : y = x
    · subst e
      simp
    · have h1 := h y List.mem_cons_self
      rcases List.mem_cons.mp hx with hx | hx
      · exact absurd hx.symm e
      · have := (List.pairwise_cons.mp hs).1 x hx
        omega
theorem idx_last {l : List Int} {x : Int} (hs : l.Pairwise fun a b => cd a < cd b) (hx : x ∈ l) (h : ∀ y ∈ l, cd y ≤ cd x) : l.idxOf x + 1 = l.length := by
  have h1 := List.idxOf_lt_length_of_mem hx
  have e1 : l[l.idxOf x] = x := List.getElem_idxOf h1
  rcases Nat.lt_or_ge (l.idxOf x + 1) l.length with k | k
  · have := List.pairwise_iff_getElem.mp hs _ _ h1 k (Nat.lt_succ_self _)
    have h2 := h _ (List.getElem_mem k)
    rw [e1] at this
    omega
  · omega
theorem cd_one {L : Nat} {y : Int} (h : y ∈ steps L) : cd 1 ≤ cd y := by
  have := mem_steps.mp h
  unfold cd
  split <;> split <;> omega
theorem cd_low {L : Nat} (hL : 1 ≤ L) {y : Int} (h : y ∈ steps L) : cd y ≤ cd (-(L : Int)) := by
  have := mem_steps.mp h
  unfold cd
  split <;> split <;> omega
theorem ones {L : Nat} (hL : 1 ≤ L) : ∀ (n : Nat) (p : Option Int), p ≠ some (-1) → G L p (List.replicate n 1) ∧ V L p (List.replicate n 1) = 0
  | 0, p, _ => ⟨trivial, rfl⟩
  | n + 1, p, hp => by
    have ih := ones hL n (some 1) (by decide)
    have hm : (1 : Int) ∈ bh L p := mem_bh.mpr ⟨one_in hL, hp⟩
    rw [List.replicate_succ]
    refine ⟨⟨hm, ih.1⟩, ?_⟩
    rw [V, ih.2, idx_zero (bh_sorted L p) hm fun y hy => cd_one (bh_steps hy), Nat.zero_mul]
theorem lows {L : Nat} (hL : 1 ≤ L) : ∀ (n : Nat) (p : Option Int), p ≠ some (L : Int) → G L p (List.replicate n (-(L : Int))) ∧ V L p (List.replicate n (-(L : Int))) + 1 = tot L p n
  | 0, p, _ => ⟨trivial, rfl⟩
  | n + 1, p, hp => by
    have ih := lows hL n (some (-(L : Int))) (by
      intro e
      have := Option.some.inj e
      omega)
    have hm : (-(L : Int)) ∈ bh L p := mem_bh.mpr ⟨low_in hL, by rw [Int.neg_neg]; exact hp⟩
    have hi := idx_last (bh_sorted L p) hm fun y hy => cd_low hL (bh_steps hy)
    rw [List.replicate_succ]
    refine ⟨⟨hm, ih.1⟩, ?_⟩
    have e := ih.2
    rw [tot_some (low_in hL)] at e
    rw [V, Nat.add_assoc, e, List.length_replicate, tot, ← hi]
    exact (Nat.succ_mul ((bh L p).idxOf (-(L : Int))) ((2 * L - 1) ^ n)).symm
theorem place_ones {L : Nat} (hL : 1 ≤ L) (n : Nat) : G L none (List.replicate n 1) ∧ place L (List.replicate n 1) = S L n := by
  have h := ones hL n none (by simp)
  refine ⟨h.1, ?_⟩
  unfold place
  rw [h.2, List.length_replicate, Nat.add_zero]
theorem place_lows {L : Nat} (hL : 1 ≤ L) (n : Nat) : G L none (List.replicate n (-(L : Int))) ∧ place L (List.replicate n (-(L : Int))) + 1 = S L (n + 1) := by
  have h := lows hL n none (by simp)
  refine ⟨h.1, ?_⟩
  unfold place
  rw [List.length_replicate, Nat.add_assoc, h.2, S]
/-! ### with a first and a last step -/
/-- how many of n + 1 steps have the first one f and the last one s -/
def bt (L : Nat) (f : Int) : Nat → Int → Int
  | 0, s => if s = f then 1 else 0
  | n + 1, s => (((2 * L - 1) ^ n : Nat) : Int) - bt L f n (-s)
theorem bt_neg (L : Nat) (f : Int) : ∀ (n : Nat) (s : Int), bt L (-f) n (-s) = bt L f n s
  | 0, s => by
    unfold bt
    by_cases h : s = f
    · rw [if_pos h, if_pos (by omega)]
    · rw [if_neg h, if_neg (by omega)]
  | n + 1, s => by rw [bt, bt, bt_neg L f n (-s)]
theorem bt_symm (L : Nat) : ∀ (n : Nat) (f s : Int), bt L f n s = bt L s n f
  | 0, f, s => by
    unfold bt
    by_cases h : s = f
    · rw [if_pos h, if_pos h.symm]
    · rw [if_neg h, if_neg fun z => h z.symm]
  | n + 1, f, s => by
    rw [bt, bt, bt_symm L n f (-s)]
    have e := bt_neg L s n (-f)
    rw [Int.neg_neg] at e
    rw [e]
theorem bt_range {L : Nat} (hL : 1 ≤ L) (f : Int) : ∀ (n : Nat) (s : Int), 0 ≤ bt L f n s ∧ bt L f n s ≤ (((2 * L - 1) ^ n : Nat) : Int)
  | 0, s => by
    unfold bt
    split <;> simp
  | n + 1, s => by
    have ih := bt_range hL f n (-s)
    have e : (((2 * L - 1) ^ n : Nat) : Int) ≤ (((2 * L - 1) ^ (n + 1) : Nat) : Int) := by
      rw [Nat.pow_succ]
      have := Nat.le_mul_of_pos_right ((2 * L - 1) ^ n) (by omega : 0 < 2 * L - 1)
      omega
    rw [bt]
    omega
theorem sum_neg (g : Int → Int) : ∀ L : Nat, ((steps L).map fun s => g (-s)).sum = ((steps L).map g).sum
  | 0 => rfl
  | L + 1 => by
    rw [steps_succ, List.map_append, List.map_append, List.sum_append, List.sum_append, sum_neg g L]
    simp only [List.map_cons, List.map_nil, List.sum_cons, List.sum_nil, Int.neg_neg]
    omega
theorem sum_sub (g h : Int → Int) : ∀ l : List Int, (l.map fun s => g s - h s).sum = (l.map g).sum - (l.map h).sum
  | [] => rfl
  | x :: l => by
    simp only [List.map_cons, List.sum_cons]
    rw [sum_sub g h l]
    omega
theorem sum_const (c : Int) : ∀ l : List Int, (l.map fun _ => c).sum = (l.length : Int) * c
  | [] => by simp
  | x :: l => by
    simp only [List.map_cons, List.sum_cons, List.length_cons]
    rw [sum_const c l, show (((l.length + 1 : Nat)) : Int) = (l.length : Int) + 1 by omega, Int.add_mul, Int.one_mul, Int.add_comm]
theorem sum_mul (c : Int) (g : Int → Int) : ∀ l : List Int, (l.map fun s => g s * c).sum = (l.map g).sum * c
  | [] => by simp
  | x :: l => by
    simp only [List.map_cons, List.sum_cons]
    rw [sum_mul c g l, Int.add_mul]
theorem sum_pick (g : Int → Int) {x : Int} : ∀ {l : List Int}, l.Nodup → x ∈ l → (l.map fun s => g s * (if x = s then 1 else 0)).sum = g x
  | y :: l, hn, h => by
    simp only [List.map_cons, List.sum_cons]
    have hn' := List.nodup_cons.mp hn
    by_cases e : x = y
    · subst e
      have z : (l.map fun s => g s * (if x = s then 1 else 0)).sum = 0 := by
        rw [List.map_congr_left (g := fun _ => 0) fun s hs => by rw [if_neg (fun q => hn'.1 (by rw [q]; exact hs)), Int.mul_zero], sum_const, Int.mul_zero]
      rw [z, if_pos rfl]
      omega
    · rw [if_neg e, sum_pick g hn'.2 ((List.mem_cons.mp h).resolve_left e)]
      omega
theorem sum_bt {L : Nat} {f : Int} (hf : f ∈ steps L) : ∀ n, ((steps L).map (bt L f n)).sum = (((2 * L - 1) ^ n : Nat) : Int)
  | 0 => by
    have e := sum_pick (fun _ => 1) (steps_nodup L) hf
    have e2 : ((steps L).map (bt L f 0)) = ((steps L).map fun s => (fun _ => (1 : Int)) s * (if f = s then 1 else 0)) := by
      refine List.map_congr_left fun s _ => ?_
      show (if s = f then (1 : Int) else 0) = 1 * (if f = s then 1 else 0)
      by_cases q : s = f
      · rw [if_pos q, if_pos q.symm]; rfl
      · rw [if_neg q, if_neg fun z => q z.symm]; rfl
    rw [e2, e]
    rfl
  | n + 1 => by
    have hL : 1 ≤ L := by
      have := mem_steps.mp hf
      omega
    have e : ((steps L).map (bt L f (n + 1))) = (steps L).map fun s => (fun _ => (((2 * L - 1) ^ n : Nat) : Int)) s - (fun s => bt L f n (-s)) s := rfl
    rw [e, sum_sub, sum_const, sum_neg (bt L f n), sum_bt hf n, steps_len, Nat.pow_succ, Int.natCast_mul ((2 * L - 1) ^ n), show ((2 * L : Nat) : Int) = ((2 * L - 1 : Nat) : Int) + 1 by omega, Int.add_mul, Int.one_mul, Int.mul_comm (((2 * L - 1 : Nat)) : Int)]
    omega
theorem bt_join {L : Nat} {f l : Int} (hf : f ∈ steps L) (a : Nat) : ∀ (b : Nat) (l : Int), l ∈ steps L → ((steps L).map fun s => bt L f a s * bt L s b l).sum = bt L f (a + b) l
  | 0, l, hl => sum_pick (bt L f a) (steps_nodup L) hl
  | b + 1, l, hl => by
    have hl' : -l ∈ steps L := by
      have := mem_steps.mp hl
      exact mem_steps.mpr (by omega)
    have ih := bt_join (l := l) hf a b (-l) hl'
    have e : ((steps L).map fun s => bt L f a s * bt L s (b + 1) l) = (steps L).map fun s => (fun s => bt L f a s * (((2 * L - 1) ^ b : Nat) : Int)) s - (fun s => bt L f a s * bt L s b (-l)) s := by
      refine List.map_congr_left fun s _ => ?_
      show bt L f a s * ((((2 * L - 1) ^ b : Nat) : Int) - bt L s b (-l)) = _
      rw [Int.mul_sub]
    rw [e, sum_sub, ih, sum_mul, sum_bt hf a, ← Int.natCast_mul, ← Nat.pow_add]
    rfl
end Od
namespace Lw
open PySem PySem.Spec PyProof.Rows L2 Evl

/-! ### the text -/
def topS (i : Nat) : Stmt := PySem.Challenge.pw_walkclubs_k52_whole_numbers_there_and_ba.main.body.getD i (.Pass ⟨0, 0, 0, 0⟩)
abbrev s_is_integer : Stmt := topS 7
abbrev N_is_integer : List Str := ["value"]
abbrev P_is_integer : List Str := ["value"]
theorem sc_is_integer : FnScope N_is_integer P_is_integer (defScope s_is_integer) := ⟨rfl, rfl, rfl, by decide +kernel, rfl, by decide +kernel, by decide +kernel⟩
abbrev s_steps_of : Stmt := topS 18
abbrev N_steps_of : List Str := ["letters", "letter", "step"]
abbrev P_steps_of : List Str := ["letters"]
theorem sc_steps_of : FnScope N_steps_of P_steps_of (defScope s_steps_of) := ⟨rfl, rfl, rfl, by decide +kernel, rfl, by decide +kernel, by decide +kernel⟩
abbrev s_straightened : Stmt := topS 19
abbrev N_straightened : List Str := ["walk", "kept", "step"]
abbrev P_straightened : List Str := ["walk"]
theorem sc_straightened : FnScope N_straightened P_straightened (defScope s_straightened) := ⟨rfl, rfl, rfl, by decide +kernel, rfl, by decide +kernel, by decide +kernel⟩
abbrev s_turned_back : Stmt := topS 20
abbrev N_turned_back : List Str := ["walk", "step"]
abbrev P_turned_back : List Str := ["walk"]
theorem sc_turned_back : FnScope N_turned_back P_turned_back (defScope s_turned_back) := ⟨rfl, rfl, rfl, by decide +kernel, rfl, by decide +kernel, by decide +kernel⟩
abbrev s_many_of_lengths : Stmt := topS 24
abbrev N_many_of_lengths : List Str := ["letters", "length", "numbers", "ahead"]
abbrev P_many_of_lengths : List Str := ["letters", "length"]
theorem sc_many_of_lengths : FnScope N_many_of_lengths P_many_of_lengths (defScope s_many_of_lengths) := ⟨rfl, rfl, rfl, by decide +kernel, rfl, by decide +kernel, by decide +kernel⟩
abbrev s__law_well : Stmt := topS 34
abbrev N__law_well : List Str := ["_law_script", "_law_k", "_law_cell", "_law_total", "_law_seed", "_law_one"]
abbrev P__law_well : List Str := ["_law_script", "_law_k"]
theorem sc__law_well : FnScope N__law_well P__law_well (defScope s__law_well) := ⟨rfl, rfl, rfl, by decide +kernel, rfl, by decide +kernel, by decide +kernel⟩
abbrev s__law_take : Stmt := topS 35
abbrev N__law_take : List Str := ["_law_well_here", "_law_many", "_law_found", "_law_mixed"]
abbrev P__law_take : List Str := ["_law_well_here", "_law_many"]
theorem sc__law_take : FnScope N__law_take P__law_take (defScope s__law_take) := ⟨rfl, rfl, rfl, by decide +kernel, rfl, by decide +kernel, by decide +kernel⟩
abbrev s__law_steps : Stmt := topS 36
abbrev N__law_steps : List Str := ["_law_letters", "_law_found", "_law_letter"]
abbrev P__law_steps : List Str := ["_law_letters"]
theorem sc__law_steps : FnScope N__law_steps P__law_steps (defScope s__law_steps) := ⟨rfl, rfl, rfl, by decide +kernel, rfl, by decide +kernel, by decide +kernel⟩
abbrev s__law_key : Stmt := topS 37
abbrev N__law_key : List Str := ["_law_walk", "_law_step"]
abbrev P__law_key : List Str := ["_law_walk"]
theorem sc__law_key : FnScope N__law_key P__law_key (defScope s__law_key) := ⟨rfl, rfl, rfl, by decide +kernel, rfl, by decide +kernel, by decide +kernel⟩
abbrev s_is_letters : Stmt := topS 8
abbrev N_is_letters : List Str := ["value"]
abbrev P_is_letters : List Str := ["value"]
theorem sc_is_letters : FnScope N_is_letters P_is_letters (defScope s_is_letters) := ⟨rfl, rfl, rfl, by decide +kernel, rfl, by decide +kernel, by decide +kernel⟩
abbrev s_is_step_of : Stmt := topS 9
abbrev N_is_step_of : List Str := ["letters", "value"]
abbrev P_is_step_of : List Str := ["letters", "value"]
theorem sc_is_step_of : FnScope N_is_step_of P_is_step_of (defScope s_is_step_of) := ⟨rfl, rfl, rfl, by decide +kernel, rfl, by decide +kernel, by decide +kernel⟩
abbrev s_check_least : Stmt := topS 14
abbrev N_check_least : List Str := ["number", "least"]
abbrev P_check_least : List Str := ["number", "least"]
theorem sc_check_least : FnScope N_check_least P_check_least (defScope s_check_least) := ⟨rfl, rfl, rfl, by decide +kernel, rfl, by decide +kernel, by decide +kernel⟩
abbrev s_check_within : Stmt := topS 15
abbrev N_check_within : List Str := ["number", "least", "greatest"]
abbrev P_check_within : List Str := ["number", "least", "greatest"]
theorem sc_check_within : FnScope N_check_within P_check_within (defScope s_check_within) := ⟨rfl, rfl, rfl, by decide +kernel, rfl, by decide +kernel, by decide +kernel⟩
abbrev s_steps_behind : Stmt := topS 23
abbrev N_steps_behind : List Str := ["letters", "walk", "step"]
abbrev P_steps_behind : List Str := ["letters", "walk"]
theorem sc_steps_behind : FnScope N_steps_behind P_steps_behind (defScope s_steps_behind) := ⟨rfl, rfl, rfl, by decide +kernel, rfl, by decide +kernel, by decide +kernel⟩
abbrev s_is_walk_of : Stmt := topS 10
abbrev N_is_walk_of : List Str := ["letters", "value", "step"]
abbrev P_is_walk_of : List Str := ["letters", "value"]
theorem sc_is_walk_of : FnScope N_is_walk_of P_is_walk_of (defScope s_is_walk_of) := ⟨rfl, rfl, rfl, by decide +kernel, rfl, by decide +kernel, by decide +kernel⟩
abbrev s_check_letters : Stmt := topS 12
abbrev N_check_letters : List Str := ["letters"]
abbrev P_check_letters : List Str := ["letters"]
theorem sc_check_letters : FnScope N_check_letters P_check_letters (defScope s_check_letters) := ⟨rfl, rfl, rfl, by decide +kernel, rfl, by decide +kernel, by decide +kernel⟩
abbrev s_place_among_all : Stmt := topS 25
abbrev N_place_among_all : List Str := ["letters", "walk", "number", "place", "step", "steps"]
abbrev P_place_among_all : List Str := ["letters", "walk"]
theorem sc_place_among_all : FnScope N_place_among_all P_place_among_all (defScope s_place_among_all) := ⟨rfl, rfl, rfl, by decide +kernel, rfl, by decide +kernel, by decide +kernel⟩
abbrev s_walk_at_place : Stmt := topS 26
abbrev N_walk_at_place : List Str := ["letters", "number", "length", "many", "walk", "_", "steps", "choice"]
abbrev P_walk_at_place : List Str := ["letters", "number"]
theorem sc_walk_at_place : FnScope N_walk_at_place P_walk_at_place (defScope s_walk_at_place) := ⟨rfl, rfl, rfl, by decide +kernel, rfl, by decide +kernel, by decide +kernel⟩
abbrev s_check_step : Stmt := topS 27
abbrev N_check_step : List Str := ["letters", "step"]
abbrev P_check_step : List Str := ["letters", "step"]
theorem sc_check_step : FnScope N_check_step P_check_step (defScope s_check_step) := ⟨rfl, rfl, rfl, by decide +kernel, rfl, by decide +kernel, by decide +kernel⟩
abbrev s_check_walk : Stmt := topS 13
abbrev N_check_walk : List Str := ["letters", "walk"]
abbrev P_check_walk : List Str := ["letters", "walk"]
theorem sc_check_walk : FnScope N_check_walk P_check_walk (defScope s_check_walk) := ⟨rfl, rfl, rfl, by decide +kernel, rfl, by decide +kernel, by decide +kernel⟩
abbrev s_how_many : Stmt := topS 28
abbrev N_how_many : List Str := ["letters", "length"]
abbrev P_how_many : List Str := ["letters", "length"]
theorem sc_how_many : FnScope N_how_many P_how_many (defScope s_how_many) := ⟨rfl, rfl, rfl, by decide +kernel, rfl, by decide +kernel, by decide +kernel⟩
abbrev s_nth_walk : Stmt := topS 29
abbrev N_nth_walk : List Str := ["letters", "number"]
abbrev P_nth_walk : List Str := ["letters", "number"]
theorem sc_nth_walk : FnScope N_nth_walk P_nth_walk (defScope s_nth_walk) := ⟨rfl, rfl, rfl, by decide +kernel, rfl, by decide +kernel, by decide +kernel⟩
abbrev s_between : Stmt := topS 32
abbrev N_between : List Str := ["letters", "first", "last", "length", "many", "_", "total", "step"]
abbrev P_between : List Str := ["letters", "first", "last", "length"]
theorem sc_between : FnScope N_between P_between (defScope s_between) := ⟨rfl, rfl, rfl, by decide +kernel, rfl, by decide +kernel, by decide +kernel⟩
abbrev s_power : Stmt := topS 21
abbrev N_power : List Str := ["walk", "times", "once"]
abbrev P_power : List Str := ["walk", "times"]
theorem sc_power : FnScope N_power P_power (defScope s_power) := ⟨rfl, rfl, rfl, by decide +kernel, rfl, by decide +kernel, by decide +kernel⟩
abbrev s_number_of : Stmt := topS 30
abbrev N_number_of : List Str := ["letters", "walk"]
abbrev P_number_of : List Str := ["letters", "walk"]
theorem sc_number_of : FnScope N_number_of P_number_of (defScope s_number_of) := ⟨rfl, rfl, rfl, by decide +kernel, rfl, by decide +kernel, by decide +kernel⟩
abbrev s_next_walk : Stmt := topS 31
abbrev N_next_walk : List Str := ["letters", "walk"]
abbrev P_next_walk : List Str := ["letters", "walk"]
theorem sc_next_walk : FnScope N_next_walk P_next_walk (defScope s_next_walk) := ⟨rfl, rfl, rfl, by decide +kernel, rfl, by decide +kernel, by decide +kernel⟩
abbrev s__law_shares : Stmt := topS 41
abbrev N__law_shares : List Str := ["_law_letters", "_law_first", "_law_last", "_law_length", "_law_steps_here", "_law_due", "_law_step"]
abbrev P__law_shares : List Str := ["_law_letters", "_law_first", "_law_last", "_law_length"]
theorem sc__law_shares : FnScope N__law_shares P__law_shares (defScope s__law_shares) := ⟨rfl, rfl, rfl, by decide +kernel, rfl, by decide +kernel, by decide +kernel⟩
abbrev s__law_joined : Stmt := topS 42
abbrev N__law_joined : List Str := ["_law_letters", "_law_first", "_law_last", "_law_one", "_law_other", "_law_steps_here", "_law_parts", "_law_step"]
abbrev P__law_joined : List Str := ["_law_letters", "_law_first", "_law_last", "_law_one", "_law_other"]
theorem sc__law_joined : FnScope N__law_joined P__law_joined (defScope s__law_joined) := ⟨rfl, rfl, rfl, by decide +kernel, rfl, by decide +kernel, by decide +kernel⟩
abbrev s__law_first_steps : Stmt := topS 43
abbrev N__law_first_steps : List Str := ["_law_letters", "_law_step", "_law_length", "_law_low", "_law_early", "_law_size", "_law_last"]
abbrev P__law_first_steps : List Str := ["_law_letters", "_law_step", "_law_length"]
theorem sc__law_first_steps : FnScope N__law_first_steps P__law_first_steps (defScope s__law_first_steps) := ⟨rfl, rfl, rfl, by decide +kernel, rfl, by decide +kernel, by decide +kernel⟩
abbrev s__law_there : Stmt := topS 38
abbrev N__law_there : List Str := ["_law_letters", "_law_one", "_law_other", "_law_first", "_law_second", "_law_size", "_law_low", "_law_length"]
abbrev P__law_there : List Str := ["_law_letters", "_law_one", "_law_other"]
theorem sc__law_there : FnScope N__law_there P__law_there (defScope s__law_there) := ⟨rfl, rfl, rfl, by decide +kernel, rfl, by decide +kernel, by decide +kernel⟩
abbrev s__law_long : Stmt := topS 39
abbrev N__law_long : List Str := ["_law_letters", "_law_walk", "_law_times", "_law_made", "_law_number"]
abbrev P__law_long : List Str := ["_law_letters", "_law_walk", "_law_times"]
theorem sc__law_long : FnScope N__law_long P__law_long (defScope s__law_long) := ⟨rfl, rfl, rfl, by decide +kernel, rfl, by decide +kernel, by decide +kernel⟩
abbrev s__law_ends : Stmt := topS 40
abbrev N__law_ends : List Str := ["_law_letters", "_law_length", "_law_low", "_law_high", "_law_first", "_law_last", "_law_size"]
abbrev P__law_ends : List Str := ["_law_letters", "_law_length"]
theorem sc__law_ends : FnScope N__law_ends P__law_ends (defScope s__law_ends) := ⟨rfl, rfl, rfl, by decide +kernel, rfl, by decide +kernel, by decide +kernel⟩
abbrev s__law_right : Stmt := topS 44
abbrev N__law_right : List Str := ["_law_well_here", "_law_letters", "_law_most", "_law_one", "_law_other", "_law_steps_here", "_law_length", "_law_once", "_law_first", "_law_last", "_law_size", "_law_more", "_law_turn"]
abbrev P__law_right : List Str := ["_law_well_here"]
theorem sc__law_right : FnScope N__law_right P__law_right (defScope s__law_right) := ⟨rfl, rfl, rfl, by decide +kernel, rfl, by decide +kernel, by decide +kernel⟩
abbrev s_law : Stmt := topS 45
abbrev N_law : List Str := ["_law_script", "_law_k"]
abbrev P_law : List Str := ["_law_script"]
theorem sc_law : FnScope N_law P_law (defScope s_law) := ⟨rfl, rfl, rfl, by decide +kernel, rfl, by decide +kernel, by decide +kernel⟩
/-- where the defs stand -/
structure Ad where
  a_is_integer : Addr
  f_is_integer : FuncData
  a_steps_of : Addr
  f_steps_of : FuncData
  a_straightened : Addr
  f_straightened : FuncData
  a_turned_back : Addr
  f_turned_back : FuncData
  a_many_of_lengths : Addr
  f_many_of_lengths : FuncData
  a__law_well : Addr
  f__law_well : FuncData
  a__law_take : Addr
  f__law_take : FuncData
  a__law_steps : Addr
  f__law_steps : FuncData
  a__law_key : Addr
  f__law_key : FuncData
  a_is_letters : Addr
  f_is_letters : FuncData
  a_is_step_of : Addr
  f_is_step_of : FuncData
  a_check_least : Addr
  f_check_least : FuncData
  a_check_within : Addr
  f_check_within : FuncData
  a_steps_behind : Addr
  f_steps_behind : FuncData
  a_is_walk_of : Addr
  f_is_walk_of : FuncData
  a_check_letters : Addr
  f_check_letters : FuncData
  a_place_among_all : Addr
  f_place_among_all : FuncData
  a_walk_at_place : Addr
  f_walk_at_place : FuncData
  a_check_step : Addr
  f_check_step : FuncData
  a_check_walk : Addr
  f_check_walk : FuncData
  a_how_many : Addr
  f_how_many : FuncData
  a_nth_walk : Addr
  f_nth_walk : FuncData
  a_between : Addr
  f_between : FuncData
  a_power : Addr
  f_power : FuncData
  a_number_of : Addr
  f_number_of : FuncData
  a_next_walk : Addr
  f_next_walk : FuncData
  a__law_shares : Addr
  f__law_shares : FuncData
  a__law_joined : Addr
  f__law_joined : FuncData
  a__law_first_steps : Addr
  f__law_first_steps : FuncData
  a__law_there : Addr
  f__law_there : FuncData
  a__law_long : Addr
  f__law_long : FuncData
  a__law_ends : Addr
  f__law_ends : FuncData
  a__law_right : Addr
  f__law_right : FuncData
  a_law : Addr
  f_law : FuncData
structure Tx (K : PySem.W.Frag) (mg : Str → Option Value) (A : Ad) : Prop where
  g_is_integer : mg "is_integer" = some (.ref A.a_is_integer)
  F_is_integer : Fun K "is_integer" "is_integer" s_is_integer A.a_is_integer A.f_is_integer
  b_is_integer : Binds K A.f_is_integer P_is_integer []
  g_steps_of : mg "steps_of" = some (.ref A.a_steps_of)
  F_steps_of : Fun K "steps_of" "steps_of" s_steps_of A.a_steps_of A.f_steps_of
  b_steps_of : Binds K A.f_steps_of P_steps_of []
  g_straightened : mg "straightened" = some (.ref A.a_straightened)
  F_straightened : Fun K "straightened" "straightened" s_straightened A.a_straightened A.f_straightened
  b_straightened : Binds K A.f_straightened P_straightened []
  g_turned_back : mg "turned_back" = some (.ref A.a_turned_back)
  F_turned_back : Fun K "turned_back" "turned_back" s_turned_back A.a_turned_back A.f_turned_back
  b_turned_back : Binds K A.f_turned_back P_turned_back []
  g_many_of_lengths : mg "many_of_lengths" = some (.ref A.a_many_of_lengths)
  F_many_of_lengths : Fun K "many_of_lengths" "many_of_lengths" s_many_of_lengths A.a_many_of_lengths A.f_many_of_lengths
  b_many_of_lengths : Binds K A.f_many_of_lengths P_many_of_lengths []
  g__law_well : mg "_law_well" = some (.ref A.a__law_well)
  F__law_well : Fun K "_law_well" "_law_well" s__law_well A.a__law_well A.f__law_well
  b__law_well : Binds K A.f__law_well P__law_well []
  g__law_take : mg "_law_take" = some (.ref A.a__law_take)
  F__law_take : Fun K "_law_take" "_law_take" s__law_take A.a__law_take A.f__law_take
  b__law_take : Binds K A.f__law_take P__law_take []
  g__law_steps : mg "_law_steps" = some (.ref A.a__law_steps)
  F__law_steps : Fun K "_law_steps" "_law_steps" s__law_steps A.a__law_steps A.f__law_steps
  b__law_steps : Binds K A.f__law_steps P__law_steps []
  g__law_key : mg "_law_key" = some (.ref A.a__law_key)
  F__law_key : Fun K "_law_key" "_law_key" s__law_key A.a__law_key A.f__law_key
  b__law_key : Binds K A.f__law_key P__law_key []
  g_is_letters : mg "is_letters" = some (.ref A.a_is_letters)
  F_is_letters : Fun K "is_letters" "is_letters" s_is_letters A.a_is_letters A.f_is_letters
  b_is_letters : Binds K A.f_is_letters P_is_letters []
  g_is_step_of : mg "is_step_of" = some (.ref A.a_is_step_of)
  F_is_step_of : Fun K "is_step_of" "is_step_of" s_is_step_of A.a_is_step_of A.f_is_step_of
  b_is_step_of : Binds K A.f_is_step_of P_is_step_of []
  g_check_least : mg "check_least" = some (.ref A.a_check_least)
  F_check_least : Fun K "check_least" "check_least" s_check_least A.a_check_least A.f_check_least
  b_check_least : Binds K A.f_check_least P_check_least []
  g_check_within : mg "check_within" = some (.ref A.a_check_within)
  F_check_within : Fun K "check_within" "check_within" s_check_within A.a_check_within A.f_check_within
  b_check_within : Binds K A.f_check_within P_check_within []
  g_steps_behind : mg "steps_behind" = some (.ref A.a_steps_behind)
  F_steps_behind : Fun K "steps_behind" "steps_behind" s_steps_behind A.a_steps_behind A.f_steps_behind
  b_steps_behind : Binds K A.f_steps_behind P_steps_behind []
  g_is_walk_of : mg "is_walk_of" = some (.ref A.a_is_walk_of)
  F_is_walk_of : Fun K "is_walk_of" "is_walk_of" s_is_walk_of A.a_is_walk_of A.f_is_walk_of
  b_is_walk_of : Binds K A.f_is_walk_of P_is_walk_of []
  g_check_letters : mg "check_letters" = some (.ref A.a_check_letters)
  F_check_letters : Fun K "check_letters" "check_letters" s_check_letters A.a_check_letters A.f_check_letters
  b_check_letters : Binds K A.f_check_letters P_check_letters []
  g_place_among_all : mg "place_among_all" = some (.ref A.a_place_among_all)
  F_place_among_all : Fun K "place_among_all" "place_among_all" s_place_among_all A.a_place_among_all A.f_place_among_all
  b_place_among_all : Binds K A.f_place_among_all P_place_among_all []
  g_walk_at_place : mg "walk_at_place" = some (.ref A.a_walk_at_place)
  F_walk_at_place : Fun K "walk_at_place" "walk_at_place" s_walk_at_place A.a_walk_at_place A.f_walk_at_place
  b_walk_at_place : Binds K A.f_walk_at_place P_walk_at_place []
  g_check_step : mg "check_step" = some (.ref A.a_check_step)
  F_check_step : Fun K "check_step" "check_step" s_check_step A.a_check_step A.f_check_step
  b_check_step : Binds K A.f_check_step P_check_step []
  g_check_walk : mg "check_walk" = some (.ref A.a_check_walk)
  F_check_walk : Fun K "check_walk" "check_walk" s_check_walk A.a_check_walk A.f_check_walk
  b_check_walk : Binds K A.f_check_walk P_check_walk []
  g_how_many : mg "how_many" = some (.ref A.a_how_many)
  F_how_many : Fun K "how_many" "how_many" s_how_many A.a_how_many A.f_how_many
  b_how_many : Binds K A.f_how_many P_how_many []
  g_nth_walk : mg "nth_walk" = some (.ref A.a_nth_walk)
  F_nth_walk : Fun K "nth_walk" "nth_walk" s_nth_walk A.a_nth_walk A.f_nth_walk
  b_nth_walk : Binds K A.f_nth_walk P_nth_walk []
  g_between : mg "between" = some (.ref A.a_between)
  F_between : Fun K "between" "between" s_between A.a_between A.f_between
  b_between : Binds K A.f_between P_between []
  g_power : mg "power" = some (.ref A.a_power)
  F_power : Fun K "power" "power" s_power A.a_power A.f_power
  b_power : Binds K A.f_power P_power []
  g_number_of : mg "number_of" = some (.ref A.a_number_of)
  F_number_of : Fun K "number_of" "number_of" s_number_of A.a_number_of A.f_number_of
  b_number_of : Binds K A.f_number_of P_number_of []
  g_next_walk : mg "next_walk" = some (.ref A.a_next_walk)
  F_next_walk : Fun K "next_walk" "next_walk" s_next_walk A.a_next_walk A.f_next_walk
  b_next_walk : Binds K A.f_next_walk P_next_walk []
  g__law_shares : mg "_law_shares" = some (.ref A.a__law_shares)
  F__law_shares : Fun K "_law_shares" "_law_shares" s__law_shares A.a__law_shares A.f__law_shares
  b__law_shares : Binds K A.f__law_shares P__law_shares []
  g__law_joined : mg "_law_joined" = some (.ref A.a__law_joined)
  F__law_joined : Fun K "_law_joined" "_law_joined" s__law_joined A.a__law_joined A.f__law_joined
  b__law_joined : Binds K A.f__law_joined P__law_joined []
  g__law_first_steps : mg "_law_first_steps" = some (.ref A.a__law_first_steps)
  F__law_first_steps : Fun K "_law_first_steps" "_law_first_steps" s__law_first_steps A.a__law_first_steps A.f__law_first_steps
  b__law_first_steps : Binds K A.f__law_first_steps P__law_first_steps []
  g__law_there : mg "_law_there" = some (.ref A.a__law_there)
  F__law_there : Fun K "_law_there" "_law_there" s__law_there A.a__law_there A.f__law_there
  b__law_there : Binds K A.f__law_there P__law_there []
  g__law_long : mg "_law_long" = some (.ref A.a__law_long)
  F__law_long : Fun K "_law_long" "_law_long" s__law_long A.a__law_long A.f__law_long
  b__law_long : Binds K A.f__law_long P__law_long []
  g__law_ends : mg "_law_ends" = some (.ref A.a__law_ends)
  F__law_ends : Fun K "_law_ends" "_law_ends" s__law_ends A.a__law_ends A.f__law_ends
  b__law_ends : Binds K A.f__law_ends P__law_ends []
  g__law_right : mg "_law_right" = some (.ref A.a__law_right)
  F__law_right : Fun K "_law_right" "_law_right" s__law_right A.a__law_right A.f__law_right
  b__law_right : Binds K A.f__law_right P__law_right []
  g_law : mg "law" = some (.ref A.a_law)
  F_law : Fun K "law" "law" s_law A.a_law A.f_law
  b_law : Binds K A.f_law P_law []
  n_abs : mg "abs" = none
  n_all : mg "all" = none
  n_bool : mg "bool" = none
  n_divmod : mg "divmod" = none
  n_enumerate : mg "enumerate" = none
  n_int : mg "int" = none
  n_isinstance : mg "isinstance" = none
  n_len : mg "len" = none
  n_list : mg "list" = none
  n_max : mg "max" = none
  n_min : mg "min" = none
  n_range : mg "range" = none
  n_sum : mg "sum" = none
  n_tuple : mg "tuple" = none
  c_MOST_LETTERS : ∃ t, mg "MOST_LETTERS" = some (.int 4 t)
  c_MOST_TIMES : ∃ t, mg "MOST_TIMES" = some (.int 20 t)

local macro_rules | `(tactic| walk_at "go") => `(tactic| repeat (first
  | with_reducible refine st_seq ?_ | with_reducible refine st_set ?_ | with_reducible refine st_asg ?_ | with_reducible refine st_ret ?_ | with_reducible refine st_drop ?_ | with_reducible refine st_if ?_
  | with_reducible refine st_c ?_ | ((with_reducible refine' st_v ?h ?_); (case h => exact rfl)) | with_reducible refine st_n ?_ | with_reducible refine st_cons ?_ | with_reducible refine st_op ?_ | with_reducible refine st_un ?_
  | with_reducible refine st_cb ?_ | with_reducible refine st_test ?_ | with_reducible refine st_call ?_ | with_reducible refine st_callK ?_ | with_reducible refine st_sl ?_ | with_reducible refine st_par ?_ | with_reducible refine st_par3 ?_ | with_reducible refine st_tru ?_
  | with_reducible refine st_and ?_ | with_reducible refine st_or ?_ | with_reducible refine st_not ?_ | with_reducible refine st_B ?_ | with_reducible refine st_andV ?_ | with_reducible refine st_orV ?_ | with_reducible refine st_notV ?_ | with_reducible refine st_ifE ?_
  | with_reducible refine st_part ?_ | with_reducible refine st_nop ?_ | with_reducible refine st_sub ?_ | with_reducible refine st_chain ?_ | with_reducible refine st_bl ?_ | with_reducible refine st_in ?_ | with_reducible refine r_truB ?_
  | with_reducible refine st_nameG ?_ | with_reducible refine if_T ?_ | with_reducible refine if_F ?_ | with_reducible refine if_nT ?_ | with_reducible refine if_nF ?_
  | with_reducible refine r_add ?_ | with_reducible refine r_0 ?_ | with_reducible refine r_neg ?_ | with_reducible refine r_intI ?_ | with_reducible refine r_intB ?_ | with_reducible refine r_abs ?_ | with_reducible refine r_max2 ?_ | with_reducible refine r_min2 ?_ | with_reducible refine r_eqI ?_ | with_reducible refine r_neI ?_
  | with_reducible refine st_nxt ?_ | with_reducible refine st_cnt ?_ | with_reducible refine st_brk ?_ | with_reducible refine st_retn ?_
  | with_reducible refine st_lstN ?_ | with_reducible refine st_tupN ?_
  | with_reducible refine st_for ?_ | with_reducible refine st_lc ?_ | with_reducible refine st_lc2 ?_ | with_reducible refine st_rng1 ?_ | with_reducible refine st_rng2 ?_ | with_reducible refine st_rng3 ?_ | with_reducible refine st_itL ?_ | with_reducible refine st_itT ?_ | with_reducible refine st_rev ?_ | with_reducible refine st_enumE ?_ | with_reducible refine st_zip3 ?_ | with_reducible refine st_lvals ?_ | with_reducible refine st_dc ?_ | with_reducible refine st_keys ?_ | with_reducible refine st_dget ?_ | with_reducible refine st_din ?_ | with_reducible refine st_dnin ?_ | with_reducible refine st_dput ?_ | with_reducible refine st_dnew ?_ | with_reducible refine st_lstRg ?_ | with_reducible refine st_rg2 ?_ | with_reducible refine r_twoI ?_ | with_reducible refine st_bm ?_ | with_reducible refine st_bm0 ?_
  | ((with_reducible refine' st_aug ?h ?_); (case h => exact rfl)) | with_reducible refine r_augI ?_ | with_reducible refine r_eqB ?_
  | dsimp only))
section
variable {P : Program} {w : World} {K : PySem.W.Frag} {mg : Str → Option Value} {base : Heap} {A : Ad}

def sp_is_integer (K : PySem.W.Frag) : Sp := fun vs H Q _ => ∃ i, vs = [.int i] ∧ Q (.bl true) H
theorem ok_is_integer (T : Tx K mg A) : FnOk P w K mg base CX0 1 A.a_is_integer A.f_is_integer P_is_integer (sp_is_integer K) := by
  refine T.F_is_integer.ok sc_is_integer (fun vs H Q E h => ?_) (fun cdv A' outer s H vs Q E hr h => ?_)
  · obtain ⟨i, rfl, _⟩ := h
    rfl
  · obtain ⟨i, rfl, q⟩ := h
    refine ⟨_, (pss_one (ps_ret (pe_and (pe_callB (isi_K K) (by rfl) T.n_isinstance (by decide +kernel) (pa_cons (pv 0) (pa_cons (pe_bltn (v := .ty "int") (by rfl) T.n_int (by decide +kernel) rfl) pa_nil))) (pe_one (pe_not (pe_callB (isi_K K) (by rfl) T.n_isinstance (by decide +kernel) (pa_cons (pv 0) (pa_cons (pe_bltn (v := .ty "bool") (by rfl) T.n_bool (by decide +kernel) rfl) pa_nil)))))))), ?_⟩
    refine ⟨_, rfl, .int i, .ty "int", _, _, true, rfl, .ty _, .base (.int i), kit_ty (by decide +kernel), true, rfl, iteT ?_⟩
    exact ⟨_, rfl, .int i, .ty "bool", _, _, false, rfl, .ty _, .base (.int i), kit_ty (by decide +kernel), false, rfl, q⟩
def sp_is_letters (K : PySem.W.Frag) : Sp := fun vs H Q _ => ∃ l, vs = [.int l] ∧ 1 ≤ l ∧ l ≤ 4 ∧ Q (.bl true) H
theorem ok_is_letters (T : Tx K mg A) : FnOk P w K mg base CX0 2 A.a_is_letters A.f_is_letters P_is_letters (sp_is_letters K) := by
  refine T.F_is_letters.ok sc_is_letters (fun vs H Q E h => ?_) (fun cdv A' outer s H vs Q E hr h => ?_)
  · obtain ⟨l, rfl, _⟩ := h
    rfl
  · obtain ⟨l, rfl, h1, h4, q⟩ := h
    refine ⟨_, (pss_one (ps_ret (pe_and (pe_call (ok_is_integer T) (hr.mono (by decide)) (by rfl) T.g_is_integer T.F_is_integer.kp T.b_is_integer .nil pass0 (pa_cons (pv 0) pa_nil)) (pe_one (pe_chain op_le op_le pe_int (pv 0) (pe_glob (v := .int 4) (by rfl) T.c_MOST_LETTERS.choose_spec ⟨_, rfl⟩)))))), ?_⟩
    walk_at "go"
    refine ⟨l, rfl, true, rfl, ?_⟩
    walk_at "go"
    refine if_t h1 ?_
    walk_at "go"
    rw [decide_eq_true h4]
    exact q
def sp_is_step_of (K : PySem.W.Frag) : Sp := fun vs H Q _ => ∃ l i, vs = [.int l, .int i] ∧ Q (.bl (decide (i ≠ 0 ∧ -l ≤ i ∧ i ≤ l))) H
theorem ok_is_step_of (T : Tx K mg A) : FnOk P w K mg base CX0 2 A.a_is_step_of A.f_is_step_of P_is_step_of (sp_is_step_of K) := by
  refine T.F_is_step_of.ok sc_is_step_of (fun vs H Q E h => ?_) (fun cdv A' outer s H vs Q E hr h => ?_)
  · obtain ⟨l, i, rfl, _⟩ := h
    rfl
  · obtain ⟨l, i, rfl, q⟩ := h
    refine ⟨_, (pss_one (ps_ret (pe_and (pe_call (ok_is_integer T) (hr.mono (by decide)) (by rfl) T.g_is_integer T.F_is_integer.kp T.b_is_integer .nil pass0 (pa_cons (pv 1) pa_nil)) (pe_and (pe_cmpR (op_neK K hr.units) (pv 1) pe_int (nomark _)) (pe_one (pe_chain op_le op_le (pe_un un_neg (pv 0)) (pv 1) (pv 0))))))), ?_⟩
    refine ⟨_, rfl, i, rfl, true, rfl, iteT ⟨_, rfl, r_neI ⟨_, rfl, ?_⟩⟩⟩
    by_cases h0 : i = 0
    · rw [show (!decide (i = 0)) = false by rw [h0]; rfl]
      refine iteF ?_
      rw [decide_eq_false (by omega)] at q
      exact q
    · rw [show (!decide (i = 0)) = true by rw [decide_eq_false h0]; rfl]
      refine iteT ⟨_, rfl, _, rfl, _, rfl, _, _, rfl, rfl, _, rfl, ?_⟩
      by_cases h1 : -l ≤ i
      · rw [decide_eq_true h1]
        refine iteT ⟨_, rfl, _, _, rfl, rfl, ?_⟩
        have e : decide (i ≤ l) = decide (i ≠ 0 ∧ -l ≤ i ∧ i ≤ l) := decide_eq_decide.mpr ⟨fun z => ⟨h0, h1, z⟩, fun z => z.2.2⟩
        show Q (.bl (decide (i ≤ l))) H
        rw [e]
        exact q
      · rw [decide_eq_false h1]
        refine iteF ?_
        rw [decide_eq_false (by omega)] at q
        exact q
def sp_is_walk_of (K : PySem.W.Frag) : Sp := fun vs H Q _ => ∃ l a ns, vs = [.int l, .ref a] ∧ IT K H a ns ∧ ns.length ≤ 5000 ∧ Stp l ns ∧ ∀ H1, Ex H H1 → Q (.bl true) H1
theorem ok_is_walk_of (T : Tx K mg A) : FnOk P w K mg base CX0 3 A.a_is_walk_of A.f_is_walk_of P_is_walk_of (sp_is_walk_of K) := by
  refine T.F_is_walk_of.ok sc_is_walk_of (fun vs H Q E h => ?_) (fun cdv A' outer s H vs Q E hr h => ?_)
  · obtain ⟨l, a, ns, rfl, _⟩ := h
    rfl
  · obtain ⟨l, a, ns, rfl, ht, hz, hs, q⟩ := h
    refine ⟨_, (pss_one (ps_ret (pe_and (pe_callB (isi_K K) (by rfl) T.n_isinstance (by decide +kernel) (pa_cons (pv 1) (pa_cons (pe_bltn (v := .ty "tuple") (by rfl) T.n_tuple (by decide +kernel) rfl) pa_nil))) (pe_one (pe_callB (all_K K rfl) (by rfl) T.n_all (by decide +kernel) (pa_cons (pe_lc (own := [("step", 2)]) rfl sc_is_walk_of.nd (pi_tupK K (pv 1)) (blkOk_by (own := [("step", 2)]) (N := N_is_walk_of) (sc := defScope s_is_walk_of) (by decide +kernel)) (fun _ _ _ _ _ => (pg_name (i := 2) sc_is_walk_of.nd rfl (Or.inl rfl))) (fun _ _ _ _ _ => pts_nil) (fun _ _ _ _ _ => (pe_call (ok_is_step_of T) (hr.mono (by decide)) (by rfl) T.g_is_step_of T.F_is_step_of.kp T.b_is_step_of .nil pass0 (pa_cons (pv 0) (pa_cons (pv 2) pa_nil))))) pa_nil)))))), ?_⟩
    refine ⟨_, rfl, .ref a, .ty "tuple", _, _, true, rfl, .ty _, ty_t ht, kit_ty (by decide +kernel), true, rfl, iteT ?_⟩
    refine st_cb (st_cons (cm_tup (ys := (ns.map fun _ => true).map V.bl) (xs := ns.map V.int) (fun R r => ⟨_, rfl, r a H (Ex.refl H) ht⟩) (by simp) (by simp; omega) (fun _ => rfl) (fun i x y H1 hx hy e1 Q' k => ?_) (fun D H1 hD e1 h1 => ?_)))
    · rw [List.getElem?_map] at hx
      rw [List.getElem?_map, List.getElem?_map] at hy
      cases hn : ns[i]? with
      | none => rw [hn] at hx; cases hx
      | some z =>
        rw [hn] at hx hy
        cases hx
        cases hy
        refine ⟨_, rfl, _, rfl, l, z, rfl, ?_⟩
        rw [decide_eq_true (hs z (List.mem_of_getElem? hn))]
        exact k H1 (Ex.refl H1)
    · refine ⟨D, _, rfl, l_of h1, ?_⟩
      have e : ((ns.map fun _ => true).all id) = true := by simp
      show Q (.bl ((ns.map fun _ => true).all id)) H1
      rw [e]
      exact q H1 e1
def sp_check_letters (K : PySem.W.Frag) : Sp := fun vs H Q _ => ∃ l, vs = [.int l] ∧ 1 ≤ l ∧ l ≤ 4 ∧ Q .non H
theorem ok_check_letters (T : Tx K mg A) : FnOk P w K mg base CX0 3 A.a_check_letters A.f_check_letters P_check_letters (sp_check_letters K) := by
  refine T.F_check_letters.ok sc_check_letters (fun vs H Q E h => ?_) (fun cdv A' outer s H vs Q E hr h => ?_)
  · obtain ⟨l, rfl, _⟩ := h
    rfl
  · obtain ⟨l, rfl, h1, h4, q⟩ := h
    refine ⟨_, (pss_one (ps_if (pt_not (pt_truK K (pe_call (ok_is_letters T) (hr.mono (by decide)) (by rfl) T.g_is_letters T.F_is_letters.kp T.b_is_letters .nil pass0 (pa_cons (pv 0) pa_nil)))) (pss_one ps_never) pss_nil)), ?_⟩
    walk_at "go"
    refine ⟨l, rfl, h1, h4, r_truB (if_nT ?_)⟩
    exact q
def sp_check_walk (K : PySem.W.Frag) : Sp := fun vs H Q _ => ∃ l a ns, vs = [.int l, .ref a] ∧ IT K H a ns ∧ ns.length ≤ 5000 ∧ Stp l ns ∧ ∀ H1, Ex H H1 → Q .non H1
theorem ok_check_walk (T : Tx K mg A) : FnOk P w K mg base CX0 4 A.a_check_walk A.f_check_walk P_check_walk (sp_check_walk K) := by
  refine T.F_check_walk.ok sc_check_walk (fun vs H Q E h => ?_) (fun cdv A' outer s H vs Q E hr h => ?_)
  · obtain ⟨l, a, ns, rfl, _⟩ := h
    rfl
  · obtain ⟨l, a, ns, rfl, ht, hz, hs, q⟩ := h
    refine ⟨_, (pss_one (ps_if (pt_not (pt_truK K (pe_call (ok_is_walk_of T) (hr.mono (by decide)) (by rfl) T.g_is_walk_of T.F_is_walk_of.kp T.b_is_walk_of .nil pass0 (pa_cons (pv 0) (pa_cons (pv 1) pa_nil))))) (pss_one ps_never) pss_nil)), ?_⟩
    refine ⟨_, rfl, _, rfl, l, a, ns, rfl, ht, hz, hs, fun H1 e1 => ⟨true, rfl, ?_⟩⟩
    exact iteF (q H1 e1)
def sp_check_within (K : PySem.W.Frag) : Sp := fun vs H Q _ => ∃ i l g, vs = [.int i, .int l, .int g] ∧ l ≤ i ∧ i ≤ g ∧ Q .non H
theorem ok_check_within (T : Tx K mg A) : FnOk P w K mg base CX0 2 A.a_check_within A.f_check_within P_check_within (sp_check_within K) := by
  refine T.F_check_within.ok sc_check_within (fun vs H Q E h => ?_) (fun cdv A' outer s H vs Q E hr h => ?_)
  · obtain ⟨i, l, g, rfl, _⟩ := h
    rfl
  · obtain ⟨i, l, g, rfl, h1, h2, q⟩ := h
    refine ⟨_, (pss_one (ps_if (PW.pt (pw_or (pt_not (pt_truK K (pe_call (ok_is_integer T) (hr.mono (by decide)) (by rfl) T.g_is_integer T.F_is_integer.kp T.b_is_integer .nil pass0 (pa_cons (pv 0) pa_nil)))) (pw_or (pt_cmpR op_lt (pv 0) (pv 1) (nomark _)) (pw_or1 (pt_cmpR op_gt (pv 0) (pv 2) (nomark _)))))) (pss_one ps_never) pss_nil)), ?_⟩
    refine ⟨_, rfl, i, rfl, true, rfl, iteF ⟨_, rfl, _, rfl, _, _, rfl, rfl, _, rfl, ?_⟩⟩
    rw [decide_eq_false (by omega)]
    refine iteF ⟨_, rfl, _, rfl, _, _, rfl, rfl, _, rfl, ?_⟩
    rw [decide_eq_false (by omega)]
    exact iteF q
def sp_check_step (K : PySem.W.Frag) : Sp := fun vs H Q _ => ∃ l i : Int, vs = [.int l, .int i] ∧ (i ≠ 0 ∧ -l ≤ i ∧ i ≤ l) ∧ Q .non H
theorem ok_check_step (T : Tx K mg A) : FnOk P w K mg base CX0 3 A.a_check_step A.f_check_step P_check_step (sp_check_step K) := by
  refine T.F_check_step.ok sc_check_step (fun vs H Q E h => ?_) (fun cdv A' outer s H vs Q E hr h => ?_)
  · obtain ⟨l, i, rfl, _⟩ := h
    rfl
  · obtain ⟨l, i, rfl, hi, q⟩ := h
    refine ⟨_, (pss_one (ps_if (pt_not (pt_truK K (pe_call (ok_is_step_of T) (hr.mono (by decide)) (by rfl) T.g_is_step_of T.F_is_step_of.kp T.b_is_step_of .nil pass0 (pa_cons (pv 0) (pa_cons (pv 1) pa_nil))))) (pss_one ps_never) pss_nil)), ?_⟩
    walk_at "go"
    refine ⟨l, i, rfl, r_truB ?_⟩
    rw [decide_eq_true hi]
    exact if_nT q
def sp_straightened (K : PySem.W.Frag) : Sp := fun vs H Q _ => ∃ a ns, vs = [.ref a] ∧ IT K H a ns ∧ ns.length ≤ 5000 ∧ ∀ p H1, Ex H H1 → IT K H1 p (Fg.rd ns) → Q (.ref p) H1
theorem ok_straightened (T : Tx K mg A) : FnOk P w K mg base CX0 1 A.a_straightened A.f_straightened P_straightened (sp_straightened K) := by
  refine T.F_straightened.ok sc_straightened (fun vs H Q E h => ?_) (fun cdv A' outer s H vs Q E hr h => ?_)
  · obtain ⟨a, ns, rfl, _⟩ := h
    rfl
  · obtain ⟨a, ns, rfl, ht, hz, q⟩ := h
    refine ⟨_, (pss_cons (ps_set (i := 1) sc_straightened.nd rfl (Or.inl rfl) (pe_lst pa_nil))
      (pss_cons (ps_for PassesOwn.never rfl (pi_tupK K (pv 0)) (pg_name (i := 2) sc_straightened.nd rfl (Or.inl rfl)) (pss_one (ps_if (PW.pt (pw_and (pt_truK K (pv 1)) (pw_and1 (pt_cmpR (op_eqK K hr.units) (pe_ix (ix_K K) (pv 1) (pe_un un_neg pe_int) (fun _ _ => rfl)) (pe_un un_neg (pv 2)) (nomark _))))) (pss_one (ps_expr (pe_bm0U K PySem.F.plainAttrs_list PySem.F.slot_list_pop PySem.F.type_list_pop mt_pop (pv 1)))) (pss_one (ps_expr (pe_bmU K PySem.F.plainAttrs_list PySem.F.slot_list_append PySem.F.type_list_append mt_append (pv 1) (pa_cons (pv 2) pa_nil)))))))
      (pss_one (ps_ret (pe_callTy (tuple_K K) (by rfl) T.n_tuple (by decide +kernel) (pa_cons (pv 1) pa_nil)))))), ?_⟩
    refine st_seq (st_set (st_nil fun l H1 hl e1 h1 => ?_))
    refine ⟨_, rfl, a, rfl, ⟨_, ex_t e1 ht⟩, for_tup (K := K) (a := a) (xs := ns.map V.int) (fun i σ H' => ∃ v, σ = [some (.ref a), some (.ref l), v] ∧ Ex H H' ∧ H' l = some (.lst ((Fg.rd (ns.take i)).map V.int)))
      ⟨none, rfl, e1, h1⟩ (fun i σ H' _ p => ex_t p.choose_spec.2.1 ht) (fun i x σ H' hx p => ?_) (fun σ H' p => ?_)⟩
    · obtain ⟨v, rfl, e2, h2⟩ := p
      rw [List.getElem?_map] at hx
      cases hn : ns[i]? with
      | none => rw [hn] at hx; cases hx
      | some z =>
        rw [hn] at hx
        cases hx
        have hi := (List.getElem?_eq_some_iff.mp hn).1
        have step : Fg.rd (ns.take (i + 1)) = (Fg.stp (Fg.rd (ns.take i)).reverse z).reverse := by rw [take_snoc hn, Fg.rd_snoc]
        have hlen : (Fg.rd (ns.take i)).length ≤ 5000 := Nat.le_trans (Fg.rd_len _) (by rw [List.length_take]; omega)
        generalize hq : Fg.rd (ns.take i) = q at h2 step hlen
        refine ⟨_, rfl, _, .inl ⟨_, l_of h2, rfl⟩, ?_⟩
        rcases List.eq_nil_or_concat q with e | ⟨r, y, e⟩
        · subst e
          refine iteF (iteF ?_)
          rw [show Fg.rd (ns.take (i + 1)) = [z] from step]
          exact ⟨_, rfl, .inl ⟨rfl, _, l_of h2⟩, _, rfl, l, _, _, rfl, rfl, h2, sz_lt (by simp), _, rfl, Ex.mut e2 hl, upd_same⟩
        · rw [List.concat_eq_append] at e
          subst e
          have e3 : (!((r ++ [y]).map V.int).isEmpty) = true := by simp
          rw [e3]
          refine iteT ⟨_, rfl, 1, rfl, .inl ⟨l, _, -1, .int y, rfl, rfl, l_of h2, at_last (by simp), _, rfl, z, rfl, r_eqI ⟨_, rfl, ?_⟩⟩⟩
          by_cases hy : y = -z
          · rw [decide_eq_true hy]
            have e4 : Fg.rd (ns.take (i + 1)) = r := by
              rw [step, List.reverse_append]
              show (if y = -z then r.reverse else z :: y :: r.reverse).reverse = r
              rw [if_pos hy, List.reverse_reverse]
            refine iteT ⟨_, rfl, .inl ⟨rfl, _, l_of h2⟩, l, _, .int y, rfl, rfl, h2, ?_, _, rfl, Ex.mut e2 hl, ?_⟩
            · rw [List.length_map, List.length_append, List.map_append]
              simp
            · rw [upd_same, e4, List.map_append]
              simp
          · rw [decide_eq_false hy]
            have e4 : Fg.rd (ns.take (i + 1)) = (r ++ [y]) ++ [z] := by
              rw [step, List.reverse_append]
              show (if y = -z then r.reverse else z :: y :: r.reverse).reverse = r ++ [y] ++ [z]
              rw [if_neg hy, List.reverse_cons, List.reverse_cons, List.reverse_reverse]
            refine iteF ⟨_, rfl, .inl ⟨rfl, _, l_of h2⟩, _, rfl, l, _, _, rfl, rfl, h2, sz_lt (by rw [List.length_map]; omega), _, rfl, Ex.mut e2 hl, ?_⟩
            rw [upd_same, e4, List.map_append (l₁ := r ++ [y])]
            rfl
    · obtain ⟨v, rfl, e2, h2⟩ := p
      rw [List.length_map, List.take_length] at h2
      exact ⟨_, rfl, r_tuL (l_of h2) fun p H3 _ e3 h3 => q p H3 (e2.trans e3) h3⟩
def sp_turned_back (K : PySem.W.Frag) : Sp := fun vs H Q _ => ∃ a ns, vs = [.ref a] ∧ IT K H a ns ∧ ns.length ≤ 5000 ∧ ∀ p H1, Ex H H1 → IT K H1 p (Fg.bk ns) → Q (.ref p) H1
theorem ok_turned_back (T : Tx K mg A) : FnOk P w K mg base CX0 1 A.a_turned_back A.f_turned_back P_turned_back (sp_turned_back K) := by
  refine T.F_turned_back.ok sc_turned_back (fun vs H Q E h => ?_) (fun cdv A' outer s H vs Q E hr h => ?_)
  · obtain ⟨a, ns, rfl, _⟩ := h
    rfl
  · obtain ⟨a, ns, rfl, ht, hz, q⟩ := h
    refine ⟨_, (pss_one (ps_ret (pe_callTy (tuple_K K) (by rfl) T.n_tuple (by decide +kernel) (pa_cons (pe_lc (own := [("step", 1)]) rfl sc_turned_back.nd (pi_tupK K (pe_revK K (pv 0))) (blkOk_by (own := [("step", 1)]) (N := N_turned_back) (sc := defScope s_turned_back) (by decide +kernel)) (fun _ _ _ _ _ => (pg_name (i := 1) sc_turned_back.nd rfl (Or.inl rfl))) (fun _ _ _ _ _ => pts_nil) (fun _ _ _ _ _ => (pe_un un_neg (pv 1)))) pa_nil)))), ?_⟩
    refine st_ret (st_cb (st_cons (cm_tup (ys := (Fg.bk ns).map V.int) (xs := (ns.map V.int).reverse) (fun R r => st_revT (he_var rfl) ht fun b H1 _ e1 h1 => r b H1 e1 (t_of h1)) (by simp [Fg.bk_len]) (by simp [Fg.bk_len]; omega) (fun _ => rfl) (fun k x y H1 hx hy e1 Q' k' => ?_) fun D H1 _ e1 h1 => ?_)))
    · obtain ⟨z, rfl, rfl⟩ := bk_get hx hy
      exact ⟨_, rfl, z, rfl, k' H1 (Ex.refl H1)⟩
    · exact r_tuL (l_of h1) fun l H3 _ e3 h3 => q l H3 (e1.trans e3) h3
def sp_power (K : PySem.W.Frag) : Sp := fun vs H Q _ => ∃ a ns k, vs = [.ref a, .int k] ∧ IT K H a ns ∧ ns.length ≤ 60 ∧ Stp 4 ns ∧ -20 ≤ k ∧ k ≤ 20 ∧ ∀ p H1, Ex H H1 → IT K H1 p (pw ns k) → Q (.ref p) H1
theorem ok_power (T : Tx K mg A) : FnOk P w K mg base CX0 5 A.a_power A.f_power P_power (sp_power K) := by
  refine T.F_power.ok sc_power (fun vs H Q E h => ?_) (fun cdv A' outer s H vs Q E hr h => ?_)
  · obtain ⟨a, ns, k, rfl, _⟩ := h
    rfl
  · obtain ⟨a, ns, k, rfl, ht, hz, hs, hlo, hhi, q⟩ := h
    refine ⟨_, (pss_cons (ps_expr (pe_call (ok_check_walk T) (hr.mono (by decide)) (by rfl) T.g_check_walk T.F_check_walk.kp T.b_check_walk .nil pass0 (pa_cons (pe_glob (v := .int 4) (by rfl) T.c_MOST_LETTERS.choose_spec ⟨_, rfl⟩) (pa_cons (pv 0) pa_nil))))
      (pss_cons (ps_expr (pe_call (ok_check_within T) (hr.mono (by decide)) (by rfl) T.g_check_within T.F_check_within.kp T.b_check_within .nil pass0 (pa_cons (pv 1) (pa_cons (pe_un un_neg (pe_glob (v := .int 20) (by rfl) T.c_MOST_TIMES.choose_spec ⟨_, rfl⟩)) (pa_cons (pe_glob (v := .int 20) (by rfl) T.c_MOST_TIMES.choose_spec ⟨_, rfl⟩) pa_nil)))))
      (pss_cons (ps_set (i := 2) sc_power.nd rfl (Or.inl rfl) (pe_ifExp (pt_cmpR op_ge (pv 1) pe_int (nomark _)) (pv 0) (pe_call (ok_turned_back T) (hr.mono (by decide)) (by rfl) T.g_turned_back T.F_turned_back.kp T.b_turned_back .nil pass0 (pa_cons (pv 0) pa_nil))))
      (pss_one (ps_ret (pe_call (ok_straightened T) (hr.mono (by decide)) (by rfl) T.g_straightened T.F_straightened.kp T.b_straightened .nil pass0 (pa_cons (pe_op (op_mulK K) (pv 2) (pe_callB abs_K (by rfl) T.n_abs (by decide +kernel) (pa_cons (pv 1) pa_nil))) pa_nil))))))), ?_⟩
    refine ⟨_, rfl, 4, a, ns, rfl, ht, by omega, hs, fun H1 e1 => ?_⟩
    refine ⟨_, rfl, 20, rfl, k, -20, 20, rfl, hlo, hhi, ?_⟩
    -- behind once = .. : the walk or it turned back
    have tail : ∀ (b : Addr) (ms : List Int) (H2 : Hp), Ex H1 H2 → IT K H2 b ms → ms.length = ns.length → pw ns k = Fg.rd (Fg.rep k.natAbs ms) →
        tOp (rMulU K) (tVar 2) (tCB rAbs (tCons (tVar 1) tNil)) [some (.ref a), some (.int k), some (.ref b)] H2 fun x H3 => sp_straightened K [x] H3 Q E := by
      intro b ms H2 e2 h2 hl e
      walk_at "go"
      refine r_repT h2 (by omega) (by omega) (by rw [List.length_map]; omega) fun c H3 e3 h3 => ?_
      have hf : (List.replicate ((k.natAbs : Nat) : Int).toNat (ms.map V.int)).flatten = (Fg.rep k.natAbs ms).map V.int := by
        rw [← Fg.rep_flat, Int.toNat_natCast]
        simp [List.map_flatten]
      rw [hf] at h3
      refine ⟨c, _, rfl, h3, ?_, fun p H4 e4 h4 => q p H4 ((e1.trans e2).trans (e3.trans e4)) (by rw [e]; exact h4)⟩
      rw [Fg.rep_len, hl]
      exact Nat.le_trans (Nat.mul_le_mul (by omega : k.natAbs ≤ 20) hz) (by omega)
    refine ⟨_, rfl, _, _, rfl, rfl, _, rfl, ?_⟩
    by_cases hk : 0 ≤ k
    · rw [decide_eq_true hk]
      refine iteT ⟨_, rfl, ?_⟩
      exact tail a ns H1 (Ex.refl H1) (ex_t e1 ht) rfl (by unfold pw; rw [if_pos hk])
    · rw [decide_eq_false hk]
      refine iteF ⟨_, rfl, a, ns, rfl, ex_t e1 ht, by omega, fun b H2 e2 h2 => ?_⟩
      exact tail b _ H2 e2 h2 (Fg.bk_len ns) (by unfold pw; rw [if_neg hk])
def sp_steps_of (K : PySem.W.Frag) : Sp := fun vs H Q _ => ∃ L : Nat, vs = [.int L] ∧ L ≤ 4 ∧ ∀ p H1, H p = none → Ex H H1 → H1 p = some (.lst ((Od.steps L).map V.int)) → Q (.ref p) H1
theorem ok_steps_of (T : Tx K mg A) : FnOk P w K mg base CX0 1 A.a_steps_of A.f_steps_of P_steps_of (sp_steps_of K) := by
  refine T.F_steps_of.ok sc_steps_of (fun vs H Q E h => ?_) (fun cdv A' outer s H vs Q E hr h => ?_)
  · obtain ⟨L, rfl, _⟩ := h
    rfl
  · obtain ⟨L, rfl, h4, q⟩ := h
    refine ⟨_, (pss_one (ps_ret (pe_lc2 (own := [("letter", 1), ("step", 2)]) (vs1 := [2]) rfl sc_steps_of.nd (pi_range2 (by rfl) T.n_range (pa_cons pe_int (pa_cons (pe_op (op_addK K) (pv 0) pe_int) pa_nil))) (blkOk_by (own := [("letter", 1), ("step", 2)]) (N := N_steps_of) (sc := defScope s_steps_of) (by decide +kernel)) (by decide) (fun _ _ _ _ _ => (pg_name (i := 1) sc_steps_of.nd rfl (Or.inl rfl))) (fun _ _ _ _ _ => pts_nil) (fun _ _ _ _ _ => (pi_tupK K (pe_tup (pa_cons (pv 1) (pa_cons (pe_un un_neg (pv 1)) pa_nil))))) (fun _ _ _ _ _ => (pg_name (i := 2) sc_steps_of.nd rfl (Or.inl rfl))) (fun _ _ _ _ _ => pts_nil) (fun _ _ _ _ _ => (pv 2))))), ?_⟩
    walk_at "go"
    have fl : ∀ i, (flat (fun i => [V.int (1 + (i : Int)), V.int (-(1 + (i : Int)))]) i) = (Od.steps i).map V.int := fun i => by
      unfold flat Od.steps
      rw [List.map_flatMap]
      congr 1
      funext k
      show [V.int (1 + (k : Int)), V.int (-(1 + (k : Int)))] = [V.int ((k : Int) + 1), V.int (-((k : Int) + 1))]
      rw [Int.add_comm]
    refine r_rng2 (by omega) (r_lc2R (K := K) (m := ((L : Int) + 1 - 1).toNat) (lo := 1) (fun i => [V.int (1 + (i : Int)), V.int (-(1 + (i : Int)))]) (fun i hi => by rw [fl, List.length_map, Od.steps_len]; omega) (fun i _ => by simp) (fun _ => rfl) (fun _ _ => rfl) (fun i H1 R hi e k => ?_) (fun i y H1 Q' hi hy e k => ?_) fun p H1 hp e h => ?_)
    · walk_at "go"
      refine r_newT (by simp) fun a H2 _ e2 h2 => ?_
      exact r_itT (t_of h2) (k a H2 e2 (t_of h2))
    · walk_at "go"
      exact k H1 (Ex.refl H1)
    · rw [fl] at h
      have e2 : ((L : Int) + 1 - 1).toNat = L := by omega
      rw [e2] at h
      exact q p H1 hp e h
def sp_steps_behind (K : PySem.W.Frag) : Sp := fun vs H Q _ => ∃ (L : Nat) (a : Addr) (w : List Int), vs = [.int L, .ref a] ∧ L ≤ 4 ∧ (IL K H a w ∨ IT K H a w) ∧ ∀ p H1, H p = none → Ex H H1 → H1 p = some (.lst ((Od.bh L (Od.lst none w)).map V.int)) → Q (.ref p) H1
theorem ok_steps_behind (T : Tx K mg A) : FnOk P w K mg base CX0 2 A.a_steps_behind A.f_steps_behind P_steps_behind (sp_steps_behind K) := by
  refine T.F_steps_behind.ok sc_steps_behind (fun vs H Q E h => ?_) (fun cdv A' outer s H vs Q E hr h => ?_)
  · obtain ⟨L, a, w, rfl, _⟩ := h
    rfl
  · obtain ⟨L, a, ws, rfl, h4, ha, q⟩ := h
    refine ⟨_, (pss_one (ps_ret (pe_lc (own := [("step", 2)]) rfl sc_steps_behind.nd (pi_listK K (pe_call (ok_steps_of T) (hr.mono (by decide)) (by rfl) T.g_steps_of T.F_steps_of.kp T.b_steps_of .nil pass0 (pa_cons (pv 0) pa_nil))) (blkOk_by (own := [("step", 2)]) (N := N_steps_behind) (sc := defScope s_steps_behind) (by decide +kernel)) (fun _ _ _ _ _ => (pg_name (i := 2) sc_steps_behind.nd rfl (Or.inl rfl))) (fun _ _ _ _ _ => (pts_one (PW.pt (pw_or (pt_not (pt_truK K (pv 1))) (pw_or1 (pt_cmpR (op_neK K hr.units) (pv 2) (pe_un un_neg (pe_ix (ix_K K) (pv 1) (pe_un un_neg pe_int) (fun _ _ => rfl))) (nomark _))))))) (fun _ _ _ _ _ => (pv 2))))), ?_⟩
    walk_at "go"
    refine ⟨L, rfl, h4, fun p H1 hp e1 h1 => ?_⟩
    walk_at "go"
    refine r_itL (l_of h1) (r_cmIF (K := K) (ns := Od.steps L) (l_of h1) (fun s => decide (Od.lst none ws ≠ some (-s))) V.int (by rw [Od.steps_len]; omega) (fun _ => rfl) (fun x hx H2 R e2 k => ?_) (fun x hx hf H2 Q' e2 k => ?_) fun p2 H2 hp2 e2 h2 => ?_)
    · walk_at "go"
      have e3 := e1.trans e2
      have tru : ∀ (R' : Bool → Prop), R' (!(ws.map V.int).isEmpty) → ∃ k, TruV K (.ref a) H2 k ∧ R' k := fun R' r => by
        rcases ha with h | h
        · exact r_truL (ex_l e3 h) r
        · exact r_truT (ex_t e3 h) r
      refine tru _ ?_
      rcases List.eq_nil_or_concat ws with e | ⟨u, y, e⟩
      · subst e
        walk_at "go"
        have := k H2 (Ex.refl H2)
        rw [Od.lst_nil, decide_eq_true (by simp)] at this
        exact this
      · rw [List.concat_eq_append] at e
        subst e
        rw [show (!((u ++ [y]).map V.int).isEmpty) = true by simp]
        walk_at "go"
        have ix : ∀ (Q'' : VK), Q'' (.int y) H2 → rIx K (.ref a) (.int (-1)) H2 Q'' := fun Q'' r => by
          rcases ha with h | h
          · exact r_ixL (ex_l e3 h) (at_last (by simp)) r
          · exact r_ixT (ex_t e3 h) (at_last (by simp)) r
        refine ix _ ?_
        walk_at "go"
        have := k H2 (Ex.refl H2)
        rw [Od.lst_snoc] at this
        have e4 : decide (some y ≠ some (-x)) = !decide (x = -y) := by
          by_cases h : x = -y
          · have h2 : ¬ (some y ≠ some (-x)) := by rw [h]; simp
            rw [decide_eq_true h, decide_eq_false h2]
            rfl
          · have h2 : some y ≠ some (-x) := fun z => h (by have := Option.some.inj z; omega)
            rw [decide_eq_false h, decide_eq_true h2]
            rfl
        rw [e4] at this
        exact this
    · walk_at "go"
      exact k H2 (Ex.refl H2)
    · exact q p2 H2 (fresh_back e1 hp2) (e1.trans e2) h2
def sp_many_of_lengths (K : PySem.W.Frag) : Sp := fun vs H Q _ => ∃ (L z : Nat), vs = [.int L, .int z] ∧ 1 ≤ L ∧ L ≤ 4 ∧ z ≤ 10000 ∧ ∀ p H1, H p = none → Ex H H1 → H1 p = some (.lst (((List.range (z + 1)).map fun i => ((Od.tot L none i : Nat) : Int)).map V.int)) → Q (.ref p) H1
theorem ok_many_of_lengths (T : Tx K mg A) : FnOk P w K mg base CX0 1 A.a_many_of_lengths A.f_many_of_lengths P_many_of_lengths (sp_many_of_lengths K) := by
  refine T.F_many_of_lengths.ok sc_many_of_lengths (fun vs H Q E h => ?_) (fun cdv A' outer s H vs Q E hr h => ?_)
  · obtain ⟨L, z, rfl, _⟩ := h
    rfl
  · obtain ⟨L, z, rfl, h1L, h4, hz, q⟩ := h
    refine ⟨_, (pss_cons (ps_set (i := 2) sc_many_of_lengths.nd rfl (Or.inl rfl) (pe_lst (pa_cons pe_int pa_nil)))
      (pss_cons (ps_for PassesOwn.never rfl (pi_range1 (by rfl) T.n_range (pa_cons (pv 1) pa_nil)) (pg_name (i := 3) sc_many_of_lengths.nd rfl (Or.inl rfl)) (pss_one (ps_expr (pe_bmU K PySem.F.plainAttrs_list PySem.F.slot_list_append PySem.F.type_list_append mt_append (pv 2) (pa_cons (pe_op (op_mulK K) (pe_ix (ix_K K) (pv 2) (pe_un un_neg pe_int) (fun _ _ => rfl)) (pe_cutE (pe_ifExp (pt_cmpR (op_eqK K hr.units) (pv 3) pe_int (nomark _)) (pe_op (op_mulK K) pe_int (pv 0)) (pe_op op_sub (pe_op (op_mulK K) pe_int (pv 0)) pe_int)))) pa_nil)))))
      (pss_one (ps_ret (pv 2))))), ?_⟩
    walk_at "go"
    refine r_newL (by simp) fun c H1 hc e1 h1 => ?_
    walk_at "go"
    refine r_rng1 (by omega) (by omega) (r_forR (m := (z : Int).toNat) (fun i σ' H' => ∃ v, Ex H H' ∧ H' c = some (.lst (((List.range (i + 1)).map fun i => ((Od.tot L none i : Nat) : Int)).map V.int)) ∧ σ' = [some (.int L), some (.int z), some (.ref c), v]) ⟨none, e1, h1, rfl⟩ ?_ ?_)
    · rintro i σ' H2 hi ⟨v, e2, h2, rfl⟩
      walk_at "go"
      refine r_app (l_of h2) ?_
      walk_at "go"
      refine r_ixL (l_of h2) (at_last (x := ((Od.tot L none i : Nat) : Int)) (by rw [List.range_succ, List.map_append]; simp)) ?_
      walk_at "go"
      refine st_cutE (fun x H' => H2 = H' ∧ x = .int ((if i = 0 then 2 * L else 2 * L - 1 : Nat) : Int)) ?_ ?_
      · walk_at "go"
        refine if_2 (fun h0 => ?_) fun h0 => ?_
        · walk_at "go"
          refine r_mul (.inl ⟨by decide, by decide⟩) ⟨rfl, ?_⟩
          rw [if_pos (by omega)]
          rfl
        · walk_at "go"
          refine r_mul (.inl ⟨by decide, by decide⟩) ?_
          walk_at "go"
          refine ⟨rfl, ?_⟩
          rw [if_neg (by omega)]
          show V.int (2 * (L : Int) - 1) = V.int ((2 * L - 1 : Nat) : Int)
          congr 1
          omega
      · rintro x H3 ⟨rfl, rfl⟩
        walk_at "go"
        refine r_mul (.inr ⟨by omega, by split <;> omega⟩) ?_
        walk_at "go"
        refine r_appd h2 (by simp; omega) fun H4 e4 h5 => ?_
        refine ⟨_, fun b o hb => e4 b o (e2 b o hb) (ne_of_none hb hc), ?_, rfl⟩
        rw [h5, List.range_succ (n := i + 1), List.map_append, List.map_append]
        have e5 : Od.tot L none (i + 1) = Od.tot L none i * (if i = 0 then 2 * L else 2 * L - 1) := by
          cases i with
          | zero => rw [Od.tot_none, Od.tot]; simp
          | succ i => rw [Od.tot_none, Od.tot_none, if_neg (by omega), Nat.pow_succ]; simp only [Nat.mul_assoc]
        have e6 : ((Od.tot L none (i + 1) : Nat) : Int) = ((Od.tot L none i : Nat) : Int) * ((if i = 0 then 2 * L else 2 * L - 1 : Nat) : Int) := by rw [e5, Int.natCast_mul]
        show some (HO.lst (_ ++ [V.int _])) = some (HO.lst (_ ++ [V.int ((Od.tot L none (i + 1) : Nat) : Int)]))
        rw [e6]
    · rintro σ' H2 ⟨v, e2, h2, rfl⟩
      walk_at "go"
      exact q c H2 hc e2 h2
def sp_check_least (K : PySem.W.Frag) : Sp := fun vs H Q _ => ∃ n m : Int, vs = [.int n, .int m] ∧ m ≤ n ∧ Q .non H
theorem ok_check_least (T : Tx K mg A) : FnOk P w K mg base CX0 2 A.a_check_least A.f_check_least P_check_least (sp_check_least K) := by
  refine T.F_check_least.ok sc_check_least (fun vs H Q E h => ?_) (fun cdv A' outer s H vs Q E hr h => ?_)
  · obtain ⟨n, m, rfl, _⟩ := h
    rfl
  · obtain ⟨n, m, rfl, hm, q⟩ := h
    refine ⟨_, (pss_one (ps_if (PW.pt (pw_or (pt_not (pt_truK K (pe_call (ok_is_integer T) (hr.mono (by decide)) (by rfl) T.g_is_integer T.F_is_integer.kp T.b_is_integer .nil pass0 (pa_cons (pv 0) pa_nil)))) (pw_or1 (pt_cmpR op_lt (pv 0) (pv 1) (nomark _))))) (pss_one ps_never) pss_nil)), ?_⟩
    walk_at "go"
    refine ⟨n, rfl, r_truB (if_nT ?_)⟩
    walk_at "go"
    refine if_f (by omega) ?_
    exact q
def sp_between (K : PySem.W.Frag) : Sp := fun vs H Q _ => ∃ (L n : Nat) (f t : Int), vs = [.int L, .int f, .int t, .int ((n : Int) + 1)] ∧ 1 ≤ L ∧ L ≤ 4 ∧ f ∈ Od.steps L ∧ t ∈ Od.steps L ∧ n ≤ 1000 ∧ ∀ H1, Ex H H1 → Q (.int (Od.bt L f n t)) H1
theorem st_ok {L : Nat} {f : Int} (h : f ∈ Od.steps L) : f ≠ 0 ∧ -(L : Int) ≤ f ∧ f ≤ L := Od.mem_steps.mp h
theorem ok_between (T : Tx K mg A) : FnOk P w K mg base CX0 4 A.a_between A.f_between P_between (sp_between K) := by
  refine T.F_between.ok sc_between (fun vs H Q E h => ?_) (fun cdv A' outer s H vs Q E hr h => ?_)
  · obtain ⟨L, n, f, t, rfl, _⟩ := h
    rfl
  · obtain ⟨L, n, f, t, rfl, h1, h4, hf, ht, hn, q⟩ := h
    refine ⟨_, (pss_cons (ps_expr (pe_call (ok_check_letters T) (hr.mono (by decide)) (by rfl) T.g_check_letters T.F_check_letters.kp T.b_check_letters .nil pass0 (pa_cons (pv 0) pa_nil)))
      (pss_cons (ps_expr (pe_call (ok_check_step T) (hr.mono (by decide)) (by rfl) T.g_check_step T.F_check_step.kp T.b_check_step .nil pass0 (pa_cons (pv 0) (pa_cons (pv 1) pa_nil))))
      (pss_cons (ps_expr (pe_call (ok_check_step T) (hr.mono (by decide)) (by rfl) T.g_check_step T.F_check_step.kp T.b_check_step .nil pass0 (pa_cons (pv 0) (pa_cons (pv 2) pa_nil))))
      (pss_cons (ps_expr (pe_call (ok_check_least T) (hr.mono (by decide)) (by rfl) T.g_check_least T.F_check_least.kp T.b_check_least .nil pass0 (pa_cons (pv 3) (pa_cons pe_int pa_nil))))
      (pss_cons (ps_set (i := 4) sc_between.nd rfl (Or.inr rfl) (pe_dc (own := [("step", 7)]) rfl sc_between.nd (pi_listK K (pe_call (ok_steps_of T) (hr.mono (by decide)) (by rfl) T.g_steps_of T.F_steps_of.kp T.b_steps_of .nil pass0 (pa_cons (pv 0) pa_nil))) (blkOk_by (own := [("step", 7)]) (N := N_between) (sc := defScope s_between) (by decide +kernel)) (fun _ _ _ _ _ => (pg_name (i := 7) sc_between.nd rfl (Or.inl rfl))) (fun _ _ _ _ _ => pts_nil) (fun _ _ _ _ _ => (pv 7)) (fun _ _ _ _ _ => pe_int)))
      (pss_cons (ps_dput (hu_of hr) (pv 4) (pv 1) pe_int (by rfl))
      (pss_cons (ps_for PassesOwn.never rfl (pi_range1 (by rfl) T.n_range (pa_cons (pe_op op_sub (pv 3) pe_int) pa_nil)) (pg_name (i := 5) sc_between.nd rfl (Or.inl rfl)) (pss_cons (ps_set (i := 6) sc_between.nd rfl (Or.inr rfl) (pe_callB (sum_K K rfl) (by rfl) T.n_sum (by decide +kernel) (pa_cons (pe_listVals (by rfl) (pv 4) (by rfl) T.n_list (by decide +kernel)) pa_nil)))
      (pss_one (ps_set (i := 4) sc_between.nd rfl (Or.inr rfl) (pe_lock (pe_dc (own := [("step", 7)]) rfl sc_between.nd (pi_keys (pv 4)) (blkOk_by (own := [("step", 7)]) (N := N_between) (sc := defScope s_between) (by decide +kernel)) (fun _ _ _ _ _ => (pg_name (i := 7) sc_between.nd rfl (Or.inl rfl))) (fun _ _ _ _ _ => pts_nil) (fun _ _ _ _ _ => (pv 7)) (fun _ _ _ _ _ => (pe_op op_sub (pv 6) (pe_dget (hu_of hr) (pv 4) (pe_un un_neg (pv 7)) (fun _ _ => rfl))))))))))
      (pss_one (ps_ret (pe_dget (hu_of hr) (pv 4) (pv 2) (fun _ _ => rfl))))))))))), ?_⟩
    have zs := Od.steps_len L
    walk_at "go"
    refine ⟨L, rfl, by omega, by omega, ?_⟩
    walk_at "go"
    refine ⟨L, f, rfl, st_ok hf, ?_⟩
    walk_at "go"
    refine ⟨L, t, rfl, st_ok ht, ?_⟩
    walk_at "go"
    refine ⟨_, 1, rfl, by omega, ?_⟩
    walk_at "go"
    refine ⟨L, rfl, h4, fun p H1 hp e1 h1 => ?_⟩
    walk_at "go"
    refine r_itL (l_of h1) (r_dcL (l_of h1) (Od.steps_nodup L) (fun _ => .int 0) (by omega) (fun _ => rfl) (fun _ => rfl) (fun x hx H2 Q' e k => ?_) fun D H2 hD e2 h2 => ?_)
    · walk_at "go"
      exact k H2 (Ex.refl H2)
    walk_at "go"
    refine r_dput h2 (by rw [dm_len]; omega) fun H3 e3 h3 => ?_
    have hD0 : H D = none := fresh_back e1 hD
    have ex3 : Ex H H3 := fun a o ha => e3 a o (e2 a o (e1 a o ha)) (ne_of_none ha hD0)
    rw [putK_dm hf] at h3
    have h3' : H3 D = some (.dK (dm (Od.steps L) fun z => .int (Od.bt L f 0 z))) := by
      rw [h3]
      congr 3
      funext z
      show (if z = f then V.int 1 else V.int 0) = V.int (if z = f then 1 else 0)
      split <;> rfl
    clear h3 h2 e3 e2 hD e1 h1 hp
    walk_at "go"
    refine r_rng1 (by omega) (by omega) (r_forR (m := ((n : Int) + 1 - 1).toNat) (fun i σ' H' => ∃ D v5 v6, Ex H H' ∧ H D = none ∧ H' D = some (.dK (dm (Od.steps L) fun z => .int (Od.bt L f i z))) ∧ σ' = [some (.int L), some (.int f), some (.int t), some (.int ((n : Int) + 1)), some (.ref D), v5, v6, none]) ⟨D, none, none, ex3, hD0, h3', rfl⟩ (fun i σ' H' hi p => ?_) fun σ' H' p => ?_)
    · obtain ⟨D, v5, v6, e, hD, hd, rfl⟩ := p
      walk_at "go"
      refine r_lvals hd fun p H1 hp e1 h1 => ?_
      rw [dm_vals] at h1
      walk_at "go"
      refine r_sum (ns := (Od.steps L).map (Od.bt L f i)) (l_of (by rw [h1, List.map_map]; rfl)) ?_
      rw [Od.sum_bt hf]
      walk_at "go"
      refine r_dcD (i0 := 4) (d := D) rfl (e1 _ _ hd) (Od.steps_nodup L) (fun z => .int (Od.bt L f (i + 1) z)) (by omega) (fun _ => rfl) (fun _ => rfl) (fun x hx H2 Q' ew rd k => ?_) fun D2 H2 hD2 e2 h2 => ?_
      · walk_at "go"
        refine r_dget rd (valV_dm (by have := Od.mem_steps.mp hx; exact Od.mem_steps.mpr (by omega))) ?_
        walk_at "go"
        exact k H2 (Ex.refl H2)
      walk_at "go"
      exact ⟨D2, _, _, (e.trans e1).trans e2, fresh_back (e.trans e1) hD2, h2, rfl⟩
    · obtain ⟨D, v5, v6, e, hD, hd, rfl⟩ := p
      rw [show ((n : Int) + 1 - 1).toNat = n by omega] at hd
      walk_at "go"
      exact r_dget (.inl hd) (valV_dm ht) (q H' e)
end
end Lw
namespace Lw
open PySem PySem.Spec PyProof.Rows L2 Evl

local macro_rules | `(tactic| walk_at "go") => `(tactic| repeat (first
  | with_reducible refine st_seq ?_ | with_reducible refine st_set ?_ | with_reducible refine st_asg ?_ | with_reducible refine st_ret ?_ | with_reducible refine st_drop ?_ | with_reducible refine st_if ?_
  | with_reducible refine st_c ?_ | ((with_reducible refine' st_v ?h ?_); (case h => exact rfl)) | with_reducible refine st_n ?_ | with_reducible refine st_cons ?_ | with_reducible refine st_op ?_ | with_reducible refine st_un ?_
  | with_reducible refine st_cb ?_ | with_reducible refine st_test ?_ | with_reducible refine st_call ?_ | with_reducible refine st_callK ?_ | with_reducible refine st_sl ?_ | with_reducible refine st_par ?_ | with_reducible refine st_par3 ?_ | with_reducible refine st_tru ?_
  | with_reducible refine st_and ?_ | with_reducible refine st_or ?_ | with_reducible refine st_not ?_ | with_reducible refine st_B ?_ | with_reducible refine st_andV ?_ | with_reducible refine st_orV ?_ | with_reducible refine st_notV ?_ | with_reducible refine st_ifE ?_
  | with_reducible refine st_part ?_ | with_reducible refine st_nop ?_ | with_reducible refine st_sub ?_ | with_reducible refine st_chain ?_ | with_reducible refine st_bl ?_ | with_reducible refine st_in ?_ | with_reducible refine r_truB ?_
  | with_reducible refine st_nameG ?_ | with_reducible refine if_T ?_ | with_reducible refine if_F ?_ | with_reducible refine if_nT ?_ | with_reducible refine if_nF ?_
  | with_reducible refine r_add ?_ | with_reducible refine r_0 ?_ | with_reducible refine r_neg ?_ | with_reducible refine r_intI ?_ | with_reducible refine r_intB ?_ | with_reducible refine r_abs ?_ | with_reducible refine r_max2 ?_ | with_reducible refine r_min2 ?_ | with_reducible refine r_eqI ?_ | with_reducible refine r_neI ?_
  | with_reducible refine st_nxt ?_ | with_reducible refine st_cnt ?_ | with_reducible refine st_brk ?_ | with_reducible refine st_retn ?_
  | with_reducible refine st_lstN ?_ | with_reducible refine st_tupN ?_
  | with_reducible refine st_for ?_ | with_reducible refine st_lc ?_ | with_reducible refine st_lc2 ?_ | with_reducible refine st_rng1 ?_ | with_reducible refine st_rng2 ?_ | with_reducible refine st_rng3 ?_ | with_reducible refine st_itL ?_ | with_reducible refine st_itT ?_ | with_reducible refine st_rev ?_ | with_reducible refine st_enumE ?_ | with_reducible refine st_zip3 ?_ | with_reducible refine st_lvals ?_ | with_reducible refine st_dc ?_ | with_reducible refine st_keys ?_ | with_reducible refine st_dget ?_ | with_reducible refine st_din ?_ | with_reducible refine st_dnin ?_ | with_reducible refine st_dput ?_ | with_reducible refine st_dnew ?_ | with_reducible refine st_lstRg ?_ | with_reducible refine st_rg2 ?_ | with_reducible refine r_twoI ?_ | with_reducible refine st_bm ?_ | with_reducible refine st_bm0 ?_
  | ((with_reducible refine' st_aug ?h ?_); (case h => exact rfl)) | with_reducible refine r_augI ?_ | with_reducible refine r_eqB ?_
  | dsimp only))
section
variable {P : Program} {w : World} {K : PySem.W.Frag} {mg : Str → Option Value} {base : Heap} {A : Ad}

def sp_place_among_all (K : PySem.W.Frag) : Sp := fun vs H Q _ => ∃ (L : Nat) (a : Addr) (w : List Int), vs = [.int L, .ref a] ∧ 1 ≤ L ∧ L ≤ 4 ∧ IT K H a w ∧ Od.G L none w ∧ w.length ≤ 1000 ∧ ∀ H1, Ex H H1 → Q (.int ((Od.place L w : Nat) : Int)) H1
theorem ok_place_among_all (T : Tx K mg A) : FnOk P w K mg base CX0 3 A.a_place_among_all A.f_place_among_all P_place_among_all (sp_place_among_all K) := by
  refine T.F_place_among_all.ok sc_place_among_all (fun vs H Q E h => ?_) (fun cdv A' outer s H vs Q E hr h => ?_)
  · obtain ⟨L, a, w, rfl, _⟩ := h
    rfl
  · obtain ⟨L, a, w, rfl, h1L, h4, ha, g, zw, q⟩ := h
    refine ⟨_, (pss_cons (ps_set (i := 2) sc_place_among_all.nd rfl (Or.inl rfl) pe_int)
      (pss_cons (ps_for PassesOwn.never rfl (pi_enumE K skT (by rfl) T.n_enumerate (pa_cons (pv 1) pa_nil)) (pg_tupK K (by rfl) (pgs_cons (pg_name (i := 3) sc_place_among_all.nd rfl (Or.inl rfl)) (pgs_cons (pg_name (i := 4) sc_place_among_all.nd rfl (Or.inl rfl)) pgs_nil))) (pss_cons (ps_set (i := 5) sc_place_among_all.nd rfl (Or.inl rfl) (pe_call (ok_steps_behind T) (hr.mono (by decide)) (by rfl) T.g_steps_behind T.F_steps_behind.kp T.b_steps_behind .nil pass0 (pa_cons (pv 0) (pa_cons (pe_slice (sl_K K) (pv 1) po_none (po_some (pv 3))) pa_nil))))
      (pss_one (ps_set (i := 2) sc_place_among_all.nd rfl (Or.inl rfl) (pe_op (op_addK K) (pe_op (op_mulK K) (pv 2) (pe_callB (len_K K) (by rfl) T.n_len (by decide +kernel) (pa_cons (pv 5) pa_nil))) (pe_bmU K PySem.F.plainAttrs_list PySem.F.slot_list_index PySem.F.type_list_index (mt_indexK K) (pv 5) (pa_cons (pv 4) pa_nil)))))))
      (pss_one (ps_ret (pe_op (op_addK K) (pv 2) (pe_callB (sum_K K rfl) (by rfl) T.n_sum (by decide +kernel) (pa_cons (pe_slice (sl_K K) (pe_call (ok_many_of_lengths T) (hr.mono (by decide)) (by rfl) T.g_many_of_lengths T.F_many_of_lengths.kp T.b_many_of_lengths .nil pass0 (pa_cons (pv 0) (pa_cons (pe_callB (len_K K) (by rfl) T.n_len (by decide +kernel) (pa_cons (pv 1) pa_nil)) pa_nil))) po_none (po_some (pe_un un_neg pe_int))) pa_nil))))))), ?_⟩
    walk_at "go"
    refine r_enumE (k := skT) ha (r_forE (k := skT) (xs := w.map V.int) (fun i σ' H' => ∃ v3 v4 v5, Ex H H' ∧ σ' = [some (.int L), some (.ref a), some (.int ((Od.V L none (w.take i) : Nat) : Int)), v3, v4, v5]) ⟨none, none, none, Ex.refl H, rfl⟩ (fun i σ' H' _ p => ?_) (fun i x σ' H' H1 hx p e1 => ?_) (fun σ' H' p => ?_))
    · obtain ⟨_, _, _, e, _⟩ := p
      exact ex_t e ha
    · obtain ⟨v3, v4, v5, e, rfl⟩ := p
      rw [List.getElem?_map] at hx
      cases hn : w[i]? with
      | none => rw [hn] at hx; cases hx
      | some x1 =>
      rw [hn] at hx
      cases hx
      have e2 := e.trans e1
      walk_at "go"
      refine r_slT (ex_t e2 ha) fun c H2 e3 h3 => ?_
      rw [cut_to (by omega), show (0 + (i : Int)).toNat = i by omega] at h3
      walk_at "go"
      refine ⟨L, c, _, rfl, h4, .inr h3, fun p H3 _ e4 h5 => ?_⟩
      have sm := Od.bh_small h4 (Od.lst none (w.take i))
      walk_at "go"
      refine r_lenL (l_of h5) ?_
      rw [List.length_map]
      refine r_mul (.inr ⟨by omega, by omega⟩) ?_
      walk_at "go"
      refine r_met (l_of h5) ?_
      walk_at "go"
      refine r_index (l_of h5) (Od.G_at g hn) ?_
      walk_at "go"
      have ev : ((Od.V L none (w.take i) : Nat) : Int) * (((Od.bh L (Od.lst none (w.take i))).length : Nat) : Int) + (((Od.bh L (Od.lst none (w.take i))).idxOf x1 : Nat) : Int) = ((Od.V L none (w.take (i + 1)) : Nat) : Int) := by
        rw [Od.V_at g hn, Int.natCast_add, Int.natCast_mul]
      rw [ev]
      exact ⟨_, _, _, (e2.trans e3).trans e4, rfl⟩
    · obtain ⟨v3, v4, v5, e, rfl⟩ := p
      rw [List.length_map, List.take_length]
      walk_at "go"
      refine r_lenT (ex_t e ha) ?_
      rw [List.length_map]
      walk_at "go"
      refine ⟨L, w.length, rfl, h1L, h4, by omega, fun p H1 _ e1 h1 => ?_⟩
      walk_at "go"
      refine r_slL (l_of h1) fun p2 H2 _ e2 h2 => ?_
      rw [List.range_succ, List.map_append, List.map_append] at h2
      have h3 : H2 p2 = some (.lst (((List.range w.length).map fun i => ((Od.tot L none i : Nat) : Int)).map V.int)) := by
        rw [h2]
        exact congrArg (fun z => some (HO.lst z)) (cut_init _ _)
      walk_at "go"
      refine r_sum (l_of h3) ?_
      rw [Od.S_sum]
      walk_at "go"
      have := q H2 ((e.trans e1).trans e2)
      unfold Od.place at this
      rw [Int.natCast_add, Int.add_comm] at this
      exact this
def sp_walk_at_place (K : PySem.W.Frag) : Sp := fun vs H Q _ => ∃ (L n : Nat), vs = [.int L, .int n] ∧ 1 ≤ L ∧ L ≤ 4 ∧ n < 2 ^ 2000 ∧ (∀ z, Od.S L z ≤ n → z ≤ 1000) ∧ ∀ p w H1, Ex H H1 → IT K H1 p w → Od.G L none w → Od.place L w = n → Q (.ref p) H1
theorem ok_walk_at_place (T : Tx K mg A) : FnOk P w K mg base CX0 3 A.a_walk_at_place A.f_walk_at_place P_walk_at_place (sp_walk_at_place K) := by
  refine T.F_walk_at_place.ok sc_walk_at_place (fun vs H Q E h => ?_) (fun cdv A' outer s H vs Q E hr h => ?_)
  · obtain ⟨L, n, rfl, _⟩ := h
    rfl
  · obtain ⟨L, n, rfl, h1L, h4, hn, hz, q⟩ := h
    refine ⟨_, (pss_cons (ps_asg (pe_tup (pa_cons pe_int (pa_cons pe_int pa_nil))) (pg_tupK K (by rfl) (pgs_cons (pg_name (i := 2) sc_walk_at_place.nd rfl (Or.inl rfl)) (pgs_cons (pg_name (i := 3) sc_walk_at_place.nd rfl (Or.inl rfl)) pgs_nil))))
      (pss_cons (ps_while PassesOwn.never (pt_cmpR op_ge (pv 1) (pv 3) (nomark _)) (pss_cons (ps_aug (i := 1) sc_walk_at_place.nd rfl (Or.inl rfl) (pv 3) ip_sub)
      (pss_cons (ps_aug (i := 3) sc_walk_at_place.nd rfl (Or.inl rfl) (pe_cutE (pe_ifExp (pt_cmpR (op_eqK K hr.units) (pv 2) pe_int (nomark _)) (pe_op (op_mulK K) pe_int (pv 0)) (pe_op op_sub (pe_op (op_mulK K) pe_int (pv 0)) pe_int))) ip_mul)
      (pss_one (ps_aug (i := 2) sc_walk_at_place.nd rfl (Or.inl rfl) pe_int ip_add)))))
      (pss_cons (ps_set (i := 4) sc_walk_at_place.nd rfl (Or.inl rfl) (pe_lst pa_nil))
      (pss_cons (ps_for PassesOwn.never rfl (pi_range1 (by rfl) T.n_range (pa_cons (pv 2) pa_nil)) (pg_name (i := 5) sc_walk_at_place.nd rfl (Or.inl rfl)) (pss_cons (ps_set (i := 6) sc_walk_at_place.nd rfl (Or.inl rfl) (pe_call (ok_steps_behind T) (hr.mono (by decide)) (by rfl) T.g_steps_behind T.F_steps_behind.kp T.b_steps_behind .nil pass0 (pa_cons (pv 0) (pa_cons (pv 4) pa_nil))))
      (pss_cons (ps_aug (i := 3) sc_walk_at_place.nd rfl (Or.inl rfl) (pe_callB (len_K K) (by rfl) T.n_len (by decide +kernel) (pa_cons (pv 6) pa_nil)) ip_fdiv)
      (pss_cons (ps_asg (pe_callB divmod_K (by rfl) T.n_divmod (by decide +kernel) (pa_cons (pv 1) (pa_cons (pv 3) pa_nil))) (pg_tupK K (by rfl) (pgs_cons (pg_name (i := 7) sc_walk_at_place.nd rfl (Or.inl rfl)) (pgs_cons (pg_name (i := 1) sc_walk_at_place.nd rfl (Or.inl rfl)) pgs_nil))))
      (pss_one (ps_expr (pe_bmU K PySem.F.plainAttrs_list PySem.F.slot_list_append PySem.F.type_list_append mt_append (pv 4) (pa_cons (pe_ix (ix_K K) (pv 6) (pv 7) (fun _ _ => rfl)) pa_nil))))))))
      (pss_one (ps_ret (pe_callTy (tuple_K K) (by rfl) T.n_tuple (by decide +kernel) (pa_cons (pv 4) pa_nil)))))))), ?_⟩
    walk_at "go"
    refine r_newT (by simp) fun t0 H0 _ e0 h0 => ?_
    walk_at "go"
    refine r_tup2 (t_of h0) ?_
    walk_at "go"
    refine st_while (fun m σ' H' => ∃ z, Od.S L z ≤ n ∧ m = n - Od.S L z ∧ H0 = H' ∧ σ' = [some (.int L), some (.int ((n - Od.S L z : Nat) : Int)), some (.int (z : Int)), some (.int ((Od.tot L none z : Nat) : Int)), none, none, none, none]) (n - 0) ⟨0, Nat.zero_le _, rfl, rfl, rfl⟩ ?_
    rintro m σ' _ ⟨z, hS, rfl, rfl, rfl⟩
    walk_at "go"
    refine if_2 (fun h0 => ?_) fun h0 => ?_
    · refine ⟨_, fun _ _ h => h, ?_⟩
      have tp := Od.tot_pos h1L z
      walk_at "go"
      refine st_cutE (fun x H' => H0 = H' ∧ x = .int ((if z = 0 then 2 * L else 2 * L - 1 : Nat) : Int)) ?_ ?_
      · walk_at "go"
        refine if_2 (fun h0 => ?_) fun h0 => ?_
        · walk_at "go"
          refine r_mul (.inl ⟨by decide, by decide⟩) ⟨rfl, ?_⟩
          rw [if_pos (by omega)]
          rfl
        · walk_at "go"
          refine r_mul (.inl ⟨by decide, by decide⟩) ?_
          walk_at "go"
          refine ⟨rfl, ?_⟩
          rw [if_neg (by omega)]
          show V.int (2 * (L : Int) - 1) = V.int ((2 * L - 1 : Nat) : Int)
          congr 1
          omega
      · rintro x _ ⟨rfl, rfl⟩
        walk_at "go"
        refine r_augM (.inr ⟨by omega, by split <;> omega⟩) ?_
        walk_at "go"
        have e1 : Od.S L (z + 1) = Od.S L z + Od.tot L none z := rfl
        refine ⟨n - Od.S L (z + 1), by omega, z + 1, by omega, rfl, rfl, ?_⟩
        rw [Od.tot_next, Int.natCast_mul]
        have e2 : ((n - Od.S L (z + 1) : Nat) : Int) = ((n - Od.S L z : Nat) : Int) - ((Od.tot L none z : Nat) : Int) := by omega
        rw [e2]
        rfl
    · walk_at "go"
      have hz1 := hz z hS
      have tS := Od.tot_S h4 z
      refine r_newL (by simp) fun c H1 hc0 e1' h1 => ?_
      have e1 := e0.trans e1'
      have hc : H c = none := fresh_back e0 hc0
      walk_at "go"
      have hr0 : n - Od.S L z < Od.tot L none z := by omega
      generalize hx : n - Od.S L z = x at hr0
      refine r_rng1 (by omega) (by omega) (r_forR (m := (z : Int).toNat) (fun i σ' H' => ∃ (u : List Int) (r : Nat) (v5 v6 v7 : Option V), Ex H H' ∧ H' c = some (.lst (u.map V.int)) ∧ u.length = i ∧ Od.G L none u ∧ r < Od.left L z i ∧ x = Od.V L none u * Od.left L z i + r ∧
        σ' = [some (.int L), some (.int (r : Int)), some (.int (z : Int)), some (.int ((Od.left L z i : Nat) : Int)), some (.ref c), v5, v6, v7]) ⟨[], x, none, none, none, e1, h1, rfl, trivial, hr0, by rw [Od.V, Nat.zero_mul, Nat.zero_add], rfl⟩ ?_ ?_)
      · rintro i σ' H2 hi ⟨u, r, v5, v6, v7, e2, h2, zu, gu, hr1, hx1, rfl⟩
        walk_at "go"
        refine ⟨L, c, u, rfl, h4, .inl (l_of h2), fun p H3 hp e3 h3 => ?_⟩
        have sm := Od.bh_small h4 (Od.lst none u)
        have ln := Od.left_next (show i < z by omega) gu zu
        have lp := Od.left_pos h1L z (i + 1)
        have ll := Od.left_le h1L (z := z) (i := i + 1)
        have lq := Od.left_pos h1L z i
        have bp : 0 < (Od.bh L (Od.lst none u)).length := by
          rcases Nat.eq_zero_or_pos (Od.bh L (Od.lst none u)).length with e | e
          · rw [e, Nat.zero_mul] at ln; omega
          · exact e
        have hlt : r / Od.left L z (i + 1) < (Od.bh L (Od.lst none u)).length := by
          rw [Nat.div_lt_iff_lt_mul lp, ← ln]
          exact hr1
        have hdv : Od.left L z i / (Od.bh L (Od.lst none u)).length = Od.left L z (i + 1) := by rw [ln, Nat.mul_div_cancel_left _ bp]
        walk_at "go"
        refine r_lenL (l_of h3) ?_
        rw [List.length_map]
        refine r_augM (wide_div (b := 4) (by omega) (by omega) (by decide) (by decide)) ?_
        walk_at "go"
        have e4 : ((Od.left L z i : Nat) : Int) / (((Od.bh L (Od.lst none u)).length : Nat) : Int) = ((Od.left L z (i + 1) : Nat) : Int) := by rw [← Int.natCast_ediv, hdv]
        rw [e4]
        refine r_divm (b := 2010) (by omega) ?_ (by decide) (by decide) fun t H4 _ e5 h5 => ?_
        · have e6 : (2 : Nat) ^ 2010 = 2 ^ 10 * 2 ^ 2000 := by rw [← Nat.pow_add]
          omega
        walk_at "go"
        refine r_tup2 (t_of h5) ?_
        walk_at "go"
        have h6 := e5 _ _ (e3 _ _ h2)
        refine r_app (l_of h6) ?_
        walk_at "go"
        have hc1 := List.getElem?_eq_getElem hlt
        have hm := List.getElem_mem hlt
        have hid := (Od.bh_nodup L (Od.lst none u)).idxOf_getElem _ hlt
        generalize (Od.bh L (Od.lst none u))[r / Od.left L z (i + 1)] = s1 at hc1 hm hid
        refine r_ixL (l_of (e5 _ _ h3)) (at_int (i := (r : Int) / ((Od.left L z (i + 1) : Nat) : Int)) (by rw [← Int.natCast_ediv]; omega) (by rw [← Int.natCast_ediv, Int.toNat_natCast]; exact hc1)) ?_
        walk_at "go"
        refine r_appd h6 (by rw [List.length_map]; omega) fun H5 e7 h7 => ?_
        have gu' : Od.G L none (u ++ [s1]) := Od.G_snoc.mpr ⟨gu, hm⟩
        refine ⟨u ++ [s1], r % Od.left L z (i + 1), _, _, _, fun b o hb => e7 b o (e5 b o (e3 b o (e2 b o hb))) (ne_of_none hb hc), by rw [h7, List.map_append]; rfl, by rw [List.length_append, zu]; rfl, gu', Nat.mod_lt _ lp, ?_, by rw [Int.natCast_emod]; rfl⟩
        rw [Od.V_snoc gu', hid, hx1, ln, Nat.add_mul, Nat.mul_assoc, Nat.add_assoc, Nat.mul_comm (r / _), Nat.div_add_mod]
      · rintro σ' H2 ⟨u, r, v5, v6, v7, e2, h2, zu, gu, hr1, hx1, rfl⟩
        walk_at "go"
        refine r_tupL (l_of h2) fun p H3 _ e3 h3 => ?_
        rw [show (z : Int).toNat = z by omega] at zu hr1 hx1
        rw [Od.left_end] at hr1 hx1
        refine q p u H3 (e2.trans e3) h3 gu ?_
        unfold Od.place
        rw [zu]
        omega
def sp_how_many (K : PySem.W.Frag) : Sp := fun vs H Q _ => ∃ (L z : Nat), vs = [.int L, .int z] ∧ 1 ≤ L ∧ L ≤ 4 ∧ z ≤ 10000 ∧ ∀ H1, Ex H H1 → Q (.int ((Od.tot L none z : Nat) : Int)) H1
theorem ok_how_many (T : Tx K mg A) : FnOk P w K mg base CX0 4 A.a_how_many A.f_how_many P_how_many (sp_how_many K) := by
  refine T.F_how_many.ok sc_how_many (fun vs H Q E h => ?_) (fun cdv A' outer s H vs Q E hr h => ?_)
  · obtain ⟨L, z, rfl, _⟩ := h
    rfl
  · obtain ⟨L, z, rfl, h1, h4, hz, q⟩ := h
    refine ⟨_, (pss_cons (ps_expr (pe_call (ok_check_letters T) (hr.mono (by decide)) (by rfl) T.g_check_letters T.F_check_letters.kp T.b_check_letters .nil pass0 (pa_cons (pv 0) pa_nil)))
      (pss_cons (ps_expr (pe_call (ok_check_least T) (hr.mono (by decide)) (by rfl) T.g_check_least T.F_check_least.kp T.b_check_least .nil pass0 (pa_cons (pv 1) (pa_cons pe_int pa_nil))))
      (pss_one (ps_ret (pe_ix (ix_K K) (pe_call (ok_many_of_lengths T) (hr.mono (by decide)) (by rfl) T.g_many_of_lengths T.F_many_of_lengths.kp T.b_many_of_lengths .nil pass0 (pa_cons (pv 0) (pa_cons (pv 1) pa_nil))) (pe_un un_neg pe_int) (fun _ _ => rfl)))))), ?_⟩
    walk_at "go"
    refine ⟨L, rfl, by omega, by omega, ?_⟩
    walk_at "go"
    refine ⟨z, 0, rfl, by omega, ?_⟩
    walk_at "go"
    refine ⟨L, z, rfl, h1, h4, hz, fun p H1 _ e1 h5 => ?_⟩
    walk_at "go"
    refine r_ixL (l_of h5) (at_last (x := ((Od.tot L none z : Nat) : Int)) (by rw [List.range_succ, List.map_append]; simp)) ?_
    exact q H1 e1
def sp_nth_walk (K : PySem.W.Frag) : Sp := sp_walk_at_place K
theorem ok_nth_walk (T : Tx K mg A) : FnOk P w K mg base CX0 4 A.a_nth_walk A.f_nth_walk P_nth_walk (sp_nth_walk K) := by
  refine T.F_nth_walk.ok sc_nth_walk (fun vs H Q E h => ?_) (fun cdv A' outer s H vs Q E hr h => ?_)
  · obtain ⟨L, n, rfl, _⟩ := h
    rfl
  · obtain ⟨L, n, rfl, h1, h4, hn, hz, q⟩ := h
    refine ⟨_, (pss_cons (ps_expr (pe_call (ok_check_letters T) (hr.mono (by decide)) (by rfl) T.g_check_letters T.F_check_letters.kp T.b_check_letters .nil pass0 (pa_cons (pv 0) pa_nil)))
      (pss_cons (ps_expr (pe_call (ok_check_least T) (hr.mono (by decide)) (by rfl) T.g_check_least T.F_check_least.kp T.b_check_least .nil pass0 (pa_cons (pv 1) (pa_cons pe_int pa_nil))))
      (pss_one (ps_ret (pe_call (ok_walk_at_place T) (hr.mono (by decide)) (by rfl) T.g_walk_at_place T.F_walk_at_place.kp T.b_walk_at_place .nil pass0 (pa_cons (pv 0) (pa_cons (pv 1) pa_nil))))))), ?_⟩
    walk_at "go"
    refine ⟨L, rfl, by omega, by omega, ?_⟩
    walk_at "go"
    refine ⟨n, 0, rfl, by omega, ?_⟩
    walk_at "go"
    exact ⟨L, n, rfl, h1, h4, hn, hz, q⟩
def sp_number_of (K : PySem.W.Frag) : Sp := fun vs H Q _ => ∃ (L : Nat) (a : Addr) (w : List Int), vs = [.int L, .ref a] ∧ 1 ≤ L ∧ L ≤ 4 ∧ IT K H a w ∧ Stp L w ∧ w.length ≤ 600 ∧ ∀ H1, Ex H H1 → Q (.int ((Od.place L (Fg.rd w) : Nat) : Int)) H1
theorem ok_number_of (T : Tx K mg A) : FnOk P w K mg base CX0 5 A.a_number_of A.f_number_of P_number_of (sp_number_of K) := by
  refine T.F_number_of.ok sc_number_of (fun vs H Q E h => ?_) (fun cdv A' outer s H vs Q E hr h => ?_)
  · obtain ⟨L, a, w, rfl, _⟩ := h
    rfl
  · obtain ⟨L, a, w, rfl, h1, h4, ha, sw, zw, q⟩ := h
    refine ⟨_, (pss_cons (ps_expr (pe_call (ok_check_letters T) (hr.mono (by decide)) (by rfl) T.g_check_letters T.F_check_letters.kp T.b_check_letters .nil pass0 (pa_cons (pv 0) pa_nil)))
      (pss_cons (ps_expr (pe_call (ok_check_walk T) (hr.mono (by decide)) (by rfl) T.g_check_walk T.F_check_walk.kp T.b_check_walk .nil pass0 (pa_cons (pv 0) (pa_cons (pv 1) pa_nil))))
      (pss_one (ps_ret (pe_call (ok_place_among_all T) (hr.mono (by decide)) (by rfl) T.g_place_among_all T.F_place_among_all.kp T.b_place_among_all .nil pass0 (pa_cons (pv 0) (pa_cons (pe_call (ok_straightened T) (hr.mono (by decide)) (by rfl) T.g_straightened T.F_straightened.kp T.b_straightened .nil pass0 (pa_cons (pv 1) pa_nil)) pa_nil))))))), ?_⟩
    walk_at "go"
    refine ⟨L, rfl, by omega, by omega, ?_⟩
    walk_at "go"
    refine ⟨L, a, w, rfl, ha, by omega, sw, fun H1 e1 => ?_⟩
    walk_at "go"
    refine ⟨a, w, rfl, ex_t e1 ha, by omega, fun p H2 e2 h2 => ?_⟩
    walk_at "go"
    refine ⟨L, p, _, rfl, h1, h4, h2, Od.G_of (fun x hx => sw x (Fg.mem_rd hx)) (Fg.str_rd w), Nat.le_trans (Fg.rd_len w) (by omega), fun H3 e3 => ?_⟩
    exact q H3 ((e1.trans e2).trans e3)
def sp_next_walk (K : PySem.W.Frag) : Sp := fun vs H Q _ => ∃ (L : Nat) (a : Addr) (w : List Int), vs = [.int L, .ref a] ∧ 1 ≤ L ∧ L ≤ 4 ∧ IT K H a w ∧ Stp L w ∧ w.length ≤ 600 ∧ ∀ p u H1, Ex H H1 → IT K H1 p u → Od.G L none u → Od.place L u = Od.place L (Fg.rd w) + 1 → Q (.ref p) H1
theorem ok_next_walk (T : Tx K mg A) : FnOk P w K mg base CX0 5 A.a_next_walk A.f_next_walk P_next_walk (sp_next_walk K) := by
  refine T.F_next_walk.ok sc_next_walk (fun vs H Q E h => ?_) (fun cdv A' outer s H vs Q E hr h => ?_)
  · obtain ⟨L, a, w, rfl, _⟩ := h
    rfl
  · obtain ⟨L, a, w, rfl, h1, h4, ha, sw, zw, q⟩ := h
    refine ⟨_, (pss_cons (ps_expr (pe_call (ok_check_letters T) (hr.mono (by decide)) (by rfl) T.g_check_letters T.F_check_letters.kp T.b_check_letters .nil pass0 (pa_cons (pv 0) pa_nil)))
      (pss_cons (ps_expr (pe_call (ok_check_walk T) (hr.mono (by decide)) (by rfl) T.g_check_walk T.F_check_walk.kp T.b_check_walk .nil pass0 (pa_cons (pv 0) (pa_cons (pv 1) pa_nil))))
      (pss_one (ps_ret (pe_call (ok_walk_at_place T) (hr.mono (by decide)) (by rfl) T.g_walk_at_place T.F_walk_at_place.kp T.b_walk_at_place .nil pass0 (pa_cons (pv 0) (pa_cons (pe_op (op_addK K) (pe_call (ok_place_among_all T) (hr.mono (by decide)) (by rfl) T.g_place_among_all T.F_place_among_all.kp T.b_place_among_all .nil pass0 (pa_cons (pv 0) (pa_cons (pe_call (ok_straightened T) (hr.mono (by decide)) (by rfl) T.g_straightened T.F_straightened.kp T.b_straightened .nil pass0 (pa_cons (pv 1) pa_nil)) pa_nil))) pe_int) pa_nil))))))), ?_⟩
    have g := Od.G_of (L := L) (fun x hx => sw x (Fg.mem_rd hx)) (Fg.str_rd w)
    have zr := Fg.rd_len w
    walk_at "go"
    refine ⟨L, rfl, by omega, by omega, ?_⟩
    walk_at "go"
    refine ⟨L, a, w, rfl, ha, by omega, sw, fun H1 e1 => ?_⟩
    walk_at "go"
    refine ⟨a, w, rfl, ex_t e1 ha, by omega, fun p H2 e2 h2 => ?_⟩
    walk_at "go"
    refine ⟨L, p, _, rfl, h1, h4, h2, g, by omega, fun H3 e3 => ?_⟩
    walk_at "go"
    refine ⟨L, Od.place L (Fg.rd w) + 1, rfl, h1, h4, ?_, fun z hz => ?_, fun p u H4 e4 h5 gu pu => ?_⟩
    · refine Nat.lt_of_le_of_lt (Od.place_le8 h4 g) ?_
      refine Nat.lt_of_le_of_lt (Nat.pow_le_pow_right (by decide) (by omega : (Fg.rd w).length + 1 ≤ 601)) ?_
      rw [show (8 : Nat) = 2 ^ 3 by decide, ← Nat.pow_mul]
      exact Nat.pow_lt_pow_right (by decide) (by decide)
    · have := Od.near h1 g hz
      omega
    · exact q p u H4 (((e1.trans e2).trans e3).trans e4) h5 gu pu
def sp__law_well (K : PySem.W.Frag) : Sp := fun vs H Q _ => ∃ a ns k, vs = [.ref a, .int k] ∧ IL K H a ns ∧ ns.length ≤ 63 ∧ 0 ≤ k ∧ k ≤ 100 ∧ ∀ p H1, H p = none → Ex H H1 → Well H1 p 0 → Q (.ref p) H1
theorem ok__law_well (T : Tx K mg A) : FnOk P w K mg base CX0 1 A.a__law_well A.f__law_well P__law_well (sp__law_well K) := by
  refine T.F__law_well.ok sc__law_well (fun vs H Q E h => ?_) (fun cdv A' outer s H vs Q E hr h => ?_)
  · obtain ⟨a, ns, k, rfl, _⟩ := h
    rfl
  · obtain ⟨a, ns, k, rfl, hS, hlen, hk0, hk, q⟩ := h
    refine ⟨_, (pss_cons (ps_set (i := 2) sc__law_well.nd rfl (Or.inl rfl) (pe_op (op_addK K) (pe_op (op_mulK K) pe_int (pv 1)) pe_int))
      (Evl.pss_cut (ps_if (pt_cmpR op_lt (pv 1) (pe_callB (len_K K) (by rfl) T.n_len (by decide +kernel) (pa_cons (pv 0) pa_nil)) (nomark _)) (pss_one (ps_set (i := 2) sc__law_well.nd rfl (Or.inl rfl) (pe_ix (ix_K K) (pv 0) (pv 1) (fun _ _ => rfl)))) pss_nil)
      (pss_cons (ps_set (i := 3) sc__law_well.nd rfl (Or.inl rfl) (pe_callB (sum_K K rfl) (by rfl) T.n_sum (by decide +kernel) (pa_cons (pe_lc (own := [("_law_one", 5)]) rfl sc__law_well.nd (pi_listK K (pv 0)) (blkOk_by (own := [("_law_one", 5)]) (N := N__law_well) (sc := defScope s__law_well) (by decide +kernel)) (fun _ _ _ _ _ => (pg_name (i := 5) sc__law_well.nd rfl (Or.inl rfl))) (fun _ _ _ _ _ => pts_nil) (fun _ _ _ _ _ => (pe_op op_mod (pe_callTy int_K (by rfl) T.n_int (by decide +kernel) (pa_cons (pv 5) pa_nil)) (pe_op (op_addK K) (pe_op op_powW pe_int pe_int) pe_int)))) pa_nil)))
      (pss_cons (ps_set (i := 4) sc__law_well.nd rfl (Or.inl rfl) (pe_op op_mod (pe_callTy int_K (by rfl) T.n_int (by decide +kernel) (pa_cons (pe_op (op_addK K) (pe_op (op_addK K) (pe_op (op_addK K) (pe_op (op_mulK K) (pe_callB abs_K (by rfl) T.n_abs (by decide +kernel) (pa_cons (pv 2) pa_nil)) pe_int) (pe_op (op_mulK K) pe_int (pv 3))) (pe_op (op_mulK K) pe_int (pv 1))) (pe_callTy int_K (by rfl) T.n_int (by decide +kernel) (pa_cons (pe_cmpR op_lt (pv 2) pe_int (nomark _)) pa_nil))) pa_nil)) (pe_op (op_addK K) (pe_op op_powW pe_int pe_int) pe_int)))
      (pss_one (ps_ret (pe_lst (pa_cons (pe_callB (max2_K rfl) (by rfl) T.n_max (by decide +kernel) (pa_cons pe_int (pa_cons (pe_op op_sub (pv 2) (pe_op op_powW pe_int pe_int)) pa_nil))) (pa_cons (pv 4) (pa_cons pe_int pa_nil)))))))))), ?_⟩
    walk_at "go"
    refine r_mul (.inl ⟨by decide, by decide⟩) ?_
    walk_at "go"
    refine q_cut (M := fun σ' H' => ∃ cell : Int, H' = H ∧ σ' = [some (.ref a), some (.int k), some (.int cell), none, none, none]) ?_ ?_
    · walk_at "go"
      refine r_lenL hS ?_
      walk_at "go"
      refine if_2 (fun h0 => ?_) fun h0 => ?_
      · rw [List.length_map] at h0
        walk_at "go"
        have hi : k.toNat < ns.length := by omega
        refine r_ixL hS (at_int hk0 (List.getElem?_eq_getElem hi)) ?_
        walk_at "go"
        exact ⟨_, rfl, rfl⟩
      · walk_at "go"
        exact ⟨_, rfl, rfl⟩
    · rintro σ' H' ⟨cell, rfl, rfl⟩
      walk_at "go"
      refine r_itL hS (r_cmL (xs := ns.map V.int) (ys := (ns.map fun x => x % (10 ^ (((27 : Nat) : Int)).toNat + 103)).map V.int) hS (by simp) (by simp; omega) (fun _ => rfl) (fun i x y H1 hx hy e1 Q' k' => ?_) (fun D H1 hD e1 h1 => ?_))
      · rw [List.getElem?_map] at hx
        rw [List.getElem?_map, List.getElem?_map] at hy
        cases hn : ns[i]? with
        | none => rw [hn] at hx; cases hx
        | some z =>
          rw [hn] at hx hy
          cases hx
          cases hy
          walk_at "go"
          refine r_pow (k := 27) (a := 4) (by decide) (by decide) (by decide) ?_
          walk_at "go"
          refine r_mod (by decide) ?_
          exact k' H1 (Ex.refl H1)
      · walk_at "go"
        refine r_sum (l_of h1) ?_
        generalize (ns.map fun x => x % (10 ^ (((27 : Nat) : Int)).toNat + 103)).sum = total
        walk_at "go"
        refine r_mul (.inr ⟨by decide, by decide⟩) ?_
        walk_at "go"
        refine r_mul (.inl ⟨by decide, by decide⟩) ?_
        walk_at "go"
        refine r_mul (.inl ⟨by decide, by decide⟩) ?_
        walk_at "go"
        refine r_pow (k := 31) (a := 4) (by decide) (by decide) (by decide) ?_
        walk_at "go"
        refine r_mod (by decide) ?_
        generalize hx : (((cell.natAbs : Nat) : Int) * 8929 + 61 * total + 2 * k + (if decide (cell < 0) = true then 1 else 0)) % (10 ^ (((31 : Nat) : Int)).toNat + 33) = x
        have x0 : 0 ≤ x := by rw [← hx]; exact Int.emod_nonneg _ (by decide)
        have x1 : x < 10 ^ (((31 : Nat) : Int)).toNat + 33 := by rw [← hx]; exact Int.emod_lt_of_pos _ (by decide)
        have x2 : x < 2 ^ 160 := Int.lt_trans x1 (by decide)
        walk_at "go"
        refine r_pow (k := 18) (a := 4) (by decide) (by decide) (by decide) ?_
        walk_at "go"
        refine r_newL (by simp) fun p H2 hp e2 h2 => ?_
        exact q p H2 (fresh_back e1 hp) (e1.trans e2) ⟨_, x, 0, h2, by omega, x0, by omega, by omega, by omega⟩
def sp__law_take (K : PySem.W.Frag) : Sp := spTakeW
theorem ok__law_take (T : Tx K mg A) : FnOk P w K mg base CX0 1 A.a__law_take A.f__law_take P__law_take (sp__law_take K) := by
  refine T.F__law_take.ok sc__law_take (fun vs H Q E h => ?_) (fun cdv A' outer s H vs Q E hr h => ?_)
  · obtain ⟨w, n, m, rfl, _⟩ := h
    rfl
  · obtain ⟨w, n, m, rfl, hm, hm2, ⟨a, b, c, hw, ha, hb, hb2, hc, hc2⟩, hn, q⟩ := h
    refine ⟨_, (pss_cons (ps_if (pt_cmpR op_gt (pe_ix (ix_K K) (pv 0) pe_int (fun _ _ => rfl)) pe_int (nomark _)) (pss_cons (ps_set (i := 2) sc__law_take.nd rfl (Or.inl rfl) (pe_op op_mod (pe_callTy int_K (by rfl) T.n_int (by decide +kernel) (pa_cons (pe_ix (ix_K K) (pv 0) pe_int (fun _ _ => rfl)) pa_nil)) (pv 1)))
      (pss_cons (ps_asg (pe_op op_fdivW (pe_ix (ix_K K) (pv 0) pe_int (fun _ _ => rfl)) (pv 1)) (pg_sub (pv 0) pe_int set_list))
      (pss_one (ps_ret (pv 2))))) pss_nil)
      (pss_cons (ps_asg (pe_op (op_addK K) (pe_ix (ix_K K) (pv 0) pe_int (fun _ _ => rfl)) pe_int) (pg_sub (pv 0) pe_int set_list))
      (pss_cons (ps_set (i := 3) sc__law_take.nd rfl (Or.inl rfl) (pe_op op_mod (pe_callTy int_K (by rfl) T.n_int (by decide +kernel) (pa_cons (pe_op (op_addK K) (pe_op op_powW (pe_op (op_addK K) (pe_ix (ix_K K) (pv 0) pe_int (fun _ _ => rfl)) (pe_op (op_mulK K) pe_int (pe_ix (ix_K K) (pv 0) pe_int (fun _ _ => rfl)))) pe_int) (pe_op (op_mulK K) pe_int (pe_ix (ix_K K) (pv 0) pe_int (fun _ _ => rfl)))) pa_nil)) (pe_op (op_addK K) (pe_op op_powW pe_int pe_int) pe_int)))
      (pss_one (ps_ret (pe_op op_mod (pe_op op_fdivW (pe_op op_mod (pe_callTy int_K (by rfl) T.n_int (by decide +kernel) (pa_cons (pe_op (op_mulK K) (pv 3) (pe_op (op_addK K) (pv 3) pe_int)) pa_nil)) (pe_op (op_addK K) (pe_op op_powW pe_int pe_int) pe_int)) pe_int) (pv 1))))))), ?_⟩
    have w0 : SqL K H w [.int a, .int b, .int c] := l_of hw
    walk_at "go"
    refine r_ixL w0 rfl ?_
    walk_at "go"
    refine if_2 (fun h0 => ?_) fun h0 => ?_
    · walk_at "go"
      refine r_ixL w0 rfl ?_
      walk_at "go"
      refine r_mod hm ?_
      walk_at "go"
      refine r_ixL w0 rfl ?_
      walk_at "go"
      refine r_div hm (by omega : m.natAbs < 2 ^ 220) (by decide) (by decide) ?_
      walk_at "go"
      refine r_setG hw rfl fun H1 e1 h1 => ?_
      walk_at "go"
      exact q (a % m) H1 (Int.emod_nonneg _ (by omega)) (Int.emod_lt_of_pos _ hm) e1 ⟨a / m, b, c, h1, Int.ediv_nonneg ha (by omega), hb, hb2, hc, by omega⟩
    · walk_at "go"
      refine r_ixL w0 rfl ?_
      walk_at "go"
      refine r_setG hw rfl fun H1 e1 hw1 => ?_
      have w1 : SqL K H1 w [.int a, .int b, .int (c + 1)] := l_of hw1
      have bd : (b + 314159 * (c + 1)).natAbs < 2 ^ 161 := by omega
      walk_at "go"
      refine r_ixL w1 rfl ?_
      walk_at "go"
      refine r_ixL w1 rfl (r_mul (.inl ⟨by decide, by decide⟩) ?_)
      walk_at "go"
      refine r_pow (k := 3) (by decide) bd (by decide) ?_
      walk_at "go"
      refine r_ixL w1 rfl (r_mul (.inl ⟨by decide, by decide⟩) ?_)
      walk_at "go"
      refine r_pow (k := 33) (a := 4) (by decide) (by decide) (by decide) ?_
      walk_at "go"
      refine r_mod (by decide) ?_
      generalize hx : ((b + 314159 * (c + 1)) ^ (((3 : Nat) : Int)).toNat + 2718281 * (c + 1)) % (10 ^ (((33 : Nat) : Int)).toNat + 73) = x
      have x0 : 0 ≤ x := by rw [← hx]; exact Int.emod_nonneg _ (by decide)
      have x1 : x < 10 ^ (((33 : Nat) : Int)).toNat + 73 := by rw [← hx]; exact Int.emod_lt_of_pos _ (by decide)
      have x2 : x < 2 ^ 110 := Int.lt_trans x1 (by decide)
      walk_at "go"
      refine r_mulW (wide_mul (a := 110) (b := 111) (by omega) (by omega) (by decide) (by decide) (by decide)) ?_
      walk_at "go"
      refine r_pow (k := 34) (a := 4) (by decide) (by decide) (by decide) ?_
      walk_at "go"
      refine r_mod (by decide) ?_
      walk_at "go"
      refine r_div (b := 14) (by decide) (by decide) (by decide) (by decide) ?_
      walk_at "go"
      refine r_mod hm ?_
      exact q _ H1 (Int.emod_nonneg _ (by omega)) (Int.emod_lt_of_pos _ hm) e1 ⟨a, b, c + 1, hw1, ha, hb, hb2, by omega, by omega⟩
def sp__law_steps (K : PySem.W.Frag) : Sp := fun vs H Q _ => ∃ L : Nat, vs = [.int L] ∧ L ≤ 4 ∧ ∀ p H1, H p = none → Ex H H1 → H1 p = some (.lst ((Od.steps L).map V.int)) → Q (.ref p) H1
theorem ok__law_steps (T : Tx K mg A) : FnOk P w K mg base CX0 1 A.a__law_steps A.f__law_steps P__law_steps (sp__law_steps K) := by
  refine T.F__law_steps.ok sc__law_steps (fun vs H Q E h => ?_) (fun cdv A' outer s H vs Q E hr h => ?_)
  · obtain ⟨L, rfl, _⟩ := h
    rfl
  · obtain ⟨L, rfl, h4, q⟩ := h
    refine ⟨_, (pss_cons (ps_set (i := 1) sc__law_steps.nd rfl (Or.inl rfl) (pe_lst pa_nil))
      (pss_cons (ps_for PassesOwn.never rfl (pi_range2 (by rfl) T.n_range (pa_cons pe_int (pa_cons (pe_op (op_addK K) (pv 0) pe_int) pa_nil))) (pg_name (i := 2) sc__law_steps.nd rfl (Or.inl rfl)) (pss_one (ps_set (i := 1) sc__law_steps.nd rfl (Or.inl rfl) (pe_op (op_addK K) (pv 1) (pe_lst (pa_cons (pv 2) (pa_cons (pe_un un_neg (pv 2)) pa_nil)))))))
      (pss_one (ps_ret (pv 1))))), ?_⟩
    walk_at "go"
    refine r_newL (by simp) fun c H1 hc e1 k1 => ?_
    walk_at "go"
    refine r_rng2 (by omega) (r_forR (lo := 1) (fun i σ' H' => ∃ c v, H c = none ∧ Ex H H' ∧ H' c = some (.lst ((Od.steps i).map V.int)) ∧ σ' = [some (.int L), some (.ref c), v]) ⟨c, none, hc, e1, k1, rfl⟩ ?_ ?_)
    · rintro i σ' H' hi ⟨c, v, hc, e, hn, rfl⟩
      walk_at "go"
      refine r_newL (by simp) fun d H2 hd e2 k2 => ?_
      walk_at "go"
      refine r_catL (e2 _ _ hn) k2 (by rw [List.length_map, Od.steps_len]; simp; omega) fun f H3 hf e3 k3 => ?_
      walk_at "go"
      refine ⟨f, _, fresh_back (e.trans e2) hf, (e.trans e2).trans e3, ?_, rfl⟩
      rw [k3, Od.steps_succ, List.map_append, Int.add_comm]
      rfl
    · rintro σ' H' ⟨c, v, hc, e, hn, rfl⟩
      rw [show ((L : Int) + 1 - 1).toNat = L by omega] at hn
      walk_at "go"
      exact q c H' hc e hn
def sp__law_key (K : PySem.W.Frag) : Sp := fun vs H Q _ => ∃ (a : Addr) (w : List Int), vs = [.ref a] ∧ IT K H a w ∧ w.length ≤ 5000 ∧ ∀ p b H1, Ex H H1 → SqT K H1 p [.int (w.length : Int), .ref b] → IT K H1 b (w.map Od.cd) → Q (.ref p) H1
theorem ok__law_key (T : Tx K mg A) : FnOk P w K mg base CX0 1 A.a__law_key A.f__law_key P__law_key (sp__law_key K) := by
  refine T.F__law_key.ok sc__law_key (fun vs H Q E h => ?_) (fun cdv A' outer s H vs Q E hr h => ?_)
  · obtain ⟨a, w, rfl, _⟩ := h
    rfl
  · obtain ⟨a, w, rfl, ha, zw, q⟩ := h
    refine ⟨_, (pss_one (ps_ret (pe_tup (pa_cons (pe_callB (len_K K) (by rfl) T.n_len (by decide +kernel) (pa_cons (pv 0) pa_nil)) (pa_cons (pe_callTy (tuple_K K) (by rfl) T.n_tuple (by decide +kernel) (pa_cons (pe_lc (own := [("_law_step", 1)]) rfl sc__law_key.nd (pi_tupK K (pv 0)) (blkOk_by (own := [("_law_step", 1)]) (N := N__law_key) (sc := defScope s__law_key) (by decide +kernel)) (fun _ _ _ _ _ => (pg_name (i := 1) sc__law_key.nd rfl (Or.inl rfl))) (fun _ _ _ _ _ => pts_nil) (fun _ _ _ _ _ => (pe_op (op_addK K) (pe_op (op_mulK K) pe_int (pe_callB abs_K (by rfl) T.n_abs (by decide +kernel) (pa_cons (pv 1) pa_nil))) (pe_callTy int_K (by rfl) T.n_int (by decide +kernel) (pa_cons (pe_cmpR op_lt (pv 1) pe_int (nomark _)) pa_nil))))) pa_nil)) pa_nil))))), ?_⟩
    walk_at "go"
    refine r_lenT ha ?_
    rw [List.length_map]
    walk_at "go"
    refine r_itT ha (r_cmT (ys := (w.map Od.cd).map V.int) ha (by simp) (by simp; omega) (fun _ => rfl) (fun i x y H1 hx hy e1 Q' k => ?_) fun p H1 hp e1 h1 => ?_)
    · rw [List.getElem?_map] at hx
      rw [List.getElem?_map, List.getElem?_map] at hy
      cases hn : w[i]? with
      | none => rw [hn] at hx; cases hx
      | some z =>
        rw [hn] at hx hy
        cases hx
        cases hy
        walk_at "go"
        refine r_mul (.inl ⟨by decide, by decide⟩) ?_
        walk_at "go"
        have e : (2 * ((z.natAbs : Nat) : Int) + (if decide (z < 0) = true then 1 else 0)) = Od.cd z := by
          unfold Od.cd
          simp
        rw [e]
        exact k H1 (Ex.refl H1)
    · walk_at "go"
      refine r_tupL (l_of h1) fun b H2 hb e2 h2 => ?_
      walk_at "go"
      refine r_newT (by simp) fun p2 H3 hp2 e3 h3 => ?_
      exact q p2 b H3 ((e1.trans e2).trans e3) (t_of h3) (ex_t e3 h2)
/-- a number whose walk is not too long -/
def Bnd (L n : Nat) : Prop := n + 1 < 2 ^ 2000 ∧ ∀ z, Od.S L z ≤ n + 1 → z ≤ 600
theorem Bnd.a {L n : Nat} (h : Bnd L n) : n < 2 ^ 2000 := Nat.lt_of_succ_lt h.1
theorem Bnd.b {L n : Nat} (h : Bnd L n) : ∀ z, Od.S L z ≤ n → z ≤ 1000 := fun z hz => by have := h.2 z (by omega); omega
theorem Bnd.b1 {L n : Nat} (h : Bnd L n) : ∀ z, Od.S L z ≤ n + 1 → z ≤ 1000 := fun z hz => by have := h.2 z hz; omega
theorem Bnd.len {L n : Nat} {w : List Int} (h : Bnd L n) (p : Od.place L w = n) : w.length ≤ 600 := h.2 _ (by have := Od.place_ge L w; omega)
theorem sum_go {K : PySem.W.Frag} {H : Hp} {Q : VK} {p : Addr} {L z : Nat} (h : H p = some (.lst (((List.range z).map fun i => ((Od.tot L none i : Nat) : Int)).map V.int))) (q : Q (.int ((Od.S L z : Nat) : Int)) H) : rSum K [.ref p] H Q :=
  r_sum (l_of h) (by rw [Od.S_sum]; exact q)
def sp__law_there (K : PySem.W.Frag) : Sp := fun vs H Q _ => ∃ (L n m : Nat), vs = [.int L, .int n, .int m] ∧ 1 ≤ L ∧ L ≤ 4 ∧ Bnd L n ∧ Bnd L m ∧ ∀ H1, Ex H H1 → Q (.bl true) H1
theorem ok__law_there (T : Tx K mg A) : FnOk P w K mg base CX0 6 A.a__law_there A.f__law_there P__law_there (sp__law_there K) := by
  refine T.F__law_there.ok sc__law_there (fun vs H Q E h => ?_) (fun cdv A' outer s H vs Q E hr h => ?_)
  · obtain ⟨L, n, m, rfl, _⟩ := h
    rfl
  · obtain ⟨L, n, m, rfl, h1, h4, bn, bm, q⟩ := h
    refine ⟨_, (pss_cons (ps_par (i := 3) (j := 4) (by rfl) sc__law_there.nd rfl rfl (by decide) rfl rfl (pa_cons (pe_call (ok_nth_walk T) (hr.mono (by decide)) (by rfl) T.g_nth_walk T.F_nth_walk.kp T.b_nth_walk .nil pass0 (pa_cons (pv 0) (pa_cons (pv 1) pa_nil))) (pa_cons (pe_call (ok_nth_walk T) (hr.mono (by decide)) (by rfl) T.g_nth_walk T.F_nth_walk.kp T.b_nth_walk .nil pass0 (pa_cons (pv 0) (pa_cons (pv 2) pa_nil))) pa_nil)) (by rfl))
      (pss_cons (ps_if (PW.pt (pw_or (pt_cmpR (op_neK K hr.units) (pe_call (ok_number_of T) (hr.mono (by decide)) (by rfl) T.g_number_of T.F_number_of.kp T.b_number_of .nil pass0 (pa_cons (pv 0) (pa_cons (pv 3) pa_nil))) (pv 1) (nomark _)) (pw_or1 (pt_cmpR (op_neK K hr.units) (pe_call (ok_number_of T) (hr.mono (by decide)) (by rfl) T.g_number_of T.F_number_of.kp T.b_number_of .nil pass0 (pa_cons (pv 0) (pa_cons (pv 4) pa_nil))) (pv 2) (nomark _))))) (pss_one (ps_ret pe_bl)) pss_nil)
      (pss_cons (ps_if (PW.pt (pw_or (pt_cmpR (op_neK K hr.units) (pe_cmpR op_lt (pv 1) (pv 2) (nomark _)) (pe_cmpR (op_ltP K hr.units) (pe_call (ok__law_key T) (hr.mono (by decide)) (by rfl) T.g__law_key T.F__law_key.kp T.b__law_key .nil pass0 (pa_cons (pv 3) pa_nil)) (pe_call (ok__law_key T) (hr.mono (by decide)) (by rfl) T.g__law_key T.F__law_key.kp T.b__law_key .nil pass0 (pa_cons (pv 4) pa_nil)) (nomark _)) (nomark _)) (pw_or1 (pt_cmpR (op_neK K hr.units) (pe_cmpR (op_eqK K hr.units) (pv 1) (pv 2) (nomark _)) (pe_cmpR (op_eqK K hr.units) (pv 3) (pv 4) (nomark _)) (nomark _))))) (pss_one (ps_ret pe_bl)) pss_nil)
      (pss_cons (ps_if (pt_cmpR (op_neK K hr.units) (pe_call (ok_next_walk T) (hr.mono (by decide)) (by rfl) T.g_next_walk T.F_next_walk.kp T.b_next_walk .nil pass0 (pa_cons (pv 0) (pa_cons (pv 3) pa_nil))) (pe_call (ok_nth_walk T) (hr.mono (by decide)) (by rfl) T.g_nth_walk T.F_nth_walk.kp T.b_nth_walk .nil pass0 (pa_cons (pv 0) (pa_cons (pe_op (op_addK K) (pv 1) pe_int) pa_nil))) (nomark _)) (pss_one (ps_ret pe_bl)) pss_nil)
      (pss_cons (ps_if (pt_cmpR (op_neK K hr.units) (pe_call (ok_number_of T) (hr.mono (by decide)) (by rfl) T.g_number_of T.F_number_of.kp T.b_number_of .nil pass0 (pa_cons (pv 0) (pa_cons (pe_call (ok_next_walk T) (hr.mono (by decide)) (by rfl) T.g_next_walk T.F_next_walk.kp T.b_next_walk .nil pass0 (pa_cons (pv 0) (pa_cons (pv 4) pa_nil))) pa_nil))) (pe_op (op_addK K) (pv 2) pe_int) (nomark _)) (pss_one (ps_ret pe_bl)) pss_nil)
      (pss_cons (ps_set (i := 5) sc__law_there.nd rfl (Or.inl rfl) (pe_callB (len_K K) (by rfl) T.n_len (by decide +kernel) (pa_cons (pv 3) pa_nil)))
      (pss_cons (ps_if (pt_cmpR op_gt (pv 5) pe_int (nomark _)) (pss_one (ps_ret pe_bl)) pss_nil)
      (pss_cons (ps_set (i := 6) sc__law_there.nd rfl (Or.inl rfl) (pe_callB (sum_K K rfl) (by rfl) T.n_sum (by decide +kernel) (pa_cons (pe_lc (own := [("_law_length", 7)]) rfl sc__law_there.nd (pi_range1 (by rfl) T.n_range (pa_cons (pv 5) pa_nil)) (blkOk_by (own := [("_law_length", 7)]) (N := N__law_there) (sc := defScope s__law_there) (by decide +kernel)) (fun _ _ _ _ _ => (pg_name (i := 7) sc__law_there.nd rfl (Or.inl rfl))) (fun _ _ _ _ _ => pts_nil) (fun _ _ _ _ _ => (pe_call (ok_how_many T) (hr.mono (by decide)) (by rfl) T.g_how_many T.F_how_many.kp T.b_how_many .nil pass0 (pa_cons (pv 0) (pa_cons (pv 7) pa_nil))))) pa_nil)))
      (pss_one (ps_ret (pe_chain op_le op_lt (pv 6) (pv 1) (pe_op (op_addK K) (pv 6) (pe_call (ok_how_many T) (hr.mono (by decide)) (by rfl) T.g_how_many T.F_how_many.kp T.b_how_many .nil pass0 (pa_cons (pv 0) (pa_cons (pv 5) pa_nil))))))))))))))), ?_⟩
    walk_at "go"
    refine ⟨L, n, rfl, h1, h4, bn.a, bn.b, fun p u H1 e1 hp gu pu => ?_⟩
    walk_at "go"
    refine ⟨L, m, rfl, h1, h4, bm.a, bm.b, fun p2 v H2 e2 hv gv pv => ?_⟩
    have hu := ex_t e2 hp
    have e := e1.trans e2
    clear e1 e2 hp
    obtain ⟨su, tu⟩ := Od.of_G gu
    obtain ⟨sv, tv⟩ := Od.of_G gv
    have zu := bn.len pu
    have zv := bm.len pv
    walk_at "go"
    refine ⟨_, _, rfl, ?_⟩
    walk_at "go"
    refine ⟨L, p, u, rfl, h1, h4, hu, su, zu, fun H3 e3 => ?_⟩
    rw [Fg.rd_str tu, pu]
    walk_at "go"
    rw [decide_eq_true (rfl : ((n : Nat) : Int) = n)]
    walk_at "go"
    refine ⟨L, p2, v, rfl, h1, h4, ex_t e3 hv, sv, zv, fun H4 e4 => ?_⟩
    rw [Fg.rd_str tv, pv]
    walk_at "go"
    rw [decide_eq_true (rfl : ((m : Nat) : Int) = m)]
    walk_at "go"
    have x1 := e3.trans e4
    have hu := ex_t x1 hu
    have hv := ex_t x1 hv
    have e := e.trans x1
    clear e3 e4 x1
    refine ⟨p, u, rfl, hu, by omega, fun k1 c1 H5 e5 a5 b5 => ?_⟩
    walk_at "go"
    refine ⟨p2, v, rfl, ex_t e5 hv, by omega, fun k2 c2 H6 e6 a6 b6 => ?_⟩
    refine r_ltP (ex_t e6 a5) a6 (ex_t e6 b5) b6 ?_
    rw [Od.key_place gu gv, pu, pv]
    have ed : decide ((n : Int) < (m : Int)) = decide (n < m) := by
      congr 1
      exact propext ⟨fun h => by omega, fun h => by omega⟩
    rw [ed]
    refine r_neB ?_
    rw [decide_eq_true (rfl : decide (n < m) = decide (n < m))]
    have x2 := e5.trans e6
    have hu := ex_t x2 hu
    have hv := ex_t x2 hv
    have e := e.trans x2
    clear e5 e6 x2 a5 b5 a6 b6
    walk_at "go"
    refine r_eqT hu hv ?_
    have ee : decide ((n : Int) = (m : Int)) = decide (u = v) := by
      congr 1
      refine propext ⟨fun h => Od.place_inj gu gv (by omega), fun h => ?_⟩
      subst h
      omega
    rw [ee]
    refine r_neB ?_
    rw [decide_eq_true (rfl : decide (u = v) = decide (u = v))]
    walk_at "go"
    refine ⟨L, p, u, rfl, h1, h4, hu, su, zu, fun p3 x H3 e3 hx gx px => ?_⟩
    rw [Fg.rd_str tu, pu] at px
    walk_at "go"
    refine ⟨L, n + 1, by simp, h1, h4, bn.1, bn.b1, fun p4 y H4 e4 hy gy py => ?_⟩
    have exy := Od.place_inj gx gy (px.trans py.symm)
    subst exy
    refine r_neT (ex_t e4 hx) hy ?_
    rw [decide_eq_true (rfl : x = x)]
    walk_at "go"
    have x1 := e3.trans e4
    refine ⟨L, p2, v, rfl, h1, h4, ex_t x1 hv, sv, zv, fun p5 z H5 e5 hz gz pz => ?_⟩
    rw [Fg.rd_str tv, pv] at pz
    obtain ⟨sz, tz⟩ := Od.of_G gz
    have zz : z.length ≤ 600 := bm.2 _ (by have := Od.place_ge L z; omega)
    walk_at "go"
    refine ⟨L, p5, z, rfl, h1, h4, hz, sz, zz, fun H6 e6 => ?_⟩
    rw [Fg.rd_str tz, pz]
    walk_at "go"
    rw [show (((m + 1 : Nat)) : Int) = (m : Int) + 1 by omega, decide_eq_true (rfl : (m : Int) + 1 = (m : Int) + 1)]
    walk_at "go"
    have x2 := (x1.trans e5).trans e6
    have hu := ex_t x2 hu
    have e := e.trans x2
    clear e3 e4 e5 e6 x1 x2 hx hy hz hv
    refine r_lenT hu ?_
    rw [List.length_map]
    walk_at "go"
    refine if_2 (fun h0 => ?_) fun h0 => ?_
    · walk_at "go"
      exact q H6 e
    walk_at "go"
    refine r_rng1 (by omega) (by omega) (r_cmR (m := (u.length : Int).toNat) (ys := ((List.range u.length).map fun i => ((Od.tot L none i : Nat) : Int)).map V.int) (by simp) (by simp; omega) (fun _ => rfl) (fun i y H1 hi hy e1 Q' k => ?_) fun p7 H7 hp7 e7 h7 => ?_)
    · walk_at "go"
      refine ⟨L, i, by rw [Int.zero_add]; rfl, h1, h4, by omega, fun H8 e8 => ?_⟩
      rw [List.getElem?_map, List.getElem?_map, List.getElem?_range (by omega)] at hy
      cases hy
      exact k H8 e8
    walk_at "go"
    refine sum_go h7 ?_
    walk_at "go"
    have k1 := Od.place_ge L u
    have k2 := Od.place_lt gu
    rw [Od.S] at k2
    rw [decide_eq_true (by omega : ((Od.S L u.length : Nat) : Int) ≤ (n : Int))]
    walk_at "go"
    refine ⟨L, u.length, rfl, h1, h4, by omega, fun H8 e8 => ?_⟩
    walk_at "go"
    rw [decide_eq_true (by omega : (n : Int) < ((Od.S L u.length : Nat) : Int) + ((Od.tot L none u.length : Nat) : Int))]
    exact q H8 ((e.trans e7).trans e8)
end
end Lw
namespace Lw
open PySem PySem.Spec PyProof.Rows L2 Evl

local macro_rules | `(tactic| walk_at "go") => `(tactic| repeat (first
  | with_reducible refine st_seq ?_ | with_reducible refine st_set ?_ | with_reducible refine st_asg ?_ | with_reducible refine st_ret ?_ | with_reducible refine st_drop ?_ | with_reducible refine st_if ?_
  | with_reducible refine st_c ?_ | ((with_reducible refine' st_v ?h ?_); (case h => exact rfl)) | with_reducible refine st_n ?_ | with_reducible refine st_cons ?_ | with_reducible refine st_op ?_ | with_reducible refine st_un ?_
  | with_reducible refine st_cb ?_ | with_reducible refine st_test ?_ | with_reducible refine st_call ?_ | with_reducible refine st_callK ?_ | with_reducible refine st_sl ?_ | with_reducible refine st_par ?_ | with_reducible refine st_par3 ?_ | with_reducible refine st_tru ?_
  | with_reducible refine st_and ?_ | with_reducible refine st_or ?_ | with_reducible refine st_not ?_ | with_reducible refine st_B ?_ | with_reducible refine st_andV ?_ | with_reducible refine st_orV ?_ | with_reducible refine st_notV ?_ | with_reducible refine st_ifE ?_
  | with_reducible refine st_part ?_ | with_reducible refine st_nop ?_ | with_reducible refine st_sub ?_ | with_reducible refine st_chain ?_ | with_reducible refine st_bl ?_ | with_reducible refine st_in ?_ | with_reducible refine r_truB ?_
  | with_reducible refine st_nameG ?_ | with_reducible refine if_T ?_ | with_reducible refine if_F ?_ | with_reducible refine if_nT ?_ | with_reducible refine if_nF ?_
  | with_reducible refine r_add ?_ | with_reducible refine r_0 ?_ | with_reducible refine r_neg ?_ | with_reducible refine r_intI ?_ | with_reducible refine r_intB ?_ | with_reducible refine r_abs ?_ | with_reducible refine r_max2 ?_ | with_reducible refine r_min2 ?_ | with_reducible refine r_eqI ?_ | with_reducible refine r_neI ?_
  | with_reducible refine st_nxt ?_ | with_reducible refine st_cnt ?_ | with_reducible refine st_brk ?_ | with_reducible refine st_retn ?_
  | with_reducible refine st_lstN ?_ | with_reducible refine st_tupN ?_
  | with_reducible refine st_for ?_ | with_reducible refine st_lc ?_ | with_reducible refine st_lc2 ?_ | with_reducible refine st_rng1 ?_ | with_reducible refine st_rng2 ?_ | with_reducible refine st_rng3 ?_ | with_reducible refine st_itL ?_ | with_reducible refine st_itT ?_ | with_reducible refine st_rev ?_ | with_reducible refine st_enumE ?_ | with_reducible refine st_zip3 ?_ | with_reducible refine st_lvals ?_ | with_reducible refine st_dc ?_ | with_reducible refine st_keys ?_ | with_reducible refine st_dget ?_ | with_reducible refine st_din ?_ | with_reducible refine st_dnin ?_ | with_reducible refine st_dput ?_ | with_reducible refine st_dnew ?_ | with_reducible refine st_lstRg ?_ | with_reducible refine st_rg2 ?_ | with_reducible refine r_twoI ?_ | with_reducible refine st_bm ?_ | with_reducible refine st_bm0 ?_
  | ((with_reducible refine' st_aug ?h ?_); (case h => exact rfl)) | with_reducible refine r_augI ?_ | with_reducible refine r_eqB ?_
  | dsimp only))
section
variable {P : Program} {w : World} {K : PySem.W.Frag} {mg : Str → Option Value} {base : Heap} {A : Ad}

theorem stp_pwL {l : Int} {ns : List Int} {k : Int} (h : Stp l ns) : Stp l (pw ns k) := by
  unfold pw
  refine fun x hx => ?_
  have := Fg.mem_rep (Fg.mem_rd hx)
  split at this
  · exact h x this
  · have h2 := h _ (Fg.mem_bk this)
    omega
theorem bnd_walk {L : Nat} {u : List Int} (h1 : 1 ≤ L) (h4 : L ≤ 4) (g : Od.G L none u) (zu : u.length ≤ 400) : Bnd L (Od.place L u) := by
  refine ⟨?_, fun z hz => ?_⟩
  · have a := Od.place_le8 h4 g
    have b : (8 : Nat) ^ (u.length + 1) ≤ 8 ^ 402 := Nat.pow_le_pow_right (by decide) (by omega)
    have c : (8 : Nat) ^ 402 < 2 ^ 2000 := by decide +kernel
    omega
  · have := Od.near h1 g hz
    omega
def sp__law_long (K : PySem.W.Frag) : Sp := fun vs H Q _ => ∃ (L : Nat) (a : Addr) (w : List Int) (k : Int), vs = [.int L, .ref a, .int k] ∧ 1 ≤ L ∧ L ≤ 4 ∧ IT K H a w ∧ Stp L w ∧ w.length ≤ 60 ∧ -20 ≤ k ∧ k ≤ 20 ∧ ∀ H1, Ex H H1 → Q (.bl true) H1
theorem ok__law_long (T : Tx K mg A) : FnOk P w K mg base CX0 6 A.a__law_long A.f__law_long P__law_long (sp__law_long K) := by
  refine T.F__law_long.ok sc__law_long (fun vs H Q E h => ?_) (fun cdv A' outer s H vs Q E hr h => ?_)
  · obtain ⟨L, a, w, k, rfl, _⟩ := h
    rfl
  · obtain ⟨L, a, w, k, rfl, h1, h4, ha, sw, zw, hk1, hk2, q⟩ := h
    refine ⟨_, (pss_cons (ps_set (i := 3) sc__law_long.nd rfl (Or.inl rfl) (pe_call (ok_power T) (hr.mono (by decide)) (by rfl) T.g_power T.F_power.kp T.b_power .nil pass0 (pa_cons (pv 1) (pa_cons (pv 2) pa_nil))))
      (pss_cons (ps_if (pt_cmpR op_gt (pe_callB (len_K K) (by rfl) T.n_len (by decide +kernel) (pa_cons (pv 3) pa_nil)) pe_int (nomark _)) (pss_one (ps_ret pe_bl)) pss_nil)
      (pss_cons (ps_set (i := 4) sc__law_long.nd rfl (Or.inl rfl) (pe_call (ok_number_of T) (hr.mono (by decide)) (by rfl) T.g_number_of T.F_number_of.kp T.b_number_of .nil pass0 (pa_cons (pv 0) (pa_cons (pv 3) pa_nil))))
      (pss_cons (ps_if (PW.pt (pw_or (pt_cmpR (op_neK K hr.units) (pe_call (ok_nth_walk T) (hr.mono (by decide)) (by rfl) T.g_nth_walk T.F_nth_walk.kp T.b_nth_walk .nil pass0 (pa_cons (pv 0) (pa_cons (pv 4) pa_nil))) (pv 3) (nomark _)) (pw_or1 (pt_cmpR (op_neK K hr.units) (pe_call (ok_number_of T) (hr.mono (by decide)) (by rfl) T.g_number_of T.F_number_of.kp T.b_number_of .nil pass0 (pa_cons (pv 0) (pa_cons (pe_call (ok_next_walk T) (hr.mono (by decide)) (by rfl) T.g_next_walk T.F_next_walk.kp T.b_next_walk .nil pass0 (pa_cons (pv 0) (pa_cons (pv 3) pa_nil))) pa_nil))) (pe_op (op_addK K) (pv 4) pe_int) (nomark _))))) (pss_one (ps_ret pe_bl)) pss_nil)
      (pss_one (ps_ret (pe_cmpR (op_eqK K hr.units) (pe_call (ok_nth_walk T) (hr.mono (by decide)) (by rfl) T.g_nth_walk T.F_nth_walk.kp T.b_nth_walk .nil pass0 (pa_cons (pv 0) (pa_cons (pe_call (ok_number_of T) (hr.mono (by decide)) (by rfl) T.g_number_of T.F_number_of.kp T.b_number_of .nil pass0 (pa_cons (pv 0) (pa_cons (pe_call (ok_next_walk T) (hr.mono (by decide)) (by rfl) T.g_next_walk T.F_next_walk.kp T.b_next_walk .nil pass0 (pa_cons (pv 0) (pa_cons (pv 3) pa_nil))) pa_nil))) pa_nil))) (pe_call (ok_next_walk T) (hr.mono (by decide)) (by rfl) T.g_next_walk T.F_next_walk.kp T.b_next_walk .nil pass0 (pa_cons (pv 0) (pa_cons (pv 3) pa_nil))) (nomark _)))))))), ?_⟩
    walk_at "go"
    refine ⟨a, w, k, rfl, ha, zw, stp_le sw (by omega), hk1, hk2, fun p H1 e1 hp => ?_⟩
    have sp := stp_pwL (k := k) sw
    have tp := str_pw w k
    generalize pw w k = u at hp sp tp
    walk_at "go"
    refine r_lenT hp ?_
    rw [List.length_map]
    walk_at "go"
    refine if_2 (fun h0 => ?_) fun h0 => ?_
    · walk_at "go"
      exact q H1 e1
    have gu := Od.G_of sp tp
    have bn := bnd_walk h1 h4 gu (by omega)
    walk_at "go"
    refine ⟨L, p, u, rfl, h1, h4, hp, sp, by omega, fun H2 e2 => ?_⟩
    rw [Fg.rd_str tp]
    have hp := ex_t e2 hp
    have e := e1.trans e2
    clear e1 e2
    walk_at "go"
    refine ⟨L, _, rfl, h1, h4, bn.a, bn.b, fun p3 x H3 e3 hx gx px => ?_⟩
    have exu := Od.place_inj gx gu px
    subst exu
    walk_at "go"
    refine r_neT hx (ex_t e3 hp) ?_
    rw [decide_eq_true (rfl : x = x)]
    walk_at "go"
    refine ⟨L, p, x, rfl, h1, h4, ex_t e3 hp, sp, by omega, fun p4 y H4 e4 hy gy py => ?_⟩
    rw [Fg.rd_str tp] at py
    obtain ⟨sy, ty⟩ := Od.of_G gy
    have zy : y.length ≤ 600 := bn.2 _ (by have := Od.place_ge L y; omega)
    walk_at "go"
    refine ⟨L, p4, y, rfl, h1, h4, hy, sy, zy, fun H5 e5 => ?_⟩
    rw [Fg.rd_str ty, py]
    walk_at "go"
    rw [show (((Od.place L x + 1 : Nat)) : Int) = (Od.place L x : Int) + 1 by omega, decide_eq_true (rfl : (Od.place L x : Int) + 1 = (Od.place L x : Int) + 1)]
    walk_at "go"
    have x1 := (e3.trans e4).trans e5
    have hp := ex_t x1 hp
    have e := e.trans x1
    clear e3 e4 e5 x1 hx hy
    refine ⟨L, p, x, rfl, h1, h4, hp, sp, by omega, fun p4 y2 H4 e4 hy gy2 py2 => ?_⟩
    rw [Fg.rd_str tp] at py2
    have e2 := Od.place_inj gy2 gy (py2.trans py.symm)
    subst e2
    walk_at "go"
    refine ⟨L, p4, y2, rfl, h1, h4, hy, sy, zy, fun H5 e5 => ?_⟩
    rw [Fg.rd_str ty, py]
    walk_at "go"
    refine ⟨L, _, rfl, h1, h4, bn.1, bn.b1, fun p5 z H6 e6 hz gz pz => ?_⟩
    have e3 := Od.place_inj gz gy (pz.trans py.symm)
    subst e3
    have x1 := (e4.trans e5).trans e6
    walk_at "go"
    refine ⟨L, p, x, rfl, h1, h4, ex_t x1 hp, sp, by omega, fun p6 y3 H7 e7 hy3 gy3 py3 => ?_⟩
    rw [Fg.rd_str tp] at py3
    have e8 := Od.place_inj gy3 gy (py3.trans py.symm)
    subst e8
    walk_at "go"
    refine r_eqT (ex_t e7 hz) hy3 ?_
    rw [decide_eq_true (rfl : y3 = y3)]
    exact q H7 ((e.trans x1).trans e7)
theorem rep_ints (x : Int) (n : Nat) : (List.replicate n [V.int x]).flatten = (List.replicate n x).map V.int := by
  rw [List.map_replicate]
  induction n with
  | zero => rfl
  | succ n ih => rw [List.replicate_succ, List.flatten_cons, ih, List.replicate_succ]; rfl
theorem stp_rep {l x : Int} (n : Nat) (h : x ≠ 0 ∧ -l ≤ x ∧ x ≤ l) : Stp l (List.replicate n x) := fun y hy => by
  rw [List.eq_of_mem_replicate hy]
  exact h
def sp__law_ends (K : PySem.W.Frag) : Sp := fun vs H Q _ => ∃ (L n : Nat), vs = [.int L, .int n] ∧ 1 ≤ L ∧ L ≤ 4 ∧ n ≤ 60 ∧ ∀ H1, Ex H H1 → Q (.bl true) H1
theorem ok__law_ends (T : Tx K mg A) : FnOk P w K mg base CX0 6 A.a__law_ends A.f__law_ends P__law_ends (sp__law_ends K) := by
  refine T.F__law_ends.ok sc__law_ends (fun vs H Q E h => ?_) (fun cdv A' outer s H vs Q E hr h => ?_)
  · obtain ⟨L, n, rfl, _⟩ := h
    rfl
  · obtain ⟨L, n, rfl, h1, h4, hn, q⟩ := h
    refine ⟨_, (pss_cons (ps_set (i := 2) sc__law_ends.nd rfl (Or.inl rfl) (pe_callB (sum_K K rfl) (by rfl) T.n_sum (by decide +kernel) (pa_cons (pe_lc (own := [("_law_size", 6)]) rfl sc__law_ends.nd (pi_range1 (by rfl) T.n_range (pa_cons (pv 1) pa_nil)) (blkOk_by (own := [("_law_size", 6)]) (N := N__law_ends) (sc := defScope s__law_ends) (by decide +kernel)) (fun _ _ _ _ _ => (pg_name (i := 6) sc__law_ends.nd rfl (Or.inl rfl))) (fun _ _ _ _ _ => pts_nil) (fun _ _ _ _ _ => (pe_call (ok_how_many T) (hr.mono (by decide)) (by rfl) T.g_how_many T.F_how_many.kp T.b_how_many .nil pass0 (pa_cons (pv 0) (pa_cons (pv 6) pa_nil))))) pa_nil)))
      (pss_cons (ps_set (i := 3) sc__law_ends.nd rfl (Or.inl rfl) (pe_op op_sub (pe_op (op_addK K) (pv 2) (pe_call (ok_how_many T) (hr.mono (by decide)) (by rfl) T.g_how_many T.F_how_many.kp T.b_how_many .nil pass0 (pa_cons (pv 0) (pa_cons (pv 1) pa_nil)))) pe_int))
      (pss_cons (ps_par (i := 4) (j := 5) (by rfl) sc__law_ends.nd rfl rfl (by decide) rfl rfl (pa_cons (pe_op (op_mulK K) (pe_tup (pa_cons pe_int pa_nil)) (pv 1)) (pa_cons (pe_op (op_mulK K) (pe_tup (pa_cons (pe_un un_neg (pv 0)) pa_nil)) (pv 1)) pa_nil)) (by rfl))
      (pss_cons (ps_if (PW.pt (pw_or (pt_cmpR (op_neK K hr.units) (pe_call (ok_nth_walk T) (hr.mono (by decide)) (by rfl) T.g_nth_walk T.F_nth_walk.kp T.b_nth_walk .nil pass0 (pa_cons (pv 0) (pa_cons (pv 2) pa_nil))) (pv 4) (nomark _)) (pw_or (pt_cmpR (op_neK K hr.units) (pe_call (ok_nth_walk T) (hr.mono (by decide)) (by rfl) T.g_nth_walk T.F_nth_walk.kp T.b_nth_walk .nil pass0 (pa_cons (pv 0) (pa_cons (pv 3) pa_nil))) (pv 5) (nomark _)) (pw_or1 (pt_cmpR (op_neK K hr.units) (pe_call (ok_number_of T) (hr.mono (by decide)) (by rfl) T.g_number_of T.F_number_of.kp T.b_number_of .nil pass0 (pa_cons (pv 0) (pa_cons (pv 4) pa_nil))) (pv 2) (nomark _)))))) (pss_one (ps_ret pe_bl)) pss_nil)
      (pss_cons (ps_if (PW.pt (pw_or (pt_cmpR (op_neK K hr.units) (pe_call (ok_number_of T) (hr.mono (by decide)) (by rfl) T.g_number_of T.F_number_of.kp T.b_number_of .nil pass0 (pa_cons (pv 0) (pa_cons (pv 5) pa_nil))) (pv 3) (nomark _)) (pw_or1 (pt_cmpR (op_neK K hr.units) (pe_call (ok_next_walk T) (hr.mono (by decide)) (by rfl) T.g_next_walk T.F_next_walk.kp T.b_next_walk .nil pass0 (pa_cons (pv 0) (pa_cons (pv 5) pa_nil))) (pe_op (op_mulK K) (pe_tup (pa_cons pe_int pa_nil)) (pe_op (op_addK K) (pv 1) pe_int)) (nomark _))))) (pss_one (ps_ret pe_bl)) pss_nil)
      (pss_one (ps_ret (pe_or (pe_cmpR (op_eqK K hr.units) (pv 1) pe_int (nomark _)) (pe_one (pe_cmpR (op_eqK K hr.units) (pe_callB (len_K K) (by rfl) T.n_len (by decide +kernel) (pa_cons (pe_call (ok_nth_walk T) (hr.mono (by decide)) (by rfl) T.g_nth_walk T.F_nth_walk.kp T.b_nth_walk .nil pass0 (pa_cons (pv 0) (pa_cons (pe_op op_sub (pv 2) pe_int) pa_nil))) pa_nil)) (pe_op op_sub (pv 1) pe_int) (nomark _))))))))))), ?_⟩
    obtain ⟨g1, p1⟩ := Od.place_ones h1 n
    obtain ⟨g2, p2⟩ := Od.place_lows h1 n
    obtain ⟨g3, p3⟩ := Od.place_ones h1 (n + 1)
    have tp := Od.tot_pos h1 n
    have eS : Od.S L (n + 1) = Od.S L n + Od.tot L none n := rfl
    have b1 := bnd_walk h1 h4 g1 (by rw [List.length_replicate]; omega)
    have b2 := bnd_walk h1 h4 g2 (by rw [List.length_replicate]; omega)
    rw [p1] at b1
    walk_at "go"
    refine r_rng1 (by omega) (by omega) (r_cmR (m := (n : Int).toNat) (ys := ((List.range n).map fun i => ((Od.tot L none i : Nat) : Int)).map V.int) (by simp) (by simp; omega) (fun _ => rfl) (fun i y H1 hi hy e1 Q' k => ?_) fun p7 H7 hp7 e7 h7 => ?_)
    · walk_at "go"
      refine ⟨L, i, by rw [Int.zero_add]; rfl, h1, h4, by omega, fun H8 e8 => ?_⟩
      rw [List.getElem?_map, List.getElem?_map, List.getElem?_range (by omega)] at hy
      cases hy
      exact k H8 e8
    walk_at "go"
    refine sum_go h7 ?_
    walk_at "go"
    refine ⟨L, n, rfl, h1, h4, by omega, fun H8 e8 => ?_⟩
    have e := e7.trans e8
    clear e7 e8 h7 hp7
    walk_at "go"
    rw [show ((Od.S L n : Nat) : Int) + ((Od.tot L none n : Nat) : Int) - 1 = ((Od.place L (List.replicate n (-(L : Int))) : Nat) : Int) by omega]
    refine r_newT (by simp) fun a1 H1 _ e1 k1 => ?_
    walk_at "go"
    refine r_repT (t_of k1) (by omega) (by omega) (by simp) fun f H2 e2 k2 => ?_
    rw [show (n : Int).toNat = n by omega, rep_ints] at k2
    walk_at "go"
    refine r_newT (by simp) fun a2 H3 _ e3 k3 => ?_
    walk_at "go"
    refine r_repT (t_of k3) (by omega) (by omega) (by simp) fun l H4 e4 k4 => ?_
    rw [show (n : Int).toNat = n by omega, rep_ints] at k4
    have hf : IT K H4 f (List.replicate n 1) := ex_t e4 (ex_t e3 k2)
    have hl : IT K H4 l (List.replicate n (-(L : Int))) := k4
    have e := (((e.trans e1).trans e2).trans e3).trans e4
    clear e1 e2 e3 e4 k1 k2 k3 k4
    obtain ⟨s1, t1⟩ := Od.of_G g1
    obtain ⟨s2, t2⟩ := Od.of_G g2
    walk_at "go"
    refine ⟨_, _, rfl, ?_⟩
    walk_at "go"
    refine ⟨L, _, rfl, h1, h4, b1.a, b1.b, fun a3 x H5 e5 hx gx px => ?_⟩
    have ex := Od.place_inj gx g1 (px.trans p1.symm)
    subst ex
    walk_at "go"
    refine r_neT hx (ex_t e5 hf) ?_
    rw [decide_eq_true (rfl : List.replicate n (1 : Int) = List.replicate n 1)]
    walk_at "go"
    refine ⟨L, _, rfl, h1, h4, b2.a, b2.b, fun a4 y H6 e6 hy gy py => ?_⟩
    have ey := Od.place_inj gy g2 py
    subst ey
    walk_at "go"
    refine r_neT hy (ex_t e6 (ex_t e5 hl)) ?_
    rw [decide_eq_true (rfl : List.replicate n (-(L : Int)) = List.replicate n (-(L : Int)))]
    walk_at "go"
    have x1 := e5.trans e6
    have hf := ex_t x1 hf
    have hl := ex_t x1 hl
    have e := e.trans x1
    clear e5 e6 x1 hx hy
    refine ⟨L, f, _, rfl, h1, h4, hf, s1, by rw [List.length_replicate]; omega, fun H7 e7 => ?_⟩
    rw [Fg.rd_str t1, p1]
    walk_at "go"
    rw [decide_eq_true (rfl : ((Od.S L n : Nat) : Int) = (Od.S L n : Nat))]
    walk_at "go"
    refine ⟨L, l, _, rfl, h1, h4, ex_t e7 hl, s2, by rw [List.length_replicate]; omega, fun H8 e8 => ?_⟩
    rw [Fg.rd_str t2]
    walk_at "go"
    rw [decide_eq_true (rfl : ((Od.place L (List.replicate n (-(L : Int))) : Nat) : Int) = (Od.place L (List.replicate n (-(L : Int))) : Nat))]
    walk_at "go"
    have x1 := e7.trans e8
    refine ⟨L, l, _, rfl, h1, h4, ex_t x1 hl, s2, by rw [List.length_replicate]; omega, fun a5 z H9 e9 hz gz pz => ?_⟩
    rw [Fg.rd_str t2, p2, ← p3] at pz
    have ez := Od.place_inj gz g3 pz
    subst ez
    walk_at "go"
    refine r_newT (by simp) fun a6 HA _ eA kA => ?_
    walk_at "go"
    refine r_repT (t_of kA) (by omega) (by omega) (by simp) fun a7 HB eB kB => ?_
    rw [show ((n : Int) + 1).toNat = n + 1 by omega, rep_ints] at kB
    walk_at "go"
    refine r_neT (ex_t (eA.trans eB) hz) kB ?_
    rw [decide_eq_true (rfl : List.replicate (n + 1) (1 : Int) = List.replicate (n + 1) 1)]
    walk_at "go"
    have e := (((e.trans x1).trans e9).trans eA).trans eB
    clear x1 e7 e8 e9 eA eB hz kB kA
    by_cases h0 : n = 0
    · rw [decide_eq_true (by omega : (n : Int) = 0)]
      walk_at "go"
      exact q HB e
    · rw [decide_eq_false (by omega : ¬ (n : Int) = 0)]
      walk_at "go"
      have hS := Od.S_ge h1 n
      refine ⟨L, Od.S L n - 1, by rw [show (((Od.S L n - 1 : Nat)) : Int) = ((Od.S L n : Nat) : Int) - 1 by omega]; rfl, h1, h4, Nat.lt_of_le_of_lt (Nat.sub_le _ _) b1.a, fun z hz => b1.b z (Nat.le_trans hz (Nat.sub_le _ _)), fun a8 x H1 e1 hx gx px => ?_⟩
      walk_at "go"
      refine r_lenT hx ?_
      rw [List.length_map]
      walk_at "go"
      have ln : x.length = n - 1 := by
        refine Od.len_of gx ?_ ?_
        · have : Od.S L n = Od.S L (n - 1) + Od.tot L none (n - 1) := by
            obtain ⟨m, rfl⟩ : ∃ m, n = m + 1 := ⟨n - 1, by omega⟩
            rfl
          have := Od.tot_pos h1 (n - 1)
          omega
        · rw [show n - 1 + 1 = n by omega]
          omega
      rw [decide_eq_true (by omega : (x.length : Int) = (n : Int) - 1)]
      exact q H1 (e.trans e1)
end
end Lw
namespace Lw
open PySem PySem.Spec PyProof.Rows L2 Evl

local macro_rules | `(tactic| walk_at "go") => `(tactic| repeat (first
  | with_reducible refine st_seq ?_ | with_reducible refine st_set ?_ | with_reducible refine st_asg ?_ | with_reducible refine st_ret ?_ | with_reducible refine st_drop ?_ | with_reducible refine st_if ?_
  | with_reducible refine st_c ?_ | ((with_reducible refine' st_v ?h ?_); (case h => exact rfl)) | with_reducible refine st_n ?_ | with_reducible refine st_cons ?_ | with_reducible refine st_op ?_ | with_reducible refine st_un ?_
  | with_reducible refine st_cb ?_ | with_reducible refine st_test ?_ | with_reducible refine st_call ?_ | with_reducible refine st_callK ?_ | with_reducible refine st_sl ?_ | with_reducible refine st_par ?_ | with_reducible refine st_par3 ?_ | with_reducible refine st_tru ?_
  | with_reducible refine st_and ?_ | with_reducible refine st_or ?_ | with_reducible refine st_not ?_ | with_reducible refine st_B ?_ | with_reducible refine st_andV ?_ | with_reducible refine st_orV ?_ | with_reducible refine st_notV ?_ | with_reducible refine st_ifE ?_
  | with_reducible refine st_part ?_ | with_reducible refine st_nop ?_ | with_reducible refine st_sub ?_ | with_reducible refine st_chain ?_ | with_reducible refine st_bl ?_ | with_reducible refine st_in ?_ | with_reducible refine r_truB ?_
  | with_reducible refine st_nameG ?_ | with_reducible refine if_T ?_ | with_reducible refine if_F ?_ | with_reducible refine if_nT ?_ | with_reducible refine if_nF ?_
  | with_reducible refine r_add ?_ | with_reducible refine r_0 ?_ | with_reducible refine r_neg ?_ | with_reducible refine r_intI ?_ | with_reducible refine r_intB ?_ | with_reducible refine r_abs ?_ | with_reducible refine r_max2 ?_ | with_reducible refine r_min2 ?_ | with_reducible refine r_eqI ?_ | with_reducible refine r_neI ?_
  | with_reducible refine st_nxt ?_ | with_reducible refine st_cnt ?_ | with_reducible refine st_brk ?_ | with_reducible refine st_retn ?_
  | with_reducible refine st_lstN ?_ | with_reducible refine st_tupN ?_
  | with_reducible refine st_for ?_ | with_reducible refine st_lc ?_ | with_reducible refine st_lc2 ?_ | with_reducible refine st_rng1 ?_ | with_reducible refine st_rng2 ?_ | with_reducible refine st_rng3 ?_ | with_reducible refine st_itL ?_ | with_reducible refine st_itT ?_ | with_reducible refine st_rev ?_ | with_reducible refine st_enumE ?_ | with_reducible refine st_zip3 ?_ | with_reducible refine st_lvals ?_ | with_reducible refine st_dc ?_ | with_reducible refine st_keys ?_ | with_reducible refine st_dget ?_ | with_reducible refine st_din ?_ | with_reducible refine st_dnin ?_ | with_reducible refine st_dput ?_ | with_reducible refine st_dnew ?_ | with_reducible refine st_lstRg ?_ | with_reducible refine st_rg2 ?_ | with_reducible refine r_twoI ?_ | with_reducible refine st_bm ?_ | with_reducible refine st_bm0 ?_
  | ((with_reducible refine' st_aug ?h ?_); (case h => exact rfl)) | with_reducible refine r_augI ?_ | with_reducible refine r_eqB ?_
  | dsimp only))
section
variable {P : Program} {w : World} {K : PySem.W.Frag} {mg : Str → Option Value} {base : Heap} {A : Ad}

theorem neg_in {L : Nat} {x : Int} (h : x ∈ Od.steps L) : -x ∈ Od.steps L := by
  have := Od.mem_steps.mp h
  exact Od.mem_steps.mpr (by omega)
/-- [e for s in steps], the turns change nothing -/
theorem cm_steps {K : PySem.W.Frag} {σ : L2.St} {H : Hp} {Q : VK} {vs : List Nat} {j : Nat} {te : TE} {a : Addr} {L : Nat} (hL : L ≤ 4) (h : H a = some (.lst ((Od.steps L).map V.int))) (f : Int → Int) (hw : ∀ x, wipe ((wipe σ vs).set j (some x)) vs = wipe σ vs)
    (he : ∀ x, x ∈ Od.steps L → ∀ (H1 : Hp) (Q' : VK), Ex H H1 → (∀ H2, Ex H1 H2 → Q' (.int (f x)) H2) → te ((wipe σ vs).set j (some (.int x))) H1 Q')
    (q : ∀ p H1, Ex H H1 → H1 p = some (.lst (((Od.steps L).map f).map V.int)) → Q (.ref p) H1) : rItL K (.ref a) (fun J H1 => rLc J (gName j) tYes te vs σ Q H1) H := by
  have zs := Od.steps_len L
  refine r_itL (l_of h) (r_cmL (ys := ((Od.steps L).map f).map V.int) (l_of h) (by simp) (by simp; omega) hw (fun i x y H1 hx hy e1 Q' k => ?_) fun p H1 _ e1 h1 => q p H1 e1 h1)
  rw [List.getElem?_map] at hx
  rw [List.getElem?_map, List.getElem?_map] at hy
  cases hn : (Od.steps L)[i]? with
  | none => rw [hn] at hx; cases hx
  | some z =>
    rw [hn] at hx hy
    cases hx
    cases hy
    exact he z (List.mem_of_getElem? hn) H1 Q' e1 k
def sp__law_shares (K : PySem.W.Frag) : Sp := fun vs H Q _ => ∃ (L n : Nat) (f t : Int), vs = [.int L, .int f, .int t, .int ((n : Int) + 1)] ∧ 1 ≤ L ∧ L ≤ 4 ∧ f ∈ Od.steps L ∧ t ∈ Od.steps L ∧ n ≤ 100 ∧ ∀ H1, Ex H H1 → Q (.bl true) H1
theorem ok__law_shares (T : Tx K mg A) : FnOk P w K mg base CX0 5 A.a__law_shares A.f__law_shares P__law_shares (sp__law_shares K) := by
  refine T.F__law_shares.ok sc__law_shares (fun vs H Q E h => ?_) (fun cdv A' outer s H vs Q E hr h => ?_)
  · obtain ⟨L, n, f, t, rfl, _⟩ := h
    rfl
  · obtain ⟨L, n, f, t, rfl, h1, h4, hf, ht, hn, q⟩ := h
    refine ⟨_, (pss_cons (ps_par (i := 4) (j := 5) (by rfl) sc__law_shares.nd rfl rfl (by decide) rfl rfl (pa_cons (pe_call (ok__law_steps T) (hr.mono (by decide)) (by rfl) T.g__law_steps T.F__law_steps.kp T.b__law_steps .nil pass0 (pa_cons (pv 0) pa_nil)) (pa_cons (pe_call (ok_between T) (hr.mono (by decide)) (by rfl) T.g_between T.F_between.kp T.b_between .nil pass0 (pa_cons (pv 0) (pa_cons (pv 1) (pa_cons (pv 2) (pa_cons (pv 3) pa_nil))))) pa_nil)) (by rfl))
      (pss_cons (ps_if (pt_cmpR (op_neK K hr.units) (pe_op (op_mulK K) (pe_callB (sum_K K rfl) (by rfl) T.n_sum (by decide +kernel) (pa_cons (pe_lc (own := [("_law_step", 6)]) rfl sc__law_shares.nd (pi_listK K (pv 4)) (blkOk_by (own := [("_law_step", 6)]) (N := N__law_shares) (sc := defScope s__law_shares) (by decide +kernel)) (fun _ _ _ _ _ => (pg_name (i := 6) sc__law_shares.nd rfl (Or.inl rfl))) (fun _ _ _ _ _ => pts_nil) (fun _ _ _ _ _ => (pe_call (ok_between T) (hr.mono (by decide)) (by rfl) T.g_between T.F_between.kp T.b_between .nil pass0 (pa_cons (pv 0) (pa_cons (pv 1) (pa_cons (pv 6) (pa_cons (pv 3) pa_nil))))))) pa_nil)) (pe_callB (len_K K) (by rfl) T.n_len (by decide +kernel) (pa_cons (pv 4) pa_nil))) (pe_call (ok_how_many T) (hr.mono (by decide)) (by rfl) T.g_how_many T.F_how_many.kp T.b_how_many .nil pass0 (pa_cons (pv 0) (pa_cons (pv 3) pa_nil))) (nomark _)) (pss_one (ps_ret pe_bl)) pss_nil)
      (pss_cons (ps_if (PW.pt (pw_or (pt_cmpR (op_neK K hr.units) (pe_call (ok_between T) (hr.mono (by decide)) (by rfl) T.g_between T.F_between.kp T.b_between .nil pass0 (pa_cons (pv 0) (pa_cons (pe_un un_neg (pv 2)) (pa_cons (pe_un un_neg (pv 1)) (pa_cons (pv 3) pa_nil))))) (pv 5) (nomark _)) (pw_or1 (pt_cmpR (op_neK K hr.units) (pe_call (ok_between T) (hr.mono (by decide)) (by rfl) T.g_between T.F_between.kp T.b_between .nil pass0 (pa_cons (pv 0) (pa_cons (pv 2) (pa_cons (pv 1) (pa_cons (pv 3) pa_nil))))) (pv 5) (nomark _))))) (pss_one (ps_ret pe_bl)) pss_nil)
      (pss_one (ps_ret (pe_and (pe_cmpR (op_eqK K hr.units) (pe_call (ok_between T) (hr.mono (by decide)) (by rfl) T.g_between T.F_between.kp T.b_between .nil pass0 (pa_cons (pv 0) (pa_cons (pe_un un_neg (pv 1)) (pa_cons (pe_un un_neg (pv 2)) (pa_cons (pv 3) pa_nil))))) (pv 5) (nomark _)) (pe_one (pe_cmpR op_ge (pv 5) pe_int (nomark _))))))))), ?_⟩
    have zs := Od.steps_len L
    walk_at "go"
    refine ⟨L, rfl, h4, fun p H1 hp e1 k1 => ?_⟩
    walk_at "go"
    refine ⟨L, n, f, t, rfl, h1, h4, hf, ht, by omega, fun H2 e2 => ?_⟩
    have k2 := e2 _ _ k1
    have e := e1.trans e2
    clear e1 e2 k1
    walk_at "go"
    refine ⟨_, _, rfl, ?_⟩
    walk_at "go"
    refine cm_steps h4 k2 (Od.bt L f n) (fun _ => rfl) (fun x hx H3 Q' e3 k => ?_) fun p3 H3 e3 k3 => ?_
    · walk_at "go"
      exact ⟨L, n, f, x, rfl, h1, h4, hf, hx, by omega, k⟩
    walk_at "go"
    refine r_sum (l_of k3) ?_
    rw [Od.sum_bt hf]
    walk_at "go"
    refine r_lenL (l_of (e3 _ _ k2)) ?_
    rw [List.length_map, zs]
    refine r_mul (.inr ⟨by omega, by omega⟩) ?_
    walk_at "go"
    refine ⟨L, n + 1, by simp, h1, h4, by omega, fun H4 e4 => ?_⟩
    have et : (((2 * L - 1) ^ n : Nat) : Int) * ((2 * L : Nat) : Int) = ((Od.tot L none (n + 1) : Nat) : Int) := by
      rw [Od.tot_none, Int.natCast_mul (2 * L), Int.mul_comm ((2 * L : Nat) : Int)]
    rw [et]
    walk_at "go"
    rw [decide_eq_true (rfl : ((Od.tot L none (n + 1) : Nat) : Int) = (Od.tot L none (n + 1) : Nat))]
    have e := (e.trans e3).trans e4
    clear e3 e4 k2 k3
    walk_at "go"
    refine ⟨L, n, -t, -f, rfl, h1, h4, neg_in ht, neg_in hf, by omega, fun H5 e5 => ?_⟩
    rw [Od.bt_neg, Od.bt_symm L n t f]
    walk_at "go"
    rw [decide_eq_true (rfl : Od.bt L f n t = Od.bt L f n t)]
    walk_at "go"
    refine ⟨L, n, t, f, rfl, h1, h4, ht, hf, by omega, fun H6 e6 => ?_⟩
    rw [Od.bt_symm L n t f]
    walk_at "go"
    rw [decide_eq_true (rfl : Od.bt L f n t = Od.bt L f n t)]
    walk_at "go"
    refine ⟨L, n, -f, -t, rfl, h1, h4, neg_in hf, neg_in ht, by omega, fun H7 e7 => ?_⟩
    rw [Od.bt_neg]
    walk_at "go"
    rw [decide_eq_true (rfl : Od.bt L f n t = Od.bt L f n t)]
    walk_at "go"
    rw [decide_eq_true (Od.bt_range h1 f n t).1]
    exact q H7 (((e.trans e5).trans e6).trans e7)
theorem bt_size {L : Nat} (h1 : 1 ≤ L) (h4 : L ≤ 4) (f t : Int) {n : Nat} (hn : n ≤ 100) : (Od.bt L f n t).natAbs < 2 ^ 301 := by
  have a := Od.bt_range h1 f n t
  have b : (2 * L - 1) ^ n ≤ 8 ^ 100 := Nat.le_trans (Nat.pow_le_pow_left (by omega) n) (Nat.pow_le_pow_right (by decide) hn)
  have c : (8 : Nat) ^ 100 < 2 ^ 301 := by decide +kernel
  omega
def sp__law_joined (K : PySem.W.Frag) : Sp := fun vs H Q _ => ∃ (L n m : Nat) (f t : Int), vs = [.int L, .int f, .int t, .int ((n : Int) + 1), .int ((m : Int) + 1)] ∧ 1 ≤ L ∧ L ≤ 4 ∧ f ∈ Od.steps L ∧ t ∈ Od.steps L ∧ n ≤ 100 ∧ m ≤ 100 ∧ ∀ H1, Ex H H1 → Q (.bl true) H1
theorem ok__law_joined (T : Tx K mg A) : FnOk P w K mg base CX0 5 A.a__law_joined A.f__law_joined P__law_joined (sp__law_joined K) := by
  refine T.F__law_joined.ok sc__law_joined (fun vs H Q E h => ?_) (fun cdv A' outer s H vs Q E hr h => ?_)
  · obtain ⟨L, n, m, f, t, rfl, _⟩ := h
    rfl
  · obtain ⟨L, n, m, f, t, rfl, h1, h4, hf, ht, hn, hm, q⟩ := h
    refine ⟨_, (pss_cons (ps_set (i := 5) sc__law_joined.nd rfl (Or.inl rfl) (pe_call (ok__law_steps T) (hr.mono (by decide)) (by rfl) T.g__law_steps T.F__law_steps.kp T.b__law_steps .nil pass0 (pa_cons (pv 0) pa_nil)))
      (pss_cons (ps_setLc (i := 6) (own := [("_law_step", 7)]) rfl sc__law_joined.nd rfl rfl (sw_true rfl rfl rfl (by decide +kernel)) (pi_listK K (pv 5)) (blkOk_by (own := [("_law_step", 7)]) (N := N__law_joined) (sc := defScope s__law_joined) (by decide +kernel)) (fun _ _ _ _ _ => (pg_name (i := 7) sc__law_joined.nd rfl (Or.inl rfl))) (fun _ _ _ _ _ => pts_nil) (fun _ _ _ _ _ => (pe_op (op_mulK K) (pe_call (ok_between T) (hr.mono (by decide)) (by rfl) T.g_between T.F_between.kp T.b_between .nil pass0 (pa_cons (pv 0) (pa_cons (pv 1) (pa_cons (pv 7) (pa_cons (pv 3) pa_nil))))) (pe_call (ok_between T) (hr.mono (by decide)) (by rfl) T.g_between T.F_between.kp T.b_between .nil pass0 (pa_cons (pv 0) (pa_cons (pv 7) (pa_cons (pv 2) (pa_cons (pv 4) pa_nil))))))))
      (pss_one (ps_ret (pe_cmpR (op_eqK K hr.units) (pe_callB (sum_K K rfl) (by rfl) T.n_sum (by decide +kernel) (pa_cons (pv 6) pa_nil)) (pe_call (ok_between T) (hr.mono (by decide)) (by rfl) T.g_between T.F_between.kp T.b_between .nil pass0 (pa_cons (pv 0) (pa_cons (pv 1) (pa_cons (pv 2) (pa_cons (pe_op op_sub (pe_op (op_addK K) (pv 3) (pv 4)) pe_int) pa_nil))))) (nomark _)))))), ?_⟩
    walk_at "go"
    refine ⟨L, rfl, h4, fun p H1 hp e1 k1 => ?_⟩
    walk_at "go"
    refine cm_steps h4 k1 (fun x => Od.bt L f n x * Od.bt L x m t) (fun _ => rfl) (fun x hx H3 Q' e3 k => ?_) fun p3 H3 e3 k3 => ?_
    · walk_at "go"
      refine ⟨L, n, f, x, rfl, h1, h4, hf, hx, by omega, fun H4 e4 => ?_⟩
      walk_at "go"
      refine ⟨L, m, x, t, rfl, h1, h4, hx, ht, by omega, fun H5 e5 => ?_⟩
      refine r_mulW (wide_mul (bt_size h1 h4 f x hn) (bt_size h1 h4 x t hm) (by decide) (by decide) (by decide)) ?_
      exact k H5 (e4.trans e5)
    walk_at "go"
    refine r_sum (l_of k3) ?_
    rw [Od.bt_join (l := t) hf n m t ht]
    walk_at "go"
    refine ⟨L, n + m, f, t, by rw [show (n : Int) + 1 + ((m : Int) + 1) - 1 = ((n + m : Nat) : Int) + 1 by omega]; rfl, h1, h4, hf, ht, by omega, fun H4 e4 => ?_⟩
    walk_at "go"
    rw [decide_eq_true (rfl : Od.bt L f (n + m) t = Od.bt L f (n + m) t)]
    exact q H4 ((e1.trans e3).trans e4)
end
end Lw
namespace Lw
open PySem PySem.Spec PyProof.Rows L2 Evl

local macro_rules | `(tactic| walk_at "go") => `(tactic| repeat (first
  | with_reducible refine st_seq ?_ | with_reducible refine st_set ?_ | with_reducible refine st_asg ?_ | with_reducible refine st_ret ?_ | with_reducible refine st_drop ?_ | with_reducible refine st_if ?_
  | with_reducible refine st_c ?_ | ((with_reducible refine' st_v ?h ?_); (case h => exact rfl)) | with_reducible refine st_n ?_ | with_reducible refine st_cons ?_ | with_reducible refine st_op ?_ | with_reducible refine st_un ?_
  | with_reducible refine st_cb ?_ | with_reducible refine st_test ?_ | with_reducible refine st_call ?_ | with_reducible refine st_callK ?_ | with_reducible refine st_sl ?_ | with_reducible refine st_par ?_ | with_reducible refine st_par3 ?_ | with_reducible refine st_tru ?_
  | with_reducible refine st_and ?_ | with_reducible refine st_or ?_ | with_reducible refine st_not ?_ | with_reducible refine st_B ?_ | with_reducible refine st_andV ?_ | with_reducible refine st_orV ?_ | with_reducible refine st_notV ?_ | with_reducible refine st_ifE ?_
  | with_reducible refine st_part ?_ | with_reducible refine st_nop ?_ | with_reducible refine st_sub ?_ | with_reducible refine st_chain ?_ | with_reducible refine st_bl ?_ | with_reducible refine st_in ?_ | with_reducible refine r_truB ?_
  | with_reducible refine st_nameG ?_ | with_reducible refine if_T ?_ | with_reducible refine if_F ?_ | with_reducible refine if_nT ?_ | with_reducible refine if_nF ?_
  | with_reducible refine r_add ?_ | with_reducible refine r_0 ?_ | with_reducible refine r_neg ?_ | with_reducible refine r_intI ?_ | with_reducible refine r_intB ?_ | with_reducible refine r_abs ?_ | with_reducible refine r_max2 ?_ | with_reducible refine r_min2 ?_ | with_reducible refine r_eqI ?_ | with_reducible refine r_neI ?_
  | with_reducible refine st_nxt ?_ | with_reducible refine st_cnt ?_ | with_reducible refine st_brk ?_ | with_reducible refine st_retn ?_
  | with_reducible refine st_lstN ?_ | with_reducible refine st_tupN ?_
  | with_reducible refine st_for ?_ | with_reducible refine st_lc ?_ | with_reducible refine st_lc2 ?_ | with_reducible refine st_rng1 ?_ | with_reducible refine st_rng2 ?_ | with_reducible refine st_rng3 ?_ | with_reducible refine st_itL ?_ | with_reducible refine st_itT ?_ | with_reducible refine st_rev ?_ | with_reducible refine st_enumE ?_ | with_reducible refine st_zip3 ?_ | with_reducible refine st_lvals ?_ | with_reducible refine st_dc ?_ | with_reducible refine st_keys ?_ | with_reducible refine st_dget ?_ | with_reducible refine st_din ?_ | with_reducible refine st_dnin ?_ | with_reducible refine st_dput ?_ | with_reducible refine st_dnew ?_ | with_reducible refine st_lstRg ?_ | with_reducible refine st_rg2 ?_ | with_reducible refine r_twoI ?_ | with_reducible refine st_bm ?_ | with_reducible refine st_bm0 ?_
  | ((with_reducible refine' st_aug ?h ?_); (case h => exact rfl)) | with_reducible refine r_augI ?_ | with_reducible refine r_eqB ?_
  | dsimp only))
section
variable {P : Program} {w : World} {K : PySem.W.Frag} {mg : Str → Option Value} {base : Heap} {A : Ad}

def sp__law_first_steps (K : PySem.W.Frag) : Sp := fun vs H Q _ => ∃ (L n : Nat) (f : Int), vs = [.int L, .int f, .int ((n : Int) + 1)] ∧ 1 ≤ L ∧ L ≤ 4 ∧ f ∈ Od.steps L ∧ n ≤ 100 ∧ ∀ H1, Ex H H1 → Q (.bl true) H1
theorem first_low {L n k : Nat} (h1 : 1 ≤ L) (hk : k < 2 * L) : Od.S L (n + 1) + k * (2 * L - 1) ^ n < Od.S L (n + 2) := by
  have e : Od.S L (n + 2) = Od.S L (n + 1) + Od.tot L none (n + 1) := rfl
  have p : 0 < (2 * L - 1) ^ n := Nat.pow_pos (by omega)
  have m := Nat.mul_le_mul_right ((2 * L - 1) ^ n) (show k + 1 ≤ 2 * L by omega)
  rw [Od.tot_none] at e
  rw [Nat.add_mul, Nat.one_mul] at m
  omega
theorem first_head {L n k r : Nat} {u : List Int} {x : Int} (h1 : 1 ≤ L) (hk : k < 2 * L) (g : Od.G L none u) (p : Od.place L u = Od.S L (n + 1) + k * (2 * L - 1) ^ n + r) (hr : r < (2 * L - 1) ^ n) (hx : (Od.steps L)[k]? = some x) : ∃ v, u = x :: v := by
  have lu : u.length = n + 1 := by
    refine Od.len_of g (by omega) ?_
    show Od.place L u < Od.S L (n + 2)
    have e : Od.S L (n + 2) = Od.S L (n + 1) + Od.tot L none (n + 1) := rfl
    have m := Nat.mul_le_mul_right ((2 * L - 1) ^ n) (show k + 1 ≤ 2 * L by omega)
    rw [Od.tot_none] at e
    rw [Nat.add_mul, Nat.one_mul] at m
    omega
  cases u with
  | nil => simp at lu
  | cons y v =>
    have lv : v.length = n := by simpa using lu
    have hv : Od.V L none (y :: v) = k * (2 * L - 1) ^ v.length + r := by
      unfold Od.place at p
      rw [lu] at p
      rw [lv]
      omega
    have := Od.head_of g hv (by rw [lv]; exact hr)
    rw [hx] at this
    cases this
    exact ⟨v, rfl⟩
theorem bnd_low {L n low : Nat} (h1 : 1 ≤ L) (h4 : L ≤ 4) (hn : n ≤ 100) (h : low < Od.S L (n + 2)) : Bnd L low := by
  refine ⟨?_, fun z hz => ?_⟩
  · have a := (Od.S_le8 h4 (n + 2)).1
    have b : (8 : Nat) ^ (n + 2) ≤ 8 ^ 102 := Nat.pow_le_pow_right (by decide) (by omega)
    have c : (8 : Nat) ^ 102 < 2 ^ 2000 := by decide +kernel
    omega
  · rcases Nat.lt_or_ge z (n + 3) with q | q
    · omega
    · have a := Od.S_mono (L := L) q
      have b : Od.S L (n + 3) = Od.S L (n + 2) + Od.tot L none (n + 2) := rfl
      have c := Od.tot_pos h1 (n + 2)
      omega
theorem ok__law_first_steps (T : Tx K mg A) : FnOk P w K mg base CX0 5 A.a__law_first_steps A.f__law_first_steps P__law_first_steps (sp__law_first_steps K) := by
  refine T.F__law_first_steps.ok sc__law_first_steps (fun vs H Q E h => ?_) (fun cdv A' outer s H vs Q E hr h => ?_)
  · obtain ⟨L, n, f, rfl, _⟩ := h
    rfl
  · obtain ⟨L, n, f, rfl, h1, h4, hf, hn, q⟩ := h
    refine ⟨_, (pss_cons (ps_set (i := 3) sc__law_first_steps.nd rfl (Or.inl rfl) (pe_callB (sum_K K rfl) (by rfl) T.n_sum (by decide +kernel) (pa_cons (pe_lc (own := [("_law_size", 5)]) rfl sc__law_first_steps.nd (pi_range1 (by rfl) T.n_range (pa_cons (pv 2) pa_nil)) (blkOk_by (own := [("_law_size", 5)]) (N := N__law_first_steps) (sc := defScope s__law_first_steps) (by decide +kernel)) (fun _ _ _ _ _ => (pg_name (i := 5) sc__law_first_steps.nd rfl (Or.inl rfl))) (fun _ _ _ _ _ => pts_nil) (fun _ _ _ _ _ => (pe_call (ok_how_many T) (hr.mono (by decide)) (by rfl) T.g_how_many T.F_how_many.kp T.b_how_many .nil pass0 (pa_cons (pv 0) (pa_cons (pv 5) pa_nil))))) pa_nil)))
      (pss_cons (ps_for PassesOwn.never rfl (pi_listK K (pe_call (ok__law_steps T) (hr.mono (by decide)) (by rfl) T.g__law_steps T.F__law_steps.kp T.b__law_steps .nil pass0 (pa_cons (pv 0) pa_nil))) (pg_name (i := 4) sc__law_first_steps.nd rfl (Or.inr rfl)) (pss_cons (ps_if (pt_cmpR (op_eqK K hr.units) (pv 4) (pv 1) (nomark _)) (pss_one ps_break) pss_nil)
      (pss_one (ps_set (i := 3) sc__law_first_steps.nd rfl (Or.inl rfl) (pe_op (op_addK K) (pv 3) (pe_callB (sum_K K rfl) (by rfl) T.n_sum (by decide +kernel) (pa_cons (pe_lc (own := [("_law_last", 6)]) rfl sc__law_first_steps.nd (pi_listK K (pe_call (ok__law_steps T) (hr.mono (by decide)) (by rfl) T.g__law_steps T.F__law_steps.kp T.b__law_steps .nil pass0 (pa_cons (pv 0) pa_nil))) (blkOk_by (own := [("_law_last", 6)]) (N := N__law_first_steps) (sc := defScope s__law_first_steps) (by decide +kernel)) (fun _ _ _ _ _ => (pg_name (i := 6) sc__law_first_steps.nd rfl (Or.inl rfl))) (fun _ _ _ _ _ => pts_nil) (fun _ _ _ _ _ => (pe_call (ok_between T) (hr.mono (by decide)) (by rfl) T.g_between T.F_between.kp T.b_between .nil pass0 (pa_cons (pv 0) (pa_cons (pv 4) (pa_cons (pv 6) (pa_cons (pv 2) pa_nil))))))) pa_nil)))))))
      (pss_cons (ps_if (pt_cmpR (op_neK K hr.units) (pe_ix (ix_K K) (pe_call (ok_nth_walk T) (hr.mono (by decide)) (by rfl) T.g_nth_walk T.F_nth_walk.kp T.b_nth_walk .nil pass0 (pa_cons (pv 0) (pa_cons (pv 3) pa_nil))) pe_int (fun _ _ => rfl)) (pv 1) (nomark _)) (pss_one (ps_ret pe_bl)) pss_nil)
      (pss_one (ps_ret (pe_or (pe_cmpR (op_eqK K hr.units) (pv 3) pe_int (nomark _)) (pe_or (pe_cmpR (op_neK K hr.units) (pe_ix (ix_K K) (pe_call (ok_nth_walk T) (hr.mono (by decide)) (by rfl) T.g_nth_walk T.F_nth_walk.kp T.b_nth_walk .nil pass0 (pa_cons (pv 0) (pa_cons (pe_op op_sub (pv 3) pe_int) pa_nil))) pe_int (fun _ _ => rfl)) (pv 1) (nomark _)) (pe_one (pe_cmpR op_lt (pe_callB (len_K K) (by rfl) T.n_len (by decide +kernel) (pa_cons (pe_call (ok_nth_walk T) (hr.mono (by decide)) (by rfl) T.g_nth_walk T.F_nth_walk.kp T.b_nth_walk .nil pass0 (pa_cons (pv 0) (pa_cons (pe_op op_sub (pv 3) pe_int) pa_nil))) pa_nil)) (pv 2) (nomark _)))))))))), ?_⟩
    have zs := Od.steps_len L
    obtain ⟨k, hk⟩ : ∃ k, (Od.steps L).idxOf f = k := ⟨_, rfl⟩
    have kl : k < 2 * L := by rw [← zs, ← hk]; exact List.idxOf_lt_length_of_mem hf
    have at_k : (Od.steps L)[k]? = some f := by rw [← hk]; exact Od.at_idx hf
    have hP : 0 < (2 * L - 1) ^ n := Nat.pow_pos (by omega)
    walk_at "go"
    refine r_rng1 (by omega) (by omega) (r_cmR (m := ((n : Int) + 1).toNat) (ys := ((List.range (n + 1)).map fun i => ((Od.tot L none i : Nat) : Int)).map V.int) (by simp) (by simp; omega) (fun _ => rfl) (fun i y H1 hi hy e1 Q' k => ?_) fun p7 H7 hp7 e7 h7 => ?_)
    · walk_at "go"
      refine ⟨L, i, by rw [Int.zero_add]; rfl, h1, h4, by omega, fun H8 e8 => ?_⟩
      rw [List.getElem?_map, List.getElem?_map, List.getElem?_range (by omega)] at hy
      cases hy
      exact k H8 e8
    walk_at "go"
    refine sum_go h7 ?_
    walk_at "go"
    refine ⟨L, rfl, h4, fun p H1 hp e1 k1 => ?_⟩
    walk_at "go"
    have e := e7.trans e1
    clear e7 e1 h7 hp7
    refine r_itL (l_of k1) (r_forL (xs := (Od.steps L).map V.int) (fun i σ' H' => i ≤ k ∧ Ex H H' ∧ SqL K H' p ((Od.steps L).map V.int) ∧ ∃ v4, σ' = [some (.int L), some (.int f), some (.int ((n : Int) + 1)), some (.int (((Od.S L (n + 1) + i * (2 * L - 1) ^ n : Nat)) : Int)), v4, none, none]) ⟨Nat.zero_le _, e, l_of k1, none, by rw [Nat.zero_mul, Nat.add_zero]; rfl⟩ (fun i σ' H' _ z => z.2.2.1) (fun i x σ' H' hx z => ?_) fun σ' H' z => ?_)
    · obtain ⟨ik, e, kp, v4, rfl⟩ := z
      rw [List.getElem?_map] at hx
      cases hn2 : (Od.steps L)[i]? with
      | none => rw [hn2] at hx; cases hx
      | some z =>
        rw [hn2] at hx
        cases hx
        have zin := List.mem_of_getElem? hn2
        walk_at "go"
        refine if_2 (fun h0 => ?_) fun h0 => ?_
        · have ek : i = k := by
            rw [h0, ← at_k] at hn2
            exact (List.getElem?_inj (by rw [zs]; omega) (Od.steps_nodup L)).mp hn2
          subst ek
          have lw := first_low (n := n) h1 kl
          have bn := bnd_low h1 h4 hn lw
          have sg := Od.S_ge h1 (n + 1)
          obtain ⟨low, hlow⟩ : ∃ low, Od.S L (n + 1) + i * (2 * L - 1) ^ n = low := ⟨_, rfl⟩
          rw [hlow] at bn lw ⊢
          walk_at "go"
          refine ⟨L, low, rfl, h1, h4, bn.a, bn.b, fun a1 u H1 e1 hu gu pu => ?_⟩
          obtain ⟨v, rfl⟩ := first_head (r := 0) h1 kl gu (by rw [pu, ← hlow]; rfl) hP at_k
          walk_at "go"
          refine r_ixT hu (at_int (by omega) rfl) ?_
          walk_at "go"
          rw [decide_eq_true (rfl : f = f)]
          walk_at "go"
          have e := e.trans e1
          clear e1 hu gu pu
          by_cases l1 : low = 1
          · rw [decide_eq_true (by omega : (low : Int) = 1)]
            walk_at "go"
            exact q H1 e
          rw [decide_eq_false (by omega : ¬ (low : Int) = 1)]
          walk_at "go"
          rw [show ((low : Nat) : Int) - 1 = ((low - 1 : Nat) : Int) by omega]
          refine ⟨L, low - 1, rfl, h1, h4, Nat.lt_of_le_of_lt (Nat.sub_le _ _) bn.a, fun z hz => bn.b z (Nat.le_trans hz (Nat.sub_le _ _)), fun a2 u H2 e2 hu gu pu => ?_⟩
          obtain ⟨y, v2, rfl⟩ : ∃ y v2, u = y :: v2 := by
            cases u with
            | nil =>
              have : Od.place L [] = 0 := rfl
              omega
            | cons y v2 => exact ⟨y, v2, rfl⟩
          walk_at "go"
          refine r_ixT hu (at_int (by omega) rfl) ?_
          walk_at "go"
          by_cases yf : y = f
          · rw [decide_eq_true yf]
            walk_at "go"
            rw [show ((low : Nat) : Int) - 1 = ((low - 1 : Nat) : Int) by omega]
            refine ⟨L, low - 1, rfl, h1, h4, Nat.lt_of_le_of_lt (Nat.sub_le _ _) bn.a, fun z hz => bn.b z (Nat.le_trans hz (Nat.sub_le _ _)), fun a3 u3 H3 e3 hu3 gu3 pu3 => ?_⟩
            walk_at "go"
            refine r_lenT hu3 ?_
            rw [List.length_map]
            walk_at "go"
            have eu := Od.place_inj gu3 gu (pu3.trans pu.symm)
            subst eu
            have i0 : i = 0 := by
              rcases Nat.eq_zero_or_pos i with h | h
              · exact h
              · exfalso
                have e5 : i * (2 * L - 1) ^ n = (i - 1) * (2 * L - 1) ^ n + (2 * L - 1) ^ n := by
                  obtain ⟨m, rfl⟩ : ∃ m, i = m + 1 := ⟨i - 1, by omega⟩
                  rw [Nat.add_mul, Nat.one_mul]
                  rfl
                have hx1 := List.getElem?_eq_getElem (l := Od.steps L) (i := i - 1) (by rw [zs]; omega)
                obtain ⟨v3, e6⟩ := first_head (n := n) (r := (2 * L - 1) ^ n - 1) (k := i - 1) h1 (by omega) gu3 (by rw [pu3]; omega) (by omega) hx1
                rw [← (List.cons.inj e6).1, yf, ← at_k] at hx1
                have := (List.getElem?_inj (by rw [zs]; omega) (Od.steps_nodup L)).mp hx1
                omega
            subst i0
            have lu : (y :: v2).length ≤ n := by
              rcases Nat.lt_or_ge n (y :: v2).length with h | h
              · have a := Od.S_mono (L := L) (show n + 1 ≤ (y :: v2).length from h)
                have b := Od.place_ge L (y :: v2)
                omega
              · exact h
            rw [decide_eq_true (by omega : ((y :: v2).length : Int) < (n : Int) + 1)]
            exact q H3 ((e.trans e2).trans e3)
          · rw [decide_eq_false yf]
            walk_at "go"
            exact q H2 (e.trans e2)
        · have ik2 : i < k := by
            rcases Nat.lt_or_ge i k with h | h
            · exact h
            · exfalso
              have : i = k := by omega
              subst this
              rw [at_k] at hn2
              exact h0 (Option.some.inj hn2).symm
          walk_at "go"
          refine ⟨L, rfl, h4, fun p2 H1 hp2 e1 k2 => ?_⟩
          walk_at "go"
          refine cm_steps h4 k2 (Od.bt L z n) (fun _ => rfl) (fun x hx H3 Q' e3 kk => ?_) fun p3 H3 e3 k3 => ?_
          · walk_at "go"
            exact ⟨L, n, z, x, rfl, h1, h4, zin, hx, by omega, kk⟩
          walk_at "go"
          refine r_sum (l_of k3) ?_
          rw [Od.sum_bt zin]
          walk_at "go"
          have es : (((Od.S L (n + 1) + i * (2 * L - 1) ^ n : Nat)) : Int) + (((2 * L - 1) ^ n : Nat) : Int) = (((Od.S L (n + 1) + (i + 1) * (2 * L - 1) ^ n : Nat)) : Int) := by
            rw [Nat.add_mul i 1, Nat.one_mul, ← Nat.add_assoc, Int.natCast_add (Od.S L (n + 1) + i * (2 * L - 1) ^ n)]
          rw [es]
          exact ⟨ik2, (e.trans e1).trans e3, ex_l e3 (ex_l e1 kp), _, rfl⟩
    · obtain ⟨ik, _⟩ := z
      rw [List.length_map, zs] at ik
      omega
end
end Lw
namespace Lw
open PySem PySem.Spec PyProof.Rows L2 Evl

local macro_rules | `(tactic| walk_at "go") => `(tactic| repeat (first
  | with_reducible refine st_seq ?_ | with_reducible refine st_set ?_ | with_reducible refine st_asg ?_ | with_reducible refine st_ret ?_ | with_reducible refine st_drop ?_ | with_reducible refine st_if ?_
  | with_reducible refine st_c ?_ | ((with_reducible refine' st_v ?h ?_); (case h => exact rfl)) | with_reducible refine st_n ?_ | with_reducible refine st_cons ?_ | with_reducible refine st_op ?_ | with_reducible refine st_un ?_
  | with_reducible refine st_cb ?_ | with_reducible refine st_test ?_ | with_reducible refine st_call ?_ | with_reducible refine st_callK ?_ | with_reducible refine st_sl ?_ | with_reducible refine st_par ?_ | with_reducible refine st_par3 ?_ | with_reducible refine st_tru ?_
  | with_reducible refine st_and ?_ | with_reducible refine st_or ?_ | with_reducible refine st_not ?_ | with_reducible refine st_B ?_ | with_reducible refine st_andV ?_ | with_reducible refine st_orV ?_ | with_reducible refine st_notV ?_ | with_reducible refine st_ifE ?_
  | with_reducible refine st_part ?_ | with_reducible refine st_nop ?_ | with_reducible refine st_sub ?_ | with_reducible refine st_chain ?_ | with_reducible refine st_bl ?_ | with_reducible refine st_in ?_ | with_reducible refine r_truB ?_
  | with_reducible refine st_nameG ?_ | with_reducible refine if_T ?_ | with_reducible refine if_F ?_ | with_reducible refine if_nT ?_ | with_reducible refine if_nF ?_
  | with_reducible refine r_add ?_ | with_reducible refine r_0 ?_ | with_reducible refine r_neg ?_ | with_reducible refine r_intI ?_ | with_reducible refine r_intB ?_ | with_reducible refine r_abs ?_ | with_reducible refine r_max2 ?_ | with_reducible refine r_min2 ?_ | with_reducible refine r_eqI ?_ | with_reducible refine r_neI ?_
  | with_reducible refine st_nxt ?_ | with_reducible refine st_cnt ?_ | with_reducible refine st_brk ?_ | with_reducible refine st_retn ?_
  | with_reducible refine st_lstN ?_ | with_reducible refine st_tupN ?_
  | with_reducible refine st_for ?_ | with_reducible refine st_lc ?_ | with_reducible refine st_lc2 ?_ | with_reducible refine st_rng1 ?_ | with_reducible refine st_rng2 ?_ | with_reducible refine st_rng3 ?_ | with_reducible refine st_itL ?_ | with_reducible refine st_itT ?_ | with_reducible refine st_rev ?_ | with_reducible refine st_enumE ?_ | with_reducible refine st_zip3 ?_ | with_reducible refine st_lvals ?_ | with_reducible refine st_dc ?_ | with_reducible refine st_keys ?_ | with_reducible refine st_dget ?_ | with_reducible refine st_din ?_ | with_reducible refine st_dnin ?_ | with_reducible refine st_dput ?_ | with_reducible refine st_dnew ?_ | with_reducible refine st_lstRg ?_ | with_reducible refine st_rg2 ?_ | with_reducible refine r_twoI ?_ | with_reducible refine st_bm ?_ | with_reducible refine st_bm0 ?_
  | ((with_reducible refine' st_aug ?h ?_); (case h => exact rfl)) | with_reducible refine r_augI ?_ | with_reducible refine r_eqB ?_
  | dsimp only))
section
variable {P : Program} {w : World} {K : PySem.W.Frag} {mg : Str → Option Value} {base : Heap} {A : Ad}

def sp__law_right (K : PySem.W.Frag) : Sp := fun vs H Q _ => ∃ w n, vs = [.ref w] ∧ Well H w n ∧ n ≤ 1000 ∧ ∀ H1, ExW w H H1 → Q (.bl true) H1
theorem ok__law_right (T : Tx K mg A) : FnOk P w K mg base CX0 7 A.a__law_right A.f__law_right P__law_right (sp__law_right K) := by
  refine T.F__law_right.ok sc__law_right (fun vs H Q E h => ?_) (fun cdv A' outer s H vs Q E hr h => ?_)
  · obtain ⟨w, n, rfl, _⟩ := h
    rfl
  · obtain ⟨w, n, rfl, hw, hn, q⟩ := h
    refine ⟨_, (pss_cons (ps_par (i := 1) (j := 2) (by rfl) sc__law_right.nd rfl rfl (by decide) rfl rfl (pa_cons (pe_op (op_addK K) pe_int (pe_call (ok__law_take T) (hr.mono (by decide)) (by rfl) T.g__law_take T.F__law_take.kp T.b__law_take .nil pass0 (pa_cons (pv 0) (pa_cons pe_int pa_nil)))) (pa_cons pe_int pa_nil)) (by rfl))
      (Evl.pss_cut (ps_if (pt_cmpR op_gt (pv 1) pe_int (nomark _)) (pss_one (ps_set (i := 2) sc__law_right.nd rfl (Or.inl rfl) (pe_ix (ix_K K) (pe_lst (pa_cons (pe_op op_powW pe_int pe_int) (pa_cons (pe_op op_powW pe_int pe_int) (pa_cons (pe_op op_sub (pe_op op_powW pe_int pe_int) pe_int) pa_nil)))) (pe_call (ok__law_take T) (hr.mono (by decide)) (by rfl) T.g__law_take T.F__law_take.kp T.b__law_take .nil pass0 (pa_cons (pv 0) (pa_cons pe_int pa_nil))) (fun _ _ => rfl)))) pss_nil)
      (pss_cons (ps_par (i := 3) (j := 4) (by rfl) sc__law_right.nd rfl rfl (by decide) rfl rfl (pa_cons (pe_call (ok__law_take T) (hr.mono (by decide)) (by rfl) T.g__law_take T.F__law_take.kp T.b__law_take .nil pass0 (pa_cons (pv 0) (pa_cons (pe_op (op_addK K) (pv 2) pe_int) pa_nil))) (pa_cons (pe_ix (ix_K K) (pe_lst (pa_cons (pe_call (ok__law_take T) (hr.mono (by decide)) (by rfl) T.g__law_take T.F__law_take.kp T.b__law_take .nil pass0 (pa_cons (pv 0) (pa_cons (pe_op (op_addK K) (pv 2) pe_int) pa_nil))) (pa_cons (pv 2) pa_nil))) (pe_callTy int_K (by rfl) T.n_int (by decide +kernel) (pa_cons (pe_cmpR (op_eqK K hr.units) (pe_call (ok__law_take T) (hr.mono (by decide)) (by rfl) T.g__law_take T.F__law_take.kp T.b__law_take .nil pass0 (pa_cons (pv 0) (pa_cons pe_int pa_nil))) pe_int (nomark _)) pa_nil)) (fun _ _ => rfl)) pa_nil)) (by rfl))
      (pss_cons (ps_if (PW.pt (pw_or (pt_not (pt_truK K (pe_call (ok__law_there T) (hr.mono (by decide)) (by rfl) T.g__law_there T.F__law_there.kp T.b__law_there .nil pass0 (pa_cons (pv 1) (pa_cons (pv 3) (pa_cons (pv 4) pa_nil)))))) (pw_or (pt_not (pt_truK K (pe_call (ok__law_there T) (hr.mono (by decide)) (by rfl) T.g__law_there T.F__law_there.kp T.b__law_there .nil pass0 (pa_cons (pv 1) (pa_cons (pv 4) (pa_cons (pv 3) pa_nil)))))) (pw_or1 (pt_not (pt_truK K (pe_call (ok__law_there T) (hr.mono (by decide)) (by rfl) T.g__law_there T.F__law_there.kp T.b__law_there .nil pass0 (pa_cons (pv 1) (pa_cons (pv 3) (pa_cons (pv 3) pa_nil)))))))))) (pss_one (ps_ret pe_bl)) pss_nil)
      (pss_cons (ps_asg (pe_tup (pa_cons (pe_call (ok__law_steps T) (hr.mono (by decide)) (by rfl) T.g__law_steps T.F__law_steps.kp T.b__law_steps .nil pass0 (pa_cons (pv 1) pa_nil)) (pa_cons (pe_call (ok__law_take T) (hr.mono (by decide)) (by rfl) T.g__law_take T.F__law_take.kp T.b__law_take .nil pass0 (pa_cons (pv 0) (pa_cons pe_int pa_nil))) pa_nil))) (pg_tupK K (by rfl) (pgs_cons (pg_name (i := 5) sc__law_right.nd rfl (Or.inr rfl)) (pgs_cons (pg_name (i := 6) sc__law_right.nd rfl (Or.inl rfl)) pgs_nil))))
      (pss_cons (ps_set (i := 7) sc__law_right.nd rfl (Or.inl rfl) (pe_callTy (tuple_K K) (by rfl) T.n_tuple (by decide +kernel) (pa_cons (pe_lc (own := [("_law_turn", 12)]) rfl sc__law_right.nd (pi_range1 (by rfl) T.n_range (pa_cons (pe_op (op_addK K) pe_int (pe_call (ok__law_take T) (hr.mono (by decide)) (by rfl) T.g__law_take T.F__law_take.kp T.b__law_take .nil pass0 (pa_cons (pv 0) (pa_cons pe_int pa_nil)))) pa_nil)) (blkOk_by (own := [("_law_turn", 12)]) (N := N__law_right) (sc := defScope s__law_right) (by decide +kernel)) (fun _ _ _ _ _ => (pg_name (i := 12) sc__law_right.nd rfl (Or.inl rfl))) (fun _ _ _ _ _ => pts_nil) (fun _ _ _ _ _ => (pe_ix (ix_K K) (pv 5) (pe_call (ok__law_take T) (hr.mono (by decide)) (by rfl) T.g__law_take T.F__law_take.kp T.b__law_take .nil pass0 (pa_cons (pv 0) (pa_cons (pe_callB (len_K K) (by rfl) T.n_len (by decide +kernel) (pa_cons (pv 5) pa_nil)) pa_nil))) (fun _ _ => rfl)))) pa_nil)))
      (pss_cons (ps_if (pt_not (pt_truK K (pe_call (ok__law_long T) (hr.mono (by decide)) (by rfl) T.g__law_long T.F__law_long.kp T.b__law_long .nil pass0 (pa_cons (pv 1) (pa_cons (pv 7) (pa_cons (pe_op op_sub pe_int (pe_call (ok__law_take T) (hr.mono (by decide)) (by rfl) T.g__law_take T.F__law_take.kp T.b__law_take .nil pass0 (pa_cons (pv 0) (pa_cons pe_int pa_nil)))) pa_nil)))))) (pss_one (ps_ret pe_bl)) pss_nil)
      (pss_cons (ps_if (PW.pt (pw_or (pt_not (pt_truK K (pe_call (ok__law_ends T) (hr.mono (by decide)) (by rfl) T.g__law_ends T.F__law_ends.kp T.b__law_ends .nil pass0 (pa_cons (pv 1) (pa_cons (pv 6) pa_nil))))) (pw_or (pt_not (pt_truK K (pe_call (ok__law_ends T) (hr.mono (by decide)) (by rfl) T.g__law_ends T.F__law_ends.kp T.b__law_ends .nil pass0 (pa_cons (pv 1) (pa_cons pe_int pa_nil))))) (pw_or1 (pt_not (pt_truK K (pe_call (ok__law_ends T) (hr.mono (by decide)) (by rfl) T.g__law_ends T.F__law_ends.kp T.b__law_ends .nil pass0 (pa_cons (pv 1) (pa_cons pe_int pa_nil))))))))) (pss_one (ps_ret pe_bl)) pss_nil)
      (pss_cons (ps_par (i := 8) (j := 9) (by rfl) sc__law_right.nd rfl rfl (by decide) rfl rfl (pa_cons (pe_ix (ix_K K) (pv 5) (pe_call (ok__law_take T) (hr.mono (by decide)) (by rfl) T.g__law_take T.F__law_take.kp T.b__law_take .nil pass0 (pa_cons (pv 0) (pa_cons (pe_callB (len_K K) (by rfl) T.n_len (by decide +kernel) (pa_cons (pv 5) pa_nil)) pa_nil))) (fun _ _ => rfl)) (pa_cons (pe_ix (ix_K K) (pv 5) (pe_call (ok__law_take T) (hr.mono (by decide)) (by rfl) T.g__law_take T.F__law_take.kp T.b__law_take .nil pass0 (pa_cons (pv 0) (pa_cons (pe_callB (len_K K) (by rfl) T.n_len (by decide +kernel) (pa_cons (pv 5) pa_nil)) pa_nil))) (fun _ _ => rfl)) pa_nil)) (by rfl))
      (pss_cons (ps_par (i := 10) (j := 11) (by rfl) sc__law_right.nd rfl rfl (by decide) rfl rfl (pa_cons (pe_op (op_addK K) pe_int (pe_call (ok__law_take T) (hr.mono (by decide)) (by rfl) T.g__law_take T.F__law_take.kp T.b__law_take .nil pass0 (pa_cons (pv 0) (pa_cons pe_int pa_nil)))) (pa_cons (pe_op (op_addK K) pe_int (pe_call (ok__law_take T) (hr.mono (by decide)) (by rfl) T.g__law_take T.F__law_take.kp T.b__law_take .nil pass0 (pa_cons (pv 0) (pa_cons pe_int pa_nil)))) pa_nil)) (by rfl))
      (pss_cons (ps_if (PW.pt (pw_or (pt_not (pt_truK K (pe_call (ok__law_shares T) (hr.mono (by decide)) (by rfl) T.g__law_shares T.F__law_shares.kp T.b__law_shares .nil pass0 (pa_cons (pv 1) (pa_cons (pv 8) (pa_cons (pv 9) (pa_cons (pv 10) pa_nil))))))) (pw_or1 (pt_not (pt_truK K (pe_call (ok__law_joined T) (hr.mono (by decide)) (by rfl) T.g__law_joined T.F__law_joined.kp T.b__law_joined .nil pass0 (pa_cons (pv 1) (pa_cons (pv 8) (pa_cons (pv 9) (pa_cons (pv 10) (pa_cons (pv 11) pa_nil))))))))))) (pss_one (ps_ret pe_bl)) pss_nil)
      (pss_cons (ps_if (PW.pt (pw_or (pt_not (pt_truK K (pe_call (ok__law_joined T) (hr.mono (by decide)) (by rfl) T.g__law_joined T.F__law_joined.kp T.b__law_joined .nil pass0 (pa_cons (pv 1) (pa_cons (pv 8) (pa_cons (pv 8) (pa_cons pe_int (pa_cons (pv 11) pa_nil)))))))) (pw_or1 (pt_not (pt_truK K (pe_call (ok__law_shares T) (hr.mono (by decide)) (by rfl) T.g__law_shares T.F__law_shares.kp T.b__law_shares .nil pass0 (pa_cons (pv 1) (pa_cons (pv 8) (pa_cons (pe_un un_neg (pv 8)) (pa_cons pe_int pa_nil)))))))))) (pss_one (ps_ret pe_bl)) pss_nil)
      (pss_one (ps_ret (pe_and (pe_call (ok__law_first_steps T) (hr.mono (by decide)) (by rfl) T.g__law_first_steps T.F__law_first_steps.kp T.b__law_first_steps .nil pass0 (pa_cons (pv 1) (pa_cons (pv 8) (pa_cons (pe_op (op_addK K) pe_int (pe_call (ok__law_take T) (hr.mono (by decide)) (by rfl) T.g__law_take T.F__law_take.kp T.b__law_take .nil pass0 (pa_cons (pv 0) (pa_cons pe_int pa_nil)))) pa_nil)))) (pe_one (pe_call (ok__law_first_steps T) (hr.mono (by decide)) (by rfl) T.g__law_first_steps T.F__law_first_steps.kp T.b__law_first_steps .nil pass0 (pa_cons (pv 1) (pa_cons (pv 9) (pa_cons pe_int pa_nil)))))))))))))))))))), ?_⟩
    walk_at "go"
    refine ⟨w, n, 4, rfl, by omega, by omega, hw, by omega, fun r1 H1 r10 r14 e1 d1 => ?_⟩
    have s1 := (DrS.refl hw).on e1 d1
    clear e1 d1
    obtain ⟨L, hL⟩ : ∃ L : Nat, 1 + r1 = (L : Int) := ⟨(1 + r1).toNat, by omega⟩
    have l1 : 1 ≤ L := by omega
    have l4 : L ≤ 4 := by omega
    walk_at "go"
    refine ⟨_, _, rfl, ?_⟩
    walk_at "go"
    rw [hL]
    refine q_cut (M := fun σ' H' => ∃ m : Nat, DrS w H (n + 2) H' ∧ m < 2 ^ 215 ∧ (L = 1 → m = 799) ∧ σ' = [some (.ref w), some (.int L), some (.int (m : Int)), none, none, none, none, none, none, none, none, none, none]) ?_ ?_
    · walk_at "go"
      refine if_2 (fun h0 => ?_) fun h0 => ?_
      · walk_at "go"
        refine r_pow (k := 3) (a := 4) (by decide) (by decide) (by decide) ?_
        walk_at "go"
        refine r_pow (k := 20) (a := 4) (by decide) (by decide) (by decide) ?_
        walk_at "go"
        refine r_pow (k := 60) (a := 4) (by decide) (by decide) (by decide) ?_
        walk_at "go"
        refine r_newL (by simp) fun c H2 hc e2 k2 => ?_
        have s2 := s1.ext e2
        have hcw : c ≠ w := s1.well.ne hc
        walk_at "go"
        refine ⟨w, _, 3, rfl, by omega, by omega, s2.well, by omega, fun r2 H3 r20 r24 e3 d3 => ?_⟩
        have s3 := s2.on e3 d3
        have k3 := e3 _ _ k2 hcw
        walk_at "go"
        obtain ⟨m, hm, hm2⟩ : ∃ m : Nat, atI [V.int (10 ^ (((3 : Nat) : Int)).toNat), V.int (10 ^ (((20 : Nat) : Int)).toNat), V.int (10 ^ (((60 : Nat) : Int)).toNat - 2)] r2 = some (.int (m : Int)) ∧ m < 2 ^ 215 := by
          have hr : r2 = 0 ∨ r2 = 1 ∨ r2 = 2 := by omega
          rcases hr with rfl | rfl | rfl
          · exact ⟨10 ^ 3, rfl, by decide⟩
          · exact ⟨10 ^ 20, rfl, by decide⟩
          · exact ⟨10 ^ 60 - 2, rfl, by decide⟩
        refine r_ixL (l_of k3) hm ?_
        walk_at "go"
        exact ⟨m, s3, hm2, fun e => absurd h0 (by omega), rfl⟩
      · walk_at "go"
        exact ⟨799, s1.more (by omega), by decide, fun _ => rfl, rfl⟩
    clear s1
    rintro σ' H1 ⟨m, s1, hm, hm1, rfl⟩
    have bnd : ∀ N : Nat, N ≤ m → Bnd L N := fun N hN => by
      refine ⟨?_, fun z hz => ?_⟩
      · have : (2 : Nat) ^ 216 ≤ 2 ^ 2000 := Nat.pow_le_pow_right (by decide) (by decide)
        omega
      · rcases Nat.lt_or_ge 600 z with h | h
        · exfalso
          by_cases h1 : L = 1
          · have := hm1 h1
            have e : ∀ z, Od.S 1 (z + 1) = 2 * z + 1 := fun z => by
              induction z with
              | zero => rfl
              | succ z ih => rw [Od.S, ih, Od.tot_none]; simp; omega
            subst h1
            have := Od.S_mono (L := 1) (show 600 + 1 ≤ z by omega)
            rw [e] at this
            omega
          · have a := Od.S_mono (L := L) (show 600 + 1 ≤ z by omega)
            have b := Od.S_pow (L := L) 600
            have c1 : (2 : Nat) ^ 600 ≤ (2 * L - 1) ^ 600 := Nat.pow_le_pow_left (by omega) _
            have c2 : (2 : Nat) ^ 216 ≤ 2 ^ 600 := Nat.pow_le_pow_right (by decide) (by decide)
            omega
        · exact h
    walk_at "go"
    refine ⟨w, _, (m : Int) + 1, rfl, by omega, by omega, s1.well, by omega, fun r2 H2 r20 r2m e2 d2 => ?_⟩
    have s2 := s1.on e2 d2
    clear e2 d2 s1
    walk_at "go"
    refine ⟨w, _, (m : Int) + 1, rfl, by omega, by omega, s2.well, by omega, fun r3 H3 r30 r3m e3 d3 => ?_⟩
    have s3 := s2.on e3 d3
    clear e3 d3 s2
    walk_at "go"
    refine r_newL (by simp) fun c H4 hc e4 k4 => ?_
    have s4 := s3.ext e4
    have hcw : c ≠ w := s3.well.ne hc
    clear e4 s3
    walk_at "go"
    refine ⟨w, _, 4, rfl, by omega, by omega, s4.well, by omega, fun r5 H5 r50 r55 e5 d5 => ?_⟩
    have s5 := s4.on e5 d5
    have k5 := e5 _ _ k4 hcw
    clear e5 d5 s4 k4
    walk_at "go"
    obtain ⟨N, hN, hN2⟩ : ∃ N : Nat, atI [V.int r3, V.int (m : Int)] (if decide (r5 = 0) = true then 1 else 0) = some (.int (N : Int)) ∧ N ≤ m := by
      by_cases h6 : r5 = 0
      · rw [decide_eq_true h6]
        exact ⟨m, rfl, Nat.le_refl _⟩
      · rw [decide_eq_false h6]
        refine ⟨r3.toNat, ?_, by omega⟩
        rw [show ((r3.toNat : Nat) : Int) = r3 by omega]
        rfl
    refine r_ixL (l_of k5) hN ?_
    clear k5 hcw hc hN
    obtain ⟨M, hM⟩ : ∃ M : Nat, r2 = (M : Int) := ⟨r2.toNat, by omega⟩
    subst hM
    have bN := bnd N hN2
    have bM := bnd M (by omega)
    walk_at "go"
    refine ⟨_, _, rfl, ?_⟩
    walk_at "go"
    refine ⟨L, M, N, rfl, l1, l4, bM, bN, fun H6 e6 => ?_⟩
    refine r_truB ?_
    walk_at "go"
    refine ⟨L, N, M, rfl, l1, l4, bN, bM, fun H7 e7 => ?_⟩
    refine r_truB ?_
    walk_at "go"
    refine ⟨L, M, M, rfl, l1, l4, bM, bM, fun H8 e8 => ?_⟩
    refine r_truB ?_
    have s8 := s5.ext ((e6.trans e7).trans e8)
    clear e6 e7 e8 s5 bN bM bnd hm hm1 r2m r30 r3m r50 r55
    walk_at "go"
    refine ⟨L, rfl, l4, fun p H1 hp e1 k1 => ?_⟩
    have s1 := s8.ext e1
    have hpw : p ≠ w := s8.well.ne hp
    have zs := Od.steps_len L
    clear e1 s8 hp
    walk_at "go"
    refine ⟨w, _, 61, rfl, by omega, by omega, s1.well, by omega, fun r6 H2 r60 r6m e2 d2 => ?_⟩
    have s2 := s1.on e2 d2
    have k2 := e2 _ _ k1 hpw
    clear e2 d2 s1 k1
    obtain ⟨Z, hZ⟩ : ∃ Z : Nat, r6 = (Z : Int) := ⟨r6.toNat, by omega⟩
    subst hZ
    walk_at "go"
    refine r_newT (by simp) fun t H3 _ e3 k3 => ?_
    have s3 := s2.ext e3
    have k4 := e3 _ _ k2
    clear e3 s2 k2
    refine r_tup2 (t_of k3) ?_
    clear k3
    walk_at "go"
    refine ⟨w, _, 20, rfl, by omega, by omega, s3.well, by omega, fun r7 H4 r70 r7m e4 d4 => ?_⟩
    have s4 := s3.on e4 d4
    have k5 := e4 _ _ k4 hpw
    clear e4 d4 s3 k4
    walk_at "go"
    refine r_rng1 (by omega) (by omega) (r_cmRA (m := (1 + r7).toNat) (fun i ys H' => DrS w H (n + 50 + i) H' ∧ H' p = some (.lst ((Od.steps L).map V.int)) ∧ ∃ ns : List Int, ys = ns.map V.int ∧ ns.length = i ∧ ∀ x ∈ ns, x ∈ Od.steps L) (by omega) (fun _ => rfl) (fun D hD o => ⟨(s4.more (by omega)).new hD, by rw [upd_ne (ne_of_none k5 hD)]; exact k5, [], rfl, rfl, fun x hx => nomatch hx⟩)
      (fun i H5 D acc hi za h5 u5 Q' k => ?_) fun D H5 xs hD zx h5 u5 => ?_)
    · obtain ⟨hDw, hD0⟩ := DrS.at fun o => (u5 o).1
      have u6 := u5 (.lst acc)
      rw [upd_id h5] at u6
      obtain ⟨s5, k6, ns, rfl, zn, hns⟩ := u6
      have hpD : p ≠ D := fun e => by
        have a := (u5 (.lst [])).2.1
        rw [e, upd_same] at a
        have b := congrArg (fun z => match z with | some (HO.lst l) => l.length | _ => 0) a
        simp [zs] at b
        omega
      walk_at "go"
      refine r_lenL (l_of k6) ?_
      rw [List.length_map, zs]
      refine ⟨w, _, ((2 * L : Nat) : Int), rfl, by omega, by omega, s5.well, by omega, fun r8 H6 r80 r8m e6 d6 => ?_⟩
      have s6 := s5.on e6 d6
      have k7 := e6 _ _ k6 hpw
      have h6 := e6 _ _ h5 hDw
      have hx := List.getElem?_eq_getElem (l := Od.steps L) (i := r8.toNat) (by rw [zs]; omega)
      refine r_ixL (l_of k7) (at_int r80 hx) ?_
      refine k _ H6 h6 fun o => ⟨(s6.put hDw hD0).more (by omega), by rw [upd_ne hpD]; exact k7, ns ++ [_], by rw [List.map_append]; rfl, by rw [List.length_append, zn]; rfl, fun x hx => ?_⟩
      rcases List.mem_append.mp hx with hx | hx
      · exact hns x hx
      · rw [List.mem_singleton.mp hx]
        exact List.getElem_mem _
    have hDw : D ≠ w := s4.well.ne hD
    have u6 := u5 (.lst xs)
    rw [upd_id h5] at u6
    obtain ⟨s5, k6, ns, rfl, zn, hns⟩ := u6
    clear u5 hD s4 k5
    walk_at "go"
    refine r_tupL (l_of h5) fun t2 H6 _ e6 t6 => ?_
    have s6 := s5.ext e6
    have k7 := e6 _ _ k6
    clear e6 s5 h5 k6
    walk_at "go"
    refine ⟨w, _, 41, rfl, by omega, by omega, s6.well, by omega, fun r8 H7 r80 r8m e7 d7 => ?_⟩
    have s7 := s6.on e7 d7
    have k8 := e7 _ _ k7 hpw
    have t7 := s6.well.t e7 t6
    clear e7 d7 s6 t6 k7
    walk_at "go"
    refine ⟨L, t2, ns, 20 - r8, rfl, l1, l4, t7, fun x hx => Od.mem_steps.mp (hns x hx), by omega, by omega, by omega, fun H8 e8 => ?_⟩
    refine r_truB ?_
    have s8 := s7.ext e8
    have k9 := e8 _ _ k8
    clear e8 s7 k8 t7
    walk_at "go"
    refine ⟨L, Z, rfl, l1, l4, by omega, fun H9 e9 => ?_⟩
    refine r_truB ?_
    walk_at "go"
    refine ⟨L, 0, rfl, l1, l4, by omega, fun HA eA => ?_⟩
    refine r_truB ?_
    walk_at "go"
    refine ⟨L, 1, rfl, l1, l4, by omega, fun HB eB => ?_⟩
    refine r_truB ?_
    have s9 := s8.ext ((e9.trans eA).trans eB)
    have kA := eB _ _ (eA _ _ (e9 _ _ k9))
    clear e9 eA eB s8 k9
    walk_at "go"
    refine r_lenL (l_of kA) ?_
    rw [List.length_map, zs]
    refine ⟨w, _, ((2 * L : Nat) : Int), rfl, by omega, by omega, s9.well, by omega, fun f0 H1 f00 f0m e1 d1 => ?_⟩
    have s1 := s9.on e1 d1
    have k1 := e1 _ _ kA hpw
    clear e1 d1 s9 kA
    have hf := List.getElem?_eq_getElem (l := Od.steps L) (i := f0.toNat) (by rw [zs]; omega)
    refine r_ixL (l_of k1) (at_int f00 hf) ?_
    have hfm := List.mem_of_getElem? hf
    generalize (Od.steps L)[f0.toNat] = f at hfm
    walk_at "go"
    refine r_lenL (l_of k1) ?_
    rw [List.length_map, zs]
    refine ⟨w, _, ((2 * L : Nat) : Int), rfl, by omega, by omega, s1.well, by omega, fun g0 H2 g00 g0m e2 d2 => ?_⟩
    have s2 := s1.on e2 d2
    have k2 := e2 _ _ k1 hpw
    clear e2 d2 s1 k1 hf
    have hg := List.getElem?_eq_getElem (l := Od.steps L) (i := g0.toNat) (by rw [zs]; omega)
    refine r_ixL (l_of k2) (at_int g00 hg) ?_
    have hgm := List.mem_of_getElem? hg
    generalize (Od.steps L)[g0.toNat] = g at hgm
    clear hg
    walk_at "go"
    refine ⟨_, _, rfl, ?_⟩
    walk_at "go"
    refine ⟨w, _, 60, rfl, by omega, by omega, s2.well, by omega, fun a0 H3 a00 a0m e3 d3 => ?_⟩
    have s3 := s2.on e3 d3
    walk_at "go"
    refine ⟨w, _, 40, rfl, by omega, by omega, s3.well, by omega, fun b0 H4 b00 b0m e4 d4 => ?_⟩
    have s4 := s3.on e4 d4
    clear e3 d3 e4 d4 s2 s3 k2
    walk_at "go"
    refine ⟨_, _, rfl, ?_⟩
    obtain ⟨a, ha⟩ : ∃ a : Nat, 1 + a0 = (a : Int) + 1 := ⟨a0.toNat, by omega⟩
    obtain ⟨b, hb⟩ : ∃ b : Nat, 1 + b0 = (b : Int) + 1 := ⟨b0.toNat, by omega⟩
    rw [ha, hb]
    walk_at "go"
    refine ⟨L, a, f, g, rfl, l1, l4, hfm, hgm, by omega, fun H5 e5 => ?_⟩
    refine r_truB ?_
    walk_at "go"
    refine ⟨L, a, b, f, g, rfl, l1, l4, hfm, hgm, by omega, by omega, fun H6 e6 => ?_⟩
    refine r_truB ?_
    walk_at "go"
    refine ⟨L, 0, b, f, f, rfl, l1, l4, hfm, hfm, by omega, by omega, fun H7 e7 => ?_⟩
    refine r_truB ?_
    walk_at "go"
    refine ⟨L, 0, f, -f, rfl, l1, l4, hfm, neg_in hfm, by omega, fun H8 e8 => ?_⟩
    refine r_truB ?_
    have s5 := s4.ext (((e5.trans e6).trans e7).trans e8)
    clear e5 e6 e7 e8 s4
    walk_at "go"
    refine ⟨w, _, 60, rfl, by omega, by omega, s5.well, by omega, fun c0 H9 c00 c0m e9 d9 => ?_⟩
    have s6 := s5.on e9 d9
    obtain ⟨c, hc⟩ : ∃ c : Nat, 1 + c0 = (c : Int) + 1 := ⟨c0.toNat, by omega⟩
    walk_at "go"
    rw [hc]
    refine ⟨L, c, f, rfl, l1, l4, hfm, by omega, fun HA eA => ?_⟩
    walk_at "go"
    refine ⟨L, 0, g, rfl, l1, l4, hgm, by omega, fun HB eB => ?_⟩
    exact q HB (s6.ext (eA.trans eB)).ex
end
end Lw
namespace Lw
open PySem PySem.Spec PyProof.Rows L2 Evl

local macro_rules | `(tactic| walk_at "go") => `(tactic| repeat (first
  | with_reducible refine st_seq ?_ | with_reducible refine st_set ?_ | with_reducible refine st_asg ?_ | with_reducible refine st_ret ?_ | with_reducible refine st_drop ?_ | with_reducible refine st_if ?_
  | with_reducible refine st_c ?_ | ((with_reducible refine' st_v ?h ?_); (case h => exact rfl)) | with_reducible refine st_n ?_ | with_reducible refine st_cons ?_ | with_reducible refine st_op ?_ | with_reducible refine st_un ?_
  | with_reducible refine st_cb ?_ | with_reducible refine st_test ?_ | with_reducible refine st_call ?_ | with_reducible refine st_callK ?_ | with_reducible refine st_sl ?_ | with_reducible refine st_par ?_ | with_reducible refine st_par3 ?_ | with_reducible refine st_tru ?_
  | with_reducible refine st_and ?_ | with_reducible refine st_or ?_ | with_reducible refine st_not ?_ | with_reducible refine st_B ?_ | with_reducible refine st_andV ?_ | with_reducible refine st_orV ?_ | with_reducible refine st_notV ?_ | with_reducible refine st_ifE ?_
  | with_reducible refine st_part ?_ | with_reducible refine st_nop ?_ | with_reducible refine st_sub ?_ | with_reducible refine st_chain ?_ | with_reducible refine st_bl ?_ | with_reducible refine st_in ?_ | with_reducible refine r_truB ?_
  | with_reducible refine st_nameG ?_ | with_reducible refine if_T ?_ | with_reducible refine if_F ?_ | with_reducible refine if_nT ?_ | with_reducible refine if_nF ?_
  | with_reducible refine r_add ?_ | with_reducible refine r_0 ?_ | with_reducible refine r_neg ?_ | with_reducible refine r_intI ?_ | with_reducible refine r_intB ?_ | with_reducible refine r_abs ?_ | with_reducible refine r_max2 ?_ | with_reducible refine r_min2 ?_ | with_reducible refine r_eqI ?_ | with_reducible refine r_neI ?_
  | with_reducible refine st_nxt ?_ | with_reducible refine st_cnt ?_ | with_reducible refine st_brk ?_ | with_reducible refine st_retn ?_
  | with_reducible refine st_lstN ?_ | with_reducible refine st_tupN ?_
  | with_reducible refine st_for ?_ | with_reducible refine st_lc ?_ | with_reducible refine st_lc2 ?_ | with_reducible refine st_rng1 ?_ | with_reducible refine st_rng2 ?_ | with_reducible refine st_rng3 ?_ | with_reducible refine st_itL ?_ | with_reducible refine st_itT ?_ | with_reducible refine st_rev ?_ | with_reducible refine st_enumE ?_ | with_reducible refine st_zip3 ?_ | with_reducible refine st_lvals ?_ | with_reducible refine st_dc ?_ | with_reducible refine st_keys ?_ | with_reducible refine st_dget ?_ | with_reducible refine st_din ?_ | with_reducible refine st_dnin ?_ | with_reducible refine st_dput ?_ | with_reducible refine st_dnew ?_ | with_reducible refine st_lstRg ?_ | with_reducible refine st_rg2 ?_ | with_reducible refine r_twoI ?_ | with_reducible refine st_bm ?_ | with_reducible refine st_bm0 ?_
  | ((with_reducible refine' st_aug ?h ?_); (case h => exact rfl)) | with_reducible refine r_augI ?_ | with_reducible refine r_eqB ?_
  | dsimp only))
section
variable {P : Program} {w : World} {K : PySem.W.Frag} {mg : Str → Option Value} {base : Heap} {A : Ad}

def sp_law (K : PySem.W.Frag) : Sp := fun vs H Q _ => ∃ (a : Addr) (ns : List Int), vs = [.ref a] ∧ SqL K H a (ns.map V.int) ∧ ns.length ≤ 63 ∧ ∀ H', Q (.bl true) H'
theorem ok_law (T : Tx K mg A) : FnOk P w K mg base CX0 8 A.a_law A.f_law P_law (sp_law K) := by
  refine T.F_law.ok sc_law (fun vs H Q E h => ?_) (fun cdv A' outer s H vs Q E hr h => ?_)
  · obtain ⟨a, ns, rfl, _⟩ := h
    rfl
  · obtain ⟨a, sc, rfl, hS, hlen, q⟩ := h
    refine ⟨_, (pss_cons (ps_for PassesOwn.never rfl (pi_range1 (by rfl) T.n_range (pa_cons (pe_callB (max2_K rfl) (by rfl) T.n_max (by decide +kernel) (pa_cons pe_int (pa_cons (pe_callB (min2_K rfl) (by rfl) T.n_min (by decide +kernel) (pa_cons pe_int (pa_cons (pe_callB (len_K K) (by rfl) T.n_len (by decide +kernel) (pa_cons (pv 0) pa_nil)) pa_nil))) pa_nil))) pa_nil)) (pg_name (i := 1) sc_law.nd rfl (Or.inl rfl)) (pss_one (ps_if (pt_not (pt_truK K (pe_call (ok__law_right T) (hr.mono (by decide)) (by rfl) T.g__law_right T.F__law_right.kp T.b__law_right .nil pass0 (pa_cons (pe_call (ok__law_well T) (hr.mono (by decide)) (by rfl) T.g__law_well T.F__law_well.kp T.b__law_well .nil pass0 (pa_cons (pv 0) (pa_cons (pv 1) pa_nil))) pa_nil)))) (pss_one (ps_ret pe_bl)) pss_nil)))
      (pss_one (ps_ret pe_bl))), ?_⟩
    walk_at "go"
    refine r_lenL hS ?_
    walk_at "go"
    rw [List.length_map]
    refine r_rng1 (by omega) (by omega) (r_forR (m := (max (1 : Int) (min 3 (sc.length : Int))).toNat) (fun i σ' H' => ∃ vk, Ex H H' ∧ σ' = [some (.ref a), vk]) ⟨none, Ex.refl H, rfl⟩ ?_ ?_)
    · rintro i σ' H1 hi ⟨vk, e1, rfl⟩
      walk_at "go"
      refine ⟨a, sc, _, rfl, ex_l e1 hS, hlen, by omega, by omega, fun w H2 hw e2 d2 => ?_⟩
      have hw0 : H w = none := fresh_back e1 hw
      walk_at "go"
      refine ⟨w, 0, rfl, d2, by omega, fun H3 e3 => ?_⟩
      refine r_truB (if_nT ?_)
      exact ⟨_, fun b o hb => e3 b o (e2 b o (e1 b o hb)) (ne_of_none hb hw0), rfl⟩
    · rintro σ' H' ⟨vk, e1, rfl⟩
      walk_at "go"
      exact q H'
end
theorem all_mk {l : PySem.W.OpenLaw} {w : World} {K : PySem.W.Frag} {h : Heap} {mg : Str → Option Value} {fa : Addr} {f_is_integer f_steps_of f_straightened f_turned_back f_many_of_lengths f__law_well f__law_take f__law_steps f__law_key f_is_letters f_is_step_of f_check_least f_check_within f_steps_behind f_is_walk_of f_check_letters f_place_among_all f_walk_at_place f_check_step f_check_walk f_how_many f_nth_walk f_between f_power f_number_of f_next_walk f__law_shares f__law_joined f__law_first_steps f__law_there f__law_long f__law_ends f__law_right f_law : Addr} (X : K.In h) (G : h.Ns mainGlobals mg) (hfa : mg "law" = some (.ref fa))
    {od_is_integer an_is_integer od_steps_of an_steps_of od_straightened an_straightened od_turned_back an_turned_back od_many_of_lengths an_many_of_lengths od__law_well an__law_well od__law_take an__law_take od__law_steps an__law_steps od__law_key an__law_key od_is_letters an_is_letters od_is_step_of an_is_step_of od_check_least an_check_least od_check_within an_check_within od_steps_behind an_steps_behind od_is_walk_of an_is_walk_of od_check_letters an_check_letters od_place_among_all an_place_among_all od_walk_at_place an_walk_at_place od_check_step an_check_step od_check_walk an_check_walk od_how_many an_how_many od_nth_walk an_nth_walk od_between an_between od_power an_power od_number_of an_number_of od_next_walk an_next_walk od__law_shares an__law_shares od__law_joined an__law_joined od__law_first_steps an__law_first_steps od__law_there an__law_there od__law_long an__law_long od__law_ends an__law_ends od__law_right an__law_right od_law an_law : Option Addr} {sl_is_integer sl_steps_of sl_straightened sl_turned_back sl_many_of_lengths sl__law_well sl__law_take sl__law_steps sl__law_key sl_is_letters sl_is_step_of sl_check_least sl_check_within sl_steps_behind sl_is_walk_of sl_check_letters sl_place_among_all sl_walk_at_place sl_check_step sl_check_walk sl_how_many sl_nth_walk sl_between sl_power sl_number_of sl_next_walk sl__law_shares sl__law_joined sl__law_first_steps sl__law_there sl__law_long sl__law_ends sl__law_right sl_law : Array (Option Value)} {oc_is_integer kV_is_integer dc_is_integer pm_is_integer cd_is_integer ct_is_integer oc_steps_of kV_steps_of dc_steps_of pm_steps_of cd_steps_of ct_steps_of oc_straightened kV_straightened dc_straightened pm_straightened cd_straightened ct_straightened oc_turned_back kV_turned_back dc_turned_back pm_turned_back cd_turned_back ct_turned_back oc_many_of_lengths kV_many_of_lengths dc_many_of_lengths pm_many_of_lengths cd_many_of_lengths ct_many_of_lengths oc__law_well kV__law_well dc__law_well pm__law_well cd__law_well ct__law_well oc__law_take kV__law_take dc__law_take pm__law_take cd__law_take ct__law_take oc__law_steps kV__law_steps dc__law_steps pm__law_steps cd__law_steps ct__law_steps oc__law_key kV__law_key dc__law_key pm__law_key cd__law_key ct__law_key oc_is_letters kV_is_letters dc_is_letters pm_is_letters cd_is_letters ct_is_letters oc_is_step_of kV_is_step_of dc_is_step_of pm_is_step_of cd_is_step_of ct_is_step_of oc_check_least kV_check_least dc_check_least pm_check_least cd_check_least ct_check_least oc_check_within kV_check_within dc_check_within pm_check_within cd_check_within ct_check_within oc_steps_behind kV_steps_behind dc_steps_behind pm_steps_behind cd_steps_behind ct_steps_behind oc_is_walk_of kV_is_walk_of dc_is_walk_of pm_is_walk_of cd_is_walk_of ct_is_walk_of oc_check_letters kV_check_letters dc_check_letters pm_check_letters cd_check_letters ct_check_letters oc_place_among_all kV_place_among_all dc_place_among_all pm_place_among_all cd_place_among_all ct_place_among_all oc_walk_at_place kV_walk_at_place dc_walk_at_place pm_walk_at_place cd_walk_at_place ct_walk_at_place oc_check_step kV_check_step dc_check_step pm_check_step cd_check_step ct_check_step oc_check_walk kV_check_walk dc_check_walk pm_check_walk cd_check_walk ct_check_walk oc_how_many kV_how_many dc_how_many pm_how_many cd_how_many ct_how_many oc_nth_walk kV_nth_walk dc_nth_walk pm_nth_walk cd_nth_walk ct_nth_walk oc_between kV_between dc_between pm_between cd_between ct_between oc_power kV_power dc_power pm_power cd_power ct_power oc_number_of kV_number_of dc_number_of pm_number_of cd_number_of ct_number_of oc_next_walk kV_next_walk dc_next_walk pm_next_walk cd_next_walk ct_next_walk oc__law_shares kV__law_shares dc__law_shares pm__law_shares cd__law_shares ct__law_shares oc__law_joined kV__law_joined dc__law_joined pm__law_joined cd__law_joined ct__law_joined oc__law_first_steps kV__law_first_steps dc__law_first_steps pm__law_first_steps cd__law_first_steps ct__law_first_steps oc__law_there kV__law_there dc__law_there pm__law_there cd__law_there ct__law_there oc__law_long kV__law_long dc__law_long pm__law_long cd__law_long ct__law_long oc__law_ends kV__law_ends dc__law_ends pm__law_ends cd__law_ends ct__law_ends oc__law_right kV__law_right dc__law_right pm__law_right cd__law_right ct__law_right oc_law kV_law dc_law pm_law cd_law ct_law : Value} {tc_MOST_LETTERS tc_MOST_TIMES : Tok}
    (a_is_integer : PySem.W.nsIn K mainGlobals "is_integer" = some (some (.ref f_is_integer))) (l_is_integer : K.lookup f_is_integer = some ⟨oc_is_integer, od_is_integer, .func (PySem.W.fnOf "is_integer" "is_integer" (defArgs s_is_integer) (defBody s_is_integer) (defScope s_is_integer) .none kV_is_integer dc_is_integer pm_is_integer an_is_integer cd_is_integer ct_is_integer), sl_is_integer⟩) (c_is_integer : PySem.W.codeIn K cd_is_integer "is_integer" = true) (k_is_integer : PySem.W.keepIn K (.ref f_is_integer) = true)
    (a_steps_of : PySem.W.nsIn K mainGlobals "steps_of" = some (some (.ref f_steps_of))) (l_steps_of : K.lookup f_steps_of = some ⟨oc_steps_of, od_steps_of, .func (PySem.W.fnOf "steps_of" "steps_of" (defArgs s_steps_of) (defBody s_steps_of) (defScope s_steps_of) .none kV_steps_of dc_steps_of pm_steps_of an_steps_of cd_steps_of ct_steps_of), sl_steps_of⟩) (c_steps_of : PySem.W.codeIn K cd_steps_of "steps_of" = true) (k_steps_of : PySem.W.keepIn K (.ref f_steps_of) = true)
    (a_straightened : PySem.W.nsIn K mainGlobals "straightened" = some (some (.ref f_straightened))) (l_straightened : K.lookup f_straightened = some ⟨oc_straightened, od_straightened, .func (PySem.W.fnOf "straightened" "straightened" (defArgs s_straightened) (defBody s_straightened) (defScope s_straightened) .none kV_straightened dc_straightened pm_straightened an_straightened cd_straightened ct_straightened), sl_straightened⟩) (c_straightened : PySem.W.codeIn K cd_straightened "straightened" = true) (k_straightened : PySem.W.keepIn K (.ref f_straightened) = true)
    (a_turned_back : PySem.W.nsIn K mainGlobals "turned_back" = some (some (.ref f_turned_back))) (l_turned_back : K.lookup f_turned_back = some ⟨oc_turned_back, od_turned_back, .func (PySem.W.fnOf "turned_back" "turned_back" (defArgs s_turned_back) (defBody s_turned_back) (defScope s_turned_back) .none kV_turned_back dc_turned_back pm_turned_back an_turned_back cd_turned_back ct_turned_back), sl_turned_back⟩) (c_turned_back : PySem.W.codeIn K cd_turned_back "turned_back" = true) (k_turned_back : PySem.W.keepIn K (.ref f_turned_back) = true)
    (a_many_of_lengths : PySem.W.nsIn K mainGlobals "many_of_lengths" = some (some (.ref f_many_of_lengths))) (l_many_of_lengths : K.lookup f_many_of_lengths = some ⟨oc_many_of_lengths, od_many_of_lengths, .func (PySem.W.fnOf "many_of_lengths" "many_of_lengths" (defArgs s_many_of_lengths) (defBody s_many_of_lengths) (defScope s_many_of_lengths) .none kV_many_of_lengths dc_many_of_lengths pm_many_of_lengths an_many_of_lengths cd_many_of_lengths ct_many_of_lengths), sl_many_of_lengths⟩) (c_many_of_lengths : PySem.W.codeIn K cd_many_of_lengths "many_of_lengths" = true) (k_many_of_lengths : PySem.W.keepIn K (.ref f_many_of_lengths) = true)
    (a__law_well : PySem.W.nsIn K mainGlobals "_law_well" = some (some (.ref f__law_well))) (l__law_well : K.lookup f__law_well = some ⟨oc__law_well, od__law_well, .func (PySem.W.fnOf "_law_well" "_law_well" (defArgs s__law_well) (defBody s__law_well) (defScope s__law_well) .none kV__law_well dc__law_well pm__law_well an__law_well cd__law_well ct__law_well), sl__law_well⟩) (c__law_well : PySem.W.codeIn K cd__law_well "_law_well" = true) (k__law_well : PySem.W.keepIn K (.ref f__law_well) = true)
    (a__law_take : PySem.W.nsIn K mainGlobals "_law_take" = some (some (.ref f__law_take))) (l__law_take : K.lookup f__law_take = some ⟨oc__law_take, od__law_take, .func (PySem.W.fnOf "_law_take" "_law_take" (defArgs s__law_take) (defBody s__law_take) (defScope s__law_take) .none kV__law_take dc__law_take pm__law_take an__law_take cd__law_take ct__law_take), sl__law_take⟩) (c__law_take : PySem.W.codeIn K cd__law_take "_law_take" = true) (k__law_take : PySem.W.keepIn K (.ref f__law_take) = true)
    (a__law_steps : PySem.W.nsIn K mainGlobals "_law_steps" = some (some (.ref f__law_steps))) (l__law_steps : K.lookup f__law_steps = some ⟨oc__law_steps, od__law_steps, .func (PySem.W.fnOf "_law_steps" "_law_steps" (defArgs s__law_steps) (defBody s__law_steps) (defScope s__law_steps) .none kV__law_steps dc__law_steps pm__law_steps an__law_steps cd__law_steps ct__law_steps), sl__law_steps⟩) (c__law_steps : PySem.W.codeIn K cd__law_steps "_law_steps" = true) (k__law_steps : PySem.W.keepIn K (.ref f__law_steps) = true)
    (a__law_key : PySem.W.nsIn K mainGlobals "_law_key" = some (some (.ref f__law_key))) (l__law_key : K.lookup f__law_key = some ⟨oc__law_key, od__law_key, .func (PySem.W.fnOf "_law_key" "_law_key" (defArgs s__law_key) (defBody s__law_key) (defScope s__law_key) .none kV__law_key dc__law_key pm__law_key an__law_key cd__law_key ct__law_key), sl__law_key⟩) (c__law_key : PySem.W.codeIn K cd__law_key "_law_key" = true) (k__law_key : PySem.W.keepIn K (.ref f__law_key) = true)
    (a_is_letters : PySem.W.nsIn K mainGlobals "is_letters" = some (some (.ref f_is_letters))) (l_is_letters : K.lookup f_is_letters = some ⟨oc_is_letters, od_is_letters, .func (PySem.W.fnOf "is_letters" "is_letters" (defArgs s_is_letters) (defBody s_is_letters) (defScope s_is_letters) .none kV_is_letters dc_is_letters pm_is_letters an_is_letters cd_is_letters ct_is_letters), sl_is_letters⟩) (c_is_letters : PySem.W.codeIn K cd_is_letters "is_letters" = true) (k_is_letters : PySem.W.keepIn K (.ref f_is_letters) = true)
    (a_is_step_of : PySem.W.nsIn K mainGlobals "is_step_of" = some (some (.ref f_is_step_of))) (l_is_step_of : K.lookup f_is_step_of = some ⟨oc_is_step_of, od_is_step_of, .func (PySem.W.fnOf "is_step_of" "is_step_of" (defArgs s_is_step_of) (defBody s_is_step_of) (defScope s_is_step_of) .none kV_is_step_of dc_is_step_of pm_is_step_of an_is_step_of cd_is_step_of ct_is_step_of), sl_is_step_of⟩) (c_is_step_of : PySem.W.codeIn K cd_is_step_of "is_step_of" = true) (k_is_step_of : PySem.W.keepIn K (.ref f_is_step_of) = true)
    (a_check_least : PySem.W.nsIn K mainGlobals "check_least" = some (some (.ref f_check_least))) (l_check_least : K.lookup f_check_least = some ⟨oc_check_least, od_check_least, .func (PySem.W.fnOf "check_least" "check_least" (defArgs s_check_least) (defBody s_check_least) (defScope s_check_least) .none kV_check_least dc_check_least pm_check_least an_check_least cd_check_least ct_check_least), sl_check_least⟩) (c_check_least : PySem.W.codeIn K cd_check_least "check_least" = true) (k_check_least : PySem.W.keepIn K (.ref f_check_least) = true)
    (a_check_within : PySem.W.nsIn K mainGlobals "check_within" = some (some (.ref f_check_within))) (l_check_within : K.lookup f_check_within = some ⟨oc_check_within, od_check_within, .func (PySem.W.fnOf "check_within" "check_within" (defArgs s_check_within) (defBody s_check_within) (defScope s_check_within) .none kV_check_within dc_check_within pm_check_within an_check_within cd_check_within ct_check_within), sl_check_within⟩) (c_check_within : PySem.W.codeIn K cd_check_within "check_within" = true) (k_check_within : PySem.W.keepIn K (.ref f_check_within) = true)
    (a_steps_behind : PySem.W.nsIn K mainGlobals "steps_behind" = some (some (.ref f_steps_behind))) (l_steps_behind : K.lookup f_steps_behind = some ⟨oc_steps_behind, od_steps_behind, .func (PySem.W.fnOf "steps_behind" "steps_behind" (defArgs s_steps_behind) (defBody s_steps_behind) (defScope s_steps_behind) .none kV_steps_behind dc_steps_behind pm_steps_behind an_steps_behind cd_steps_behind ct_steps_behind), sl_steps_behind⟩) (c_steps_behind : PySem.W.codeIn K cd_steps_behind "steps_behind" = true) (k_steps_behind : PySem.W.keepIn K (.ref f_steps_behind) = true)
    (a_is_walk_of : PySem.W.nsIn K mainGlobals "is_walk_of" = some (some (.ref f_is_walk_of))) (l_is_walk_of : K.lookup f_is_walk_of = some ⟨oc_is_walk_of, od_is_walk_of, .func (PySem.W.fnOf "is_walk_of" "is_walk_of" (defArgs s_is_walk_of) (defBody s_is_walk_of) (defScope s_is_walk_of) .none kV_is_walk_of dc_is_walk_of pm_is_walk_of an_is_walk_of cd_is_walk_of ct_is_walk_of), sl_is_walk_of⟩) (c_is_walk_of : PySem.W.codeIn K cd_is_walk_of "is_walk_of" = true) (k_is_walk_of : PySem.W.keepIn K (.ref f_is_walk_of) = true)
    (a_check_letters : PySem.W.nsIn K mainGlobals "check_letters" = some (some (.ref f_check_letters))) (l_check_letters : K.lookup f_check_letters = some ⟨oc_check_letters, od_check_letters, .func (PySem.W.fnOf "check_letters" "check_letters" (defArgs s_check_letters) (defBody s_check_letters) (defScope s_check_letters) .none kV_check_letters dc_check_letters pm_check_letters an_check_letters cd_check_letters ct_check_letters), sl_check_letters⟩) (c_check_letters : PySem.W.codeIn K cd_check_letters "check_letters" = true) (k_check_letters : PySem.W.keepIn K (.ref f_check_letters) = true)
    (a_place_among_all : PySem.W.nsIn K mainGlobals "place_among_all" = some (some (.ref f_place_among_all))) (l_place_among_all : K.lookup f_place_among_all = some ⟨oc_place_among_all, od_place_among_all, .func (PySem.W.fnOf "place_among_all" "place_among_all" (defArgs s_place_among_all) (defBody s_place_among_all) (defScope s_place_among_all) .none kV_place_among_all dc_place_among_all pm_place_among_all an_place_among_all cd_place_among_all ct_place_among_all), sl_place_among_all⟩) (c_place_among_all : PySem.W.codeIn K cd_place_among_all "place_among_all" = true) (k_place_among_all : PySem.W.keepIn K (.ref f_place_among_all) = true)
    (a_walk_at_place : PySem.W.nsIn K mainGlobals "walk_at_place" = some (some (.ref f_walk_at_place))) (l_walk_at_place : K.lookup f_walk_at_place = some ⟨oc_walk_at_place, od_walk_at_place, .func (PySem.W.fnOf "walk_at_place" "walk_at_place" (defArgs s_walk_at_place) (defBody s_walk_at_place) (defScope s_walk_at_place) .none kV_walk_at_place dc_walk_at_place pm_walk_at_place an_walk_at_place cd_walk_at_place ct_walk_at_place), sl_walk_at_place⟩) (c_walk_at_place : PySem.W.codeIn K cd_walk_at_place "walk_at_place" = true) (k_walk_at_place : PySem.W.keepIn K (.ref f_walk_at_place) = true)
    (a_check_step : PySem.W.nsIn K mainGlobals "check_step" = some (some (.ref f_check_step))) (l_check_step : K.lookup f_check_step = some ⟨oc_check_step, od_check_step, .func (PySem.W.fnOf "check_step" "check_step" (defArgs s_check_step) (defBody s_check_step) (defScope s_check_step) .none kV_check_step dc_check_step pm_check_step an_check_step cd_check_step ct_check_step), sl_check_step⟩) (c_check_step : PySem.W.codeIn K cd_check_step "check_step" = true) (k_check_step : PySem.W.keepIn K (.ref f_check_step) = true)
    (a_check_walk : PySem.W.nsIn K mainGlobals "check_walk" = some (some (.ref f_check_walk))) (l_check_walk : K.lookup f_check_walk = some ⟨oc_check_walk, od_check_walk, .func (PySem.W.fnOf "check_walk" "check_walk" (defArgs s_check_walk) (defBody s_check_walk) (defScope s_check_walk) .none kV_check_walk dc_check_walk pm_check_walk an_check_walk cd_check_walk ct_check_walk), sl_check_walk⟩) (c_check_walk : PySem.W.codeIn K cd_check_walk "check_walk" = true) (k_check_walk : PySem.W.keepIn K (.ref f_check_walk) = true)
    (a_how_many : PySem.W.nsIn K mainGlobals "how_many" = some (some (.ref f_how_many))) (l_how_many : K.lookup f_how_many = some ⟨oc_how_many, od_how_many, .func (PySem.W.fnOf "how_many" "how_many" (defArgs s_how_many) (defBody s_how_many) (defScope s_how_many) .none kV_how_many dc_how_many pm_how_many an_how_many cd_how_many ct_how_many), sl_how_many⟩) (c_how_many : PySem.W.codeIn K cd_how_many "how_many" = true) (k_how_many : PySem.W.keepIn K (.ref f_how_many) = true)
    (a_nth_walk : PySem.W.nsIn K mainGlobals "nth_walk" = some (some (.ref f_nth_walk))) (l_nth_walk : K.lookup f_nth_walk = some ⟨oc_nth_walk, od_nth_walk, .func (PySem.W.fnOf "nth_walk" "nth_walk" (defArgs s_nth_walk) (defBody s_nth_walk) (defScope s_nth_walk) .none kV_nth_walk dc_nth_walk pm_nth_walk an_nth_walk cd_nth_walk ct_nth_walk), sl_nth_walk⟩) (c_nth_walk : PySem.W.codeIn K cd_nth_walk "nth_walk" = true) (k_nth_walk : PySem.W.keepIn K (.ref f_nth_walk) = true)
    (a_between : PySem.W.nsIn K mainGlobals "between" = some (some (.ref f_between))) (l_between : K.lookup f_between = some ⟨oc_between, od_between, .func (PySem.W.fnOf "between" "between" (defArgs s_between) (defBody s_between) (defScope s_between) .none kV_between dc_between pm_between an_between cd_between ct_between), sl_between⟩) (c_between : PySem.W.codeIn K cd_between "between" = true) (k_between : PySem.W.keepIn K (.ref f_between) = true)
    (a_power : PySem.W.nsIn K mainGlobals "power" = some (some (.ref f_power))) (l_power : K.lookup f_power = some ⟨oc_power, od_power, .func (PySem.W.fnOf "power" "power" (defArgs s_power) (defBody s_power) (defScope s_power) .none kV_power dc_power pm_power an_power cd_power ct_power), sl_power⟩) (c_power : PySem.W.codeIn K cd_power "power" = true) (k_power : PySem.W.keepIn K (.ref f_power) = true)
    (a_number_of : PySem.W.nsIn K mainGlobals "number_of" = some (some (.ref f_number_of))) (l_number_of : K.lookup f_number_of = some ⟨oc_number_of, od_number_of, .func (PySem.W.fnOf "number_of" "number_of" (defArgs s_number_of) (defBody s_number_of) (defScope s_number_of) .none kV_number_of dc_number_of pm_number_of an_number_of cd_number_of ct_number_of), sl_number_of⟩) (c_number_of : PySem.W.codeIn K cd_number_of "number_of" = true) (k_number_of : PySem.W.keepIn K (.ref f_number_of) = true)
    (a_next_walk : PySem.W.nsIn K mainGlobals "next_walk" = some (some (.ref f_next_walk))) (l_next_walk : K.lookup f_next_walk = some ⟨oc_next_walk, od_next_walk, .func (PySem.W.fnOf "next_walk" "next_walk" (defArgs s_next_walk) (defBody s_next_walk) (defScope s_next_walk) .none kV_next_walk dc_next_walk pm_next_walk an_next_walk cd_next_walk ct_next_walk), sl_next_walk⟩) (c_next_walk : PySem.W.codeIn K cd_next_walk "next_walk" = true) (k_next_walk : PySem.W.keepIn K (.ref f_next_walk) = true)
    (a__law_shares : PySem.W.nsIn K mainGlobals "_law_shares" = some (some (.ref f__law_shares))) (l__law_shares : K.lookup f__law_shares = some ⟨oc__law_shares, od__law_shares, .func (PySem.W.fnOf "_law_shares" "_law_shares" (defArgs s__law_shares) (defBody s__law_shares) (defScope s__law_shares) .none kV__law_shares dc__law_shares pm__law_shares an__law_shares cd__law_shares ct__law_shares), sl__law_shares⟩) (c__law_shares : PySem.W.codeIn K cd__law_shares "_law_shares" = true) (k__law_shares : PySem.W.keepIn K (.ref f__law_shares) = true)
    (a__law_joined : PySem.W.nsIn K mainGlobals "_law_joined" = some (some (.ref f__law_joined))) (l__law_joined : K.lookup f__law_joined = some ⟨oc__law_joined, od__law_joined, .func (PySem.W.fnOf "_law_joined" "_law_joined" (defArgs s__law_joined) (defBody s__law_joined) (defScope s__law_joined) .none kV__law_joined dc__law_joined pm__law_joined an__law_joined cd__law_joined ct__law_joined), sl__law_joined⟩) (c__law_joined : PySem.W.codeIn K cd__law_joined "_law_joined" = true) (k__law_joined : PySem.W.keepIn K (.ref f__law_joined) = true)
    (a__law_first_steps : PySem.W.nsIn K mainGlobals "_law_first_steps" = some (some (.ref f__law_first_steps))) (l__law_first_steps : K.lookup f__law_first_steps = some ⟨oc__law_first_steps, od__law_first_steps, .func (PySem.W.fnOf "_law_first_steps" "_law_first_steps" (defArgs s__law_first_steps) (defBody s__law_first_steps) (defScope s__law_first_steps) .none kV__law_first_steps dc__law_first_steps pm__law_first_steps an__law_first_steps cd__law_first_steps ct__law_first_steps), sl__law_first_steps⟩) (c__law_first_steps : PySem.W.codeIn K cd__law_first_steps "_law_first_steps" = true) (k__law_first_steps : PySem.W.keepIn K (.ref f__law_first_steps) = true)
    (a__law_there : PySem.W.nsIn K mainGlobals "_law_there" = some (some (.ref f__law_there))) (l__law_there : K.lookup f__law_there = some ⟨oc__law_there, od__law_there, .func (PySem.W.fnOf "_law_there" "_law_there" (defArgs s__law_there) (defBody s__law_there) (defScope s__law_there) .none kV__law_there dc__law_there pm__law_there an__law_there cd__law_there ct__law_there), sl__law_there⟩) (c__law_there : PySem.W.codeIn K cd__law_there "_law_there" = true) (k__law_there : PySem.W.keepIn K (.ref f__law_there) = true)
    (a__law_long : PySem.W.nsIn K mainGlobals "_law_long" = some (some (.ref f__law_long))) (l__law_long : K.lookup f__law_long = some ⟨oc__law_long, od__law_long, .func (PySem.W.fnOf "_law_long" "_law_long" (defArgs s__law_long) (defBody s__law_long) (defScope s__law_long) .none kV__law_long dc__law_long pm__law_long an__law_long cd__law_long ct__law_long), sl__law_long⟩) (c__law_long : PySem.W.codeIn K cd__law_long "_law_long" = true) (k__law_long : PySem.W.keepIn K (.ref f__law_long) = true)
    (a__law_ends : PySem.W.nsIn K mainGlobals "_law_ends" = some (some (.ref f__law_ends))) (l__law_ends : K.lookup f__law_ends = some ⟨oc__law_ends, od__law_ends, .func (PySem.W.fnOf "_law_ends" "_law_ends" (defArgs s__law_ends) (defBody s__law_ends) (defScope s__law_ends) .none kV__law_ends dc__law_ends pm__law_ends an__law_ends cd__law_ends ct__law_ends), sl__law_ends⟩) (c__law_ends : PySem.W.codeIn K cd__law_ends "_law_ends" = true) (k__law_ends : PySem.W.keepIn K (.ref f__law_ends) = true)
    (a__law_right : PySem.W.nsIn K mainGlobals "_law_right" = some (some (.ref f__law_right))) (l__law_right : K.lookup f__law_right = some ⟨oc__law_right, od__law_right, .func (PySem.W.fnOf "_law_right" "_law_right" (defArgs s__law_right) (defBody s__law_right) (defScope s__law_right) .none kV__law_right dc__law_right pm__law_right an__law_right cd__law_right ct__law_right), sl__law_right⟩) (c__law_right : PySem.W.codeIn K cd__law_right "_law_right" = true) (k__law_right : PySem.W.keepIn K (.ref f__law_right) = true)
    (a_law : PySem.W.nsIn K mainGlobals "law" = some (some (.ref f_law))) (l_law : K.lookup f_law = some ⟨oc_law, od_law, .func (PySem.W.fnOf "law" "law" (defArgs s_law) (defBody s_law) (defScope s_law) .none kV_law dc_law pm_law an_law cd_law ct_law), sl_law⟩) (c_law : PySem.W.codeIn K cd_law "law" = true) (k_law : PySem.W.keepIn K (.ref f_law) = true)
    (z_abs : PySem.W.nsIn K mainGlobals "abs" = some none)
    (z_all : PySem.W.nsIn K mainGlobals "all" = some none)
    (z_bool : PySem.W.nsIn K mainGlobals "bool" = some none)
    (z_divmod : PySem.W.nsIn K mainGlobals "divmod" = some none)
    (z_enumerate : PySem.W.nsIn K mainGlobals "enumerate" = some none)
    (z_int : PySem.W.nsIn K mainGlobals "int" = some none)
    (z_isinstance : PySem.W.nsIn K mainGlobals "isinstance" = some none)
    (z_len : PySem.W.nsIn K mainGlobals "len" = some none)
    (z_list : PySem.W.nsIn K mainGlobals "list" = some none)
    (z_max : PySem.W.nsIn K mainGlobals "max" = some none)
    (z_min : PySem.W.nsIn K mainGlobals "min" = some none)
    (z_range : PySem.W.nsIn K mainGlobals "range" = some none)
    (z_sum : PySem.W.nsIn K mainGlobals "sum" = some none)
    (z_tuple : PySem.W.nsIn K mainGlobals "tuple" = some none)
    (v_MOST_LETTERS : PySem.W.nsIn K mainGlobals "MOST_LETTERS" = some (some (.int 4 tc_MOST_LETTERS)))
    (v_MOST_TIMES : PySem.W.nsIn K mainGlobals "MOST_TIMES" = some (some (.int 20 tc_MOST_TIMES)))
    : ∃ fd : FuncData, (∀ (s : Shared) (v : Value), BindsTo s fd ⟨[v], []⟩ [("_law_script", v)]) ∧ ∀ base : Heap, K.In base → base.Ns mainGlobals mg → FnOk l.prog w K mg base CX0 8 fa fd ["_law_script"] (sp_law K) := by
  have e := hfa.symm.trans (PySem.W.mg_of X G a_law)
  cases e
  have F_is_integer := fun_mk (st := s_is_integer) l_is_integer c_is_integer k_is_integer
  have F_steps_of := fun_mk (st := s_steps_of) l_steps_of c_steps_of k_steps_of
  have F_straightened := fun_mk (st := s_straightened) l_straightened c_straightened k_straightened
  have F_turned_back := fun_mk (st := s_turned_back) l_turned_back c_turned_back k_turned_back
  have F_many_of_lengths := fun_mk (st := s_many_of_lengths) l_many_of_lengths c_many_of_lengths k_many_of_lengths
  have F__law_well := fun_mk (st := s__law_well) l__law_well c__law_well k__law_well
  have F__law_take := fun_mk (st := s__law_take) l__law_take c__law_take k__law_take
  have F__law_steps := fun_mk (st := s__law_steps) l__law_steps c__law_steps k__law_steps
  have F__law_key := fun_mk (st := s__law_key) l__law_key c__law_key k__law_key
  have F_is_letters := fun_mk (st := s_is_letters) l_is_letters c_is_letters k_is_letters
  have F_is_step_of := fun_mk (st := s_is_step_of) l_is_step_of c_is_step_of k_is_step_of
  have F_check_least := fun_mk (st := s_check_least) l_check_least c_check_least k_check_least
  have F_check_within := fun_mk (st := s_check_within) l_check_within c_check_within k_check_within
  have F_steps_behind := fun_mk (st := s_steps_behind) l_steps_behind c_steps_behind k_steps_behind
  have F_is_walk_of := fun_mk (st := s_is_walk_of) l_is_walk_of c_is_walk_of k_is_walk_of
  have F_check_letters := fun_mk (st := s_check_letters) l_check_letters c_check_letters k_check_letters
  have F_place_among_all := fun_mk (st := s_place_among_all) l_place_among_all c_place_among_all k_place_among_all
  have F_walk_at_place := fun_mk (st := s_walk_at_place) l_walk_at_place c_walk_at_place k_walk_at_place
  have F_check_step := fun_mk (st := s_check_step) l_check_step c_check_step k_check_step
  have F_check_walk := fun_mk (st := s_check_walk) l_check_walk c_check_walk k_check_walk
  have F_how_many := fun_mk (st := s_how_many) l_how_many c_how_many k_how_many
  have F_nth_walk := fun_mk (st := s_nth_walk) l_nth_walk c_nth_walk k_nth_walk
  have F_between := fun_mk (st := s_between) l_between c_between k_between
  have F_power := fun_mk (st := s_power) l_power c_power k_power
  have F_number_of := fun_mk (st := s_number_of) l_number_of c_number_of k_number_of
  have F_next_walk := fun_mk (st := s_next_walk) l_next_walk c_next_walk k_next_walk
  have F__law_shares := fun_mk (st := s__law_shares) l__law_shares c__law_shares k__law_shares
  have F__law_joined := fun_mk (st := s__law_joined) l__law_joined c__law_joined k__law_joined
  have F__law_first_steps := fun_mk (st := s__law_first_steps) l__law_first_steps c__law_first_steps k__law_first_steps
  have F__law_there := fun_mk (st := s__law_there) l__law_there c__law_there k__law_there
  have F__law_long := fun_mk (st := s__law_long) l__law_long c__law_long k__law_long
  have F__law_ends := fun_mk (st := s__law_ends) l__law_ends c__law_ends k__law_ends
  have F__law_right := fun_mk (st := s__law_right) l__law_right c__law_right k__law_right
  have F_law := fun_mk (st := s_law) l_law c_law k_law
  have b_is_integer := F_is_integer.binds (ps := P_is_integer) fun _ _ _ _ _ _ us hl => match us, hl with | [_], _ => rfl
  have b_steps_of := F_steps_of.binds (ps := P_steps_of) fun _ _ _ _ _ _ us hl => match us, hl with | [_], _ => rfl
  have b_straightened := F_straightened.binds (ps := P_straightened) fun _ _ _ _ _ _ us hl => match us, hl with | [_], _ => rfl
  have b_turned_back := F_turned_back.binds (ps := P_turned_back) fun _ _ _ _ _ _ us hl => match us, hl with | [_], _ => rfl
  have b_many_of_lengths := F_many_of_lengths.binds (ps := P_many_of_lengths) fun _ _ _ _ _ _ us hl => match us, hl with | [_, _], _ => rfl
  have b__law_well := F__law_well.binds (ps := P__law_well) fun _ _ _ _ _ _ us hl => match us, hl with | [_, _], _ => rfl
  have b__law_take := F__law_take.binds (ps := P__law_take) fun _ _ _ _ _ _ us hl => match us, hl with | [_, _], _ => rfl
  have b__law_steps := F__law_steps.binds (ps := P__law_steps) fun _ _ _ _ _ _ us hl => match us, hl with | [_], _ => rfl
  have b__law_key := F__law_key.binds (ps := P__law_key) fun _ _ _ _ _ _ us hl => match us, hl with | [_], _ => rfl
  have b_is_letters := F_is_letters.binds (ps := P_is_letters) fun _ _ _ _ _ _ us hl => match us, hl with | [_], _ => rfl
  have b_is_step_of := F_is_step_of.binds (ps := P_is_step_of) fun _ _ _ _ _ _ us hl => match us, hl with | [_, _], _ => rfl
  have b_check_least := F_check_least.binds (ps := P_check_least) fun _ _ _ _ _ _ us hl => match us, hl with | [_, _], _ => rfl
  have b_check_within := F_check_within.binds (ps := P_check_within) fun _ _ _ _ _ _ us hl => match us, hl with | [_, _, _], _ => rfl
  have b_steps_behind := F_steps_behind.binds (ps := P_steps_behind) fun _ _ _ _ _ _ us hl => match us, hl with | [_, _], _ => rfl
  have b_is_walk_of := F_is_walk_of.binds (ps := P_is_walk_of) fun _ _ _ _ _ _ us hl => match us, hl with | [_, _], _ => rfl
  have b_check_letters := F_check_letters.binds (ps := P_check_letters) fun _ _ _ _ _ _ us hl => match us, hl with | [_], _ => rfl
  have b_place_among_all := F_place_among_all.binds (ps := P_place_among_all) fun _ _ _ _ _ _ us hl => match us, hl with | [_, _], _ => rfl
  have b_walk_at_place := F_walk_at_place.binds (ps := P_walk_at_place) fun _ _ _ _ _ _ us hl => match us, hl with | [_, _], _ => rfl
  have b_check_step := F_check_step.binds (ps := P_check_step) fun _ _ _ _ _ _ us hl => match us, hl with | [_, _], _ => rfl
  have b_check_walk := F_check_walk.binds (ps := P_check_walk) fun _ _ _ _ _ _ us hl => match us, hl with | [_, _], _ => rfl
  have b_how_many := F_how_many.binds (ps := P_how_many) fun _ _ _ _ _ _ us hl => match us, hl with | [_, _], _ => rfl
  have b_nth_walk := F_nth_walk.binds (ps := P_nth_walk) fun _ _ _ _ _ _ us hl => match us, hl with | [_, _], _ => rfl
  have b_between := F_between.binds (ps := P_between) fun _ _ _ _ _ _ us hl => match us, hl with | [_, _, _, _], _ => rfl
  have b_power := F_power.binds (ps := P_power) fun _ _ _ _ _ _ us hl => match us, hl with | [_, _], _ => rfl
  have b_number_of := F_number_of.binds (ps := P_number_of) fun _ _ _ _ _ _ us hl => match us, hl with | [_, _], _ => rfl
  have b_next_walk := F_next_walk.binds (ps := P_next_walk) fun _ _ _ _ _ _ us hl => match us, hl with | [_, _], _ => rfl
  have b__law_shares := F__law_shares.binds (ps := P__law_shares) fun _ _ _ _ _ _ us hl => match us, hl with | [_, _, _, _], _ => rfl
  have b__law_joined := F__law_joined.binds (ps := P__law_joined) fun _ _ _ _ _ _ us hl => match us, hl with | [_, _, _, _, _], _ => rfl
  have b__law_first_steps := F__law_first_steps.binds (ps := P__law_first_steps) fun _ _ _ _ _ _ us hl => match us, hl with | [_, _, _], _ => rfl
  have b__law_there := F__law_there.binds (ps := P__law_there) fun _ _ _ _ _ _ us hl => match us, hl with | [_, _, _], _ => rfl
  have b__law_long := F__law_long.binds (ps := P__law_long) fun _ _ _ _ _ _ us hl => match us, hl with | [_, _, _], _ => rfl
  have b__law_ends := F__law_ends.binds (ps := P__law_ends) fun _ _ _ _ _ _ us hl => match us, hl with | [_, _], _ => rfl
  have b__law_right := F__law_right.binds (ps := P__law_right) fun _ _ _ _ _ _ us hl => match us, hl with | [_], _ => rfl
  have b_law := F_law.binds (ps := P_law) fun _ _ _ _ _ _ us hl => match us, hl with | [_], _ => rfl
  have T : Tx K mg ⟨f_is_integer, _, f_steps_of, _, f_straightened, _, f_turned_back, _, f_many_of_lengths, _, f__law_well, _, f__law_take, _, f__law_steps, _, f__law_key, _, f_is_letters, _, f_is_step_of, _, f_check_least, _, f_check_within, _, f_steps_behind, _, f_is_walk_of, _, f_check_letters, _, f_place_among_all, _, f_walk_at_place, _, f_check_step, _, f_check_walk, _, f_how_many, _, f_nth_walk, _, f_between, _, f_power, _, f_number_of, _, f_next_walk, _, f__law_shares, _, f__law_joined, _, f__law_first_steps, _, f__law_there, _, f__law_long, _, f__law_ends, _, f__law_right, _, fa, _⟩ := {
    g_is_integer := PySem.W.mg_of X G a_is_integer, F_is_integer := F_is_integer, b_is_integer := b_is_integer,
    g_steps_of := PySem.W.mg_of X G a_steps_of, F_steps_of := F_steps_of, b_steps_of := b_steps_of,
    g_straightened := PySem.W.mg_of X G a_straightened, F_straightened := F_straightened, b_straightened := b_straightened,
    g_turned_back := PySem.W.mg_of X G a_turned_back, F_turned_back := F_turned_back, b_turned_back := b_turned_back,
    g_many_of_lengths := PySem.W.mg_of X G a_many_of_lengths, F_many_of_lengths := F_many_of_lengths, b_many_of_lengths := b_many_of_lengths,
    g__law_well := PySem.W.mg_of X G a__law_well, F__law_well := F__law_well, b__law_well := b__law_well,
    g__law_take := PySem.W.mg_of X G a__law_take, F__law_take := F__law_take, b__law_take := b__law_take,
    g__law_steps := PySem.W.mg_of X G a__law_steps, F__law_steps := F__law_steps, b__law_steps := b__law_steps,
    g__law_key := PySem.W.mg_of X G a__law_key, F__law_key := F__law_key, b__law_key := b__law_key,
    g_is_letters := PySem.W.mg_of X G a_is_letters, F_is_letters := F_is_letters, b_is_letters := b_is_letters,
    g_is_step_of := PySem.W.mg_of X G a_is_step_of, F_is_step_of := F_is_step_of, b_is_step_of := b_is_step_of,
    g_check_least := PySem.W.mg_of X G a_check_least, F_check_least := F_check_least, b_check_least := b_check_least,
    g_check_within := PySem.W.mg_of X G a_check_within, F_check_within := F_check_within, b_check_within := b_check_within,
    g_steps_behind := PySem.W.mg_of X G a_steps_behind, F_steps_behind := F_steps_behind, b_steps_behind := b_steps_behind,
    g_is_walk_of := PySem.W.mg_of X G a_is_walk_of, F_is_walk_of := F_is_walk_of, b_is_walk_of := b_is_walk_of,
    g_check_letters := PySem.W.mg_of X G a_check_letters, F_check_letters := F_check_letters, b_check_letters := b_check_letters,
    g_place_among_all := PySem.W.mg_of X G a_place_among_all, F_place_among_all := F_place_among_all, b_place_among_all := b_place_among_all,
    g_walk_at_place := PySem.W.mg_of X G a_walk_at_place, F_walk_at_place := F_walk_at_place, b_walk_at_place := b_walk_at_place,
    g_check_step := PySem.W.mg_of X G a_check_step, F_check_step := F_check_step, b_check_step := b_check_step,
    g_check_walk := PySem.W.mg_of X G a_check_walk, F_check_walk := F_check_walk, b_check_walk := b_check_walk,
    g_how_many := PySem.W.mg_of X G a_how_many, F_how_many := F_how_many, b_how_many := b_how_many,
    g_nth_walk := PySem.W.mg_of X G a_nth_walk, F_nth_walk := F_nth_walk, b_nth_walk := b_nth_walk,
    g_between := PySem.W.mg_of X G a_between, F_between := F_between, b_between := b_between,
    g_power := PySem.W.mg_of X G a_power, F_power := F_power, b_power := b_power,
    g_number_of := PySem.W.mg_of X G a_number_of, F_number_of := F_number_of, b_number_of := b_number_of,
    g_next_walk := PySem.W.mg_of X G a_next_walk, F_next_walk := F_next_walk, b_next_walk := b_next_walk,
    g__law_shares := PySem.W.mg_of X G a__law_shares, F__law_shares := F__law_shares, b__law_shares := b__law_shares,
    g__law_joined := PySem.W.mg_of X G a__law_joined, F__law_joined := F__law_joined, b__law_joined := b__law_joined,
    g__law_first_steps := PySem.W.mg_of X G a__law_first_steps, F__law_first_steps := F__law_first_steps, b__law_first_steps := b__law_first_steps,
    g__law_there := PySem.W.mg_of X G a__law_there, F__law_there := F__law_there, b__law_there := b__law_there,
    g__law_long := PySem.W.mg_of X G a__law_long, F__law_long := F__law_long, b__law_long := b__law_long,
    g__law_ends := PySem.W.mg_of X G a__law_ends, F__law_ends := F__law_ends, b__law_ends := b__law_ends,
    g__law_right := PySem.W.mg_of X G a__law_right, F__law_right := F__law_right, b__law_right := b__law_right,
    g_law := PySem.W.mg_of X G a_law, F_law := F_law, b_law := b_law,
    n_abs := PySem.W.mg_none_of X G z_abs,
    n_all := PySem.W.mg_none_of X G z_all,
    n_bool := PySem.W.mg_none_of X G z_bool,
    n_divmod := PySem.W.mg_none_of X G z_divmod,
    n_enumerate := PySem.W.mg_none_of X G z_enumerate,
    n_int := PySem.W.mg_none_of X G z_int,
    n_isinstance := PySem.W.mg_none_of X G z_isinstance,
    n_len := PySem.W.mg_none_of X G z_len,
    n_list := PySem.W.mg_none_of X G z_list,
    n_max := PySem.W.mg_none_of X G z_max,
    n_min := PySem.W.mg_none_of X G z_min,
    n_range := PySem.W.mg_none_of X G z_range,
    n_sum := PySem.W.mg_none_of X G z_sum,
    n_tuple := PySem.W.mg_none_of X G z_tuple,
    c_MOST_LETTERS := ⟨_, PySem.W.mg_of X G v_MOST_LETTERS⟩,
    c_MOST_TIMES := ⟨_, PySem.W.mg_of X G v_MOST_TIMES⟩ }
  exact ⟨PySem.W.fnOf "law" "law" (defArgs s_law) (defBody s_law) (defScope s_law) .none kV_law dc_law pm_law an_law cd_law ct_law, fun s v => .of_eq rfl, fun base _ _ => ok_law T⟩

end Lw
open PySem PySem.W PyProof.Rows
set_option maxHeartbeats 0 in
theorem PySem.Challenge.cw_walkclubs_k52_whole_numbers_there_and_ba_holds : PySem.Challenge.rw_walkclubs_k52_whole_numbers_there_and_ba.Holds := by
  w_on; o_law; k_head; (case hw => w_witness2)
  k_fill
  refine L2.walk_of (l := PySem.Challenge.rw_walkclubs_k52_whole_numbers_there_and_ba) (n := 63) (k := 8) (x := "_law_script") (CX := fun _ => L2.CX0) (sp := fun w => Lw.sp_law _) rfl (by decide) rfl ⟨rfl, by decide, by decide⟩ (fun w h Y => PySem.W.kIn_of Y) ?F (fun _ _ a ns hl _ hS => ⟨a, ns, rfl, hS, hl, fun _ => rfl⟩) (fun _ _ _ _ _ h => h)
  case F =>
    intro w mg fa h KX G hmg
    refine' Lw.all_mk KX G hmg ?a_is_integer ?l_is_integer ?c_is_integer ?k_is_integer ?a_steps_of ?l_steps_of ?c_steps_of ?k_steps_of ?a_straightened ?l_straightened ?c_straightened ?k_straightened ?a_turned_back ?l_turned_back ?c_turned_back ?k_turned_back ?a_many_of_lengths ?l_many_of_lengths ?c_many_of_lengths ?k_many_of_lengths ?a__law_well ?l__law_well ?c__law_well ?k__law_well ?a__law_take ?l__law_take ?c__law_take ?k__law_take ?a__law_steps ?l__law_steps ?c__law_steps ?k__law_steps ?a__law_key ?l__law_key ?c__law_key ?k__law_key ?a_is_letters ?l_is_letters ?c_is_letters ?k_is_letters ?a_is_step_of ?l_is_step_of ?c_is_step_of ?k_is_step_of ?a_check_least ?l_check_least ?c_check_least ?k_check_least ?a_check_within ?l_check_within ?c_check_within ?k_check_within ?a_steps_behind ?l_steps_behind ?c_steps_behind ?k_steps_behind ?a_is_walk_of ?l_is_walk_of ?c_is_walk_of ?k_is_walk_of ?a_check_letters ?l_check_letters ?c_check_letters ?k_check_letters ?a_place_among_all ?l_place_among_all ?c_place_among_all ?k_place_among_all ?a_walk_at_place ?l_walk_at_place ?c_walk_at_place ?k_walk_at_place ?a_check_step ?l_check_step ?c_check_step ?k_check_step ?a_check_walk ?l_check_walk ?c_check_walk ?k_check_walk ?a_how_many ?l_how_many ?c_how_many ?k_how_many ?a_nth_walk ?l_nth_walk ?c_nth_walk ?k_nth_walk ?a_between ?l_between ?c_between ?k_between ?a_power ?l_power ?c_power ?k_power ?a_number_of ?l_number_of ?c_number_of ?k_number_of ?a_next_walk ?l_next_walk ?c_next_walk ?k_next_walk ?a__law_shares ?l__law_shares ?c__law_shares ?k__law_shares ?a__law_joined ?l__law_joined ?c__law_joined ?k__law_joined ?a__law_first_steps ?l__law_first_steps ?c__law_first_steps ?k__law_first_steps ?a__law_there ?l__law_there ?c__law_there ?k__law_there ?a__law_long ?l__law_long ?c__law_long ?k__law_long ?a__law_ends ?l__law_ends ?c__law_ends ?k__law_ends ?a__law_right ?l__law_right ?c__law_right ?k__law_right ?a_law ?l_law ?c_law ?k_law ?z_abs ?z_all ?z_bool ?z_divmod ?z_enumerate ?z_int ?z_isinstance ?z_len ?z_list ?z_max ?z_min ?z_range ?z_sum ?z_tuple ?v_MOST_LETTERS ?v_MOST_TIMES
    (case a_is_integer => k_is); (case l_is_integer => k_is); (case c_is_integer => k_is); (case k_is_integer => k_is); (case a_steps_of => k_is); (case l_steps_of => k_is); (case c_steps_of => k_is); (case k_steps_of => k_is); (case a_straightened => k_is); (case l_straightened => k_is); (case c_straightened => k_is); (case k_straightened => k_is); (case a_turned_back => k_is); (case l_turned_back => k_is); (case c_turned_back => k_is); (case k_turned_back => k_is); (case a_many_of_lengths => k_is); (case l_many_of_lengths => k_is); (case c_many_of_lengths => k_is); (case k_many_of_lengths => k_is); (case a__law_well => k_is); (case l__law_well => k_is); (case c__law_well => k_is); (case k__law_well => k_is); (case a__law_take => k_is); (case l__law_take => k_is); (case c__law_take => k_is); (case k__law_take => k_is); (case a__law_steps => k_is); (case l__law_steps => k_is); (case c__law_steps => k_is); (case k__law_steps => k_is); (case a__law_key => k_is); (case l__law_key => k_is); (case c__law_key => k_is); (case k__law_key => k_is); (case a_is_letters => k_is); (case l_is_letters => k_is); (case c_is_letters => k_is); (case k_is_letters => k_is); (case a_is_step_of => k_is); (case l_is_step_of => k_is); (case c_is_step_of => k_is); (case k_is_step_of => k_is); (case a_check_least => k_is); (case l_check_least => k_is); (case c_check_least => k_is); (case k_check_least => k_is); (case a_check_within => k_is); (case l_check_within => k_is); (case c_check_within => k_is); (case k_check_within => k_is); (case a_steps_behind => k_is); (case l_steps_behind => k_is); (case c_steps_behind => k_is); (case k_steps_behind => k_is); (case a_is_walk_of => k_is); (case l_is_walk_of => k_is); (case c_is_walk_of => k_is); (case k_is_walk_of => k_is); (case a_check_letters => k_is); (case l_check_letters => k_is); (case c_check_letters => k_is); (case k_check_letters => k_is); (case a_place_among_all => k_is); (case l_place_among_all => k_is); (case c_place_among_all => k_is); (case k_place_among_all => k_is); (case a_walk_at_place => k_is); (case l_walk_at_place => k_is); (case c_walk_at_place => k_is); (case k_walk_at_place => k_is); (case a_check_step => k_is); (case l_check_step => k_is); (case c_check_step => k_is); (case k_check_step => k_is); (case a_check_walk => k_is); (case l_check_walk => k_is); (case c_check_walk => k_is); (case k_check_walk => k_is); (case a_how_many => k_is); (case l_how_many => k_is); (case c_how_many => k_is); (case k_how_many => k_is); (case a_nth_walk => k_is); (case l_nth_walk => k_is); (case c_nth_walk => k_is); (case k_nth_walk => k_is); (case a_between => k_is); (case l_between => k_is); (case c_between => k_is); (case k_between => k_is); (case a_power => k_is); (case l_power => k_is); (case c_power => k_is); (case k_power => k_is); (case a_number_of => k_is); (case l_number_of => k_is); (case c_number_of => k_is); (case k_number_of => k_is); (case a_next_walk => k_is); (case l_next_walk => k_is); (case c_next_walk => k_is); (case k_next_walk => k_is); (case a__law_shares => k_is); (case l__law_shares => k_is); (case c__law_shares => k_is); (case k__law_shares => k_is); (case a__law_joined => k_is); (case l__law_joined => k_is); (case c__law_joined => k_is); (case k__law_joined => k_is); (case a__law_first_steps => k_is); (case l__law_first_steps => k_is); (case c__law_first_steps => k_is); (case k__law_first_steps => k_is); (case a__law_there => k_is); (case l__law_there => k_is); (case c__law_there => k_is); (case k__law_there => k_is); (case a__law_long => k_is); (case l__law_long => k_is); (case c__law_long => k_is); (case k__law_long => k_is); (case a__law_ends => k_is); (case l__law_ends => k_is); (case c__law_ends => k_is); (case k__law_ends => k_is); (case a__law_right => k_is); (case l__law_right => k_is); (case c__law_right => k_is); (case k__law_right => k_is); (case a_law => k_is); (case l_law => k_is); (case c_law => k_is); (case k_law => k_is); (case z_abs => k_is); (case z_all => k_is); (case z_bool => k_is); (case z_divmod => k_is); (case z_enumerate => k_is); (case z_int => k_is); (case z_isinstance => k_is); (case z_len => k_is); (case z_list => k_is); (case z_max => k_is); (case z_min => k_is); (case z_range => k_is); (case z_sum => k_is); (case z_tuple => k_is); (case v_MOST_LETTERS => k_is); (case v_MOST_TIMES => k_is)

#print axioms PySem.Challenge.cw_walkclubs_k52_whole_numbers_there_and_ba_holds
