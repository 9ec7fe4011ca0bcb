import PyProof.Rows.All
import Wide.All
import OpenK.AllK
import Wide.FinOn
import HandS.ForMost
import HandS.Flow
import HandS.IsInst
import HandS.Style
import HandS.TupAny
import HandS.TupMul
import HandS.Wide
import HandS.Evl
import HandS.SortKw
import PyProof.ReprReads
import HandS.Zip
import PySem.Challenge.RW_walkclubs_k02_cores_and_roots
set_option Elab.async false
set_option linter.all false
set_option maxRecDepth 100000
set_option maxHeartbeats 4000000
/-! rules that the layer lacks: ** of wide ints, tuple * any int, t[::-1] of a tuple, a call of keywords alone -/
namespace HT
open PySem PySem.Spec PyProof.Rows
section
variable {prog : Program} {w : World} {A : Around} {E : Value → Shared → Prop} {s : Shared}
theorem wk_pick (xs : Array Value) : ((List.range xs.size).filterMap fun (k : Nat) => xs[((((xs.size : Nat) : Int) - 1) + (k : Int) * (-1)).toNat]?).toArray = xs.toList.reverse.toArray := by
  have e : (List.range xs.size).filterMap (fun (k : Nat) => xs[((((xs.size : Nat) : Int) - 1) + (k : Int) * (-1)).toNat]?) = ((List.range xs.size).map fun k => xs.size - 1 - k).filterMap (xs[·]?) := by
    rw [List.filterMap_map]
    have e0 : (fun (k : Nat) => xs[((((xs.size : Nat) : Int) - 1) + (k : Int) * (-1)).toNat]?) = ((xs[·]?) ∘ fun k => xs.size - 1 - k) := by
      funext k
      have e1 : ((((xs.size : Nat) : Int) - 1) + (k : Int) * (-1)).toNat = xs.size - 1 - k := by omega
      show xs[((((xs.size : Nat) : Int) - 1) + (k : Int) * (-1)).toNat]? = xs[xs.size - 1 - k]?
      rw [e1]
    rw [e0]
  rw [e, PySem.W.krv_range, List.filterMap_reverse, PySem.W.krv_all]
theorem wk_places (n : Nat) : Builtin.Slice.slicePlaces ((n : Int) - 1) (-1) (-1) = n := by
  unfold Builtin.Slice.slicePlaces
  rw [if_neg (by decide)]
  by_cases h : n = 0
  · subst h
    rfl
  · rw [if_pos (by omega), show (- -1 : Int) = 1 from rfl, Int.ediv_one]
    omega
theorem wk_applied {sl : Addr} {vs : Value} {n : Nat} {Q : Int × Int × Nat → Shared → Prop} (hs : s.heap.IsSliceOf sl .none .none vs) (ps : IsPart vs (some (-1)))
    (h : Q ((n : Int) - 1, -1, n) s) : wpAny (model prog w) A (Builtin.Slice.sliceApplied (.ref sl) (pure (n : Int))) Q E s := by
  obtain ⟨os, hos, hcs, hds⟩ := id hs
  unfold Builtin.Slice.sliceApplied Builtin.Slice.sliceFields
  refine wpAny_bind (wpAny_bind (wpAny_field hos hds (x := .none) rfl (wpAny_bind (wpAny_field hos hds (x := .none) rfl (wpAny_bind (wpAny_field hos hds (x := vs) rfl (wpAny_pure ?_)))))))
  refine wpAny_bind (slicePart_ ps ?_)
  show wpAny _ _ (if ((-1 : Int) == 0) = true then _ else _) _ _ s
  rw [if_neg (by decide)]
  refine wpAny_bind (slicePart_none (wpAny_bind (slicePart_none (wpAny_bind (wpAny_pure ?_)))))
  show wpAny _ _ (pure (((n : Int) - 1), (-1 : Int), Builtin.Slice.slicePlaces ((n : Int) - 1) (-1) (-1))) _ _ s
  rw [wk_places]
  exact wpAny_pure h
theorem wk_getItem_tuple_rev {t sl : Addr} {items : Array Value} {vs : Value} {Q : Value → Shared → Prop} (ht : IsTup s.heap t items) (hs : s.heap.IsSliceOf sl .none .none vs) (ps : IsPart vs (some (-1)))
    (h : Q (.ref s.heap.objs.size) { s with heap := s.heap.push { cls := .type "tuple", data := .seq items.toList.reverse.toArray } })
    (hsz : items.size ≤ sizeLine) : wpAny (model prog w) A (getItem (.ref t) (.ref sl)) Q E s := by
  have htake : sizeOk (.seq items.toList.reverse.toArray) := by
    show items.toList.reverse.toArray.size ≤ sizeLine
    rw [List.size_toArray, List.length_reverse, Array.length_toList]
    exact hsz
  obtain ⟨os, hos, hcs, hds⟩ := id hs
  have hTs : s.TypeIs (.ref sl) "slice" := ⟨os, hos, hcs⟩
  unfold getItem
  try with_reducible refine wpAny_holding ?_
  first | refine wpAny_bind (wpAny_pure ?_) | skip
  refine wpAny_bind (wpAny_sequenceKey ht.typeIs (by decide) ?_)
  refine wpAny_bind (wpAny_callSpecial?_slot (name := Str.ofString "__getitem__") ht.typeIs PyProof.Rows.slot_tuple_getitem
    (wpAny_call_entry PyProof.Rows.slot_tuple_getitem ht.typeIs entry_tuple_getitem ?_ (args_tuple_getitem _ _)))
  show wpAny _ _ (Builtin.Tuple.tupleItemsOf (.ref t) >>= _) _ _ s
  refine wpAny_bind (tupleItemsOf_ ht ?_)
  refine wpAny_bind (wpAny_typeOf hTs ?_)
  rw [if_pos (by decide)]
  refine wpAny_bind (wk_applied hs ps ?_)
  have hno : ¬ (((((items.size : Nat) : Int) - 1) == 0 && (-1 : Int) == 1 && items.size == items.size) = true) := by
    intro q
    rw [Bool.and_eq_true, Bool.and_eq_true] at q
    exact absurd q.1.2 (by decide)
  show wpAny _ _ (if ((((items.size : Nat) : Int) - 1) == 0 && (-1 : Int) == 1 && items.size == items.size) = true then _ else _) _ _ s
  rw [if_neg hno, wk_pick]
  first
    | exact wpAny_bind (m := Builtin.Tuple.tupleExact _) (wpAny_newObj_type (wpAny_pure ⟨_, rfl, wpAny_pure h⟩) htake)
    | exact wpAny_bind (m := Builtin.Tuple.tupleExact _) (wpAny_newObj_type (wpAny_bind (wpAny_pure (wpAny_pure ⟨_, rfl, wpAny_pure h⟩))) htake)
    | exact wpAny_bind (wpAny_bind (m := Builtin.Tuple.tupleExact _) (wpAny_newObj_type (wpAny_pure (wpAny_pure ⟨_, rfl, wpAny_pure h⟩)) htake))
    | exact wpAny_bind (wpAny_bind (m := Builtin.Tuple.tupleExact _) (wpAny_newObj_type (wpAny_pure ⟨_, rfl, wpAny_pure h⟩) htake))
end
end HT
namespace L2
open PySem PySem.Spec PyProof.Rows HT
/-! ### ** -/
def CPowW (i j : Int) : Prop := 0 ≤ j ∧ (Builtin.Int.intBits i : Int) * j ≤ 2 ^ 27
section
variable {X : Cx}
theorem op_powW : OpR X (binaryOp .Pow) (rI CPowW fun i j => .int (i ^ j.toNat)) := opI fun _ _ _ _ _ _ _ hc q => pow_int hc.1 hc.2 q
end
theorem wide_bits {i : Int} {a : Nat} (h0 : 0 < a) (ha : i.natAbs < 2 ^ a) : Builtin.Int.intBits i ≤ a := by
  have x := PySem.Flt.log2_lt_of h0 ha
  unfold Builtin.Int.intBits
  split <;> omega
theorem wide_pow {i : Int} {a k : Nat} (h0 : 0 < a) (ha : i.natAbs < 2 ^ a) (h : a * k ≤ 134217728) : CPowW i (k : Int) := by
  refine ⟨by omega, ?_⟩
  have x := wide_bits h0 ha
  have y : Builtin.Int.intBits i * k ≤ a * k := Nat.mul_le_mul_right k x
  have z : ((Builtin.Int.intBits i * k : Nat) : Int) ≤ 2 ^ 27 := by
    have : Builtin.Int.intBits i * k ≤ 134217728 := Nat.le_trans y h
    have e : (2 : Int) ^ 27 = 134217728 := by decide
    rw [e]
    omega
  rw [Int.natCast_mul] at z
  exact z
/-! ### tuple * int, any -/
theorem wk_tuple_same (l : Addr) (items : Array Value) (n : Nat) (dd : Option Addr) (sl : Array (Option Value)) (x : Int) (u : Tok) (c0 : (decide (x < -(2 ^ 63)) || decide (x ≥ 2 ^ 63)) = false) (c1 : (items.isEmpty || x == 1) = true) :
    Meets (Builtin.«tuple.__mul__» ⟨[.ref l, .int x u], []⟩) (fun _ R s => s.heap.get? l = some { cls := .type "tuple", dict := dd, data := .seq items n, slots := sl } ∧ R (.ok (.ret (Value.ref l))) s) :=
  .of_wp fun prog w A R s h => by
    obtain ⟨hp, g, d, tk, os⟩ := s
    obtain ⟨hl, h⟩ := h
    have f1 := AutoSeq1.idx_int
    wp_walk using wpAny_loadPart' hl
    repeat (first
      | (refine wpAny_ite_false (decide_eq_false (by rw [c0]; exact Bool.false_ne_true)) ?_; wp_walk using wpAny_loadPart' hl)
      | (refine wpAny_ite_true (decide_eq_true c1) ?_; wp_walk using wpAny_loadPart' hl))
    exact ⟨_, rfl, h⟩
theorem wk_tuple_none (l : Addr) (items : Array Value) (n : Nat) (dd : Option Addr) (sl : Array (Option Value)) (x : Int) (u : Tok) (c0 : (decide (x < -(2 ^ 63)) || decide (x ≥ 2 ^ 63)) = false) (c1 : (items.isEmpty || x == 1) = false) (c2 : (decide (x ≤ 0) || items.isEmpty) = true) :
    Meets (Builtin.«tuple.__mul__» ⟨[.ref l, .int x u], []⟩) (fun _ R s => s.heap.get? l = some { cls := .type "tuple", dict := dd, data := .seq items n, slots := sl } ∧
      R (.ok (.ret (Value.ref s.heap.objs.size))) { s with heap := s.heap.push { cls := Value.type "tuple", data := Data.seq #[] }, toks := s.toks }) :=
  .of_wp fun prog w A R s h => by
    obtain ⟨hp, g, d, tk, os⟩ := s
    obtain ⟨hl, h⟩ := h
    have f1 := AutoSeq1.idx_int
    wp_walk using wpAny_loadPart' hl
    repeat (first
      | (refine wpAny_ite_false (decide_eq_false (by rw [c0]; exact Bool.false_ne_true)) ?_; wp_walk using wpAny_loadPart' hl)
      | (refine wpAny_ite_false (decide_eq_false (by rw [c1]; exact Bool.false_ne_true)) ?_; wp_walk using wpAny_loadPart' hl)
      | (refine wpAny_ite_true (decide_eq_true c2) ?_; wp_walk using wpAny_loadPart' hl))
    exact ⟨_, rfl, h⟩
def rRepTA (K : PySem.W.Frag) : R2 := fun x y H Q => ∃ l k xs, x = .ref l ∧ y = .int k ∧ SqT K H l xs ∧ 0 ≤ k ∧ k ≤ 1000 ∧ xs.length ≤ 1000 ∧
  (xs = [] ∨ k = 1 → Q (.ref l) H) ∧ (¬ (xs = [] ∨ k = 1) → ∀ p, H p = none → Q (.ref p) (upd H p (.tup (List.replicate k.toNat xs).flatten)))
section
variable {X : Cx}
theorem op_repTA : OpR X (binaryOp .Mult) (rRepTA X.K) := by
  intro pins s σ H x y v u Q I rx ry h
  obtain ⟨l, k, xs, rfl, rfl, hT, h1, h2, hz, q1, q2⟩ := h
  by_cases h2k : 2 ≤ k ∧ xs ≠ []
  · exact op_repT pins s σ H _ _ v u Q I rx ry ⟨l, k, xs, rfl, rfl, hT, h2k.2, h2k.1, h2, hz, q2 (fun z => z.elim h2k.2 fun e => by have := h2k.1; omega)⟩
  · cases rx
    obtain ⟨t, rfl⟩ := ry
    obtain ⟨its, r, ⟨⟨cls, dd, data, sl⟩, ho, hc, n, hd⟩, hs⟩ := I.tuple hT
    simp only at hc hd
    subst hc hd
    have hle : its.length = xs.length := r.length.symm
    have c0 : (decide (k < -(2 ^ 63)) || decide (k ≥ 2 ^ 63)) = false := by
      rw [decide_eq_false (by omega), decide_eq_false (by omega)] <;> rfl
    have hi : its.toArray.isEmpty = decide (xs = []) := by
      cases its with
      | nil =>
        have e : xs = [] := List.eq_nil_of_length_eq_zero (by simpa using hle.symm)
        subst e
        rfl
      | cons a b =>
        have e : xs ≠ [] := fun z => by
          subst z
          simp at hle
        rw [decide_eq_false e]
        rfl
    by_cases hw : xs = [] ∨ k = 1
    · have c1 : (its.toArray.isEmpty || k == 1) = true := by
        rw [hi]
        rcases hw with e | e
        · simp [e]
        · simp [e]
      refine wpAny_binaryOp_repeat_ref (T := "tuple") (U := "int") (by decide) ⟨_, ho, rfl⟩ (fun s' => typeIs_int s' k t) noFill_tuple_mul F.fills_int_mul F.slot_int_rmul repeat_tuple F.slot_int_index.lookup
        (call_meets F.slot_int_rmul (typeIs_int s k t) F.entry_int_rmul (F.args_int_rmul_2 _ _) (int_rmul_tuple k t l its.toArray n dd sl)
          ⟨ho, rfl, ⟨_, ho, rfl⟩, call_meets F.slot_tuple_mul ⟨_, ho, rfl⟩ F.entry_tuple_mul (F.args_tuple_mul_2 _ _) (wk_tuple_same l its.toArray n dd sl k t c0 c1) ⟨ho, ?_⟩⟩)
      exact ⟨.ref l, H, I, rfl, q1 hw⟩
    · have hne : xs ≠ [] := fun e => hw (.inl e)
      have hk0 : k = 0 := by
        have h3 : ¬ 2 ≤ k := fun z => h2k ⟨z, hne⟩
        have h4 : k ≠ 1 := fun z => hw (.inr z)
        omega
      have c1 : (its.toArray.isEmpty || k == 1) = false := by
        rw [hi, decide_eq_false hne, hk0]
        rfl
      have c2 : (decide (k ≤ 0) || its.toArray.isEmpty) = true := by
        rw [hk0]
        rfl
      refine wpAny_binaryOp_repeat_ref (T := "tuple") (U := "int") (by decide) ⟨_, ho, rfl⟩ (fun s' => typeIs_int s' k t) noFill_tuple_mul F.fills_int_mul F.slot_int_rmul repeat_tuple F.slot_int_index.lookup
        (call_meets F.slot_int_rmul (typeIs_int s k t) F.entry_int_rmul (F.args_int_rmul_2 _ _) (int_rmul_tuple k t l its.toArray n dd sl)
          ⟨ho, rfl, ⟨_, ho, rfl⟩, call_meets F.slot_tuple_mul ⟨_, ho, rfl⟩ F.entry_tuple_mul (F.args_tuple_mul_2 _ _) (wk_tuple_none l its.toArray n dd sl k t c0 c1 c2) ⟨ho, ?_⟩⟩)
      refine ⟨.ref s.heap.objs.size, _, I.laid (t' := s.toks) (o := .tup (List.replicate k.toNat xs).flatten) (fun b ob q => Heap.get?_push_of_some _ q) (Nat.le_refl _) ?_, rfl, q2 hw _ (I.hok.fresh (Nat.le_refl _))⟩
      subst hk0
      exact ⟨Nat.zero_le _, [], .nil, IsTup.new _ _⟩
/-! ### t[::-1] -/
def tRevT (K : PySem.W.Frag) (te : TE) : TE := fun σ H Q => te σ H fun x H1 => ∃ a xs, x = .ref a ∧ SqT K H1 a xs ∧ ∀ p, H1 p = none → Q (.ref p) (upd H1 p (.tup xs.reverse))
theorem pe_revT {e : Expr} {te : TE} {k : Nat} {p1 p2 p3 pos : Pos} (he : PE X e te) : PE X (.Subscript e (.Slice none none (some (.UnaryOp .USub (.Constant (.int 1) k p1) p2)) p3) pos) (tRevT X.K te) := by
  refine ⟨fun pins s σ H Q I h => ?_⟩
  refine Subscript_ (thn (he.run pins s σ H _ I h) fun v s1 ⟨x, H1, I1, r1, q1⟩ => ?_)
  obtain ⟨a, xs, ex, hx, q⟩ := q1
  subst ex
  cases r1
  have hst : PO X (some (.UnaryOp .USub (.Constant (.int 1) k p1) p2)) (tPart (tUn (rU fun i => .int (-i)) (tC (.int 1)))) := po_some (pe_un un_neg pe_int)
  refine wpAny_Slice (thn (po_none.run pins s1 σ H1 (fun o H2 => o = none ∧ H2 = H1) I1 ⟨rfl, rfl⟩) fun vl s2 ⟨l, H2, I2, pl, el, e2⟩ => ?_)
  subst el e2
  cases pl
  refine thn (po_none.run pins s2 σ H2 (fun o H3 => o = none ∧ H3 = H2) I2 ⟨rfl, rfl⟩) fun vu s3 ⟨u, H3, I3, pu, eu, e3⟩ => ?_
  subst eu e3
  cases pu
  refine thn (hst.run pins s3 σ H3 (fun o H4 => o = some (-1) ∧ H4 = H3) I3 ⟨1, rfl, -1, rfl, rfl, rfl⟩) fun vs s4 ⟨o, H4, I4, ps, eo, e4⟩ => ?_
  subst eo e4
  have I5 : Inv X pins σ H4 { s4 with heap := s4.heap.push { cls := .type "slice", data := .fields #[.none, .none, vs] } } := I4.kept (t' := s4.toks) fun b ob q => Heap.get?_push_of_some _ q
  obtain ⟨its, r, ht, hz⟩ := I5.tuple hx
  have hlen := r.length
  show wpAny (model X.prog X.w) X.A (subscriptTail e (.Slice none none (some (.UnaryOp .USub (.Constant (.int 1) k p1) p2)) p3) (.ref a) (.ref s4.heap.objs.size)) (EP X pins σ Q) X.xe { s4 with heap := s4.heap.push { cls := .type "slice", data := .fields #[.none, .none, vs] } }
  refine tail_any (ops := [.ref a, .ref s4.heap.objs.size]) ht.typeIs (PyProof.Rows.slot_tuple_getitem.lookup) ?_ (by with_unfolding_all rfl)
  refine wk_getItem_tuple_rev ht (Heap.IsSliceOf.new _ .none .none vs) ps ?_ (by rw [List.size_toArray]; omega)
  refine ⟨.ref _, _, I5.laid (t' := s4.toks) (o := .tup xs.reverse) (fun b ob q => Heap.get?_push_of_some _ q) (Nat.le_refl _) ?_, rfl, q _ (I5.hok.fresh (Nat.le_refl _))⟩
  exact ⟨by rw [List.length_reverse]; exact hz, _, r.reverse, IsTup.new _ _⟩
end
/-! ### f(k = v, ..) -/
section
variable {X : Cx} {CX : CXT} {k : Nat} {f : Addr} {fd : FuncData} {ps ks : List Str} {sp : Sp} {E : XK} {x : Str} {p pos : Pos} {kws : List Keyword} {tk : TA} {g : List Value → List Value → List Value} {gV : List V → List V → List V}
theorem pe_callK0 (F : FnOk X.prog X.w X.K X.mg X.base CX k f fd ps sp) (hr : Room k X.A) (hg : Gl X x) (hm : X.mg x = some (.ref f)) (hk : PySem.W.keepIn X.K (.ref f) = true) (hb : KBinds X.K fd ps ks g gV) (hx : Passes CX X E)
    (hkw : PK X kws tk) (hall : (backToKw pos (keywordEach kws X.env)).all (·.1.isSome) = true := by rfl) (hks : (backToKw pos (keywordEach kws X.env)).filterMap (·.1) = ks := by rfl)
    (hdb : (x == ("__debug__" : Str)) = false := by decide)
    (hpl : ((backTo pos (starEach [] X.env)).any (·.1) || (backToKw pos (keywordEach kws X.env)).any (·.1.isNone)) = false := by rfl) :
    PE X (.Call (.Name x p) [] kws pos) (tCallK sp gV E tNil tk) := by
  refine ⟨fun pins s σ H Q I h => ?_⟩
  refine wpAny_Call_Name_kw (ld_glob I hg hm ?_ hdb)
  refine PySem.W.callWith_KW0 (h₀ := X.base) I.ok.mod.kin hk hall ?_ hpl
  refine thn (hkw.run pos pins s σ H _ I h) fun ws s2 ⟨zs, H2, I2, rz, q2⟩ => ⟨I2.kIn, ?_⟩
  rw [hks]
  exact run_fnk (us := []) (vs := []) F hr hb hx I2 .nil rz q2
end
end L2
/-! operators that go by what they meet: ints, lists, tuples -/
namespace L2
open PySem PySem.Spec PyProof.Rows Evl
def rAddI : R2 := rI0 fun i j => .int (i + j)
def rSubI : R2 := rI0 fun i j => .int (i - j)
def rMulI : R2 := rI CMul fun i j => .int (i * j)
def rMulJ : R2 := rI CMulW fun i j => .int (i * j)
def rModI : R2 := rI (fun _ j => 0 < j) fun i j => .int (i % j)
def rAddU (K : PySem.W.Frag) : R2 := fun x y H Q => rAddI x y H Q ∨ rCat x y H Q ∨ rCatA K x y H Q
def rMulU (K : PySem.W.Frag) : R2 := fun x y H Q => rMulI x y H Q ∨ rMulJ x y H Q ∨ rRep x y H Q ∨ rRepTA K x y H Q
def rEqU (K : PySem.W.Frag) : R2 := fun x y H Q => rEq x y H Q ∨ rEqD K x y H Q
def rNeU (K : PySem.W.Frag) : R2 := fun x y H Q => rNe x y H Q ∨ rNeD K x y H Q
def rSlU (K : PySem.W.Frag) : V → Option Int → Option Int → Hp → VK → Prop := fun x lo hi H Q => rSlL K x lo hi H Q ∨ rSlA K x lo hi H Q
section
variable {X : Cx}
theorem op_addU : OpR X (binaryOp .Add) (rAddU X.K) := op_add.or (op_cat.or op_catA)
theorem op_mulU : OpR X (binaryOp .Mult) (rMulU X.K) := op_mul.or (op_mulW.or (op_rep.or op_repTA))
theorem op_eqU (hu : X.A.units + 64 < cLine) : OpR X (compareOp .Eq) (rEqU X.K) := op_eq.or (op_eqD hu)
theorem op_neU (hu : X.A.units + 64 < cLine) : OpR X (compareOp .NotEq) (rNeU X.K) := op_ne.or (op_neD hu)
theorem sl_U : SlR X (rSlU X.K) := sl_list.or sl_tupA
def tRevU (K : PySem.W.Frag) (te : TE) : TE := fun σ H Q => te σ H fun x H1 => (∃ a xs, x = .ref a ∧ SqL K H1 a xs ∧ ∀ p, H1 p = none → Q (.ref p) (upd H1 p (.lst xs.reverse))) ∨ (∃ a xs, x = .ref a ∧ SqT K H1 a xs ∧ ∀ p, H1 p = none → Q (.ref p) (upd H1 p (.tup xs.reverse)))
/-- the reading of a part may be parted: what it gives is one of two -/
theorem pe_revU {e : Expr} {te : TE} {k : Nat} {p1 p2 p3 pos : Pos} (he : PE X e te) : PE X (.Subscript e (.Slice none none (some (.UnaryOp .USub (.Constant (.int 1) k p1) p2)) p3) pos) (tRevU X.K te) := by
  refine ⟨fun pins s σ H Q I h => ?_⟩
  refine Subscript_ (thn (he.run pins s σ H _ I h) fun v s1 ⟨x, H1, I1, r1, q1⟩ => ?_)
  have hst : PO X (some (.UnaryOp .USub (.Constant (.int 1) k p1) p2)) (tPart (tUn (rU fun i => .int (-i)) (tC (.int 1)))) := po_some (pe_un un_neg pe_int)
  refine wpAny_Slice (thn (po_none.run pins s1 σ H1 (fun o H2 => o = none ∧ H2 = H1) I1 ⟨rfl, rfl⟩) fun vl s2 ⟨l, H2, I2, pl, el, e2⟩ => ?_)
  subst el e2
  cases pl
  refine thn (po_none.run pins s2 σ H2 (fun o H3 => o = none ∧ H3 = H2) I2 ⟨rfl, rfl⟩) fun vu s3 ⟨u, H3, I3, pu, eu, e3⟩ => ?_
  subst eu e3
  cases pu
  refine thn (hst.run pins s3 σ H3 (fun o H4 => o = some (-1) ∧ H4 = H3) I3 ⟨1, rfl, -1, rfl, rfl, rfl⟩) fun vs s4 ⟨o, H4, I4, ps, eo, e4⟩ => ?_
  subst eo e4
  have I5 : Inv X pins σ H4 { s4 with heap := s4.heap.push { cls := .type "slice", data := .fields #[.none, .none, vs] } } := I4.kept (t' := s4.toks) fun b ob q => Heap.get?_push_of_some _ q
  rcases q1 with ⟨a, xs, ex, hx, q⟩ | ⟨a, xs, ex, hx, q⟩
  · subst ex
    cases r1
    obtain ⟨its, r, ht, hz⟩ := I5.list hx
    have hlen := r.length
    show wpAny (model X.prog X.w) X.A (subscriptTail e (.Slice none none (some (.UnaryOp .USub (.Constant (.int 1) k p1) p2)) p3) (.ref a) (.ref s4.heap.objs.size)) (EP X pins σ Q) X.xe { s4 with heap := s4.heap.push { cls := .type "slice", data := .fields #[.none, .none, vs] } }
    refine tail_any (ops := [.ref a, .ref s4.heap.objs.size]) ht.isList.typeIs (PySem.slot_list_getitem.lookup) ?_ (by with_unfolding_all rfl)
    refine wpAny_getItem_list_slice ht.isList (Heap.IsSliceOf.new _ .none .none vs) .none .none ps (by decide) ?_ (by rw [List.size_toArray]; omega)
    rw [PySem.W.krv_pick]
    refine ⟨.ref _, _, I5.laid (t' := s4.toks) (o := .lst xs.reverse) (fun b ob q => Heap.get?_push_of_some _ q) (Nat.le_refl _) ?_, rfl, q _ (I5.hok.fresh (Nat.le_refl _))⟩
    exact ⟨by rw [List.length_reverse]; exact hz, _, 0, r.reverse, Heap.get?_push_size _ rfl⟩
  · subst ex
    cases r1
    obtain ⟨its, r, ht, hz⟩ := I5.tuple hx
    have hlen := r.length
    show wpAny (model X.prog X.w) X.A (subscriptTail e (.Slice none none (some (.UnaryOp .USub (.Constant (.int 1) k p1) p2)) p3) (.ref a) (.ref s4.heap.objs.size)) (EP X pins σ Q) X.xe { s4 with heap := s4.heap.push { cls := .type "slice", data := .fields #[.none, .none, vs] } }
    refine tail_any (ops := [.ref a, .ref s4.heap.objs.size]) ht.typeIs (PyProof.Rows.slot_tuple_getitem.lookup) ?_ (by with_unfolding_all rfl)
    refine HT.wk_getItem_tuple_rev ht (Heap.IsSliceOf.new _ .none .none vs) ps ?_ (by rw [List.size_toArray]; omega)
    refine ⟨.ref _, _, I5.laid (t' := s4.toks) (o := .tup xs.reverse) (fun b ob q => Heap.get?_push_of_some _ q) (Nat.le_refl _) ?_, rfl, q _ (I5.hok.fresh (Nat.le_refl _))⟩
    exact ⟨by rw [List.length_reverse]; exact hz, _, r.reverse, IsTup.new _ _⟩
end

/-! ### heaps -/
abbrev IT (K : PySem.W.Frag) (H : Hp) (a : Addr) (ns : List Int) : Prop := SqT K H a (ns.map V.int)
abbrev IL (K : PySem.W.Frag) (H : Hp) (a : Addr) (ns : List Int) : Prop := SqL K H a (ns.map V.int)
/-- all but what stands at w is as it was -/
def ExW (w : Addr) (H H' : Hp) : Prop := ∀ a o, H a = some o → a ≠ w → H' a = some o
theorem ExW.refl {w : Addr} (H : Hp) : ExW w H H := fun _ _ h _ => h
theorem ExW.trans {w : Addr} {H H1 H2 : Hp} (a : ExW w H H1) (b : ExW w H1 H2) : ExW w H H2 := fun x o h n => b x o (a x o h n) n
theorem ExW.of {w : Addr} {H H' : Hp} (e : Ex H H') : ExW w H H' := fun a o h _ => e a o h
theorem ExW.upd {w : Addr} {H : Hp} {o : HO} : ExW w H (upd H w o) := fun a u h n => by
  rw [upd_ne n]
  exact h
theorem exw_t {K : PySem.W.Frag} {w : Addr} {H H' : Hp} {a : Addr} {xs ys : List V} (e : ExW w H H') (hw : H w = some (.lst ys)) (h : SqT K H a xs) : SqT K H' a xs := by
  rcases h with (h | ⟨o, h⟩) | h
  · exact .inl (.inl (e _ _ h (ne_of h hw (by intro z; cases z))))
  · exact .inl (.inr ⟨o, e _ _ h (ne_of h hw (by intro z; cases z))⟩)
  · exact .inr h
theorem exw_l {K : PySem.W.Frag} {w : Addr} {H H' : Hp} {a : Addr} {xs : List V} (e : ExW w H H') (hw : a ≠ w) (h : SqL K H a xs) : SqL K H' a xs := by
  rcases h with (h | ⟨o, h⟩) | h
  · exact .inl (.inl (e _ _ h hw))
  · exact .inl (.inr ⟨o, e _ _ h hw⟩)
  · exact .inr h
/-- a new object, the heap behind it unnamed -/
theorem alloc {H : Hp} {o : HO} {Q : VK} (h : ∀ p H1, H p = none → Ex H H1 → H1 p = some o → Q (.ref p) H1) : ∀ p, H p = none → Q (.ref p) (upd H p o) :=
  fun p hp => h p _ hp (Ex.new hp) upd_same
theorem t_of {K : PySem.W.Frag} {H : Hp} {a : Addr} {xs : List V} (h : H a = some (.tup xs)) : SqT K H a xs := .inl (.inl h)
theorem l_of {K : PySem.W.Frag} {H : Hp} {a : Addr} {xs : List V} (h : H a = some (.lst xs)) : SqL K H a xs := .inl (.inl h)
/-- a tuple of the heap is no list of it -/
theorem t_ne {K : PySem.W.Frag} {H : Hp} {a w : Addr} {xs ys : List V} (h : H a = some (.tup xs)) (hw : H w = some (.lst ys)) : a ≠ w := ne_of h hw (by intro z; cases z)
/-- data of ints -/
theorem dp_ints {K : PySem.W.Frag} {H : Hp} : ∀ ns : List Int, DpAll K H (ns.map V.int) (ns.map PyData.int)
  | [] => .nil
  | n :: r => .cons (.int n) (dp_ints r)
theorem dp_t {K : PySem.W.Frag} {H : Hp} {a : Addr} {ns : List Int} (h : IT K H a ns) : Dp K H (.ref a) (.tuple (ns.map .int)) := .tup h (dp_ints ns)
theorem dp_l {K : PySem.W.Frag} {H : Hp} {a : Addr} {ns : List Int} (h : IL K H a ns) : Dp K H (.ref a) (.list (ns.map .int)) := .lst h (dp_ints ns)
end L2
namespace L2
open PySem PySem.Spec PyProof.Rows Evl
/-! ### == of sequences of ints -/
theorem eqvAll_ints : ∀ ns ms : List Int, PyData.eqvAll (ns.map .int) (ms.map .int) = decide (ns = ms)
  | [], [] => by simp [PyData.eqvAll]
  | [], m :: ms => by simp [PyData.eqvAll]
  | n :: ns, [] => by simp [PyData.eqvAll]
  | n :: ns, m :: ms => by
    rw [List.map_cons, List.map_cons, PyData.eqvAll, eqvAll_ints ns ms, PyData.eqv]
    by_cases h : n = m
    · subst h
      simp
    · simp [h]
theorem eqv_tints (ns ms : List Int) : PyData.eqv (.tuple (ns.map .int)) (.tuple (ms.map .int)) = decide (ns = ms) := by rw [PyData.eqv, eqvAll_ints]
theorem eqv_lints (ns ms : List Int) : PyData.eqv (.list (ns.map .int)) (.list (ms.map .int)) = decide (ns = ms) := by rw [PyData.eqv, eqvAll_ints]
theorem canLay_ints : ∀ ns : List Int, PyData.canLayAll0 (ns.map .int) = true
  | [] => by simp [PyData.canLayAll0]
  | n :: ns => by
    rw [List.map_cons, PyData.canLayAll0, canLay_ints ns]
    simp [PyData.canLay0]
theorem depth_ints : ∀ ns : List Int, PyData.depthAll (ns.map .int) = 0
  | [] => by simp [PyData.depthAll]
  | n :: ns => by
    rw [List.map_cons, PyData.depthAll, depth_ints ns]
    simp [PyData.depth]
theorem shaped_t (ns : List Int) : SeqAt.shaped (.tuple (ns.map .int)) = true := by
  unfold SeqAt.shaped
  rw [PyData.canLay0, canLay_ints, PyData.depth, depth_ints]
  rfl
theorem shaped_l (ns : List Int) : SeqAt.shaped (.list (ns.map .int)) = true := by
  unfold SeqAt.shaped
  rw [PyData.canLay0, canLay_ints, PyData.depth, depth_ints]
  rfl
section
variable {K : PySem.W.Frag} {H : Hp} {Q : VK} {a b : Addr} {ns ms : List Int}
theorem r_eqT (ha : IT K H a ns) (hb : IT K H b ms) (q : Q (.bl (decide (ns = ms))) H) : rEqU K (.ref a) (.ref b) H Q :=
  .inr ⟨_, _, dp_t ha, dp_t hb, shaped_t ns, shaped_t ms, by rw [eqv_tints]; exact q⟩
theorem r_neT (ha : IT K H a ns) (hb : IT K H b ms) (q : Q (.bl (!decide (ns = ms))) H) : rNeU K (.ref a) (.ref b) H Q :=
  .inr ⟨_, _, dp_t ha, dp_t hb, shaped_t ns, shaped_t ms, by rw [eqv_tints]; exact q⟩
theorem r_eqL (ha : IL K H a ns) (hb : IL K H b ms) (q : Q (.bl (decide (ns = ms))) H) : rEqU K (.ref a) (.ref b) H Q :=
  .inr ⟨_, _, dp_l ha, dp_l hb, shaped_l ns, shaped_l ms, by rw [eqv_lints]; exact q⟩
theorem r_neL (ha : IL K H a ns) (hb : IL K H b ms) (q : Q (.bl (!decide (ns = ms))) H) : rNeU K (.ref a) (.ref b) H Q :=
  .inr ⟨_, _, dp_l ha, dp_l hb, shaped_l ns, shaped_l ms, by rw [eqv_lints]; exact q⟩
theorem r_eqI {i j : Int} (q : Q (.bl (decide (i = j))) H) : rEqU K (.int i) (.int j) H Q := .inl ⟨rfl, by
  have e : decide ((V.int i) = V.int j) = decide (i = j) := by simp
  rw [e]
  exact q⟩
theorem r_neI {i j : Int} (q : Q (.bl (!decide (i = j))) H) : rNeU K (.int i) (.int j) H Q := .inl ⟨rfl, by
  have e : decide ((V.int i) = V.int j) = decide (i = j) := by simp
  rw [e]
  exact q⟩
theorem r_add {i j : Int} (q : Q (.int (i + j)) H) : rAddU K (.int i) (.int j) H Q := .inl ⟨i, j, rfl, rfl, q⟩
theorem r_mul {i j : Int} (h : CMul i j) (q : Q (.int (i * j)) H) : rMulU K (.int i) (.int j) H Q := .inl ⟨i, j, rfl, rfl, h, q⟩
theorem r_mulW {i j : Int} (h : CMulW i j) (q : Q (.int (i * j)) H) : rMulU K (.int i) (.int j) H Q := .inr (.inl ⟨i, j, rfl, rfl, h, q⟩)
/-- the tuple of both -/
theorem r_catT {xs ys : List V} (ha : SqT K H a xs) (hb : SqT K H b ys) (hz : xs.length + ys.length ≤ 100000) (q : ∀ p H1, Ex H H1 → SqT K H1 p (xs ++ ys) → Q (.ref p) H1) : rAddU K (.ref a) (.ref b) H Q := by
  refine .inr (.inr ⟨a, b, xs, ys, rfl, rfl, ha, hb, sz_of hz, fun e => ?_, fun _ e => ?_, fun _ _ => alloc fun p H1 _ e h => q p H1 e (t_of h)⟩)
  · subst e
    exact q b H (Ex.refl H) hb
  · subst e
    refine q a H (Ex.refl H) ?_
    rw [List.append_nil]
    exact ha
theorem r_catL {xs ys : List V} (ha : H a = some (.lst xs)) (hb : H b = some (.lst ys)) (hz : xs.length + ys.length ≤ 100000) (q : ∀ p H1, H p = none → Ex H H1 → H1 p = some (.lst (xs ++ ys)) → Q (.ref p) H1) : rAddU K (.ref a) (.ref b) H Q :=
  .inr (.inl ⟨a, b, xs, ys, rfl, rfl, ha, hb, sz_of hz, alloc q⟩)
theorem r_repT {xs : List V} {k : Int} (ha : SqT K H a xs) (h0 : 0 ≤ k) (hk : k ≤ 1000) (hz : xs.length ≤ 1000) (q : ∀ p H1, Ex H H1 → SqT K H1 p (List.replicate k.toNat xs).flatten → Q (.ref p) H1) : rMulU K (.ref a) (.int k) H Q := by
  refine .inr (.inr (.inr ⟨a, k, xs, rfl, rfl, ha, h0, hk, hz, fun e => ?_, fun _ => alloc fun p H1 _ e h => q p H1 e (t_of h)⟩))
  refine q a H (Ex.refl H) ?_
  rcases e with e | e
  · subst e
    have e2 : (List.replicate k.toNat ([] : List V)).flatten = [] := by simp
    rw [e2]
    exact ha
  · subst e
    have e2 : (List.replicate (1 : Int).toNat xs).flatten = xs := by simp
    rw [e2]
    exact ha
/-- a tuple's part -/
theorem r_slT {xs : List V} {lo hi : Option Int} (ha : SqT K H a xs) (q : ∀ p H1, Ex H H1 → SqT K H1 p (cutV xs lo hi) → Q (.ref p) H1) : rSlU K (.ref a) lo hi H Q := by
  refine .inr ⟨a, xs, rfl, ha, fun e => ?_, fun _ => alloc fun p H1 _ e h => q p H1 e (t_of h)⟩
  refine q a H (Ex.refl H) ?_
  have e2 : cutV xs lo hi = xs := by
    unfold cutV
    rw [e.1, e.2, List.drop_zero, Nat.sub_zero, List.take_length]
  rw [e2]
  exact ha
theorem r_slL {xs : List V} {lo hi : Option Int} (ha : SqL K H a xs) (q : ∀ p H1, H p = none → Ex H H1 → H1 p = some (.lst (cutV xs lo hi)) → Q (.ref p) H1) : rSlU K (.ref a) lo hi H Q := .inl ⟨a, xs, rfl, ha, alloc q⟩
end
theorem cut_map {ns : List Int} {lo hi : Option Int} : cutV (ns.map V.int) lo hi = ((ns.drop (HT.sIx ns.length 0 lo)).take (HT.sIx ns.length ns.length hi - HT.sIx ns.length 0 lo)).map V.int := by
  unfold cutV
  rw [List.length_map, List.map_take, List.map_drop]
theorem sIx_int {n d : Nat} {v : Int} (h : 0 ≤ v) : HT.sIx n d (some v) = min v.toNat n := by
  obtain ⟨k, rfl⟩ := Int.eq_ofNat_of_zero_le h
  exact HT.sIx_nat n d k
/-- xs[:k] -/
theorem cut_to {ns : List Int} {k : Int} (h : 0 ≤ k) : cutV (ns.map V.int) none (some k) = (ns.take k.toNat).map V.int := by
  rw [cut_map, HT.sIx_none, sIx_int h, List.drop_zero, Nat.sub_zero]
  congr 1
  rw [Nat.min_def]
  split
  · rfl
  · rw [List.take_of_length_le (Nat.le_refl _), List.take_of_length_le (by omega)]
/-- xs[k:] -/
theorem cut_from {ns : List Int} {k : Int} (h : 0 ≤ k) : cutV (ns.map V.int) (some k) none = (ns.drop k.toNat).map V.int := by
  rw [cut_map, HT.sIx_none, sIx_int h]
  congr 1
  by_cases hk : k.toNat ≤ ns.length
  · rw [Nat.min_eq_left hk, List.take_of_length_le (by rw [List.length_drop]; exact Nat.le_refl _)]
  · rw [Nat.min_eq_right (by omega), List.drop_of_length_le (Nat.le_refl _), List.drop_of_length_le (by omega)]
    simp
/-- an item at a place from 0 on -/
theorem at_int {ns : List Int} {i : Int} {x : Int} (h0 : 0 ≤ i) (hx : ns[i.toNat]? = some x) : atI (ns.map V.int) i = some (.int x) := by
  have e : i = ((i.toNat : Nat) : Int) := by omega
  rw [e]
  exact atI_nat (by rw [List.getElem?_map, hx]; rfl)
theorem at_last {ns : List Int} {x : Int} (hx : ns.getLast? = some x) : atI (ns.map V.int) (-1) = some (.int x) := by
  obtain ⟨ys, rfl⟩ := List.getLast?_eq_some_iff.mp hx
  rw [List.map_append]
  exact atI_last _ _
/-! ### the draws' three ints -/
structure Well (H : Hp) (w : Addr) (n : Nat) : Prop where
  ex : ∃ a b c : Int, H w = some (.lst [.int a, .int b, .int c]) ∧ 0 ≤ a ∧ 0 ≤ b ∧ b.natAbs < 2 ^ 160 ∧ 0 ≤ c ∧ c ≤ n
theorem Well.mono {H H' : Hp} {w : Addr} {n : Nat} (h : Well H w n) (e : Ex H H') : Well H' w n := by
  obtain ⟨a, b, c, h1, h2⟩ := h.ex
  exact ⟨a, b, c, e _ _ h1, h2⟩
theorem Well.more {H : Hp} {w : Addr} {n m : Nat} (h : Well H w n) (e : n ≤ m) : Well H w m := by
  obtain ⟨a, b, c, h1, h2, h3, h4, h5, h6⟩ := h.ex
  exact ⟨a, b, c, h1, h2, h3, h4, h5, by omega⟩
theorem Well.t {K : PySem.W.Frag} {H H' : Hp} {w a : Addr} {n : Nat} {xs : List V} (h : Well H w n) (e : ExW w H H') (t : SqT K H a xs) : SqT K H' a xs := by
  obtain ⟨_, _, _, h1, _⟩ := h.ex
  exact exw_t e h1 t
theorem Well.ne {H : Hp} {w p : Addr} {n : Nat} (h : Well H w n) (hp : H p = none) : p ≠ w := by
  obtain ⟨_, _, _, h1, _⟩ := h.ex
  exact fun e => by
    subst e
    rw [hp] at h1
    cases h1
/-- from what is drawn on -/
def spTake : Sp := fun vs H Q _ => ∃ w n m, vs = [.ref w, .int m] ∧ 0 < m ∧ m < 2 ^ 60 ∧ Well H w n ∧ n < 2 ^ 30 ∧ ∀ r H', 0 ≤ r → r < m → ExW w H H' → Well H' w (n + 1) → Q (.int r) H'
theorem small_t {n : Nat} (h : n ≤ 100000) : n ≤ sizeLine := sz_of h
end L2
namespace L2
open PySem PySem.Spec PyProof.Rows Evl
theorem ty_t {K : PySem.W.Frag} {H : Hp} {a : Addr} {xs : List V} (h : SqT K H a xs) : TyX K H (.ref a) (.type "tuple") := by
  rcases h with (h | ⟨o, h⟩) | ⟨o, its, n, h, c, _⟩
  · exact .base (.tup h)
  · exact .fTuple h
  · exact .kTuple h c
theorem ty_l {K : PySem.W.Frag} {H : Hp} {a : Addr} {xs : List V} (h : SqL K H a xs) : TyX K H (.ref a) (.type "list") := by
  rcases h with (h | ⟨o, h⟩) | ⟨o, its, n, h, c, _⟩
  · exact .base (.lst h)
  · exact .base (.frz h)
  · exact .kList h c
/-! ### comprehensions whose turns change nothing -/
section
variable {K : PySem.W.Frag} {σ : L2.St} {H : Hp} {te tl : TE} {Q : VK} {j : Nat} {vs : List Nat} {a : Addr} {xs ys : List V}
theorem take_snoc {α : Type} {l : List α} {i : Nat} {y : α} (h : l[i]? = some y) : l.take (i + 1) = l.take i ++ [y] := by
  rw [List.take_add_one, h]
  rfl
/-- what one turn does -/
theorem cm_turn {H0 H' : Hp} {D : Addr} {i : Nat} {y : V} {σ2 : L2.St} (hy : ys[i]? = some y) (hz : ys.length ≤ 100000) (hD : H0 D = none) (p : Ex H0 H' ∧ H' D = some (.lst (ys.take i)))
    (he : ∀ Q' : VK, (∀ H2, Ex H' H2 → Q' y H2) → te σ2 H' Q') :
    te σ2 H' fun y H4 => ∃ acc, H4 D = some (.lst acc) ∧ acc.length < sizeLine ∧ (Ex H0 (upd H4 D (.lst (acc ++ [y]))) ∧ (upd H4 D (.lst (acc ++ [y]))) D = some (.lst (ys.take (i + 1)))) := by
  refine he _ fun H2 e2 => ⟨ys.take i, e2 _ _ p.2, ?_, Ex.mut (p.1.trans e2) hD, ?_⟩
  · have := (List.getElem?_eq_some_iff.mp hy).1
    rw [List.length_take]
    exact Nat.lt_of_le_of_lt (Nat.min_le_left _ _) (Nat.lt_of_lt_of_le this (sz_of hz))
  · rw [upd_same, take_snoc hy]
theorem cm_tup (hl : ∀ R : VK, (∀ a H1, Ex H H1 → SqT K H1 a xs → R (.ref a) H1) → tl σ H R) (hxy : ys.length = xs.length) (hz : ys.length ≤ 100000) (hw : ∀ x, wipe ((wipe σ vs).set j (some x)) vs = wipe σ vs)
    (he : ∀ (i : Nat) (x y : V) (H1 : Hp), xs[i]? = some x → ys[i]? = some y → Ex H H1 → ∀ Q' : VK, (∀ H2, Ex H1 H2 → Q' y H2) → te ((wipe σ vs).set j (some x)) H1 Q')
    (q : ∀ D H1, H D = none → Ex H H1 → H1 D = some (.lst ys) → Q (.ref D) H1) : tLc (iTup K tl) (gName j) tYes te vs σ H Q := by
  refine hl _ fun a H1 e1 ht => ⟨a, rfl, ⟨xs, ht⟩, fun D hD => ?_⟩
  refine lc_tup (K := K) (a := a) (xs := xs) (fun i H' => Ex H1 H' ∧ H' D = some (.lst (ys.take i))) ⟨Ex.new hD, by rw [upd_same]; rfl⟩ (fun i H' _ p => ex_t p.1 ht) (fun i x H' hx p => ⟨hw x, ?_⟩) (fun H' p => q D H' ?_ (e1.trans p.1) ?_)
  · have hi : i < ys.length := by rw [hxy]; exact (List.getElem?_eq_some_iff.mp hx).1
    exact cm_turn (List.getElem?_eq_getElem hi) hz hD p fun Q' k => he i x _ H' hx (List.getElem?_eq_getElem hi) (e1.trans p.1) Q' k
  · exact fresh_back e1 hD
  · rw [p.2, ← hxy, List.take_length]
theorem cm_list (hl : ∀ R : VK, (∀ a H1, Ex H H1 → SqL K H1 a xs → R (.ref a) H1) → tl σ H R) (hxy : ys.length = xs.length) (hz : ys.length ≤ 100000) (hw : ∀ x, wipe ((wipe σ vs).set j (some x)) vs = wipe σ vs)
    (he : ∀ (i : Nat) (x y : V) (H1 : Hp), xs[i]? = some x → ys[i]? = some y → Ex H H1 → ∀ Q' : VK, (∀ H2, Ex H1 H2 → Q' y H2) → te ((wipe σ vs).set j (some x)) H1 Q')
    (q : ∀ D H1, H D = none → Ex H H1 → H1 D = some (.lst ys) → Q (.ref D) H1) : tLc (iList K tl) (gName j) tYes te vs σ H Q := by
  refine hl _ fun a H1 e1 ht => ⟨a, rfl, ⟨xs, ht⟩, fun D hD => ?_⟩
  refine lc_list (K := K) (a := a) (xs := xs) (fun i H' => Ex H1 H' ∧ H' D = some (.lst (ys.take i))) ⟨Ex.new hD, by rw [upd_same]; rfl⟩ (fun i H' _ p => ex_l p.1 ht) (fun i x H' hx p => ⟨hw x, ?_⟩) (fun H' p => q D H' ?_ (e1.trans p.1) ?_)
  · have hi : i < ys.length := by rw [hxy]; exact (List.getElem?_eq_some_iff.mp hx).1
    exact cm_turn (List.getElem?_eq_getElem hi) hz hD p fun Q' k => he i x _ H' hx (List.getElem?_eq_getElem hi) (e1.trans p.1) Q' k
  · exact fresh_back e1 hD
  · rw [p.2, ← hxy, List.take_length]
/-- [e for i in range(n) if t] -/
theorem cm_rngF {ta : TA} {tt : TT} {n : Int} (f : Nat → Bool) (v : Nat → V) (hl : ∀ R : List V → Hp → Prop, (∀ H1, Ex H H1 → R [.int n] H1) → ta σ H R) (hn : n ≤ 50000) (hlo : -100000 ≤ n) (hw : ∀ x, wipe ((wipe σ vs).set j (some x)) vs = wipe σ vs)
    (ht : ∀ (i : Nat) H1, (i : Int) < n → Ex H H1 → ∀ Q' : Bool → Hp → Prop, (∀ H2, Ex H1 H2 → Q' (f i) H2) → tt ((wipe σ vs).set j (some (.int (i : Int)))) H1 Q')
    (he : ∀ (i : Nat) H1, (i : Int) < n → f i = true → Ex H H1 → ∀ Q' : VK, (∀ H2, Ex H1 H2 → Q' (v i) H2) → te ((wipe σ vs).set j (some (.int (i : Int)))) H1 Q')
    (q : ∀ D H1, H D = none → Ex H H1 → H1 D = some (.lst (given n.toNat f v)) → Q (.ref D) H1) : tLc (iRng1 ta) (gName j) tt te vs σ H Q := by
  refine hl _ fun H1 e1 => ⟨n, rfl, by omega, by omega, fun D hD => ?_⟩
  refine lc_range (lo := 0) (n := n.toNat) (fun i H' => Ex H1 H' ∧ H' D = some (.lst (given i f v))) ⟨Ex.new hD, by rw [upd_same]; rfl⟩ (fun i H' hi p => ?_) (fun H' p => q D H' ?_ (e1.trans p.1) p.2)
  · rw [show (0 : Int) + (i : Int) = (i : Int) by omega]
    refine ⟨hw _, ht i H' (by omega) (e1.trans p.1) _ fun H2 e2 => ?_⟩
    cases hf : f i with
    | false =>
      refine iteF ⟨p.1.trans e2, ?_⟩
      rw [given_no hf]
      exact e2 _ _ p.2
    | true =>
      refine iteT (he i H2 (by omega) hf ((e1.trans p.1).trans e2) _ fun H3 e3 => ⟨given i f v, e3 _ _ (e2 _ _ p.2), ?_, Ex.mut ((p.1.trans e2).trans e3) hD, ?_⟩)
      · have := given_len i f v
        exact sz_lt (by omega)
      · rw [upd_same, given_yes hf]
  · exact fresh_back e1 hD
/-- [e for i in range(n)], the turns change the heap: S is what stands between them, P what is said of an item -/
theorem cm_rngS {ta : TA} {n : Int} (S : Nat → Hp → Prop) (Pr : V → Prop) (hn : n ≤ 50000) (hlo : -100000 ≤ n) (hw : ∀ x, wipe ((wipe σ vs).set j (some x)) vs = wipe σ vs)
    (hl : ∀ R : List V → Hp → Prop, (∀ H1, S 0 H1 → R [.int n] H1) → ta σ H R)
    (hnew : ∀ i H1 D o, S i H1 → H1 D = none → S i (upd H1 D o))
    (he : ∀ (i : Nat) H1 D acc, (i : Int) < n → S i H1 → H1 D = some (.lst acc) → (∀ o, S i (upd H1 D o)) →
      ∀ Q' : VK, (∀ y H2, Pr y → H2 D = some (.lst acc) → (∀ o, S (i + 1) (upd H2 D o)) → Q' y H2) → te ((wipe σ vs).set j (some (.int (i : Int)))) H1 Q')
    (q : ∀ D H1 ys, ys.length = n.toNat → (∀ y ∈ ys, Pr y) → S n.toNat H1 → (∀ o, S n.toNat (upd H1 D o)) → H1 D = some (.lst ys) → Q (.ref D) H1) : tLc (iRng1 ta) (gName j) tYes te vs σ H Q := by
  refine hl _ fun H1 s1 => ⟨n, rfl, by omega, by omega, fun D hD => ?_⟩
  refine lc_range (lo := 0) (n := n.toNat) (fun i H' => ∃ ys : List V, ys.length = i ∧ (∀ y ∈ ys, Pr y) ∧ S i H' ∧ (∀ o, S i (upd H' D o)) ∧ H' D = some (.lst ys)) ⟨[], rfl, (fun _ h => by cases h), hnew 0 H1 D _ s1 hD, fun o => by rw [upd_upd]; exact hnew 0 H1 D o s1 hD, upd_same⟩ (fun i H' hi p => ?_) (fun H' p => ?_)
  · obtain ⟨ys, h1, h2, h3, h4, h5⟩ := p
    rw [show (0 : Int) + (i : Int) = (i : Int) by omega]
    refine ⟨hw _, ?_⟩
    refine he i H' D ys (by omega) h3 h5 h4 _ fun y H2 z1 z2 z3 => ?_
    refine ⟨ys, z2, sz_lt (by omega), ys ++ [y], by rw [List.length_append, h1]; rfl, fun x hx => ?_, z3 _, fun o => by rw [upd_upd]; exact z3 o, upd_same⟩
    rcases List.mem_append.mp hx with hx | hx
    · exact h2 x hx
    · rw [List.mem_singleton.mp hx]
      exact z1
  · obtain ⟨ys, h1, h2, h3, h4, h5⟩ := p
    exact q D H' ys h1 h2 h3 h4 h5
end
end L2
namespace L2
open PySem PySem.Spec PyProof.Rows Evl
section
variable {K : PySem.W.Frag} {σ : L2.St} {H : Hp} {te tl : TE} {t : TA} {Q : VK} {a : Addr} {xs ys : List V}
theorem st_lst (h : t σ H fun xs H1 => xs.length ≤ 100000 ∧ ∀ p H2, H1 p = none → Ex H1 H2 → H2 p = some (.lst xs) → Q (.ref p) H2) (mono : ∀ A B : List V → Hp → Prop, (∀ xs H, A xs H → B xs H) → t σ H A → t σ H B) : tLst t σ H Q :=
  mono _ _ (fun xs H1 z => ⟨sz_of z.1, alloc z.2⟩) h
theorem st_nil (h : ∀ p H2, H p = none → Ex H H2 → H2 p = some (.lst []) → Q (.ref p) H2) : tLst tNil σ H Q := ⟨Nat.zero_le _, alloc h⟩
/-- tuple(xs), xs a list | a tuple -/
theorem r_tuL {R : VK} (ha : SqL K H a xs) (q : ∀ p H1, H p = none → Ex H H1 → SqT K H1 p xs → R (.ref p) H1) :
    ∃ p ys, [V.ref a] = [.ref p] ∧ ((SqL K H p ys ∧ ∀ l, H l = none → R (.ref l) (upd H l (.tup ys))) ∨ (SqT K H p ys ∧ R (.ref p) H)) :=
  ⟨a, xs, rfl, .inl ⟨ha, alloc fun p H1 hp e h => q p H1 hp e (t_of h)⟩⟩
/-- list(xs) -/
theorem r_liL {R : VK} (ha : SqL K H a xs ∨ SqT K H a xs) (q : ∀ p H1, H p = none → Ex H H1 → H1 p = some (.lst xs) → R (.ref p) H1) :
    ∃ p ys, [V.ref a] = [.ref p] ∧ (SqL K H p ys ∨ SqT K H p ys) ∧ ∀ l, H l = none → R (.ref l) (upd H l (.lst ys)) := ⟨a, xs, rfl, ha, alloc q⟩
/-- xs[::-1] -/
theorem st_revL {te : TE} {a : Addr} {xs : List V} (he : ∀ R : VK, R (.ref a) H → te σ H R) (ha : SqL K H a xs) (q : ∀ p H1, H p = none → Ex H H1 → H1 p = some (.lst xs.reverse) → Q (.ref p) H1) : tRevU K te σ H Q := he _ (.inl ⟨a, xs, rfl, ha, alloc q⟩)
theorem st_revT {te : TE} {a : Addr} {xs : List V} (he : ∀ R : VK, R (.ref a) H → te σ H R) (ha : SqT K H a xs) (q : ∀ p H1, H p = none → Ex H H1 → H1 p = some (.tup xs.reverse) → Q (.ref p) H1) : tRevU K te σ H Q := he _ (.inr ⟨a, xs, rfl, ha, alloc q⟩)
theorem he_var {i : Nat} (h : σ[i]? = some (some (.ref a))) : ∀ R : VK, R (.ref a) H → tVar i σ H R := fun _ r => ⟨_, h, r⟩
end
end L2
namespace L2
open PySem PySem.Spec PyProof.Rows Evl
section
variable {K : PySem.W.Frag} {σ : L2.St} {H : Hp} {te tl ta tb : TE} {t tr : TA} {Q : VK} {D : Ends} {tu tw : TS} {g : TG} {tc : TT}
theorem st_seq (h : tu { D with nx := tw D } σ H) : tSeq tu tw D σ H := h
theorem st_asg (h : te σ H fun x H1 => g x σ H1 D.nx) : tAsg te g D σ H := h
theorem st_set {i : Nat} (h : te σ H fun x H1 => D.nx (σ.set i (some x)) H1) : tAsg te (gName i) D σ H := h
theorem st_ret (h : te σ H D.rt) : tRet te D σ H := h
theorem st_drop (h : te σ H fun _ H1 => D.nx σ H1) : tDrop te D σ H := h
theorem st_if (h : tc σ H fun b H1 => if b = true then tu D σ H1 else tw D σ H1) : tIfS tc tu tw D σ H := h
theorem st_cb {r : List V → Hp → VK → Prop} (h : t σ H fun vs H1 => r vs H1 Q) : tCB r t σ H Q := h
theorem st_cons {R : List V → Hp → Prop} (h : ta σ H fun x H1 => tr σ H1 fun xs H2 => R (x :: xs) H2) : tCons ta tr σ H R := h
theorem st_op {r : R2} (h : ta σ H fun x H1 => tb σ H1 fun y H2 => r x y H2 Q) : tOp r ta tb σ H Q := h
theorem st_un {r : V → Hp → VK → Prop} (h : ta σ H fun x H1 => r x H1 Q) : tUn r ta σ H Q := h
theorem st_test {R : Bool → Hp → Prop} (h : te σ H fun x H1 => ∃ k, x = .bl k ∧ R k H1) : tTest te σ H R := h
theorem st_call {sp : Sp} {dvs : List V} {E : XK} (h : t σ H fun vs H1 => sp (vs ++ dvs) H1 Q E) : tCall sp dvs E t σ H Q := h
theorem st_sl {r : V → Option Int → Option Int → Hp → VK → Prop} {lo hi : TO} (h : te σ H fun x H1 => lo σ H1 fun l H2 => hi σ H2 fun u H3 => r x l u H3 Q) : tSl r te lo hi σ H Q := h
theorem st_tup (h : t σ H fun xs H1 => xs.length ≤ sizeLine ∧ ∀ p, H1 p = none → Q (.ref p) (upd H1 p (.tup xs))) : tTup t σ H Q := h
theorem st_par {i j : Nat} (h : t σ H fun vs H1 => ∃ v w, vs = [v, w] ∧ D.nx ((σ.set i (some v)).set j (some w)) H1) : tPar i j t D σ H := h
end
end L2
namespace L2
open PySem PySem.Spec PyProof.Rows Evl
section
variable {K : PySem.W.Frag} {H : Hp} {Q : VK} {a : Addr} {xs : List V} {i j : Int} {v : V}
theorem r_ixL (h : SqL K H a xs) (e : atI xs i = some v) (q : Q v H) : rIx K (.ref a) (.int i) H Q := .inl ⟨a, xs, i, v, rfl, rfl, h, e, q⟩
theorem r_ixT (h : SqT K H a xs) (e : atI xs i = some v) (q : Q v H) : rIx K (.ref a) (.int i) H Q := .inr (.inl ⟨a, xs, i, v, rfl, rfl, h, e, q⟩)
theorem r_I {C : Int → Int → Prop} {g : Int → Int → V} (h : C i j) (q : Q (g i j) H) : rI C g (.int i) (.int j) H Q := ⟨i, j, rfl, rfl, h, q⟩
theorem r_0 {g : Int → Int → V} (q : Q (g i j) H) : rI0 g (.int i) (.int j) H Q := ⟨i, j, rfl, rfl, q⟩
theorem r_test {b : Bool} {R : Bool → Hp → Prop} (q : R b H) : ∃ k, V.bl b = .bl k ∧ R k H := ⟨b, rfl, q⟩
theorem r_set {R : Hp → Prop} {k : Nat} (h : H a = some (.lst xs)) (e : ixN xs.length i = some k) (q : R (upd H a (.lst (xs.set k v)))) : rSetL (.ref a) (.int i) v H R := ⟨a, xs, i, k, rfl, rfl, h, e, q⟩
end
/-- if by what is known of the answer -/
theorem if_t {c : Prop} [Decidable c] {A B : Prop} (hc : c) (h : A) : if decide c = true then A else B := by
  rw [decide_eq_true hc]
  exact h
theorem if_f {c : Prop} [Decidable c] {A B : Prop} (hc : ¬ c) (h : B) : if decide c = true then A else B := by
  rw [decide_eq_false hc]
  exact h
theorem if_2 {c : Prop} [Decidable c] {A B : Prop} (h1 : c → A) (h2 : ¬ c → B) : if decide c = true then A else B := by
  by_cases hc : c
  · exact if_t hc (h1 hc)
  · exact if_f hc (h2 hc)
/-- the same for a test not .. -/
theorem ifn_2 {c : Prop} [Decidable c] {A B : Prop} (h1 : ¬ c → A) (h2 : c → B) : if (!decide c) = true then A else B := by
  by_cases hc : c
  · rw [decide_eq_true hc]
    exact h2 hc
  · rw [decide_eq_false hc]
    exact h1 hc
end L2
namespace L2
open PySem PySem.Spec PyProof.Rows Evl
theorem st_c {v : V} {σ : L2.St} {H : Hp} {Q : VK} (q : Q v H) : tC v σ H Q := q
theorem st_v {i : Nat} {v : V} {σ : L2.St} {H : Hp} {Q : VK} (h : σ[i]? = some (some v)) (q : Q v H) : tVar i σ H Q := ⟨v, h, q⟩
theorem st_n {σ : L2.St} {H : Hp} {R : List V → Hp → Prop} (q : R [] H) : tNil σ H R := q
end L2
namespace L2
open PySem PySem.Spec PyProof.Rows Evl
theorem r_setG {H : Hp} {a : Addr} {xs : List V} {i : Int} {v : V} {R : Hp → Prop} {k : Nat} (h : H a = some (.lst xs)) (e : ixN xs.length i = some k) (q : ∀ H1, ExW a H H1 → H1 a = some (.lst (xs.set k v)) → R H1) : rSetL (.ref a) (.int i) v H R :=
  ⟨a, xs, i, k, rfl, rfl, h, e, q _ ExW.upd upd_same⟩
end L2
/-! the rules that lean on the written part, with that part named: so they fit within a comprehension's block, too -/
namespace L2
open PySem PySem.Spec PyProof.Rows Evl
section
variable {X : Cx} {K : PySem.W.Frag}
theorem op_addK (K : PySem.W.Frag) (h : X.K = K := by rfl) : OpR X (binaryOp .Add) (rAddU K) := h ▸ op_addU
theorem op_mulK (K : PySem.W.Frag) (h : X.K = K := by rfl) : OpR X (binaryOp .Mult) (rMulU K) := h ▸ op_mulU
theorem op_eqK (K : PySem.W.Frag) (hu : X.A.units + 64 < cLine) (h : X.K = K := by rfl) : OpR X (compareOp .Eq) (rEqU K) := h ▸ op_eqU hu
theorem op_neK (K : PySem.W.Frag) (hu : X.A.units + 64 < cLine) (h : X.K = K := by rfl) : OpR X (compareOp .NotEq) (rNeU K) := h ▸ op_neU hu
theorem op_inK (K : PySem.W.Frag) (h : X.K = K := by rfl) : OpR X (compareOp .In) (rIn K false) := h ▸ op_in_seq
theorem op_notInK (K : PySem.W.Frag) (h : X.K = K := by rfl) : OpR X (compareOp .NotIn) (rIn K true) := h ▸ op_notIn_seq
theorem ix_K (K : PySem.W.Frag) (h : X.K = K := by rfl) : IxR X (rIx K) := h ▸ ix_seq
theorem sl_K (K : PySem.W.Frag) (h : X.K = K := by rfl) : SlR X (rSlU K) := h ▸ sl_U
def rLenU (K : PySem.W.Frag) : List V → Hp → VK → Prop := fun xs H Q => ∃ p ys, xs = [.ref p] ∧ (SqL K H p ys ∨ SqT K H p ys) ∧ Q (.int ys.length) H
def rTupU (K : PySem.W.Frag) : List V → Hp → VK → Prop := fun xs H Q => ∃ p ys, xs = [.ref p] ∧ ((SqL K H p ys ∧ ∀ l, H l = none → Q (.ref l) (upd H l (.tup ys))) ∨ (SqT K H p ys ∧ Q (.ref p) H))
def rLstU (K : PySem.W.Frag) : List V → Hp → VK → Prop := fun xs H Q => ∃ p ys, xs = [.ref p] ∧ (SqL K H p ys ∨ SqT K H p ys) ∧ ∀ l, H l = none → Q (.ref l) (upd H l (.lst ys))
def rAbs : List V → Hp → VK → Prop := fun xs H Q => ∃ i, xs = [.int i] ∧ Q (.int (if i < 0 then -i else i)) H
def rMax2 : List V → Hp → VK → Prop := fun xs H Q => ∃ i j, xs = [.int i, .int j] ∧ Q (.int (if j > i then j else i)) H
def rMin2 : List V → Hp → VK → Prop := fun xs H Q => ∃ i j, xs = [.int i, .int j] ∧ Q (.int (if j < i then j else i)) H
def rInt1 : List V → Hp → VK → Prop := fun xs H Q => (∃ i, xs = [.int i] ∧ Q (.int i) H) ∨ ∃ k, xs = [.bl k] ∧ Q (.int (if k then 1 else 0)) H
theorem len_K (K : PySem.W.Frag) (h : X.K = K := by rfl) : CallR X (.builtin "len") (rLenU K) := h ▸ call_len_seq
theorem tuple_K (K : PySem.W.Frag) (h : X.K = K := by rfl) : CallR X (.type "tuple") (rTupU K) := h ▸ call_tuple_of
theorem list_K (K : PySem.W.Frag) (h : X.K = K := by rfl) : CallR X (.type "list") (rLstU K) := h ▸ call_list_of
theorem abs_K : CallR X (.builtin "abs") rAbs := call_abs
theorem max2_K (hc : X.calm = true) : CallR X (.builtin "max") rMax2 := call_max2 hc
theorem min2_K (hc : X.calm = true) : CallR X (.builtin "min") rMin2 := call_min2 hc
theorem int_K : CallR X (.type "int") rInt1 := call_int1
theorem all_K (K : PySem.W.Frag) (hc : X.calm = true) (h : X.K = K := by rfl) : CallR X (.builtin "all") (rAll K) := h ▸ cr_all hc
theorem any_K (K : PySem.W.Frag) (hc : X.calm = true) (h : X.K = K := by rfl) : CallR X (.builtin "any") (rAny K) := h ▸ cr_any hc
theorem sum_K (K : PySem.W.Frag) (hc : X.calm = true) (h : X.K = K := by rfl) : CallR X (.builtin "sum") (rSum K) := h ▸ cr_sum hc
theorem maxl_K (K : PySem.W.Frag) (hc : X.calm = true) (h : X.K = K := by rfl) : CallR X (.builtin "max") (rMax K) := h ▸ cr_max hc
theorem minl_K (K : PySem.W.Frag) (hc : X.calm = true) (h : X.K = K := by rfl) : CallR X (.builtin "min") (rMin K) := h ▸ cr_min hc
theorem isi_K (K : PySem.W.Frag) (h : X.K = K := by rfl) : CallR X (.builtin "isinstance") (rIsi K) := h ▸ call_isi
theorem pe_revK (K : PySem.W.Frag) {e : Expr} {te : TE} {k : Nat} {p1 p2 p3 pos : Pos} (he : PE X e te) (h : X.K = K := by rfl) : PE X (.Subscript e (.Slice none none (some (.UnaryOp .USub (.Constant (.int 1) k p1) p2)) p3) pos) (tRevU K te) := h ▸ pe_revU he
theorem pi_listK (K : PySem.W.Frag) {tg l : Expr} {tl : TE} (hl : PE X l tl) (h : X.K = K := by rfl) : PI X tg l (iList K tl) := h ▸ pi_list hl
theorem pi_tupK (K : PySem.W.Frag) {tg l : Expr} {tl : TE} (hl : PE X l tl) (h : X.K = K := by rfl) : PI X tg l (iTup K tl) := h ▸ pi_tup hl
def tTruU (K : PySem.W.Frag) (ta : TE) : TT := fun σ H Q => ta σ H fun x H' => ∃ k, TruV K x H' k ∧ Q k H'
theorem pt_truK (K : PySem.W.Frag) {a : Expr} {ta : TE} (ha : PE X a ta) (he : ∀ whole, isTrue a X.env whole = (do let v ← whole; standAt a.pos; holding [v] (truthy v)) := by intro _; rfl) (h : X.K = K := by rfl) : PT X a (tTruU K ta) := h ▸ pt_truth ha he
theorem pg_tupK (K : PySem.W.Frag) {es : List Expr} {k : Nat} {t : TGs} {n : Nat} {pos : Pos} (hc : X.calm = true) (h : PGs X es t) (hn : (assignEach es X.env).length = n := by rfl) (hst : (assignEach es X.env).findIdx? (·.1) = none := by rfl) (hK : X.K = K := by rfl) : PG X (.Tuple es k pos) (gTup K n t) := hK ▸ pg_tup hc h hn hst
theorem pe_bmU (K : PySem.W.Frag) {T : String} {name : Str} {id : String} {r : V → List V → Hp → VK → Prop} {o e : Expr} {es : List Expr} {to : TE} {t : TA} {apos cpos : Pos}
    (pa : PlainAttrs T) (slot : Slot T name id) (hty : typeOf (.builtin id) = pure (.type "method_descriptor")) (hm : MtR X id r) (ho : PE X o to) (ha : PA X (e :: es) t)
    (hbase : attributeBase o name X.env (eval o X.env) = eval o X.env := by rfl)
    (hfew : ((backTo cpos (starEach (e :: es) X.env)).all (fun x => !x.1) && (backToKw cpos (keywordEach [] X.env)).all (fun x => x.1.isSome) && decide ((e :: es).length + ([] : List Keyword).length + (if ([] : List Keyword).isEmpty then 0 else 1) < 30)) = true := by rfl)
    (hline : (apos.endLine == cpos.line) = true := by rfl) (hs : starEach (e :: es) X.env = (false, eval e X.env) :: starEach es X.env := by rfl) (hplain : (backTo cpos (starEach es X.env)).any (·.1) = false := by rfl) (h : X.K = K := by rfl) :
    PE X (.Call (.Attribute o name apos) (e :: es) [] cpos) (tBM K T r to t) := h ▸ pe_bm pa slot hty hm ho ha hbase hfew hline hs hplain
theorem pe_bm0U (K : PySem.W.Frag) {T : String} {name : Str} {id : String} {r : V → List V → Hp → VK → Prop} {o : Expr} {to : TE} {apos cpos : Pos}
    (pa : PlainAttrs T) (slot : Slot T name id) (hty : typeOf (.builtin id) = pure (.type "method_descriptor")) (hm : MtR X id r) (ho : PE X o to)
    (hbase : attributeBase o name X.env (eval o X.env) = eval o X.env := by rfl) (hline : (apos.endLine == cpos.line) = true := by rfl) (h : X.K = K := by rfl) : PE X (.Call (.Attribute o name apos) [] [] cpos) (tBM0 K T r to) := h ▸ pe_bm0 pa slot hty hm ho hbase hline
end
section
variable {K : PySem.W.Frag} {σ : L2.St} {H : Hp} {Q : VK} {a : Addr} {xs : List V}
theorem r_lenL (h : SqL K H a xs) (q : Q (.int (xs.length : Int)) H) : rLenU K [.ref a] H Q := ⟨a, xs, rfl, .inl h, q⟩
theorem r_lenT (h : SqT K H a xs) (q : Q (.int (xs.length : Int)) H) : rLenU K [.ref a] H Q := ⟨a, xs, rfl, .inr h, q⟩
theorem r_tupL (ha : SqL K H a xs) (q : ∀ p H1, H p = none → Ex H H1 → SqT K H1 p xs → Q (.ref p) H1) : rTupU K [.ref a] H Q := r_tuL ha q
theorem r_tupT (ha : SqT K H a xs) (q : Q (.ref a) H) : rTupU K [.ref a] H Q := ⟨a, xs, rfl, .inr ⟨ha, q⟩⟩
theorem r_lstL (ha : SqL K H a xs) (q : ∀ p H1, H p = none → Ex H H1 → H1 p = some (.lst xs) → Q (.ref p) H1) : rLstU K [.ref a] H Q := r_liL (.inl ha) q
theorem r_lstT (ha : SqT K H a xs) (q : ∀ p H1, H p = none → Ex H H1 → H1 p = some (.lst xs) → Q (.ref p) H1) : rLstU K [.ref a] H Q := r_liL (.inr ha) q
theorem r_abs {i : Int} (q : Q (.int ((i.natAbs : Nat) : Int)) H) : rAbs [.int i] H Q := ⟨i, rfl, by
  have e : (if i < 0 then -i else i) = ((i.natAbs : Nat) : Int) := by split <;> omega
  rw [e]
  exact q⟩
theorem r_max2 {i j : Int} (q : Q (.int (max i j)) H) : rMax2 [.int i, .int j] H Q := ⟨i, j, rfl, by
  have e : (if j > i then j else i) = max i j := by split <;> omega
  rw [e]
  exact q⟩
theorem r_min2 {i j : Int} (q : Q (.int (min i j)) H) : rMin2 [.int i, .int j] H Q := ⟨i, j, rfl, by
  have e : (if j < i then j else i) = min i j := by split <;> omega
  rw [e]
  exact q⟩
theorem r_intI {i : Int} (q : Q (.int i) H) : rInt1 [.int i] H Q := .inl ⟨i, rfl, q⟩
theorem r_intB {b : Bool} (q : Q (.int (if b then 1 else 0)) H) : rInt1 [.bl b] H Q := .inr ⟨b, rfl, q⟩
theorem r_sum {ns : List Int} (h : IL K H a ns) (q : Q (.int ns.sum) H) : rSum K [.ref a] H Q := ⟨a, ns, rfl, h, q⟩
theorem r_all {bs : List Bool} (h : SqL K H a (bs.map V.bl)) (q : Q (.bl (bs.all id)) H) : rAll K [.ref a] H Q := ⟨a, bs, rfl, h, q⟩
theorem r_isiI {i : Int} {n : String} {b : Bool} (hb : PySem.W.kitOne K (.type "int") (.type n) = some b) (q : Q (.bl b) H) : rIsi K [.int i, .ty n] H Q := ⟨_, _, _, _, b, rfl, .ty _, .base (.int i), hb, q⟩
theorem r_isiT {n : String} {b : Bool} (h : SqT K H a xs) (hb : PySem.W.kitOne K (.type "tuple") (.type n) = some b) (q : Q (.bl b) H) : rIsi K [.ref a, .ty n] H Q := ⟨_, _, _, _, b, rfl, .ty _, ty_t h, hb, q⟩
end
end L2
namespace L2
open PySem PySem.Spec PyProof.Rows Evl
section
variable {K : PySem.W.Frag} {σ : L2.St} {H : Hp} {Q : VK} {i j : Int} {D : Ends} {tc tc2 : TT}
theorem st_bl {b : Bool} {R : Bool → Prop} (q : R b) : ∃ k, V.bl b = V.bl k ∧ R k := ⟨b, rfl, q⟩
theorem st_in {R : Int → Prop} (q : R i) : ∃ k, V.int i = V.int k ∧ R k := ⟨i, rfl, q⟩
theorem r_neg {g : Int → V} (q : Q (g i) H) : rU g (.int i) H Q := ⟨i, rfl, q⟩
theorem r_mod (h : 0 < j) {g : Int → Int → V} (q : Q (g i j) H) : rI (fun _ j => 0 < j) g (.int i) (.int j) H Q := ⟨i, j, rfl, rfl, h, q⟩
theorem r_div {b : Nat} (h : 0 < j) (hb : j.natAbs < 2 ^ b) (h0 : 0 < b) (h9 : b ≤ 9000) {g : Int → Int → V} (q : Q (g i j) H) : rI CDivW g (.int i) (.int j) H Q := ⟨i, j, rfl, rfl, wide_div h hb h0 h9, q⟩
theorem r_pow {a k : Nat} (h0 : 0 < a) (ha : i.natAbs < 2 ^ a) (h : a * k ≤ 134217728) {g : Int → Int → V} (q : Q (g i (k : Int)) H) : rI CPowW g (.int i) (.int (k : Int)) H Q := ⟨i, _, rfl, rfl, wide_pow h0 ha h, q⟩
theorem st_tru {K : PySem.W.Frag} {ta : TE} {R : Bool → Hp → Prop} (h : ta σ H fun x H' => ∃ k, TruV K x H' k ∧ R k H') : tTruU K ta σ H R := h
theorem r_truB {b : Bool} {R : Bool → Prop} (q : R b) : ∃ k, TruV K (.bl b) H k ∧ R k := ⟨b, rfl, q⟩
theorem r_truL {a : Addr} {xs : List V} {R : Bool → Prop} (h : SqL K H a xs) (q : R (!xs.isEmpty)) : ∃ k, TruV K (.ref a) H k ∧ R k := ⟨_, .inl ⟨xs, h, rfl⟩, q⟩
theorem r_truT {a : Addr} {xs : List V} {R : Bool → Prop} (h : SqT K H a xs) (q : R (!xs.isEmpty)) : ∃ k, TruV K (.ref a) H k ∧ R k := ⟨_, .inr (.inl ⟨xs, h, rfl⟩), q⟩
theorem st_and {R : Bool → Hp → Prop} (h : tc σ H fun c H1 => if c = true then tc2 σ H1 R else R false H1) : tAnd tc tc2 σ H R := h
theorem st_or {R : Bool → Hp → Prop} (h : tc σ H fun c H1 => if c = true then R true H1 else tc2 σ H1 R) : tOr tc tc2 σ H R := h
theorem st_not {R : Bool → Hp → Prop} (h : tc σ H fun c H1 => R (!c) H1) : tNot tc σ H R := h
theorem st_B {te : TE} {R : Bool → Hp → Prop} (h : te σ H fun x H1 => ∃ c, x = .bl c ∧ R c H1) : tB te σ H R := h
theorem st_andV {ta tb : TE} (h : ta σ H fun x H1 => ∃ c, x = .bl c ∧ if c = true then tb σ H1 Q else Q (.bl false) H1) : tAndV ta tb σ H Q := h
theorem st_orV {ta tb : TE} (h : ta σ H fun x H1 => ∃ c, x = .bl c ∧ if c = true then Q (.bl true) H1 else tb σ H1 Q) : tOrV ta tb σ H Q := h
theorem st_notV {ta : TE} (h : ta σ H fun x H1 => ∃ c, x = .bl c ∧ Q (.bl (!c)) H1) : tNotV ta σ H Q := h
theorem st_ifE {ta tb : TE} (h : tc σ H fun c H1 => if c = true then ta σ H1 Q else tb σ H1 Q) : tIf tc ta tb σ H Q := h
theorem st_part {te : TE} {R : Option Int → Hp → Prop} (h : te σ H fun x H1 => ∃ i, x = .int i ∧ R (some i) H1) : tPart te σ H R := h
theorem st_nop {R : Option Int → Hp → Prop} (h : R none H) : tNoPart σ H R := h
theorem st_sub {to ti : TE} {t : TSet} {v : V} {R : St → Hp → Prop} (h : to σ H fun o H1 => ti σ H1 fun i H2 => t o i v H2 fun H3 => R σ H3) : gSub to ti t v σ H R := h
theorem st_callK {sp : Sp} {gV : List V → List V → List V} {E : XK} {t tk : TA} (h : t σ H fun vs H1 => tk σ H1 fun zs H2 => sp (gV vs zs) H2 Q E) : tCallK sp gV E t tk σ H Q := h
theorem if_T {A B : Prop} (h : A) : if true = true then A else B := h
theorem if_F {A B : Prop} (h : B) : if false = true then A else B := h
theorem if_nT {A B : Prop} (h : B) : if (!true) = true then A else B := h
theorem if_nF {A B : Prop} (h : A) : if (!false) = true then A else B := h
theorem st_nameG {i : Nat} {v : V} {R : St → Hp → Prop} (h : R (σ.set i (some v)) H) : gName i v σ H R := h
theorem st_chain {ta tb tc : TE} {r r' : R2} (h : ta σ H fun x H1 => tb σ H1 fun y H2 => r x y H2 fun z H3 => ∃ k, z = .bl k ∧ (if k = true then tc σ H3 fun w' H4 => r' y w' H4 Q else Q (.bl false) H3)) : tChain r r' ta tb tc σ H Q := h
end
end L2
namespace L2
section
variable {σ : L2.St} {H : Hp} {D : Ends}
theorem st_nxt (h : D.nx σ H) : tNext D σ H := h
theorem st_cnt (h : D.ct σ H) : tCont D σ H := h
theorem st_brk (h : D.bk σ H) : tBreak D σ H := h
theorem st_retn (h : D.rt .non H) : tRetN D σ H := h
end
end L2
namespace L2
open PySem PySem.Spec PyProof.Rows Evl
section
variable {σ : L2.St} {H : Hp} {t : TA} {Q : VK} {xs : List V}
def rNewL (xs : List V) (H : Hp) (Q : VK) : Prop := xs.length ≤ sizeLine ∧ ∀ p, H p = none → Q (.ref p) (upd H p (.lst xs))
def rNewT (xs : List V) (H : Hp) (Q : VK) : Prop := xs.length ≤ sizeLine ∧ ∀ p, H p = none → Q (.ref p) (upd H p (.tup xs))
theorem st_lstN (h : t σ H fun xs H1 => rNewL xs H1 Q) : tLst t σ H Q := h
theorem st_tupN (h : t σ H fun xs H1 => rNewT xs H1 Q) : tTup t σ H Q := h
theorem r_newL (hz : xs.length ≤ 100000) (q : ∀ p H1, H p = none → Ex H H1 → H1 p = some (.lst xs) → Q (.ref p) H1) : rNewL xs H Q := ⟨sz_of hz, alloc q⟩
theorem r_newT (hz : xs.length ≤ 100000) (q : ∀ p H1, H p = none → Ex H H1 → H1 p = some (.tup xs) → Q (.ref p) H1) : rNewT xs H Q := ⟨sz_of hz, alloc q⟩
end
end L2
namespace L2
open PySem PySem.Spec PyProof.Rows Evl
section
variable {σ : L2.St} {H : Hp} {D : Ends} {c : TT} {tb : TS}
theorem st_while (W : Nat → L2.St → Hp → Prop) (m0 : Nat) (h0 : W m0 σ H)
    (hs : ∀ m σ' H', W m σ' H' → c σ' H' fun b H1 => if b = true then ∃ N : L2.St → Hp → Prop, (∀ σ2 H2, N σ2 H2 → ∃ m', m' < m ∧ W m' σ2 H2) ∧ tb { D with nx := N, ct := N, bk := D.nx } σ' H1 else D.nx σ' H1) : tWhile c tb D σ H :=
  ⟨W, ⟨m0, h0⟩, hs⟩
theorem wh_in {W : Nat → L2.St → Hp → Prop} {m : Nat} (h : tb { D with nx := fun σ2 H2 => ∃ m', m' < m ∧ W m' σ2 H2, ct := fun σ2 H2 => ∃ m', m' < m ∧ W m' σ2 H2, bk := D.nx } σ H) :
    ∃ N : L2.St → Hp → Prop, (∀ σ2 H2, N σ2 H2 → ∃ m', m' < m ∧ W m' σ2 H2) ∧ tb { D with nx := N, ct := N, bk := D.nx } σ H := ⟨_, fun _ _ h => h, h⟩
end
end L2
/-! loops and comprehensions by what is walked -/
namespace L2
open PySem PySem.Spec PyProof.Rows Evl
def rFor (J : It) (g : TG) (tb : TS) (D : Ends) (σ : L2.St) (H1 : Hp) : Prop := ∃ W : Nat → Nat → L2.St → Hp → Prop, (∃ m, W 0 m σ H1) ∧ ∀ i m σ H, W i m σ H →
  (J.stop i H ∧ D.nx σ H) ∨ (J.go i H ∧ ∃ N : L2.St → Hp → Prop, (∀ σ' H', N σ' H' → ∃ m', m' < m ∧ W (i + 1) m' σ' H') ∧ ∀ x H', J.yld i H x H' → g x σ H' fun σ2 H2 => tb { D with nx := N, ct := N, bk := D.nx } σ2 H2)
def rLc (J : It) (g : TG) (tt : TT) (te : TE) (vs : List Nat) (σ : L2.St) (Q : VK) (H1 : Hp) : Prop := ∀ D, H1 D = none → ∃ W : Nat → Nat → Hp → Prop, (∃ m, W 0 m (upd H1 D (.lst []))) ∧ ∀ i m H, W i m H →
  (J.stop i H ∧ Q (.ref D) H) ∨ (J.go i H ∧ ∃ Nx : Hp → Prop, (∀ H', Nx H' → ∃ m', m' < m ∧ W (i + 1) m' H') ∧ ∀ x H', J.yld i H x H' → g x (wipe σ vs) H' fun σ2 H2 => wipe σ2 vs = wipe σ vs ∧ tt σ2 H2 fun b H3 =>
    if b = true then te σ2 H3 fun y H4 => ∃ acc, H4 D = some (.lst acc) ∧ acc.length < sizeLine ∧ Nx (upd H4 D (.lst (acc ++ [y]))) else Nx H3)
def rRng1 (vs : List V) (R : It → Hp → Prop) (H1 : Hp) : Prop := ∃ j : Int, vs = [.int j] ∧ -(2 ^ 62) ≤ j ∧ j < 2 ^ 62 ∧ R (Itr 0 j.toNat) H1
def rRng2 (vs : List V) (R : It → Hp → Prop) (H1 : Hp) : Prop := ∃ i j : Int, vs = [.int i, .int j] ∧ (-(2 ^ 62) ≤ i ∧ i < 2 ^ 62 ∧ -(2 ^ 62) ≤ j ∧ j < 2 ^ 62) ∧ R (Itr i (j - i).toNat) H1
def rItL (K : PySem.W.Frag) (x : V) (R : It → Hp → Prop) (H1 : Hp) : Prop := ∃ a, x = .ref a ∧ (∃ xs, SqL K H1 a xs) ∧ R (Itl K a) H1
def rItT (K : PySem.W.Frag) (x : V) (R : It → Hp → Prop) (H1 : Hp) : Prop := ∃ a, x = .ref a ∧ (∃ xs, SqT K H1 a xs) ∧ R (Itt K a) H1
def rRev (K : PySem.W.Frag) (x : V) (H1 : Hp) (Q : VK) : Prop := (∃ a xs, x = .ref a ∧ SqL K H1 a xs ∧ ∀ p, H1 p = none → Q (.ref p) (upd H1 p (.lst xs.reverse))) ∨ (∃ a xs, x = .ref a ∧ SqT K H1 a xs ∧ ∀ p, H1 p = none → Q (.ref p) (upd H1 p (.tup xs.reverse)))
def rApp (K : PySem.W.Frag) (T : String) (r : V → List V → Hp → VK → Prop) (t : TA) (σ : L2.St) (x : V) (H1 : Hp) (Q : VK) : Prop := tyV K T x H1 ∧ t σ H1 fun xs H2 => r x xs H2 Q
def rApp0 (K : PySem.W.Frag) (T : String) (r : V → List V → Hp → VK → Prop) (x : V) (H1 : Hp) (Q : VK) : Prop := tyV K T x H1 ∧ r x [] H1 Q
section
variable {K : PySem.W.Frag} {σ : L2.St} {H : Hp} {Q : VK} {D : Ends} {g : TG} {tb : TS} {wi : TI} {ta : TA} {te tl : TE} {tt : TT} {vs : List Nat} {R : It → Hp → Prop} {a : Addr} {xs ys : List V} {j : Nat} {n lo : Int}
theorem st_for (h : wi σ H fun J H1 => rFor J g tb D σ H1) : tFor wi g tb D σ H := h
theorem st_lc (h : wi σ H fun J H1 => rLc J g tt te vs σ Q H1) : tLc wi g tt te vs σ H Q := h
theorem st_rng1 (h : ta σ H fun us H1 => rRng1 us R H1) : iRng1 ta σ H R := h
theorem st_rng2 (h : ta σ H fun us H1 => rRng2 us R H1) : iRng2 ta σ H R := h
theorem st_itL (h : tl σ H fun x H1 => rItL K x R H1) : iList K tl σ H R := h
theorem st_itT (h : tl σ H fun x H1 => rItT K x R H1) : iTup K tl σ H R := h
theorem st_rev (h : te σ H fun x H1 => rRev K x H1 Q) : tRevU K te σ H Q := h
theorem st_bm {T : String} {r : V → List V → Hp → VK → Prop} {t : TA} (h : te σ H fun x H1 => rApp K T r t σ x H1 Q) : tBM K T r te t σ H Q := h
theorem st_bm0 {T : String} {r : V → List V → Hp → VK → Prop} (h : te σ H fun x H1 => rApp0 K T r x H1 Q) : tBM0 K T r te σ H Q := h
theorem r_rng1 (h1 : n < 2 ^ 62) (h0 : -(2 ^ 62) ≤ n) (q : R (Itr 0 n.toNat) H) : rRng1 [.int n] R H := ⟨n, rfl, h0, h1, q⟩
theorem r_rng2 (h : -(2 ^ 62) ≤ lo ∧ lo < 2 ^ 62 ∧ -(2 ^ 62) ≤ n ∧ n < 2 ^ 62) (q : R (Itr lo (n - lo).toNat) H) : rRng2 [.int lo, .int n] R H := ⟨lo, n, rfl, h, q⟩
theorem r_itL (h : SqL K H a xs) (q : R (Itl K a) H) : rItL K (.ref a) R H := ⟨a, rfl, ⟨xs, h⟩, q⟩
theorem r_itT (h : SqT K H a xs) (q : R (Itt K a) H) : rItT K (.ref a) R H := ⟨a, rfl, ⟨xs, h⟩, q⟩
theorem r_revL (h : SqL K H a xs) (q : ∀ p H1, H p = none → Ex H H1 → H1 p = some (.lst xs.reverse) → Q (.ref p) H1) : rRev K (.ref a) H Q := .inl ⟨a, xs, rfl, h, alloc q⟩
theorem r_revT (h : SqT K H a xs) (q : ∀ p H1, H p = none → Ex H H1 → H1 p = some (.tup xs.reverse) → Q (.ref p) H1) : rRev K (.ref a) H Q := .inr ⟨a, xs, rfl, h, alloc q⟩
/-- xs.append(v): the argument is read first -/
theorem r_app {t : TA} (h : SqL K H a xs) (q : t σ H fun us H2 => rAppend (.ref a) us H2 Q) : rApp K "list" rAppend t σ (.ref a) H Q := ⟨.inl ⟨rfl, xs, h⟩, q⟩
theorem r_appd {v : V} (h : H a = some (.lst xs)) (hz : xs.length < 100000) (q : ∀ H1, ExW a H H1 → H1 a = some (.lst (xs ++ [v])) → Q .non H1) : rAppend (.ref a) [v] H Q := ⟨a, xs, v, rfl, rfl, h, sz_lt hz, q _ ExW.upd upd_same⟩
theorem r_pop {v : V} (h : H a = some (.lst (xs ++ [v]))) (q : ∀ H1, ExW a H H1 → H1 a = some (.lst xs) → Q v H1) : rApp0 K "list" rPop (.ref a) H Q := by
  refine ⟨.inl ⟨rfl, _, l_of h⟩, a, _, v, rfl, rfl, h, by simp, ?_⟩
  refine q _ ExW.upd ?_
  rw [upd_same]
  simp
/-! ### for -/
theorem r_forR {m : Nat} (Pv : Nat → L2.St → Hp → Prop) (h0 : Pv 0 σ H) (hs : ∀ i σ' H', i < m → Pv i σ' H' → g (.int (lo + i)) σ' H' fun σ2 H2 => tb { D with nx := Pv (i + 1), ct := Pv (i + 1), bk := D.nx } σ2 H2)
    (hd : ∀ σ' H', Pv m σ' H' → D.nx σ' H') : rFor (Itr lo m) g tb D σ H := for_range (lo := lo) (n := m) Pv h0 hs hd
theorem r_forL (Pv : Nat → L2.St → Hp → Prop) (h0 : Pv 0 σ H) (hl : ∀ i σ' H', i ≤ xs.length → Pv i σ' H' → SqL K H' a xs)
    (hs : ∀ i x σ' H', xs[i]? = some x → Pv i σ' H' → g x σ' H' fun σ2 H2 => tb { D with nx := Pv (i + 1), ct := Pv (i + 1), bk := D.nx } σ2 H2) (hd : ∀ σ' H', Pv xs.length σ' H' → D.nx σ' H') : rFor (Itl K a) g tb D σ H := for_list Pv h0 hl hs hd
theorem r_forT (Pv : Nat → L2.St → Hp → Prop) (h0 : Pv 0 σ H) (hl : ∀ i σ' H', i ≤ xs.length → Pv i σ' H' → SqT K H' a xs)
    (hs : ∀ i x σ' H', xs[i]? = some x → Pv i σ' H' → g x σ' H' fun σ2 H2 => tb { D with nx := Pv (i + 1), ct := Pv (i + 1), bk := D.nx } σ2 H2) (hd : ∀ σ' H', Pv xs.length σ' H' → D.nx σ' H') : rFor (Itt K a) g tb D σ H := for_tup Pv h0 hl hs hd
/-! ### comprehensions whose turns change nothing -/
theorem r_cmT (ht : SqT K H a xs) (hxy : ys.length = xs.length) (hz : ys.length ≤ 100000) (hw : ∀ x, wipe ((wipe σ vs).set j (some x)) vs = wipe σ vs)
    (he : ∀ (i : Nat) (x y : V) (H1 : Hp), xs[i]? = some x → ys[i]? = some y → Ex H H1 → ∀ Q' : VK, (∀ H2, Ex H1 H2 → Q' y H2) → te ((wipe σ vs).set j (some x)) H1 Q')
    (q : ∀ p H1, H p = none → Ex H H1 → H1 p = some (.lst ys) → Q (.ref p) H1) : rLc (Itt K a) (gName j) tYes te vs σ Q H := fun D hD =>
  lc_tup (K := K) (a := a) (xs := xs) (fun i H' => Ex H H' ∧ H' D = some (.lst (ys.take i))) ⟨Ex.new hD, by rw [upd_same]; rfl⟩ (fun i H' _ p => ex_t p.1 ht) (fun i x H' hx p => ⟨hw x, by
    have hi : i < ys.length := by rw [hxy]; exact (List.getElem?_eq_some_iff.mp hx).1
    exact cm_turn (List.getElem?_eq_getElem hi) hz hD p fun Q' k => he i x _ H' hx (List.getElem?_eq_getElem hi) p.1 Q' k⟩) (fun H' p => q D H' hD p.1 (by rw [p.2, ← hxy, List.take_length]))
theorem r_cmL (ht : SqL K H a xs) (hxy : ys.length = xs.length) (hz : ys.length ≤ 100000) (hw : ∀ x, wipe ((wipe σ vs).set j (some x)) vs = wipe σ vs)
    (he : ∀ (i : Nat) (x y : V) (H1 : Hp), xs[i]? = some x → ys[i]? = some y → Ex H H1 → ∀ Q' : VK, (∀ H2, Ex H1 H2 → Q' y H2) → te ((wipe σ vs).set j (some x)) H1 Q')
    (q : ∀ p H1, H p = none → Ex H H1 → H1 p = some (.lst ys) → Q (.ref p) H1) : rLc (Itl K a) (gName j) tYes te vs σ Q H := fun D hD =>
  lc_list (K := K) (a := a) (xs := xs) (fun i H' => Ex H H' ∧ H' D = some (.lst (ys.take i))) ⟨Ex.new hD, by rw [upd_same]; rfl⟩ (fun i H' _ p => ex_l p.1 ht) (fun i x H' hx p => ⟨hw x, by
    have hi : i < ys.length := by rw [hxy]; exact (List.getElem?_eq_some_iff.mp hx).1
    exact cm_turn (List.getElem?_eq_getElem hi) hz hD p fun Q' k => he i x _ H' hx (List.getElem?_eq_getElem hi) p.1 Q' k⟩) (fun H' p => q D H' hD p.1 (by rw [p.2, ← hxy, List.take_length]))
theorem r_cmR {m : Nat} (hxy : ys.length = m) (hz : ys.length ≤ 100000) (hw : ∀ x, wipe ((wipe σ vs).set j (some x)) vs = wipe σ vs)
    (he : ∀ (i : Nat) (y : V) (H1 : Hp), i < m → ys[i]? = some y → Ex H H1 → ∀ Q' : VK, (∀ H2, Ex H1 H2 → Q' y H2) → te ((wipe σ vs).set j (some (.int (lo + (i : Int))))) H1 Q')
    (q : ∀ p H1, H p = none → Ex H H1 → H1 p = some (.lst ys) → Q (.ref p) H1) : rLc (Itr lo m) (gName j) tYes te vs σ Q H := fun D hD =>
  lc_range (lo := lo) (n := m) (fun i H' => Ex H H' ∧ H' D = some (.lst (ys.take i))) ⟨Ex.new hD, by rw [upd_same]; rfl⟩ (fun i H' hi' p => ⟨hw _, by
    have hi : i < ys.length := by rw [hxy]; exact hi'
    exact cm_turn (List.getElem?_eq_getElem hi) hz hD p fun Q' k => he i _ H' hi' (List.getElem?_eq_getElem hi) p.1 Q' k⟩) (fun H' p => q D H' hD p.1 (by rw [p.2, ← hxy, List.take_length]))
/-- [e for i in range(..) if t] -/
theorem r_cmRF {m : Nat} (f : Nat → Bool) (v : Nat → V) (hz : m ≤ 100000) (hw : ∀ x, wipe ((wipe σ vs).set j (some x)) vs = wipe σ vs)
    (ht : ∀ (i : Nat) H1, i < m → Ex H H1 → ∀ Q' : Bool → Hp → Prop, (∀ H2, Ex H1 H2 → Q' (f i) H2) → tt ((wipe σ vs).set j (some (.int (lo + (i : Int))))) H1 Q')
    (he : ∀ (i : Nat) H1, i < m → f i = true → Ex H H1 → ∀ Q' : VK, (∀ H2, Ex H1 H2 → Q' (v i) H2) → te ((wipe σ vs).set j (some (.int (lo + (i : Int))))) H1 Q')
    (q : ∀ p H1, H p = none → Ex H H1 → H1 p = some (.lst (given m f v)) → Q (.ref p) H1) : rLc (Itr lo m) (gName j) tt te vs σ Q H := fun D hD => by
  refine lc_range (lo := lo) (n := m) (fun i H' => Ex H H' ∧ H' D = some (.lst (given i f v))) ⟨Ex.new hD, by rw [upd_same]; rfl⟩ (fun i H' hi p => ⟨hw _, ?_⟩) (fun H' p => q D H' hD p.1 p.2)
  refine ht i H' hi p.1 _ fun H2 e2 => ?_
  cases hf : f i with
  | false =>
    refine if_F ⟨p.1.trans e2, ?_⟩
    rw [given_no hf]
    exact e2 _ _ p.2
  | true =>
    refine if_T (he i H2 hi hf (p.1.trans e2) _ fun H3 e3 => ⟨given i f v, e3 _ _ (e2 _ _ p.2), ?_, Ex.mut ((p.1.trans e2).trans e3) hD, ?_⟩)
    · have := given_len i f v
      exact Nat.lt_of_le_of_lt this (Nat.lt_of_lt_of_le hi (sz_of hz))
    · rw [upd_same, given_yes hf]
/-- [e for i in range(..)], a turn may change the heap: S is what stands between the turns, Pr what is said of an item -/
theorem r_cmRS {m : Nat} (S : Nat → Hp → Prop) (Pr : V → Prop) (hm : m ≤ 100000) (hw : ∀ x, wipe ((wipe σ vs).set j (some x)) vs = wipe σ vs) (h0 : S 0 H)
    (hnew : ∀ i H1 D o, S i H1 → H1 D = none → S i (upd H1 D o))
    (he : ∀ (i : Nat) H1 D acc, i < m → S i H1 → H1 D = some (.lst acc) → (∀ o, S i (upd H1 D o)) →
      ∀ Q' : VK, (∀ y H2, Pr y → H2 D = some (.lst acc) → (∀ o, S (i + 1) (upd H2 D o)) → Q' y H2) → te ((wipe σ vs).set j (some (.int (lo + (i : Int))))) H1 Q')
    (q : ∀ D H1 ys, H D = none → ys.length = m → (∀ y ∈ ys, Pr y) → S m H1 → H1 D = some (.lst ys) → Q (.ref D) H1) : rLc (Itr lo m) (gName j) tYes te vs σ Q H := fun D hD => by
  refine lc_range (lo := lo) (n := m) (fun i H' => ∃ ys : List V, ys.length = i ∧ (∀ y ∈ ys, Pr y) ∧ S i H' ∧ (∀ o, S i (upd H' D o)) ∧ H' D = some (.lst ys)) ⟨[], rfl, (fun _ h => by cases h), hnew 0 H D _ h0 hD, fun o => by rw [upd_upd]; exact hnew 0 H D o h0 hD, upd_same⟩ (fun i H' hi p => ?_) (fun H' p => ?_)
  · obtain ⟨ys, h1, h2, h3, h4, h5⟩ := p
    refine ⟨hw _, ?_⟩
    refine he i H' D ys hi h3 h5 h4 _ fun y H2 z1 z2 z3 => ?_
    refine ⟨ys, z2, sz_lt (by omega), ys ++ [y], by rw [List.length_append, h1]; rfl, fun x hx => ?_, z3 _, fun o => by rw [upd_upd]; exact z3 o, upd_same⟩
    rcases List.mem_append.mp hx with hx | hx
    · exact h2 x hx
    · rw [List.mem_singleton.mp hx]
      exact z1
  · obtain ⟨ys, h1, h2, h3, h4, h5⟩ := p
    exact q D H' ys hD h1 h2 h3 h5
end
end L2
namespace L2
open PySem PySem.Spec PyProof.Rows Evl
section
variable {K : PySem.W.Frag} {H : Hp} {Q : VK} {a : Addr} {xs : List V}
theorem r_repL {k : Int} (h : H a = some (.lst xs)) (h0 : 0 ≤ k) (hk : k ≤ 100000) (hz : xs.length * k.toNat ≤ 100000) (q : ∀ p H1, H p = none → Ex H H1 → H1 p = some (.lst (List.replicate k.toNat xs).flatten) → Q (.ref p) H1) : rMulU K (.ref a) (.int k) H Q :=
  .inr (.inr (.inl ⟨a, k, xs, rfl, rfl, h, by omega, by omega, sz_of hz, alloc q⟩))
/-! ### draws: what stands between -/
/-- all but the well is as it was; n draws are done -/
structure DrS (w : Addr) (H0 : Hp) (n : Nat) (H : Hp) : Prop where
  ex : ExW w H0 H
  well : Well H w n
theorem Well.upd {H : Hp} {w D : Addr} {n : Nat} {o : HO} (h : Well H w n) (hD : D ≠ w) : Well (upd H D o) w n := by
  obtain ⟨a, b, c, h1, h2⟩ := h.ex
  exact ⟨a, b, c, by rw [upd_ne hD.symm]; exact h1, h2⟩
theorem DrS.new {w D : Addr} {H0 H : Hp} {n : Nat} {o : HO} (h : DrS w H0 n H) (hD : H D = none) : DrS w H0 n (upd H D o) :=
  ⟨fun a u e ha => by rw [upd_ne (ne_of_none (h.ex a u e ha) hD)]; exact h.ex a u e ha, h.well.upd (h.well.ne hD)⟩
theorem DrS.at {w D : Addr} {H0 H : Hp} {n : Nat} (h : ∀ o, DrS w H0 n (L2.upd H D o)) : D ≠ w ∧ H0 D = none := by
  have hw : D ≠ w := fun e => by
    obtain ⟨a, b, c, h1, _⟩ := (h (.lst [])).well.ex
    rw [← e, upd_same] at h1
    cases h1
  refine ⟨hw, ?_⟩
  cases e : H0 D with
  | none => rfl
  | some u =>
    have h1 := (h (.lst [])).ex D u e hw
    have h2 := (h (.tup [])).ex D u e hw
    rw [upd_same] at h1 h2
    rw [← h1] at h2
    cases h2
theorem DrS.put {w D : Addr} {H0 H : Hp} {n : Nat} {o : HO} (h : DrS w H0 n H) (hD : D ≠ w) (h0 : H0 D = none) : DrS w H0 n (L2.upd H D o) :=
  ⟨fun a u e ha => by rw [upd_ne (ne_of_none e h0)]; exact h.ex a u e ha, h.well.upd hD⟩
theorem DrS.on {w : Addr} {H0 H H1 : Hp} {n m : Nat} (h : DrS w H0 n H) (e : ExW w H H1) (k : Well H1 w m) : DrS w H0 m H1 := ⟨h.ex.trans e, k⟩
theorem DrS.ext {w : Addr} {H0 H H1 : Hp} {n : Nat} (h : DrS w H0 n H) (e : Ex H H1) : DrS w H0 n H1 := ⟨h.ex.trans (.of e), h.well.mono e⟩
theorem DrS.more {w : Addr} {H0 H : Hp} {n m : Nat} (h : DrS w H0 n H) (e : n ≤ m) : DrS w H0 m H := ⟨h.ex, h.well.more e⟩
theorem DrS.t {w : Addr} {H0 H : Hp} {n : Nat} {a : Addr} {xs : List V} {k : Nat} (h : DrS w H0 n H) (h0 : Well H0 w k) (t : SqT K H0 a xs) : SqT K H a xs := h0.t h.ex t
end
/-- all items are ints of which so much is said -/
theorem ints_of {P : Int → Prop} : ∀ ys : List V, (∀ y ∈ ys, ∃ z, y = .int z ∧ P z) → ∃ ns : List Int, ys = ns.map V.int ∧ ∀ z ∈ ns, P z
  | [], _ => ⟨[], rfl, fun _ h => by cases h⟩
  | y :: ys, h => by
    obtain ⟨ns, e, k⟩ := ints_of ys fun x hx => h x (List.mem_cons_of_mem _ hx)
    obtain ⟨z, e2, k2⟩ := h y List.mem_cons_self
    refine ⟨z :: ns, by rw [e, e2]; rfl, fun x hx => ?_⟩
    rcases List.mem_cons.mp hx with rfl | hx
    · exact k2
    · exact k x hx
end L2
/-! walks of steps: pairs left out -/
namespace Fg
abbrev Wk := List Int
/-- what is kept, the last one first -/
def stp (st : Wk) (x : Int) : Wk := match st with
  | [] => [x]
  | y :: r => if y = -x then r else x :: y :: r
def run (st : Wk) (u : Wk) : Wk := u.foldl stp st
def rd (u : Wk) : Wk := (run [] u).reverse
def bk (u : Wk) : Wk := (u.map fun x => -x).reverse
/-- no step beside its opposite one (of what is kept) -/
def Red : Wk → Prop
  | [] => True
  | [_] => True
  | x :: y :: r => y ≠ -x ∧ Red (y :: r)
theorem Red.tail {x : Int} {r : Wk} (h : Red (x :: r)) : Red r := by
  cases r with
  | nil => trivial
  | cons y r => exact h.2
theorem red_stp {st : Wk} (x : Int) (h : Red st) : Red (stp st x) := by
  cases st with
  | nil => trivial
  | cons y r =>
    show Red (if y = -x then r else x :: y :: r)
    by_cases e : y = -x
    · rw [if_pos e]
      exact h.tail
    · rw [if_neg e]
      exact ⟨e, h⟩
theorem red_run : ∀ (u : Wk) {st : Wk}, Red st → Red (run st u)
  | [], _, h => h
  | x :: u, _, h => red_run u (red_stp x h)
theorem run_append (st u v : Wk) : run st (u ++ v) = run (run st u) v := List.foldl_append
/-- a step and its opposite one are as nothing -/
theorem stp_pair {st : Wk} (x : Int) (h : Red st) : stp (stp st x) (-x) = st := by
  cases st with
  | nil =>
    show (if x = - -x then [] else [-x, x]) = []
    rw [if_pos (by omega)]
  | cons y r =>
    show stp (if y = -x then r else x :: y :: r) (-x) = y :: r
    by_cases e : y = -x
    · rw [if_pos e]
      cases r with
      | nil => rw [e]; rfl
      | cons z r =>
        show (if z = - -x then r else -x :: z :: r) = y :: z :: r
        have hz : z ≠ -y := h.1
        rw [if_neg (by rw [e] at hz; exact hz), e]
    · rw [if_neg e]
      show (if x = - -x then y :: r else -x :: x :: y :: r) = y :: r
      rw [if_pos (by omega)]
/-- the same from all -/
def Eqv (u v : Wk) : Prop := ∀ st, Red st → run st u = run st v
theorem Eqv.refl (u : Wk) : Eqv u u := fun _ _ => rfl
theorem Eqv.symm {u v : Wk} (h : Eqv u v) : Eqv v u := fun st r => (h st r).symm
theorem Eqv.trans {u v w : Wk} (h : Eqv u v) (k : Eqv v w) : Eqv u w := fun st r => (h st r).trans (k st r)
theorem Eqv.app {u v a b : Wk} (h : Eqv u v) (k : Eqv a b) : Eqv (u ++ a) (v ++ b) := fun st r => by
  rw [run_append, run_append, h st r]
  exact k _ (red_run v r)
theorem eqv_pair (x : Int) : Eqv [x, -x] [] := fun st r => stp_pair x r
theorem eqv_cut (u v : Wk) (x : Int) : Eqv (u ++ [x, -x] ++ v) (u ++ v) := by
  have h := ((Eqv.refl u).app (eqv_pair x)).app (Eqv.refl v)
  rw [List.append_nil] at h
  exact h
theorem rd_eq {u v : Wk} (h : Eqv u v) : rd u = rd v := by
  unfold rd
  rw [h [] trivial]
theorem rd_snoc (u : Wk) (x : Int) : rd (u ++ [x]) = (stp (rd u).reverse x).reverse := by
  unfold rd
  rw [run_append, List.reverse_reverse]
  rfl
theorem run_snoc (st u : Wk) (x : Int) : run st (u ++ [x]) = stp (run st u) x := by
  rw [run_append]
  rfl
/-- what is left is the same -/
theorem eqv_rd : ∀ (n : Nat) (u : Wk), u.length = n → Eqv (rd u) u
  | 0, u, h => by
    have e : u = [] := List.eq_nil_of_length_eq_zero h
    subst e
    exact .refl _
  | n + 1, u, h => by
    obtain ⟨m, x, rfl⟩ : ∃ m x, u = m ++ [x] := ⟨u.dropLast, u.getLast (by intro e; subst e; cases h), (List.dropLast_concat_getLast _).symm⟩
    have ih := eqv_rd n m (by rw [List.length_append] at h; simpa using h)
    have hr : Red (rd m).reverse := by
      unfold rd
      rw [List.reverse_reverse]
      exact red_run m trivial
    intro st r
    rw [rd_snoc, run_snoc, ← ih st r]
    generalize hq : (rd m).reverse = q at hr
    have hm : rd m = q.reverse := by rw [← hq, List.reverse_reverse]
    rw [hm]
    cases q with
    | nil => rfl
    | cons y q =>
      show run st (if y = -x then q else x :: y :: q).reverse = stp (run st (y :: q).reverse) x
      by_cases e : y = -x
      · rw [if_pos e, List.reverse_cons, run_snoc, e]
        have k := stp_pair (-x) (red_run q.reverse r)
        rw [Int.neg_neg] at k
        exact k.symm
      · rw [if_neg e, List.reverse_cons, run_snoc]
theorem eqv_of_rd {u v : Wk} (h : rd u = rd v) : Eqv u v := (eqv_rd _ u rfl).symm.trans (h ▸ eqv_rd _ v rfl)
theorem rd_rd (u : Wk) : rd (rd u) = rd u := rd_eq (eqv_rd _ u rfl)
theorem rd_app (u v : Wk) : rd (rd u ++ rd v) = rd (u ++ v) := rd_eq ((eqv_rd _ u rfl).app (eqv_rd _ v rfl))
theorem bk_app (u v : Wk) : bk (u ++ v) = bk v ++ bk u := by unfold bk; rw [List.map_append, List.reverse_append]
theorem bk_bk (u : Wk) : bk (bk u) = u := by
  unfold bk
  rw [List.map_reverse, List.reverse_reverse, List.map_map]
  have e : ((fun x : Int => -x) ∘ fun x => -x) = id := funext fun x => by show - -x = x; omega
  rw [e, List.map_id]
theorem bk_len (u : Wk) : (bk u).length = u.length := by unfold bk; rw [List.length_reverse, List.length_map]
theorem eqv_bk : ∀ u : Wk, Eqv (u ++ bk u) []
  | [] => .refl _
  | x :: u => by
    have e : bk (x :: u) = bk u ++ [-x] := by
      unfold bk
      rw [List.map_cons, List.reverse_cons]
    rw [e]
    have h := ((Eqv.refl [x]).app (eqv_bk u)).app (Eqv.refl [-x])
    rw [List.append_nil] at h
    refine Eqv.trans ?_ (eqv_pair x)
    have e2 : (x :: u) ++ (bk u ++ [-x]) = [x] ++ (u ++ bk u) ++ [-x] := by simp
    rw [e2]
    exact h
theorem eqv_kb (u : Wk) : Eqv (bk u ++ u) [] := by
  have h := eqv_bk (bk u)
  rw [bk_bk] at h
  exact h
theorem Eqv.bk {u v : Wk} (h : Eqv u v) : Eqv (Fg.bk u) (Fg.bk v) := by
  -- back u ~ back u, v, back v ~ back u, u, back v ~ back v
  have h1 : Eqv (Fg.bk u) (Fg.bk u ++ (v ++ Fg.bk v)) := by
    have k := (Eqv.refl (Fg.bk u)).app (eqv_bk v).symm
    rw [List.append_nil] at k
    exact k
  have h2 : Eqv (Fg.bk u ++ (v ++ Fg.bk v)) (Fg.bk u ++ (u ++ Fg.bk v)) := (Eqv.refl _).app (h.symm.app (.refl _))
  have h3 : Eqv (Fg.bk u ++ (u ++ Fg.bk v)) (Fg.bk v) := by
    rw [← List.append_assoc]
    have k := (eqv_kb u).app (Eqv.refl (Fg.bk v))
    exact k
  exact (h1.trans h2).trans h3
/-- straight: no pair side by side -/
def Str (u : Wk) : Prop := ∀ i x, u[i]? = some x → u[i + 1]? ≠ some (-x)
theorem str_nil : Str [] := fun i x h => by simp at h
theorem str_snoc {u : Wk} {x : Int} (h : Str u) (hl : u.getLast? ≠ some (-x)) : Str (u ++ [x]) := by
  intro i z hz e
  by_cases hi : i + 1 < u.length
  · rw [List.getElem?_append_left (by omega)] at hz
    rw [List.getElem?_append_left hi] at e
    exact h i z hz e
  · by_cases hi2 : i + 1 = u.length
    · rw [List.getElem?_append_left (by omega)] at hz
      rw [List.getElem?_append_right (by omega), hi2, Nat.sub_self] at e
      have e' : x = -z := Option.some.inj e
      apply hl
      rw [List.getLast?_eq_getElem?]
      have e3 : u.length - 1 = i := by omega
      rw [e3, hz, e']
      congr 1
      omega
    · rw [List.getElem?_eq_none (by rw [List.length_append]; simp; omega)] at e
      cases e
theorem str_init {u : Wk} {x : Int} (h : Str (u ++ [x])) : Str u ∧ u.getLast? ≠ some (-x) := by
  refine ⟨fun i z hz e => ?_, fun e => ?_⟩
  · have l2 : i + 1 < u.length := (List.getElem?_eq_some_iff.mp e).1
    refine h i z ?_ ?_
    · rw [List.getElem?_append_left (by omega)]
      exact hz
    · rw [List.getElem?_append_left l2]
      exact e
  · rw [List.getLast?_eq_getElem?] at e
    have l1 : u.length - 1 < u.length := (List.getElem?_eq_some_iff.mp e).1
    refine h (u.length - 1) (-x) ?_ ?_
    · rw [List.getElem?_append_left l1]
      exact e
    · rw [show u.length - 1 + 1 = u.length by omega, List.getElem?_append_right (Nat.le_refl _), Nat.sub_self, Int.neg_neg]
      rfl
/-- a straight one stays -/
theorem rd_of_str : ∀ (n : Nat) (u : Wk), u.length = n → Str u → rd u = u
  | 0, u, h, _ => by
    have e : u = [] := List.eq_nil_of_length_eq_zero h
    subst e
    rfl
  | n + 1, u, h, s => by
    obtain ⟨m, x, rfl⟩ : ∃ m x, u = m ++ [x] := ⟨u.dropLast, u.getLast (by intro e; subst e; cases h), (List.dropLast_concat_getLast _).symm⟩
    obtain ⟨s1, s2⟩ := str_init s
    have ih := rd_of_str n m (by rw [List.length_append] at h; simpa using h) s1
    rw [rd_snoc, ih]
    generalize hq : m.reverse = q
    have hm : m = q.reverse := by rw [← hq, List.reverse_reverse]
    cases q with
    | nil => rw [hm]; rfl
    | cons y q =>
      have hl : m.getLast? = some y := by rw [hm, List.reverse_cons, List.getLast?_append]; rfl
      have hy : y ≠ -x := fun e => s2 (by rw [hl, e])
      show (if y = -x then q else x :: y :: q).reverse = m ++ [x]
      rw [if_neg hy, List.reverse_cons, ← hm]
theorem str_of_red : ∀ {st : Wk}, Red st → Str st.reverse
  | [], _ => str_nil
  | [x], _ => str_snoc (u := []) (x := x) str_nil (by simp)
  | x :: y :: r, h => by
    rw [List.reverse_cons]
    refine str_snoc (str_of_red h.2) ?_
    rw [List.reverse_cons, List.getLast?_append]
    intro e
    exact h.1 (Option.some.inj e)
theorem str_rd (u : Wk) : Str (rd u) := str_of_red (red_run u trivial)
theorem rd_str {u : Wk} (h : Str u) : rd u = u := rd_of_str _ u rfl h
theorem str_bk {u : Wk} (h : Str u) : Str (bk u) := by
  intro i x hx e
  unfold bk at hx e
  have l1 : i + 1 < u.length := by
    have := (List.getElem?_eq_some_iff.mp e).1
    simpa using this
  rw [List.getElem?_reverse (by simpa using (by omega : i < u.length)), List.getElem?_map] at hx
  rw [List.getElem?_reverse (by simpa using l1), List.getElem?_map] at e
  simp only [List.length_map] at hx e
  cases h1 : u[u.length - 1 - i]? with
  | none => rw [h1] at hx; cases hx
  | some z =>
    rw [h1] at hx
    have ez : -z = x := Option.some.inj hx
    cases h2 : u[u.length - 1 - (i + 1)]? with
    | none => rw [h2] at e; cases e
    | some y =>
      rw [h2] at e
      have ey : -y = -x := Option.some.inj e
      refine h (u.length - 1 - (i + 1)) y h2 ?_
      rw [show u.length - 1 - (i + 1) + 1 = u.length - 1 - i by omega, h1]
      congr 1
      omega
theorem rd_bk (u : Wk) : rd (bk u) = bk (rd u) := by
  rw [← rd_str (str_bk (str_rd u))]
  exact rd_eq (eqv_rd _ u rfl).symm.bk
theorem rd_len_le : ∀ (n : Nat) (u : Wk), u.length = n → (rd u).length ≤ u.length
  | 0, u, h => by
    have e : u = [] := List.eq_nil_of_length_eq_zero h
    subst e
    exact Nat.le_refl _
  | n + 1, u, h => by
    obtain ⟨m, x, rfl⟩ : ∃ m x, u = m ++ [x] := ⟨u.dropLast, u.getLast (by intro e; subst e; cases h), (List.dropLast_concat_getLast _).symm⟩
    have ih := rd_len_le n m (by rw [List.length_append] at h; simpa using h)
    rw [rd_snoc]
    generalize hq : (rd m).reverse = q
    have hm : rd m = q.reverse := by rw [← hq, List.reverse_reverse]
    rw [hm] at ih
    rw [List.length_append]
    cases q with
    | nil =>
      show 1 ≤ m.length + 1
      omega
    | cons y q =>
      show (if y = -x then q else x :: y :: q).reverse.length ≤ m.length + 1
      rw [List.length_reverse] at ih ⊢
      rw [List.length_cons] at ih
      split
      · omega
      · simp only [List.length_cons]
        omega
theorem rd_len (u : Wk) : (rd u).length ≤ u.length := rd_len_le _ u rfl
/-- u so many times -/
def rep : Nat → Wk → Wk
  | 0, _ => []
  | k + 1, u => rep k u ++ u
theorem rep_flat (k : Nat) (u : Wk) : (List.replicate k u).flatten = rep k u := by
  induction k with
  | zero => rfl
  | succ k ih =>
    rw [List.replicate_succ', List.flatten_append, ih]
    show rep k u ++ (u ++ []) = rep k u ++ u
    rw [List.append_nil]
theorem rep_len (k : Nat) (u : Wk) : (rep k u).length = k * u.length := by
  induction k with
  | zero => simp [rep]
  | succ k ih =>
    show (rep k u ++ u).length = (k + 1) * u.length
    rw [List.length_append, ih, Nat.succ_mul]
theorem eqv_rep {u v : Wk} (h : Eqv u v) : ∀ k, Eqv (rep k u) (rep k v)
  | 0 => .refl _
  | k + 1 => (eqv_rep h k).app h
end Fg
namespace Fg
/-- so many steps at the end of one are opposite to those ahead of the other -/
def Opp (u v : Wk) (s : Nat) : Prop := s ≤ u.length ∧ s ≤ v.length ∧ ∀ j, j < s → ∀ x y, u[u.length - 1 - j]? = some x → v[j]? = some y → x = -y
theorem opp_zero (u v : Wk) : Opp u v 0 := ⟨Nat.zero_le _, Nat.zero_le _, fun j h => absurd h (Nat.not_lt_zero j)⟩
theorem opp_succ {u v : Wk} {s : Nat} {x y : Int} (h : Opp u v s) (hu : s < u.length) (hv : s < v.length) (hx : u[u.length - 1 - s]? = some x) (hy : v[s]? = some y) (e : x = -y) : Opp u v (s + 1) := by
  refine ⟨hu, hv, fun j hj a b ha hb => ?_⟩
  by_cases hjs : j < s
  · exact h.2.2 j hjs a b ha hb
  · have : j = s := by omega
    subst this
    rw [hx] at ha
    rw [hy] at hb
    cases ha
    cases hb
    exact e
theorem eqv_opp {u v : Wk} : ∀ {s : Nat}, Opp u v s → Eqv (u ++ v) (u.take (u.length - s) ++ v.drop s)
  | 0, _ => by
    rw [Nat.sub_zero, List.take_length, List.drop_zero]
    exact .refl _
  | s + 1, h => by
    have h0 : Opp u v s := ⟨by have := h.1; omega, by have := h.2.1; omega, fun j hj => h.2.2 j (by omega)⟩
    refine (eqv_opp h0).trans ?_
    have hu : u.length - 1 - s < u.length := by have := h.1; omega
    have hv : s < v.length := h.2.1
    have e := h.2.2 s (by omega) u[u.length - 1 - s] v[s] (List.getElem?_eq_getElem hu) (List.getElem?_eq_getElem hv)
    have e1 : u.take (u.length - s) = u.take (u.length - (s + 1)) ++ [u[u.length - 1 - s]] := by
      have k : u.length - s = (u.length - 1 - s) + 1 := by have := h.1; omega
      have k2 : u.length - (s + 1) = u.length - 1 - s := by omega
      rw [k, k2, List.take_add_one, List.getElem?_eq_getElem hu]
      rfl
    have e2 : v.drop s = v[s] :: v.drop (s + 1) := List.drop_eq_getElem_cons hv
    rw [e1, e2, e]
    have e3 : u.take (u.length - (s + 1)) ++ [-v[s]] ++ (v[s] :: v.drop (s + 1)) = u.take (u.length - (s + 1)) ++ [-v[s], - -v[s]] ++ v.drop (s + 1) := by
      rw [Int.neg_neg]
      simp
    rw [e3]
    exact eqv_cut _ _ _
theorem str_take {u : Wk} (n : Nat) (h : Str u) : Str (u.take n) := by
  intro i x hx e
  have l2 : i + 1 < (u.take n).length := (List.getElem?_eq_some_iff.mp e).1
  rw [List.length_take] at l2
  rw [List.getElem?_take, if_pos (by omega)] at hx e
  exact h i x hx e
theorem str_drop {u : Wk} (n : Nat) (h : Str u) : Str (u.drop n) := by
  intro i x hx e
  rw [List.getElem?_drop] at hx e
  exact h (n + i) x hx (by rw [← e]; congr 1)
theorem str_app {u v : Wk} (hu : Str u) (hv : Str v) (h : ∀ x y, u.getLast? = some x → v.head? = some y → y ≠ -x) : Str (u ++ v) := by
  intro i x hx e
  by_cases h1 : i + 1 < u.length
  · rw [List.getElem?_append_left (by omega)] at hx
    rw [List.getElem?_append_left h1] at e
    exact hu i x hx e
  · by_cases h2 : i < u.length
    · rw [List.getElem?_append_left h2] at hx
      rw [List.getElem?_append_right (by omega)] at e
      have e0 : i + 1 - u.length = 0 := by omega
      rw [e0] at e
      refine h x (-x) ?_ ?_ rfl
      · rw [List.getLast?_eq_getElem?, show u.length - 1 = i by omega, hx]
      · rw [List.head?_eq_getElem?, e]
    · rw [List.getElem?_append_right (by omega)] at hx
      rw [List.getElem?_append_right (by omega)] at e
      have e0 : i + 1 - u.length = (i - u.length) + 1 := by omega
      rw [e0] at e
      exact hv _ x hx e
theorem join_ok {u v : Wk} {s : Nat} (hu : Str u) (hv : Str v) (h : Opp u v s) (hend : s < u.length → s < v.length → ∀ x y, u[u.length - 1 - s]? = some x → v[s]? = some y → x ≠ -y) :
    u.take (u.length - s) ++ v.drop s = rd (u ++ v) := by
  have hs : Str (u.take (u.length - s) ++ v.drop s) := by
    refine str_app (str_take _ hu) (str_drop _ hv) fun x y hx hy e => ?_
    rw [List.getLast?_eq_getElem?, List.length_take] at hx
    rw [List.head?_eq_getElem?, List.getElem?_drop] at hy
    have hx0 := (List.getElem?_eq_some_iff.mp hx).1
    rw [List.length_take] at hx0
    have hy0 := (List.getElem?_eq_some_iff.mp hy).1
    rw [List.getElem?_take, if_pos (by omega)] at hx
    have k1 : min (u.length - s) u.length - 1 = u.length - 1 - s := by omega
    rw [k1] at hx
    refine hend (by omega) (by omega) x y hx (by simpa using hy) (by omega)
  rw [rd_eq (eqv_opp h), rd_str hs]
theorem rd_rep_rd (u : Wk) (k : Nat) : rd (rep k (rd u)) = rd (rep k u) := rd_eq (eqv_rep (eqv_rd _ u rfl) k)
theorem rd_app_l (u v : Wk) : rd (rd u ++ v) = rd (u ++ v) := rd_eq ((eqv_rd _ u rfl).app (.refl v))
theorem rd_app_r (u v : Wk) : rd (u ++ rd v) = rd (u ++ v) := rd_eq ((Eqv.refl u).app (eqv_rd _ v rfl))
/-- one pair out -/
theorem rd_out {u : Wk} {i : Nat} {x y : Int} (hx : u[i]? = some x) (hy : u[i + 1]? = some y) (e : x = -y) : rd (u.take i ++ u.drop (i + 2)) = rd u := by
  have h1 := (List.getElem?_eq_some_iff.mp hx).1
  have h2 := (List.getElem?_eq_some_iff.mp hy).1
  have e1 : u = u.take i ++ [x, -x] ++ u.drop (i + 2) := by
    have k : u.drop i = x :: y :: u.drop (i + 2) := by
      rw [List.drop_eq_getElem_cons h1, List.drop_eq_getElem_cons h2]
      rw [List.getElem?_eq_getElem h1] at hx
      rw [List.getElem?_eq_getElem h2] at hy
      rw [Option.some.inj hx, Option.some.inj hy]
    have k2 : -x = y := by omega
    rw [k2]
    conv => lhs; rw [← List.take_append_drop i u, k]
    simp
  conv => rhs; rw [e1]
  exact (rd_eq (eqv_cut _ _ x)).symm
/-- no pair: straight -/
theorem str_of_none {u : Wk} (h : ∀ i x y, u[i]? = some x → u[i + 1]? = some y → x ≠ -y) : Str u := fun i x hx e => h i x (-x) hx e (by omega)
theorem mem_stp {st : Wk} {x y : Int} (h : y ∈ stp st x) : y ∈ st ∨ y = x := by
  cases st with
  | nil => exact .inr (List.mem_singleton.mp h)
  | cons z r =>
    have h' : y ∈ (if z = -x then r else x :: z :: r) := h
    split at h'
    · exact .inl (List.mem_cons_of_mem _ h')
    · rcases List.mem_cons.mp h' with e | e
      · exact .inr e
      · exact .inl e
theorem mem_run : ∀ (u : Wk) {st : Wk} {y : Int}, y ∈ run st u → y ∈ st ∨ y ∈ u
  | [], _, _, h => .inl h
  | x :: u, st, y, h => by
    rcases mem_run u (st := stp st x) h with k | k
    · rcases mem_stp k with k | k
      · exact .inl k
      · exact .inr (by rw [k]; exact List.mem_cons_self)
    · exact .inr (List.mem_cons_of_mem _ k)
theorem mem_rd {u : Wk} {y : Int} (h : y ∈ rd u) : y ∈ u := by
  rcases mem_run u (List.mem_reverse.mp h) with k | k
  · cases k
  · exact k
theorem mem_bk {u : Wk} {y : Int} (h : y ∈ bk u) : -y ∈ u := by
  unfold bk at h
  obtain ⟨x, hx, e⟩ := List.mem_map.mp (List.mem_reverse.mp h)
  rw [← e, Int.neg_neg]
  exact hx
theorem mem_rep : ∀ {k : Nat} {u : Wk} {y : Int}, y ∈ rep k u → y ∈ u
  | 0, _, _, h => by cases h
  | k + 1, _, _, h => by
    rcases List.mem_append.mp h with h | h
    · exact mem_rep h
    · exact h
theorem rep_nil : ∀ k : Nat, rep k [] = []
  | 0 => rfl
  | k + 1 => by
    show rep k [] ++ [] = []
    rw [rep_nil k]
    rfl
theorem rep_one (u : Wk) : rep 1 u = u := by
  show [] ++ u = u
  rfl
theorem rd_nil : rd [] = [] := rfl
theorem rd_app_bk (u : Wk) : rd (u ++ bk u) = [] := rd_eq (eqv_bk u)
theorem rd_bk_app (u : Wk) : rd (bk u ++ u) = [] := rd_eq (eqv_kb u)
end Fg
/-! what the words of several laws say -/
namespace L2
open PySem PySem.Spec PyProof.Rows Evl
/-- steps of so many letters -/
def Stp (l : Int) (ns : List Int) : Prop := ∀ x ∈ ns, x ≠ 0 ∧ -l ≤ x ∧ x ≤ l
theorem bk_rev (ns : List Int) : Fg.bk ns = ns.reverse.map fun x => -x := by unfold Fg.bk; rw [List.map_reverse]
theorem bk_get {ns : List Int} {k : Nat} {x y : V} (hx : ((ns.map V.int).reverse)[k]? = some x) (hy : ((Fg.bk ns).map V.int)[k]? = some y) : ∃ z, x = .int z ∧ y = .int (-z) := by
  rw [← List.map_reverse, List.getElem?_map] at hx
  rw [List.getElem?_map, bk_rev, List.getElem?_map] at hy
  cases hn : ns.reverse[k]? with
  | none => rw [hn] at hx; cases hx
  | some z =>
    rw [hn] at hx hy
    cases hx
    cases hy
    exact ⟨z, rfl, rfl⟩
/-- the walk so many times, back for a number below 0 -/
def pw (ns : List Int) (k : Int) : List Int := Fg.rd (Fg.rep k.natAbs (if 0 ≤ k then ns else Fg.bk ns))
theorem abs_if (k : Int) : (if k < 0 then -k else k) = ((k.natAbs : Nat) : Int) := by
  split <;> omega
theorem stp_of_mem {l : Int} {ns ms : List Int} (h : Stp l ns) (k : ∀ x ∈ ms, x ∈ ns) : Stp l ms := fun x hx => h x (k x hx)
theorem given_ints (m : Nat) (f : Nat → Bool) : given m f (fun i => V.int (0 + (i : Int))) = (((List.range m).filter f).map fun i => ((i : Nat) : Int)).map V.int := by
  unfold given
  rw [List.map_map]
  congr 1
  funext i
  show V.int (0 + (i : Int)) = V.int (i : Int)
  rw [Int.zero_add]
theorem pw_rd (ns : List Int) (k : Int) : pw (Fg.rd ns) k = pw ns k := by
  unfold pw
  split
  · exact Fg.rd_rep_rd ns _
  · rw [← Fg.rd_bk]
    exact Fg.rd_rep_rd _ _
theorem pw_zero (ns : List Int) : pw ns 0 = [] := rfl
theorem pw_one (ns : List Int) : pw ns 1 = Fg.rd ns := by
  show Fg.rd (Fg.rep 1 ns) = Fg.rd ns
  rw [Fg.rep_one]
theorem pw_nil (k : Int) : pw [] k = [] := by
  unfold pw
  have e : (if 0 ≤ k then ([] : List Int) else Fg.bk []) = [] := by split <;> rfl
  rw [e, Fg.rep_nil]
  rfl
theorem stp_rd {ns : List Int} (h : Stp 4 ns) : Stp 4 (Fg.rd ns) := fun x hx => h x (Fg.mem_rd hx)
theorem stp_bk {ns : List Int} (h : Stp 4 ns) : Stp 4 (Fg.bk ns) := fun x hx => by
  have := h _ (Fg.mem_bk hx)
  omega
theorem stp_pw {ns : List Int} {k : Int} (h : Stp 4 ns) : Stp 4 (pw ns k) := by
  unfold pw
  refine stp_rd fun x hx => ?_
  have := Fg.mem_rep hx
  split at this
  · exact h x this
  · exact stp_bk h x this
theorem str_pw (ns : List Int) (k : Int) : Fg.Str (pw ns k) := Fg.str_rd _
theorem pw_len {ns : List Int} {k : Int} (h : ns.length ≤ 60) (hlo : -20 ≤ k) (hhi : k ≤ 20) : (pw ns k).length ≤ 1200 := by
  unfold pw
  refine Nat.le_trans (Fg.rd_len _) ?_
  rw [Fg.rep_len]
  have e : (if 0 ≤ k then ns else Fg.bk ns).length ≤ 60 := by
    split
    · exact h
    · rw [Fg.bk_len]
      exact h
  exact Nat.le_trans (Nat.mul_le_mul (by omega : k.natAbs ≤ 20) e) (by decide)
theorem rd60 {ns : List Int} (h : ns.length ≤ 60) : (Fg.rd ns).length ≤ 60 := Nat.le_trans (Fg.rd_len ns) h
theorem stp_nil : Stp 4 [] := fun x hx => by cases hx
theorem stp_le {l : Int} {ns : List Int} (h : Stp l ns) (e : l ≤ 4) : Stp 4 ns := fun x hx => by
  have := h x hx
  omega
end L2
/-! leads, cores, roots -/
namespace Fg
theorem tw_len {p : Nat → Bool} : ∀ (m s : Nat), s ≤ m → (∀ j, j < s → p j = true) → (s < m → p s = false) → ((List.range m).takeWhile p).length = s := by
  intro m s hs h1 h2
  have e : List.range m = List.range s ++ (List.range (m - s)).map (s + ·) := by
    have k : m = s + (m - s) := by omega
    conv => lhs; rw [k]
    rw [List.range_add]
  rw [e, List.takeWhile_append_of_pos (fun a ha => h1 a (List.mem_range.mp ha)), List.length_append, List.length_range]
  by_cases h : s < m
  · have k : m - s = (m - s - 1) + 1 := by omega
    rw [k, List.range_succ_eq_map, List.map_cons, List.takeWhile_cons_of_neg (by rw [Nat.add_zero, h2 h]; exact Bool.false_ne_true)]
    rfl
  · have k : m - s = 0 := by omega
    rw [k]
    rfl
def mt (u : Wk) (j : Nat) : Bool := decide (u.getD j 0 = -(u.getD (u.length - 1 - j) 0))
/-- how many steps the lead has -/
def ld (u : Wk) : Nat := ((List.range (u.length / 2)).takeWhile (mt u)).length
theorem ld_eq {u : Wk} {s : Nat} (h : s ≤ u.length / 2) (h1 : ∀ j, j < s → mt u j = true) (h2 : s < u.length / 2 → mt u s = false) : ld u = s := tw_len _ s h h1 h2
theorem ld_le (u : Wk) : ld u ≤ u.length / 2 := by
  unfold ld
  have h := (List.takeWhile_sublist (mt u) (l := List.range (u.length / 2))).length_le
  rw [List.length_range] at h
  exact h
theorem ld_mt {u : Wk} {j : Nat} (h : j < ld u) : mt u j = true := by
  have hl := ld_le u
  have hs := List.takeWhile_prefix (mt u) (l := List.range (u.length / 2))
  have hm : ((List.range (u.length / 2)).takeWhile (mt u))[j]'h ∈ (List.range (u.length / 2)).takeWhile (mt u) := List.getElem_mem h
  have e : ((List.range (u.length / 2)).takeWhile (mt u))[j]'h = j := by
    rw [hs.getElem h, List.getElem_range]
  have hall := List.all_takeWhile (p := mt u) (l := List.range (u.length / 2))
  rw [List.all_eq_true] at hall
  have k := hall _ hm
  rw [e] at k
  exact k
theorem mt_of {u : Wk} {j : Nat} {x y : Int} (hx : u[j]? = some x) (hy : u[u.length - 1 - j]? = some y) : mt u j = decide (x = -y) := by
  unfold mt
  rw [List.getD_eq_getElem?_getD, List.getD_eq_getElem?_getD, hx, hy]
  rfl
/-- beyond the lead nothing fits -/
theorem ld_end {u : Wk} (h : ld u < u.length / 2) : mt u (ld u) = false := by
  cases e : mt u (ld u) with
  | false => rfl
  | true =>
    exfalso
    -- then the lead would be longer
    have hmono : ∀ j, j < ld u + 1 → mt u j = true := fun j hj => by
      rcases Nat.lt_or_ge j (ld u) with k | k
      · exact ld_mt k
      · have : j = ld u := by omega
        rw [this]
        exact e
    -- the first s that does not fit, or the half
    have : ∃ s, ld u + 1 ≤ s ∧ s ≤ u.length / 2 ∧ (∀ j, j < s → mt u j = true) ∧ (s < u.length / 2 → mt u s = false) := by
      have go : ∀ (d s : Nat), u.length / 2 - s = d → ld u + 1 ≤ s → s ≤ u.length / 2 → (∀ j, j < s → mt u j = true) → ∃ s, ld u + 1 ≤ s ∧ s ≤ u.length / 2 ∧ (∀ j, j < s → mt u j = true) ∧ (s < u.length / 2 → mt u s = false) := by
        intro d
        induction d with
        | zero => exact fun s hd h1 h2 h3 => ⟨s, h1, h2, h3, fun z => absurd z (by omega)⟩
        | succ d ih =>
          intro s hd h1 h2 h3
          cases k : mt u s with
          | false => exact ⟨s, h1, h2, h3, fun _ => k⟩
          | true =>
            refine ih (s + 1) (by omega) (by omega) (by omega) fun j hj => ?_
            rcases Nat.lt_or_ge j s with z | z
            · exact h3 j z
            · have : j = s := by omega
              rw [this]
              exact k
      exact go _ (ld u + 1) rfl (Nat.le_refl _) h hmono
    obtain ⟨s, s1, s2, s3, s4⟩ := this
    have := ld_eq s2 s3 s4
    omega
theorem ld_str {u : Wk} (h : Str u) (hn : u ≠ []) : ld u ≤ (u.length - 1) / 2 := by
  have hl := ld_le u
  have hp : 0 < u.length := List.length_pos_iff.mpr hn
  refine Nat.le_of_not_lt fun z => ?_
  -- then it is the half of an even number
  have e1 : ld u = u.length / 2 := by omega
  have e2 : u.length = 2 * (u.length / 2) := by omega
  have hj : u.length / 2 - 1 < ld u := by omega
  have k := ld_mt hj
  have l1 : u.length / 2 - 1 < u.length := by omega
  have l2 : u.length - 1 - (u.length / 2 - 1) < u.length := by omega
  rw [mt_of (List.getElem?_eq_getElem l1) (List.getElem?_eq_getElem l2)] at k
  have k2 := of_decide_eq_true k
  refine h (u.length / 2 - 1) _ (List.getElem?_eq_getElem l1) ?_
  have e3 : u.length / 2 - 1 + 1 = u.length - 1 - (u.length / 2 - 1) := by omega
  rw [e3, List.getElem?_eq_getElem l2, k2, Int.neg_neg]
def lead (u : Wk) : Wk := u.take (ld u)
def mid (u : Wk) : Wk := (u.drop (ld u)).take (u.length - ld u - ld u)
/-- so many steps ahead are those at the end turned back -/
theorem take_bk {u : Wk} {s : Nat} (hs : s ≤ u.length) : u.take s = bk (u.drop (u.length - s)) ↔ ∀ j, j < s → mt u j = true := by
  have len1 : (u.take s).length = s := by rw [List.length_take]; omega
  have len2 : (bk (u.drop (u.length - s))).length = s := by rw [bk_len, List.length_drop]; omega
  have at2 : ∀ j, j < s → (bk (u.drop (u.length - s)))[j]? = (u[u.length - 1 - j]?).map fun x => -x := fun j hj => by
    unfold bk
    rw [List.getElem?_reverse (by rw [List.length_map, List.length_drop]; omega), List.getElem?_map, List.length_map, List.length_drop, List.getElem?_drop]
    congr 2
    omega
  constructor
  · intro e j hj
    have l1 : j < u.length := by omega
    have l2 : u.length - 1 - j < u.length := by omega
    rw [mt_of (List.getElem?_eq_getElem l1) (List.getElem?_eq_getElem l2)]
    have k : (u.take s)[j]? = (bk (u.drop (u.length - s)))[j]? := by rw [e]
    rw [at2 j hj, List.getElem?_take, if_pos hj, List.getElem?_eq_getElem l1, List.getElem?_eq_getElem l2] at k
    exact decide_eq_true (Option.some.inj k)
  · intro h
    apply List.ext_getElem?
    intro j
    by_cases hj : j < s
    · have l1 : j < u.length := by omega
      have l2 : u.length - 1 - j < u.length := by omega
      have k := h j hj
      rw [mt_of (List.getElem?_eq_getElem l1) (List.getElem?_eq_getElem l2)] at k
      rw [at2 j hj, List.getElem?_take, if_pos hj, List.getElem?_eq_getElem l1, List.getElem?_eq_getElem l2, of_decide_eq_true k]
      rfl
    · rw [List.getElem?_eq_none (by omega), List.getElem?_eq_none (by omega)]
theorem take_bk_ld {u : Wk} {s : Nat} (hs : s ≤ u.length / 2) : (u.take s = bk (u.drop (u.length - s))) ↔ s ≤ ld u := by
  rw [take_bk (by omega)]
  constructor
  · intro h
    refine Nat.le_of_not_lt fun z => ?_
    have := ld_end (u := u) (by omega)
    rw [h (ld u) z] at this
    cases this
  · exact fun h j hj => ld_mt (by omega)
/-! ### once round -/
def Per (u : Wk) (l : Nat) : Prop := rep (u.length / l) (u.take l) = u
instance (u : Wk) (l : Nat) : Decidable (Per u l) := inferInstanceAs (Decidable (_ = _))
structure Om (u : Wk) (l : Nat) : Prop where
  pos : 1 ≤ l
  le : l ≤ u.length
  per : Per u l
  least : ∀ k, 1 ≤ k → k < l → ¬ Per u k
theorem per_full (u : Wk) (h : u ≠ []) : Per u u.length := by
  unfold Per
  rw [Nat.div_self (List.length_pos_iff.mpr h), List.take_length, rep_one]
theorem per_len {u : Wk} {l : Nat} (h : Per u l) (hl : l ≤ u.length) : u.length / l * l = u.length := by
  have e := congrArg List.length h
  rw [rep_len, List.length_take, Nat.min_eq_left hl] at e
  exact e
/-- so many times the part -/
def Tm (u : Wk) (t : Nat) : Prop := rep t (u.take (u.length / t)) = u
theorem tm_one (u : Wk) : Tm u 1 := by
  unfold Tm
  rw [Nat.div_one, List.take_length, rep_one]
theorem om_tm {u : Wk} {l : Nat} (h : Om u l) : Tm u (u.length / l) ∧ u.length / (u.length / l) = l ∧ 1 ≤ u.length / l ∧ u.length / l ≤ u.length := by
  have e := per_len h.per h.le
  have hp := h.pos
  have h1 : 1 ≤ u.length / l := Nat.div_pos h.le hp
  have e2 : u.length / (u.length / l) = l := by
    apply Nat.div_eq_of_eq_mul_right h1
    exact e.symm
  refine ⟨?_, e2, h1, Nat.div_le_self _ _⟩
  unfold Tm
  rw [e2]
  exact h.per
theorem tm_le {u : Wk} {l t : Nat} (h : Om u l) (ht : Tm u t) (h1 : 1 ≤ t) (h2 : t ≤ u.length) : t ≤ u.length / l := by
  have e : t * (u.length / t) = u.length := by
    have k := congrArg List.length ht
    rw [rep_len, List.length_take, Nat.min_eq_left (Nat.div_le_self _ _)] at k
    exact k
  have hl : 1 ≤ u.length / t := Nat.div_pos h2 h1
  have ht2 : u.length / (u.length / t) = t := by
    apply Nat.div_eq_of_eq_mul_right hl
    rw [Nat.mul_comm]
    exact e.symm
  have hp : Per u (u.length / t) := by
    unfold Per
    rw [ht2]
    exact ht
  have hge : l ≤ u.length / t := Nat.le_of_not_lt fun z => h.least _ hl z hp
  have hp2 := h.pos
  rw [← ht2]
  exact Nat.div_le_div_left hge hp2
end Fg
namespace L2
open PySem PySem.Spec PyProof.Rows Evl
section
variable {K : PySem.W.Frag} {σ : L2.St} {H H' : Hp} {Q : VK} {D : Ends} {te : TE} {a : Addr} {xs : List V}
def rAug (i : Nat) (x : V) (ti : TIp) (D : Ends) (σ : L2.St) (y : V) (H1 : Hp) : Prop := ti x y H1 fun z H2 => D.nx (σ.set i (some z)) H2
theorem st_aug {i : Nat} {x : V} {ti : TIp} (hx : σ[i]? = some (some x)) (h : te σ H fun y H1 => rAug i x ti D σ y H1) : tAug i te ti D σ H := ⟨x, hx, h⟩
theorem r_augI {i : Nat} {x y : Int} {f : Int → Int → Int} (h : D.nx (σ.set i (some (.int (f x y)))) H) : rAug i (.int x) (ipI f) D σ (.int y) H := ⟨x, y, rfl, rfl, h⟩
/-- a, b = t -/
theorem r_tup2 {i j : Nat} {x y : V} {R : L2.St → Hp → Prop} (h : SqT K H a [x, y]) (q : R ((σ.set i (some x)).set j (some y)) H) : gTup K 2 (gCons (gName i) (gCons (gName j) gNil)) (.ref a) σ H R := ⟨a, _, rfl, h, rfl, x, [y], rfl, y, [], rfl, rfl, q⟩
theorem at_negI {ns : List Int} {k : Nat} {x : Int} (hk : k < ns.length) (hx : ns[ns.length - 1 - k]? = some x) : atI (ns.map V.int) (-1 - (k : Int)) = some (.int x) := by
  have e : ixN (ns.map V.int).length (-1 - (k : Int)) = some (ns.length - 1 - k) := by
    unfold ixN
    rw [List.length_map, if_neg (by omega), if_pos (by omega)]
    congr 1
    omega
  unfold atI
  rw [e]
  show (ns.map V.int)[ns.length - 1 - k]? = _
  rw [List.getElem?_map, hx]
  rfl
theorem cut_mid {ns : List Int} {lo hi : Int} (h0 : 0 ≤ lo) (h1 : 0 ≤ hi) (h2 : hi ≤ ns.length) : cutV (ns.map V.int) (some lo) (some hi) = ((ns.drop lo.toNat).take (hi.toNat - lo.toNat)).map V.int := by
  rw [cut_map, sIx_int h0, sIx_int h1]
  congr 1
  rw [Nat.min_eq_left (by omega : hi.toNat ≤ ns.length)]
  by_cases h : lo.toNat ≤ ns.length
  · rw [Nat.min_eq_left h]
  · rw [Nat.min_eq_right (by omega), List.drop_of_length_le (Nat.le_refl _), List.drop_of_length_le (by omega)]
    simp
theorem r_eqB {x y : Bool} (q : Q (.bl (decide (x = y))) H) : rEqU K (.bl x) (.bl y) H Q := .inl ⟨rfl, by
  have e : decide ((V.bl x) = V.bl y) = decide (x = y) := by simp
  rw [e]
  exact q⟩
/-- a tuple of two walks -/
structure P2 (K : PySem.W.Frag) (H : Hp) (q : Addr) (u v : List Int) : Prop where
  ex : ∃ a b, SqT K H q [.ref a, .ref b] ∧ IT K H a u ∧ IT K H b v
theorem P2.mono {q : Addr} {u v : List Int} (h : P2 K H q u v) (e : Ex H H') : P2 K H' q u v := by
  obtain ⟨a, b, h1, h2, h3⟩ := h.ex
  exact ⟨a, b, ex_t e h1, ex_t e h2, ex_t e h3⟩
/-- a tuple of a walk and a number -/
structure P1N (K : PySem.W.Frag) (H : Hp) (q : Addr) (u : List Int) (t : Int) : Prop where
  ex : ∃ a, SqT K H q [.ref a, .int t] ∧ IT K H a u
theorem P1N.mono {q : Addr} {u : List Int} {t : Int} (h : P1N K H q u t) (e : Ex H H') : P1N K H' q u t := by
  obtain ⟨a, h1, h2⟩ := h.ex
  exact ⟨a, ex_t e h1, ex_t e h2⟩
/-- the tuples stay -/
def TX (H H' : Hp) : Prop := ∀ a xs, H a = some (.tup xs) ∨ (∃ o, H a = some (.frz o (.tup xs))) → H' a = H a
theorem TX.refl (H : Hp) : TX H H := fun _ _ _ => rfl
theorem TX.trans {H H1 H2 : Hp} (a : TX H H1) (b : TX H1 H2) : TX H H2 := fun x xs h => by
  have e := a x xs h
  rw [← e] at h
  rw [b x xs h, e]
theorem TX.of (e : Ex H H') : TX H H' := fun a xs h => by
  rcases h with h | ⟨o, h⟩
  · rw [h, e _ _ h]
  · rw [h, e _ _ h]
theorem TX.w {w : Addr} {n : Nat} (e : ExW w H H') (k : Well H w n) : TX H H' := fun a xs h => by
  obtain ⟨_, _, _, h1, _⟩ := k.ex
  rcases h with h | ⟨o, h⟩
  · rw [h, e _ _ h (ne_of h h1 (by intro z; cases z))]
  · rw [h, e _ _ h (ne_of h h1 (by intro z; cases z))]
theorem tx_t (e : TX H H') (h : SqT K H a xs) : SqT K H' a xs := by
  rcases h with (h | ⟨o, h⟩) | h
  · exact .inl (.inl (by rw [e _ _ (.inl h)]; exact h))
  · exact .inl (.inr ⟨o, by rw [e _ _ (.inr ⟨o, h⟩)]; exact h⟩)
  · exact .inr h
theorem DrS.tx {w : Addr} {n k : Nat} (h : DrS w H n H') (h0 : Well H w k) : TX H H' := .w h.ex h0
end
theorem str_one (x : Int) : Fg.Str [x] := Fg.str_snoc (u := []) Fg.str_nil (by simp)
theorem om_unique {u : List Int} {l k : Nat} (h1 : Fg.Om u l) (h2 : Fg.Om u k) : l = k := by
  rcases Nat.lt_trichotomy l k with h | h | h
  · exact absurd h1.per (h2.least l h1.pos h)
  · exact h
  · exact absurd h2.per (h1.least k h2.pos h)
/-- what the root of a straight walk is -/
def RootIs (ns u : List Int) (t : Int) : Prop := (Fg.mid ns = [] ∧ u = [] ∧ t = 0) ∨ (Fg.mid ns ≠ [] ∧ ∃ l, Fg.Om (Fg.mid ns) l ∧ u = Fg.lead ns ++ (Fg.mid ns).take l ++ Fg.bk (Fg.lead ns) ∧ t = (((Fg.mid ns).length / l : Nat) : Int))
theorem rootIs_unique {ns u v : List Int} {t s : Int} (h1 : RootIs ns u t) (h2 : RootIs ns v s) : u = v ∧ t = s := by
  rcases h1 with ⟨e1, rfl, rfl⟩ | ⟨n1, l, o1, rfl, rfl⟩
  · rcases h2 with ⟨_, rfl, rfl⟩ | ⟨n2, _⟩
    · exact ⟨rfl, rfl⟩
    · exact absurd e1 n2
  · rcases h2 with ⟨e2, _⟩ | ⟨n2, k, o2, rfl, rfl⟩
    · exact absurd e2 n1
    · have := om_unique o1 o2
      subst this
      exact ⟨rfl, rfl⟩
theorem lead_len (ns : List Int) : (Fg.lead ns).length ≤ ns.length := by
  unfold Fg.lead
  rw [List.length_take]
  exact Nat.min_le_right _ _
theorem mid_len (ns : List Int) : (Fg.mid ns).length ≤ ns.length := by
  unfold Fg.mid
  rw [List.length_take, List.length_drop]
  omega
theorem root_len {ns u : List Int} {t : Int} (h : RootIs ns u t) : u.length ≤ 3 * ns.length := by
  rcases h with ⟨_, rfl, _⟩ | ⟨_, l, _, rfl, _⟩
  · exact Nat.zero_le _
  · have h1 := lead_len ns
    have h2 := mid_len ns
    rw [List.length_append, List.length_append, Fg.bk_len, List.length_take]
    omega
end L2
namespace Lw
open PySem PySem.Spec PyProof.Rows L2 Evl

/-! ### the text -/
def topS (i : Nat) : Stmt := PySem.Challenge.pw_walkclubs_k02_cores_and_roots.main.body.getD i (.Pass ⟨0, 0, 0, 0⟩)
abbrev s_is_integer : Stmt := topS 6
abbrev N_is_integer : List Str := ["value"]
abbrev P_is_integer : List Str := ["value"]
theorem sc_is_integer : FnScope N_is_integer P_is_integer (defScope s_is_integer) := ⟨rfl, rfl, rfl, by decide +kernel, rfl, by decide +kernel, by decide +kernel⟩
abbrev s_straightened : Stmt := topS 14
abbrev N_straightened : List Str := ["walk", "kept", "step"]
abbrev P_straightened : List Str := ["walk"]
theorem sc_straightened : FnScope N_straightened P_straightened (defScope s_straightened) := ⟨rfl, rfl, rfl, by decide +kernel, rfl, by decide +kernel, by decide +kernel⟩
abbrev s_turned_back : Stmt := topS 15
abbrev N_turned_back : List Str := ["walk", "step"]
abbrev P_turned_back : List Str := ["walk"]
theorem sc_turned_back : FnScope N_turned_back P_turned_back (defScope s_turned_back) := ⟨rfl, rfl, rfl, by decide +kernel, rfl, by decide +kernel, by decide +kernel⟩
abbrev s_lead_and_core : Stmt := topS 16
abbrev N_lead_and_core : List Str := ["walk", "length"]
abbrev P_lead_and_core : List Str := ["walk"]
theorem sc_lead_and_core : FnScope N_lead_and_core P_lead_and_core (defScope s_lead_and_core) := ⟨rfl, rfl, rfl, by decide +kernel, rfl, by decide +kernel, by decide +kernel⟩
abbrev s_once_round : Stmt := topS 17
abbrev N_once_round : List Str := ["steps", "length"]
abbrev P_once_round : List Str := ["steps"]
theorem sc_once_round : FnScope N_once_round P_once_round (defScope s_once_round) := ⟨rfl, rfl, rfl, by decide +kernel, rfl, by decide +kernel, by decide +kernel⟩
abbrev s__law_well : Stmt := topS 23
abbrev N__law_well : List Str := ["_law_script", "_law_k", "_law_cell", "_law_total", "_law_seed", "_law_one"]
abbrev P__law_well : List Str := ["_law_script", "_law_k"]
theorem sc__law_well : FnScope N__law_well P__law_well (defScope s__law_well) := ⟨rfl, rfl, rfl, by decide +kernel, rfl, by decide +kernel, by decide +kernel⟩
abbrev s__law_take : Stmt := topS 24
abbrev N__law_take : List Str := ["_law_well_here", "_law_many", "_law_found", "_law_mixed"]
abbrev P__law_take : List Str := ["_law_well_here", "_law_many"]
theorem sc__law_take : FnScope N__law_take P__law_take (defScope s__law_take) := ⟨rfl, rfl, rfl, by decide +kernel, rfl, by decide +kernel, by decide +kernel⟩
abbrev s__law_back : Stmt := topS 26
abbrev N__law_back : List Str := ["_law_walk_here", "_law_step"]
abbrev P__law_back : List Str := ["_law_walk_here"]
theorem sc__law_back : FnScope N__law_back P__law_back (defScope s__law_back) := ⟨rfl, rfl, rfl, by decide +kernel, rfl, by decide +kernel, by decide +kernel⟩
abbrev s__law_joined : Stmt := topS 27
abbrev N__law_joined : List Str := ["_law_one", "_law_other", "_law_size"]
abbrev P__law_joined : List Str := ["_law_one", "_law_other"]
theorem sc__law_joined : FnScope N__law_joined P__law_joined (defScope s__law_joined) := ⟨rfl, rfl, rfl, by decide +kernel, rfl, by decide +kernel, by decide +kernel⟩
abbrev s__law_is : Stmt := topS 29
abbrev N__law_is : List Str := ["_law_found", "_law_due", "_law_step"]
abbrev P__law_is : List Str := ["_law_found", "_law_due"]
theorem sc__law_is : FnScope N__law_is P__law_is (defScope s__law_is) := ⟨rfl, rfl, rfl, by decide +kernel, rfl, by decide +kernel, by decide +kernel⟩
abbrev s_is_step_of : Stmt := topS 7
abbrev N_is_step_of : List Str := ["letters", "value"]
abbrev P_is_step_of : List Str := ["letters", "value"]
theorem sc_is_step_of : FnScope N_is_step_of P_is_step_of (defScope s_is_step_of) := ⟨rfl, rfl, rfl, by decide +kernel, rfl, by decide +kernel, by decide +kernel⟩
abbrev s_check_within : Stmt := topS 11
abbrev N_check_within : List Str := ["number", "least", "greatest"]
abbrev P_check_within : List Str := ["number", "least", "greatest"]
theorem sc_check_within : FnScope N_check_within P_check_within (defScope s_check_within) := ⟨rfl, rfl, rfl, by decide +kernel, rfl, by decide +kernel, by decide +kernel⟩
abbrev s__law_walk : Stmt := topS 25
abbrev N__law_walk : List Str := ["_law_well_here", "_law_letters", "_law_most", "_law_way", "_law_size", "_law_steps", "_law_third", "_law_turn", "_law_step"]
abbrev P__law_walk : List Str := ["_law_well_here", "_law_letters", "_law_most"]
theorem sc__law_walk : FnScope N__law_walk P__law_walk (defScope s__law_walk) := ⟨rfl, rfl, rfl, by decide +kernel, rfl, by decide +kernel, by decide +kernel⟩
abbrev s__law_straight : Stmt := topS 28
abbrev N__law_straight : List Str := ["_law_walk_here", "_law_left", "_law_step"]
abbrev P__law_straight : List Str := ["_law_walk_here"]
theorem sc__law_straight : FnScope N__law_straight P__law_straight (defScope s__law_straight) := ⟨rfl, rfl, rfl, by decide +kernel, rfl, by decide +kernel, by decide +kernel⟩
abbrev s__law_core : Stmt := topS 30
abbrev N__law_core : List Str := ["_law_walk_here", "_law_found", "_law_size"]
abbrev P__law_core : List Str := ["_law_walk_here"]
theorem sc__law_core : FnScope N__law_core P__law_core (defScope s__law_core) := ⟨rfl, rfl, rfl, by decide +kernel, rfl, by decide +kernel, by decide +kernel⟩
abbrev s__law_pair : Stmt := topS 32
abbrev N__law_pair : List Str := ["_law_found", "_law_due"]
abbrev P__law_pair : List Str := ["_law_found", "_law_due"]
theorem sc__law_pair : FnScope N__law_pair P__law_pair (defScope s__law_pair) := ⟨rfl, rfl, rfl, by decide +kernel, rfl, by decide +kernel, by decide +kernel⟩
abbrev s__law_counted : Stmt := topS 33
abbrev N__law_counted : List Str := ["_law_found", "_law_due"]
abbrev P__law_counted : List Str := ["_law_found", "_law_due"]
theorem sc__law_counted : FnScope N__law_counted P__law_counted (defScope s__law_counted) := ⟨rfl, rfl, rfl, by decide +kernel, rfl, by decide +kernel, by decide +kernel⟩
abbrev s_is_walk_of : Stmt := topS 8
abbrev N_is_walk_of : List Str := ["letters", "value", "step"]
abbrev P_is_walk_of : List Str := ["letters", "value"]
theorem sc_is_walk_of : FnScope N_is_walk_of P_is_walk_of (defScope s_is_walk_of) := ⟨rfl, rfl, rfl, by decide +kernel, rfl, by decide +kernel, by decide +kernel⟩
abbrev s__law_root : Stmt := topS 31
abbrev N__law_root : List Str := ["_law_walk_here", "_law_lead", "_law_middle", "_law_found", "_law_times", "_law_part"]
abbrev P__law_root : List Str := ["_law_walk_here"]
theorem sc__law_root : FnScope N__law_root P__law_root (defScope s__law_root) := ⟨rfl, rfl, rfl, by decide +kernel, rfl, by decide +kernel, by decide +kernel⟩
abbrev s__law_wound : Stmt := topS 36
abbrev N__law_wound : List Str := ["_law_well_here", "_law_letters", "_law_lead", "_law_once", "_law_times"]
abbrev P__law_wound : List Str := ["_law_well_here", "_law_letters"]
theorem sc__law_wound : FnScope N__law_wound P__law_wound (defScope s__law_wound) := ⟨rfl, rfl, rfl, by decide +kernel, rfl, by decide +kernel, by decide +kernel⟩
abbrev s_check_walk : Stmt := topS 10
abbrev N_check_walk : List Str := ["letters", "walk"]
abbrev P_check_walk : List Str := ["letters", "walk"]
theorem sc_check_walk : FnScope N_check_walk P_check_walk (defScope s_check_walk) := ⟨rfl, rfl, rfl, by decide +kernel, rfl, by decide +kernel, by decide +kernel⟩
abbrev s_power : Stmt := topS 18
abbrev N_power : List Str := ["walk", "times", "once"]
abbrev P_power : List Str := ["walk", "times"]
theorem sc_power : FnScope N_power P_power (defScope s_power) := ⟨rfl, rfl, rfl, by decide +kernel, rfl, by decide +kernel, by decide +kernel⟩
abbrev s_core : Stmt := topS 19
abbrev N_core : List Str := ["walk"]
abbrev P_core : List Str := ["walk"]
theorem sc_core : FnScope N_core P_core (defScope s_core) := ⟨rfl, rfl, rfl, by decide +kernel, rfl, by decide +kernel, by decide +kernel⟩
abbrev s_root : Stmt := topS 20
abbrev N_root : List Str := ["walk", "lead", "middle", "once"]
abbrev P_root : List Str := ["walk"]
theorem sc_root : FnScope N_root P_root (defScope s_root) := ⟨rfl, rfl, rfl, by decide +kernel, rfl, by decide +kernel, by decide +kernel⟩
abbrev s_commute : Stmt := topS 21
abbrev N_commute : List Str := ["one", "other"]
abbrev P_commute : List Str := ["one", "other"]
theorem sc_commute : FnScope N_commute P_commute (defScope s_commute) := ⟨rfl, rfl, rfl, by decide +kernel, rfl, by decide +kernel, by decide +kernel⟩
abbrev s__law_shown : Stmt := topS 34
abbrev N__law_shown : List Str := ["_law_walk_here", "_law_left"]
abbrev P__law_shown : List Str := ["_law_walk_here"]
theorem sc__law_shown : FnScope N__law_shown P__law_shown (defScope s__law_shown) := ⟨rfl, rfl, rfl, by decide +kernel, rfl, by decide +kernel, by decide +kernel⟩
abbrev s__law_commute : Stmt := topS 35
abbrev N__law_commute : List Str := ["_law_one", "_law_other", "_law_first", "_law_second", "_law_due", "_law_found"]
abbrev P__law_commute : List Str := ["_law_one", "_law_other"]
theorem sc__law_commute : FnScope N__law_commute P__law_commute (defScope s__law_commute) := ⟨rfl, rfl, rfl, by decide +kernel, rfl, by decide +kernel, by decide +kernel⟩
abbrev s__law_right : Stmt := topS 37
abbrev N__law_right : List Str := ["_law_well_here", "_law_letters", "_law_lead", "_law_once", "_law_one", "_law_other", "_law_many", "_law_few", "_law_third", "_law_fourth", "_law_fifth", "_law_walk_here", "_law_long", "_law_made"]
abbrev P__law_right : List Str := ["_law_well_here"]
theorem sc__law_right : FnScope N__law_right P__law_right (defScope s__law_right) := ⟨rfl, rfl, rfl, by decide +kernel, rfl, by decide +kernel, by decide +kernel⟩
abbrev s_law : Stmt := topS 38
abbrev N_law : List Str := ["_law_script", "_law_k"]
abbrev P_law : List Str := ["_law_script"]
theorem sc_law : FnScope N_law P_law (defScope s_law) := ⟨rfl, rfl, rfl, by decide +kernel, rfl, by decide +kernel, by decide +kernel⟩
/-- where the defs stand -/
structure Ad where
  a_is_integer : Addr
  f_is_integer : FuncData
  a_straightened : Addr
  f_straightened : FuncData
  a_turned_back : Addr
  f_turned_back : FuncData
  a_lead_and_core : Addr
  f_lead_and_core : FuncData
  a_once_round : Addr
  f_once_round : FuncData
  a__law_well : Addr
  f__law_well : FuncData
  a__law_take : Addr
  f__law_take : FuncData
  a__law_back : Addr
  f__law_back : FuncData
  a__law_joined : Addr
  f__law_joined : FuncData
  a__law_is : Addr
  f__law_is : FuncData
  a_is_step_of : Addr
  f_is_step_of : FuncData
  a_check_within : Addr
  f_check_within : FuncData
  a__law_walk : Addr
  f__law_walk : FuncData
  a__law_straight : Addr
  f__law_straight : FuncData
  a__law_core : Addr
  f__law_core : FuncData
  a__law_pair : Addr
  f__law_pair : FuncData
  a__law_counted : Addr
  f__law_counted : FuncData
  a_is_walk_of : Addr
  f_is_walk_of : FuncData
  a__law_root : Addr
  f__law_root : FuncData
  a__law_wound : Addr
  f__law_wound : FuncData
  a_check_walk : Addr
  f_check_walk : FuncData
  a_power : Addr
  f_power : FuncData
  a_core : Addr
  f_core : FuncData
  a_root : Addr
  f_root : FuncData
  a_commute : Addr
  f_commute : FuncData
  a__law_shown : Addr
  f__law_shown : FuncData
  a__law_commute : Addr
  f__law_commute : FuncData
  a__law_right : Addr
  f__law_right : FuncData
  a_law : Addr
  f_law : FuncData
structure Tx (K : PySem.W.Frag) (mg : Str → Option Value) (A : Ad) : Prop where
  g_is_integer : mg "is_integer" = some (.ref A.a_is_integer)
  F_is_integer : Fun K "is_integer" "is_integer" s_is_integer A.a_is_integer A.f_is_integer
  b_is_integer : Binds K A.f_is_integer P_is_integer []
  g_straightened : mg "straightened" = some (.ref A.a_straightened)
  F_straightened : Fun K "straightened" "straightened" s_straightened A.a_straightened A.f_straightened
  b_straightened : Binds K A.f_straightened P_straightened []
  g_turned_back : mg "turned_back" = some (.ref A.a_turned_back)
  F_turned_back : Fun K "turned_back" "turned_back" s_turned_back A.a_turned_back A.f_turned_back
  b_turned_back : Binds K A.f_turned_back P_turned_back []
  g_lead_and_core : mg "lead_and_core" = some (.ref A.a_lead_and_core)
  F_lead_and_core : Fun K "lead_and_core" "lead_and_core" s_lead_and_core A.a_lead_and_core A.f_lead_and_core
  b_lead_and_core : Binds K A.f_lead_and_core P_lead_and_core []
  g_once_round : mg "once_round" = some (.ref A.a_once_round)
  F_once_round : Fun K "once_round" "once_round" s_once_round A.a_once_round A.f_once_round
  b_once_round : Binds K A.f_once_round P_once_round []
  g__law_well : mg "_law_well" = some (.ref A.a__law_well)
  F__law_well : Fun K "_law_well" "_law_well" s__law_well A.a__law_well A.f__law_well
  b__law_well : Binds K A.f__law_well P__law_well []
  g__law_take : mg "_law_take" = some (.ref A.a__law_take)
  F__law_take : Fun K "_law_take" "_law_take" s__law_take A.a__law_take A.f__law_take
  b__law_take : Binds K A.f__law_take P__law_take []
  g__law_back : mg "_law_back" = some (.ref A.a__law_back)
  F__law_back : Fun K "_law_back" "_law_back" s__law_back A.a__law_back A.f__law_back
  b__law_back : Binds K A.f__law_back P__law_back []
  g__law_joined : mg "_law_joined" = some (.ref A.a__law_joined)
  F__law_joined : Fun K "_law_joined" "_law_joined" s__law_joined A.a__law_joined A.f__law_joined
  b__law_joined : Binds K A.f__law_joined P__law_joined []
  g__law_is : mg "_law_is" = some (.ref A.a__law_is)
  F__law_is : Fun K "_law_is" "_law_is" s__law_is A.a__law_is A.f__law_is
  b__law_is : Binds K A.f__law_is P__law_is []
  g_is_step_of : mg "is_step_of" = some (.ref A.a_is_step_of)
  F_is_step_of : Fun K "is_step_of" "is_step_of" s_is_step_of A.a_is_step_of A.f_is_step_of
  b_is_step_of : Binds K A.f_is_step_of P_is_step_of []
  g_check_within : mg "check_within" = some (.ref A.a_check_within)
  F_check_within : Fun K "check_within" "check_within" s_check_within A.a_check_within A.f_check_within
  b_check_within : Binds K A.f_check_within P_check_within []
  g__law_walk : mg "_law_walk" = some (.ref A.a__law_walk)
  F__law_walk : Fun K "_law_walk" "_law_walk" s__law_walk A.a__law_walk A.f__law_walk
  b__law_walk : Binds K A.f__law_walk P__law_walk []
  g__law_straight : mg "_law_straight" = some (.ref A.a__law_straight)
  F__law_straight : Fun K "_law_straight" "_law_straight" s__law_straight A.a__law_straight A.f__law_straight
  b__law_straight : Binds K A.f__law_straight P__law_straight []
  g__law_core : mg "_law_core" = some (.ref A.a__law_core)
  F__law_core : Fun K "_law_core" "_law_core" s__law_core A.a__law_core A.f__law_core
  b__law_core : Binds K A.f__law_core P__law_core []
  g__law_pair : mg "_law_pair" = some (.ref A.a__law_pair)
  F__law_pair : Fun K "_law_pair" "_law_pair" s__law_pair A.a__law_pair A.f__law_pair
  b__law_pair : Binds K A.f__law_pair P__law_pair []
  g__law_counted : mg "_law_counted" = some (.ref A.a__law_counted)
  F__law_counted : Fun K "_law_counted" "_law_counted" s__law_counted A.a__law_counted A.f__law_counted
  b__law_counted : Binds K A.f__law_counted P__law_counted []
  g_is_walk_of : mg "is_walk_of" = some (.ref A.a_is_walk_of)
  F_is_walk_of : Fun K "is_walk_of" "is_walk_of" s_is_walk_of A.a_is_walk_of A.f_is_walk_of
  b_is_walk_of : Binds K A.f_is_walk_of P_is_walk_of []
  g__law_root : mg "_law_root" = some (.ref A.a__law_root)
  F__law_root : Fun K "_law_root" "_law_root" s__law_root A.a__law_root A.f__law_root
  b__law_root : Binds K A.f__law_root P__law_root []
  g__law_wound : mg "_law_wound" = some (.ref A.a__law_wound)
  F__law_wound : Fun K "_law_wound" "_law_wound" s__law_wound A.a__law_wound A.f__law_wound
  b__law_wound : Binds K A.f__law_wound P__law_wound []
  g_check_walk : mg "check_walk" = some (.ref A.a_check_walk)
  F_check_walk : Fun K "check_walk" "check_walk" s_check_walk A.a_check_walk A.f_check_walk
  b_check_walk : Binds K A.f_check_walk P_check_walk []
  g_power : mg "power" = some (.ref A.a_power)
  F_power : Fun K "power" "power" s_power A.a_power A.f_power
  b_power : Binds K A.f_power P_power []
  g_core : mg "core" = some (.ref A.a_core)
  F_core : Fun K "core" "core" s_core A.a_core A.f_core
  b_core : Binds K A.f_core P_core []
  g_root : mg "root" = some (.ref A.a_root)
  F_root : Fun K "root" "root" s_root A.a_root A.f_root
  b_root : Binds K A.f_root P_root []
  g_commute : mg "commute" = some (.ref A.a_commute)
  F_commute : Fun K "commute" "commute" s_commute A.a_commute A.f_commute
  b_commute : Binds K A.f_commute P_commute []
  g__law_shown : mg "_law_shown" = some (.ref A.a__law_shown)
  F__law_shown : Fun K "_law_shown" "_law_shown" s__law_shown A.a__law_shown A.f__law_shown
  b__law_shown : Binds K A.f__law_shown P__law_shown []
  g__law_commute : mg "_law_commute" = some (.ref A.a__law_commute)
  F__law_commute : Fun K "_law_commute" "_law_commute" s__law_commute A.a__law_commute A.f__law_commute
  b__law_commute : Binds K A.f__law_commute P__law_commute []
  g__law_right : mg "_law_right" = some (.ref A.a__law_right)
  F__law_right : Fun K "_law_right" "_law_right" s__law_right A.a__law_right A.f__law_right
  b__law_right : Binds K A.f__law_right P__law_right []
  g_law : mg "law" = some (.ref A.a_law)
  F_law : Fun K "law" "law" s_law A.a_law A.f_law
  b_law : Binds K A.f_law P_law []
  n_abs : mg "abs" = none
  n_all : mg "all" = none
  n_bool : mg "bool" = none
  n_int : mg "int" = none
  n_isinstance : mg "isinstance" = none
  n_len : mg "len" = none
  n_max : mg "max" = none
  n_min : mg "min" = none
  n_range : mg "range" = none
  n_sum : mg "sum" = none
  n_tuple : mg "tuple" = none
  c_MOST_LETTERS : ∃ t, mg "MOST_LETTERS" = some (.int 4 t)
  c_MOST_TIMES : ∃ t, mg "MOST_TIMES" = some (.int 20 t)
theorem kb_root_walk {K : PySem.W.Frag} {f : Addr} {fd : FuncData} (F : Fun K "root" "root" s_root f fd) : KBinds K fd P_root ["walk"] (fun us ws => match us, ws with | [], [w0] => [w0] | _, _ => []) (fun us ws => match us, ws with | [], [w0] => [w0] | _, _ => []) := by
  obtain ⟨oc, od, kV, doc, pm, an, cdv, ct, osl, rfl, lk, hcd⟩ := F.ex
  refine ⟨fun s us ws _ hl => ?_, fun {vs us zs ws} r1 r2 => ?_⟩
  · match us, ws, hl with | [], [w0], _ => exact .of_eq rfl
  · cases r1 with
    | nil =>
      cases r2 with
      | nil => exact .nil
      | cons h0 t0 =>
        cases t0 with
        | nil => exact (.cons h0 .nil)
        | cons _ _ => exact .nil
    | cons _ _ =>
      cases r2 <;> exact .nil
theorem kb_core_walk {K : PySem.W.Frag} {f : Addr} {fd : FuncData} (F : Fun K "core" "core" s_core f fd) : KBinds K fd P_core ["walk"] (fun us ws => match us, ws with | [], [w0] => [w0] | _, _ => []) (fun us ws => match us, ws with | [], [w0] => [w0] | _, _ => []) := by
  obtain ⟨oc, od, kV, doc, pm, an, cdv, ct, osl, rfl, lk, hcd⟩ := F.ex
  refine ⟨fun s us ws _ hl => ?_, fun {vs us zs ws} r1 r2 => ?_⟩
  · match us, ws, hl with | [], [w0], _ => exact .of_eq rfl
  · cases r1 with
    | nil =>
      cases r2 with
      | nil => exact .nil
      | cons h0 t0 =>
        cases t0 with
        | nil => exact (.cons h0 .nil)
        | cons _ _ => exact .nil
    | cons _ _ =>
      cases r2 <;> exact .nil
theorem kb_commute_other_one {K : PySem.W.Frag} {f : Addr} {fd : FuncData} (F : Fun K "commute" "commute" s_commute f fd) : KBinds K fd P_commute ["other", "one"] (fun us ws => match us, ws with | [], [w0, w1] => [w1, w0] | _, _ => []) (fun us ws => match us, ws with | [], [w0, w1] => [w1, w0] | _, _ => []) := by
  obtain ⟨oc, od, kV, doc, pm, an, cdv, ct, osl, rfl, lk, hcd⟩ := F.ex
  refine ⟨fun s us ws _ hl => ?_, fun {vs us zs ws} r1 r2 => ?_⟩
  · match us, ws, hl with | [], [w0, w1], _ => exact .of_eq rfl
  · cases r1 with
    | nil =>
      cases r2 with
      | nil => exact .nil
      | cons h0 t0 =>
        cases t0 with
        | nil => exact .nil
        | cons h1 t1 =>
          cases t1 with
          | nil => exact (.cons h1 (.cons h0 .nil))
          | cons _ _ => exact .nil
    | cons _ _ =>
      cases r2 <;> exact .nil

local macro_rules | `(tactic| walk_at "go") => `(tactic| repeat (first
  | with_reducible refine st_seq ?_ | with_reducible refine st_set ?_ | with_reducible refine st_asg ?_ | with_reducible refine st_ret ?_ | with_reducible refine st_drop ?_ | with_reducible refine st_if ?_
  | with_reducible refine st_c ?_ | ((with_reducible refine' st_v ?h ?_); (case h => exact rfl)) | with_reducible refine st_n ?_ | with_reducible refine st_cons ?_ | with_reducible refine st_op ?_ | with_reducible refine st_un ?_
  | with_reducible refine st_cb ?_ | with_reducible refine st_test ?_ | with_reducible refine st_call ?_ | with_reducible refine st_callK ?_ | with_reducible refine st_sl ?_ | with_reducible refine st_par ?_ | with_reducible refine st_tru ?_
  | with_reducible refine st_and ?_ | with_reducible refine st_or ?_ | with_reducible refine st_not ?_ | with_reducible refine st_B ?_ | with_reducible refine st_andV ?_ | with_reducible refine st_orV ?_ | with_reducible refine st_notV ?_ | with_reducible refine st_ifE ?_
  | with_reducible refine st_part ?_ | with_reducible refine st_nop ?_ | with_reducible refine st_sub ?_ | with_reducible refine st_chain ?_ | with_reducible refine st_bl ?_ | with_reducible refine st_in ?_ | with_reducible refine r_truB ?_
  | with_reducible refine st_nameG ?_ | with_reducible refine if_T ?_ | with_reducible refine if_F ?_ | with_reducible refine if_nT ?_ | with_reducible refine if_nF ?_
  | with_reducible refine r_add ?_ | with_reducible refine r_0 ?_ | with_reducible refine r_neg ?_ | with_reducible refine r_intI ?_ | with_reducible refine r_intB ?_ | with_reducible refine r_abs ?_ | with_reducible refine r_max2 ?_ | with_reducible refine r_min2 ?_ | with_reducible refine r_eqI ?_ | with_reducible refine r_neI ?_
  | with_reducible refine st_nxt ?_ | with_reducible refine st_cnt ?_ | with_reducible refine st_brk ?_ | with_reducible refine st_retn ?_
  | with_reducible refine st_lstN ?_ | with_reducible refine st_tupN ?_
  | with_reducible refine st_for ?_ | with_reducible refine st_lc ?_ | with_reducible refine st_rng1 ?_ | with_reducible refine st_rng2 ?_ | with_reducible refine st_itL ?_ | with_reducible refine st_itT ?_ | with_reducible refine st_rev ?_ | with_reducible refine st_bm ?_ | with_reducible refine st_bm0 ?_
  | ((with_reducible refine' st_aug ?h ?_); (case h => exact rfl)) | with_reducible refine r_augI ?_ | with_reducible refine r_eqB ?_
  | dsimp only))
section
variable {P : Program} {w : World} {K : PySem.W.Frag} {mg : Str → Option Value} {base : Heap} {A : Ad}

def sp_is_integer (K : PySem.W.Frag) : Sp := fun vs H Q _ => ∃ i, vs = [.int i] ∧ Q (.bl true) H
theorem ok_is_integer (T : Tx K mg A) : FnOk P w K mg base CX0 1 A.a_is_integer A.f_is_integer P_is_integer (sp_is_integer K) := by
  refine T.F_is_integer.ok sc_is_integer (fun vs H Q E h => ?_) (fun cdv A' outer s H vs Q E hr h => ?_)
  · obtain ⟨i, rfl, _⟩ := h
    rfl
  · obtain ⟨i, rfl, q⟩ := h
    refine ⟨_, (pss_one (ps_ret (pe_and (pe_callB (isi_K K) (by rfl) T.n_isinstance (by decide +kernel) (pa_cons (pv 0) (pa_cons (pe_bltn (v := .ty "int") (by rfl) T.n_int (by decide +kernel) rfl) pa_nil))) (pe_one (pe_not (pe_callB (isi_K K) (by rfl) T.n_isinstance (by decide +kernel) (pa_cons (pv 0) (pa_cons (pe_bltn (v := .ty "bool") (by rfl) T.n_bool (by decide +kernel) rfl) pa_nil)))))))), ?_⟩
    refine ⟨_, rfl, .int i, .ty "int", _, _, true, rfl, .ty _, .base (.int i), kit_ty (by decide +kernel), true, rfl, iteT ?_⟩
    exact ⟨_, rfl, .int i, .ty "bool", _, _, false, rfl, .ty _, .base (.int i), kit_ty (by decide +kernel), false, rfl, q⟩
def sp_is_step_of (K : PySem.W.Frag) : Sp := fun vs H Q _ => ∃ l i, vs = [.int l, .int i] ∧ Q (.bl (decide (i ≠ 0 ∧ -l ≤ i ∧ i ≤ l))) H
theorem ok_is_step_of (T : Tx K mg A) : FnOk P w K mg base CX0 2 A.a_is_step_of A.f_is_step_of P_is_step_of (sp_is_step_of K) := by
  refine T.F_is_step_of.ok sc_is_step_of (fun vs H Q E h => ?_) (fun cdv A' outer s H vs Q E hr h => ?_)
  · obtain ⟨l, i, rfl, _⟩ := h
    rfl
  · obtain ⟨l, i, rfl, q⟩ := h
    refine ⟨_, (pss_one (ps_ret (pe_and (pe_call (ok_is_integer T) (hr.mono (by decide)) (by rfl) T.g_is_integer T.F_is_integer.kp T.b_is_integer .nil pass0 (pa_cons (pv 1) pa_nil)) (pe_and (pe_cmpR (op_neK K hr.units) (pv 1) pe_int (nomark _)) (pe_one (pe_chain op_le op_le (pe_un un_neg (pv 0)) (pv 1) (pv 0))))))), ?_⟩
    refine ⟨_, rfl, i, rfl, true, rfl, iteT ⟨_, rfl, r_neI ⟨_, rfl, ?_⟩⟩⟩
    by_cases h0 : i = 0
    · rw [show (!decide (i = 0)) = false by rw [h0]; rfl]
      refine iteF ?_
      rw [decide_eq_false (by omega)] at q
      exact q
    · rw [show (!decide (i = 0)) = true by rw [decide_eq_false h0]; rfl]
      refine iteT ⟨_, rfl, _, rfl, _, rfl, _, _, rfl, rfl, _, rfl, ?_⟩
      by_cases h1 : -l ≤ i
      · rw [decide_eq_true h1]
        refine iteT ⟨_, rfl, _, _, rfl, rfl, ?_⟩
        have e : decide (i ≤ l) = decide (i ≠ 0 ∧ -l ≤ i ∧ i ≤ l) := decide_eq_decide.mpr ⟨fun z => ⟨h0, h1, z⟩, fun z => z.2.2⟩
        show Q (.bl (decide (i ≤ l))) H
        rw [e]
        exact q
      · rw [decide_eq_false h1]
        refine iteF ?_
        rw [decide_eq_false (by omega)] at q
        exact q
def sp_is_walk_of (K : PySem.W.Frag) : Sp := fun vs H Q _ => ∃ l a ns, vs = [.int l, .ref a] ∧ IT K H a ns ∧ ns.length ≤ 5000 ∧ Stp l ns ∧ ∀ H1, Ex H H1 → Q (.bl true) H1
theorem ok_is_walk_of (T : Tx K mg A) : FnOk P w K mg base CX0 3 A.a_is_walk_of A.f_is_walk_of P_is_walk_of (sp_is_walk_of K) := by
  refine T.F_is_walk_of.ok sc_is_walk_of (fun vs H Q E h => ?_) (fun cdv A' outer s H vs Q E hr h => ?_)
  · obtain ⟨l, a, ns, rfl, _⟩ := h
    rfl
  · obtain ⟨l, a, ns, rfl, ht, hz, hs, q⟩ := h
    refine ⟨_, (pss_one (ps_ret (pe_and (pe_callB (isi_K K) (by rfl) T.n_isinstance (by decide +kernel) (pa_cons (pv 1) (pa_cons (pe_bltn (v := .ty "tuple") (by rfl) T.n_tuple (by decide +kernel) rfl) pa_nil))) (pe_one (pe_callB (all_K K rfl) (by rfl) T.n_all (by decide +kernel) (pa_cons (pe_lc (own := [("step", 2)]) rfl sc_is_walk_of.nd (pi_tupK K (pv 1)) (blkOk_by (own := [("step", 2)]) (N := N_is_walk_of) (sc := defScope s_is_walk_of) (by decide +kernel)) (fun _ _ _ _ _ => (pg_name (i := 2) sc_is_walk_of.nd rfl (Or.inl rfl))) (fun _ _ _ _ _ => pts_nil) (fun _ _ _ _ _ => (pe_call (ok_is_step_of T) (hr.mono (by decide)) (by rfl) T.g_is_step_of T.F_is_step_of.kp T.b_is_step_of .nil pass0 (pa_cons (pv 0) (pa_cons (pv 2) pa_nil))))) pa_nil)))))), ?_⟩
    refine ⟨_, rfl, .ref a, .ty "tuple", _, _, true, rfl, .ty _, ty_t ht, kit_ty (by decide +kernel), true, rfl, iteT ?_⟩
    refine st_cb (st_cons (cm_tup (ys := (ns.map fun _ => true).map V.bl) (xs := ns.map V.int) (fun R r => ⟨_, rfl, r a H (Ex.refl H) ht⟩) (by simp) (by simp; omega) (fun _ => rfl) (fun i x y H1 hx hy e1 Q' k => ?_) (fun D H1 hD e1 h1 => ?_)))
    · rw [List.getElem?_map] at hx
      rw [List.getElem?_map, List.getElem?_map] at hy
      cases hn : ns[i]? with
      | none => rw [hn] at hx; cases hx
      | some z =>
        rw [hn] at hx hy
        cases hx
        cases hy
        refine ⟨_, rfl, _, rfl, l, z, rfl, ?_⟩
        rw [decide_eq_true (hs z (List.mem_of_getElem? hn))]
        exact k H1 (Ex.refl H1)
    · refine ⟨D, _, rfl, l_of h1, ?_⟩
      have e : ((ns.map fun _ => true).all id) = true := by simp
      show Q (.bl ((ns.map fun _ => true).all id)) H1
      rw [e]
      exact q H1 e1
def sp_check_walk (K : PySem.W.Frag) : Sp := fun vs H Q _ => ∃ l a ns, vs = [.int l, .ref a] ∧ IT K H a ns ∧ ns.length ≤ 5000 ∧ Stp l ns ∧ ∀ H1, Ex H H1 → Q .non H1
theorem ok_check_walk (T : Tx K mg A) : FnOk P w K mg base CX0 4 A.a_check_walk A.f_check_walk P_check_walk (sp_check_walk K) := by
  refine T.F_check_walk.ok sc_check_walk (fun vs H Q E h => ?_) (fun cdv A' outer s H vs Q E hr h => ?_)
  · obtain ⟨l, a, ns, rfl, _⟩ := h
    rfl
  · obtain ⟨l, a, ns, rfl, ht, hz, hs, q⟩ := h
    refine ⟨_, (pss_one (ps_if (pt_not (pt_truK K (pe_call (ok_is_walk_of T) (hr.mono (by decide)) (by rfl) T.g_is_walk_of T.F_is_walk_of.kp T.b_is_walk_of .nil pass0 (pa_cons (pv 0) (pa_cons (pv 1) pa_nil))))) (pss_one ps_never) pss_nil)), ?_⟩
    refine ⟨_, rfl, _, rfl, l, a, ns, rfl, ht, hz, hs, fun H1 e1 => ⟨true, rfl, ?_⟩⟩
    exact iteF (q H1 e1)
def sp_check_within (K : PySem.W.Frag) : Sp := fun vs H Q _ => ∃ i l g, vs = [.int i, .int l, .int g] ∧ l ≤ i ∧ i ≤ g ∧ Q .non H
theorem ok_check_within (T : Tx K mg A) : FnOk P w K mg base CX0 2 A.a_check_within A.f_check_within P_check_within (sp_check_within K) := by
  refine T.F_check_within.ok sc_check_within (fun vs H Q E h => ?_) (fun cdv A' outer s H vs Q E hr h => ?_)
  · obtain ⟨i, l, g, rfl, _⟩ := h
    rfl
  · obtain ⟨i, l, g, rfl, h1, h2, q⟩ := h
    refine ⟨_, (pss_one (ps_if (PW.pt (pw_or (pt_not (pt_truK K (pe_call (ok_is_integer T) (hr.mono (by decide)) (by rfl) T.g_is_integer T.F_is_integer.kp T.b_is_integer .nil pass0 (pa_cons (pv 0) pa_nil)))) (pw_or (pt_cmpR op_lt (pv 0) (pv 1) (nomark _)) (pw_or1 (pt_cmpR op_gt (pv 0) (pv 2) (nomark _)))))) (pss_one ps_never) pss_nil)), ?_⟩
    refine ⟨_, rfl, i, rfl, true, rfl, iteF ⟨_, rfl, _, rfl, _, _, rfl, rfl, _, rfl, ?_⟩⟩
    rw [decide_eq_false (by omega)]
    refine iteF ⟨_, rfl, _, rfl, _, _, rfl, rfl, _, rfl, ?_⟩
    rw [decide_eq_false (by omega)]
    exact iteF q
def sp_straightened (K : PySem.W.Frag) : Sp := fun vs H Q _ => ∃ a ns, vs = [.ref a] ∧ IT K H a ns ∧ ns.length ≤ 5000 ∧ ∀ p H1, Ex H H1 → IT K H1 p (Fg.rd ns) → Q (.ref p) H1
theorem ok_straightened (T : Tx K mg A) : FnOk P w K mg base CX0 1 A.a_straightened A.f_straightened P_straightened (sp_straightened K) := by
  refine T.F_straightened.ok sc_straightened (fun vs H Q E h => ?_) (fun cdv A' outer s H vs Q E hr h => ?_)
  · obtain ⟨a, ns, rfl, _⟩ := h
    rfl
  · obtain ⟨a, ns, rfl, ht, hz, q⟩ := h
    refine ⟨_, (pss_cons (ps_set (i := 1) sc_straightened.nd rfl (Or.inl rfl) (pe_lst pa_nil))
      (pss_cons (ps_for PassesOwn.never rfl (pi_tupK K (pv 0)) (pg_name (i := 2) sc_straightened.nd rfl (Or.inl rfl)) (pss_one (ps_if (PW.pt (pw_and (pt_truK K (pv 1)) (pw_and1 (pt_cmpR (op_eqK K hr.units) (pe_ix (ix_K K) (pv 1) (pe_un un_neg pe_int) (fun _ _ => rfl)) (pe_un un_neg (pv 2)) (nomark _))))) (pss_one (ps_expr (pe_bm0U K PySem.F.plainAttrs_list PySem.F.slot_list_pop PySem.F.type_list_pop mt_pop (pv 1)))) (pss_one (ps_expr (pe_bmU K PySem.F.plainAttrs_list PySem.F.slot_list_append PySem.F.type_list_append mt_append (pv 1) (pa_cons (pv 2) pa_nil)))))))
      (pss_one (ps_ret (pe_callTy (tuple_K K) (by rfl) T.n_tuple (by decide +kernel) (pa_cons (pv 1) pa_nil)))))), ?_⟩
    refine st_seq (st_set (st_nil fun l H1 hl e1 h1 => ?_))
    refine ⟨_, rfl, a, rfl, ⟨_, ex_t e1 ht⟩, for_tup (K := K) (a := a) (xs := ns.map V.int) (fun i σ H' => ∃ v, σ = [some (.ref a), some (.ref l), v] ∧ Ex H H' ∧ H' l = some (.lst ((Fg.rd (ns.take i)).map V.int)))
      ⟨none, rfl, e1, h1⟩ (fun i σ H' _ p => ex_t p.choose_spec.2.1 ht) (fun i x σ H' hx p => ?_) (fun σ H' p => ?_)⟩
    · obtain ⟨v, rfl, e2, h2⟩ := p
      rw [List.getElem?_map] at hx
      cases hn : ns[i]? with
      | none => rw [hn] at hx; cases hx
      | some z =>
        rw [hn] at hx
        cases hx
        have hi := (List.getElem?_eq_some_iff.mp hn).1
        have step : Fg.rd (ns.take (i + 1)) = (Fg.stp (Fg.rd (ns.take i)).reverse z).reverse := by rw [take_snoc hn, Fg.rd_snoc]
        have hlen : (Fg.rd (ns.take i)).length ≤ 5000 := Nat.le_trans (Fg.rd_len _) (by rw [List.length_take]; omega)
        generalize hq : Fg.rd (ns.take i) = q at h2 step hlen
        refine ⟨_, rfl, _, .inl ⟨_, l_of h2, rfl⟩, ?_⟩
        rcases List.eq_nil_or_concat q with e | ⟨r, y, e⟩
        · subst e
          refine iteF (iteF ?_)
          rw [show Fg.rd (ns.take (i + 1)) = [z] from step]
          exact ⟨_, rfl, .inl ⟨rfl, _, l_of h2⟩, _, rfl, l, _, _, rfl, rfl, h2, sz_lt (by simp), _, rfl, Ex.mut e2 hl, upd_same⟩
        · rw [List.concat_eq_append] at e
          subst e
          have e3 : (!((r ++ [y]).map V.int).isEmpty) = true := by simp
          rw [e3]
          refine iteT ⟨_, rfl, 1, rfl, .inl ⟨l, _, -1, .int y, rfl, rfl, l_of h2, at_last (by simp), _, rfl, z, rfl, r_eqI ⟨_, rfl, ?_⟩⟩⟩
          by_cases hy : y = -z
          · rw [decide_eq_true hy]
            have e4 : Fg.rd (ns.take (i + 1)) = r := by
              rw [step, List.reverse_append]
              show (if y = -z then r.reverse else z :: y :: r.reverse).reverse = r
              rw [if_pos hy, List.reverse_reverse]
            refine iteT ⟨_, rfl, .inl ⟨rfl, _, l_of h2⟩, l, _, .int y, rfl, rfl, h2, ?_, _, rfl, Ex.mut e2 hl, ?_⟩
            · rw [List.length_map, List.length_append, List.map_append]
              simp
            · rw [upd_same, e4, List.map_append]
              simp
          · rw [decide_eq_false hy]
            have e4 : Fg.rd (ns.take (i + 1)) = (r ++ [y]) ++ [z] := by
              rw [step, List.reverse_append]
              show (if y = -z then r.reverse else z :: y :: r.reverse).reverse = r ++ [y] ++ [z]
              rw [if_neg hy, List.reverse_cons, List.reverse_cons, List.reverse_reverse]
            refine iteF ⟨_, rfl, .inl ⟨rfl, _, l_of h2⟩, _, rfl, l, _, _, rfl, rfl, h2, sz_lt (by rw [List.length_map]; omega), _, rfl, Ex.mut e2 hl, ?_⟩
            rw [upd_same, e4, List.map_append (l₁ := r ++ [y])]
            rfl
    · obtain ⟨v, rfl, e2, h2⟩ := p
      rw [List.length_map, List.take_length] at h2
      exact ⟨_, rfl, r_tuL (l_of h2) fun p H3 _ e3 h3 => q p H3 (e2.trans e3) h3⟩
def sp_turned_back (K : PySem.W.Frag) : Sp := fun vs H Q _ => ∃ a ns, vs = [.ref a] ∧ IT K H a ns ∧ ns.length ≤ 5000 ∧ ∀ p H1, Ex H H1 → IT K H1 p (Fg.bk ns) → Q (.ref p) H1
theorem ok_turned_back (T : Tx K mg A) : FnOk P w K mg base CX0 1 A.a_turned_back A.f_turned_back P_turned_back (sp_turned_back K) := by
  refine T.F_turned_back.ok sc_turned_back (fun vs H Q E h => ?_) (fun cdv A' outer s H vs Q E hr h => ?_)
  · obtain ⟨a, ns, rfl, _⟩ := h
    rfl
  · obtain ⟨a, ns, rfl, ht, hz, q⟩ := h
    refine ⟨_, (pss_one (ps_ret (pe_callTy (tuple_K K) (by rfl) T.n_tuple (by decide +kernel) (pa_cons (pe_lc (own := [("step", 1)]) rfl sc_turned_back.nd (pi_tupK K (pe_revK K (pv 0))) (blkOk_by (own := [("step", 1)]) (N := N_turned_back) (sc := defScope s_turned_back) (by decide +kernel)) (fun _ _ _ _ _ => (pg_name (i := 1) sc_turned_back.nd rfl (Or.inl rfl))) (fun _ _ _ _ _ => pts_nil) (fun _ _ _ _ _ => (pe_un un_neg (pv 1)))) pa_nil)))), ?_⟩
    refine st_ret (st_cb (st_cons (cm_tup (ys := (Fg.bk ns).map V.int) (xs := (ns.map V.int).reverse) (fun R r => st_revT (he_var rfl) ht fun b H1 _ e1 h1 => r b H1 e1 (t_of h1)) (by simp [Fg.bk_len]) (by simp [Fg.bk_len]; omega) (fun _ => rfl) (fun k x y H1 hx hy e1 Q' k' => ?_) fun D H1 _ e1 h1 => ?_)))
    · obtain ⟨z, rfl, rfl⟩ := bk_get hx hy
      exact ⟨_, rfl, z, rfl, k' H1 (Ex.refl H1)⟩
    · exact r_tuL (l_of h1) fun l H3 _ e3 h3 => q l H3 (e1.trans e3) h3
def sp_power (K : PySem.W.Frag) : Sp := fun vs H Q _ => ∃ a ns k, vs = [.ref a, .int k] ∧ IT K H a ns ∧ ns.length ≤ 60 ∧ Stp 4 ns ∧ -20 ≤ k ∧ k ≤ 20 ∧ ∀ p H1, Ex H H1 → IT K H1 p (pw ns k) → Q (.ref p) H1
theorem ok_power (T : Tx K mg A) : FnOk P w K mg base CX0 5 A.a_power A.f_power P_power (sp_power K) := by
  refine T.F_power.ok sc_power (fun vs H Q E h => ?_) (fun cdv A' outer s H vs Q E hr h => ?_)
  · obtain ⟨a, ns, k, rfl, _⟩ := h
    rfl
  · obtain ⟨a, ns, k, rfl, ht, hz, hs, hlo, hhi, q⟩ := h
    refine ⟨_, (pss_cons (ps_expr (pe_call (ok_check_walk T) (hr.mono (by decide)) (by rfl) T.g_check_walk T.F_check_walk.kp T.b_check_walk .nil pass0 (pa_cons (pe_glob (v := .int 4) (by rfl) T.c_MOST_LETTERS.choose_spec ⟨_, rfl⟩) (pa_cons (pv 0) pa_nil))))
      (pss_cons (ps_expr (pe_call (ok_check_within T) (hr.mono (by decide)) (by rfl) T.g_check_within T.F_check_within.kp T.b_check_within .nil pass0 (pa_cons (pv 1) (pa_cons (pe_un un_neg (pe_glob (v := .int 20) (by rfl) T.c_MOST_TIMES.choose_spec ⟨_, rfl⟩)) (pa_cons (pe_glob (v := .int 20) (by rfl) T.c_MOST_TIMES.choose_spec ⟨_, rfl⟩) pa_nil)))))
      (pss_cons (ps_set (i := 2) sc_power.nd rfl (Or.inl rfl) (pe_ifExp (pt_cmpR op_ge (pv 1) pe_int (nomark _)) (pv 0) (pe_call (ok_turned_back T) (hr.mono (by decide)) (by rfl) T.g_turned_back T.F_turned_back.kp T.b_turned_back .nil pass0 (pa_cons (pv 0) pa_nil))))
      (pss_one (ps_ret (pe_call (ok_straightened T) (hr.mono (by decide)) (by rfl) T.g_straightened T.F_straightened.kp T.b_straightened .nil pass0 (pa_cons (pe_op (op_mulK K) (pv 2) (pe_callB abs_K (by rfl) T.n_abs (by decide +kernel) (pa_cons (pv 1) pa_nil))) pa_nil))))))), ?_⟩
    refine ⟨_, rfl, 4, a, ns, rfl, ht, by omega, hs, fun H1 e1 => ?_⟩
    refine ⟨_, rfl, 20, rfl, k, -20, 20, rfl, hlo, hhi, ?_⟩
    -- behind once = .. : the walk or it turned back
    have tail : ∀ (b : Addr) (ms : List Int) (H2 : Hp), Ex H1 H2 → IT K H2 b ms → ms.length = ns.length → pw ns k = Fg.rd (Fg.rep k.natAbs ms) →
        tOp (rMulU K) (tVar 2) (tCB rAbs (tCons (tVar 1) tNil)) [some (.ref a), some (.int k), some (.ref b)] H2 fun x H3 => sp_straightened K [x] H3 Q E := by
      intro b ms H2 e2 h2 hl e
      walk_at "go"
      refine r_repT h2 (by omega) (by omega) (by rw [List.length_map]; omega) fun c H3 e3 h3 => ?_
      have hf : (List.replicate ((k.natAbs : Nat) : Int).toNat (ms.map V.int)).flatten = (Fg.rep k.natAbs ms).map V.int := by
        rw [← Fg.rep_flat, Int.toNat_natCast]
        simp [List.map_flatten]
      rw [hf] at h3
      refine ⟨c, _, rfl, h3, ?_, fun p H4 e4 h4 => q p H4 ((e1.trans e2).trans (e3.trans e4)) (by rw [e]; exact h4)⟩
      rw [Fg.rep_len, hl]
      exact Nat.le_trans (Nat.mul_le_mul (by omega : k.natAbs ≤ 20) hz) (by omega)
    refine ⟨_, rfl, _, _, rfl, rfl, _, rfl, ?_⟩
    by_cases hk : 0 ≤ k
    · rw [decide_eq_true hk]
      refine iteT ⟨_, rfl, ?_⟩
      exact tail a ns H1 (Ex.refl H1) (ex_t e1 ht) rfl (by unfold pw; rw [if_pos hk])
    · rw [decide_eq_false hk]
      refine iteF ⟨_, rfl, a, ns, rfl, ex_t e1 ht, by omega, fun b H2 e2 h2 => ?_⟩
      exact tail b _ H2 e2 h2 (Fg.bk_len ns) (by unfold pw; rw [if_neg hk])
def sp__law_take (K : PySem.W.Frag) : Sp := spTake
theorem ok__law_take (T : Tx K mg A) : FnOk P w K mg base CX0 1 A.a__law_take A.f__law_take P__law_take (sp__law_take K) := by
  refine T.F__law_take.ok sc__law_take (fun vs H Q E h => ?_) (fun cdv A' outer s H vs Q E hr h => ?_)
  · obtain ⟨w, n, m, rfl, _⟩ := h
    rfl
  · obtain ⟨w, n, m, rfl, hm, hm2, ⟨a, b, c, hw, ha, hb, hb2, hc, hc2⟩, hn, q⟩ := h
    refine ⟨_, (pss_cons (ps_if (pt_cmpR op_gt (pe_ix (ix_K K) (pv 0) pe_int (fun _ _ => rfl)) pe_int (nomark _)) (pss_cons (ps_set (i := 2) sc__law_take.nd rfl (Or.inl rfl) (pe_op op_mod (pe_callTy int_K (by rfl) T.n_int (by decide +kernel) (pa_cons (pe_ix (ix_K K) (pv 0) pe_int (fun _ _ => rfl)) pa_nil)) (pv 1)))
      (pss_cons (ps_asg (pe_op op_fdivW (pe_ix (ix_K K) (pv 0) pe_int (fun _ _ => rfl)) (pv 1)) (pg_sub (pv 0) pe_int set_list))
      (pss_one (ps_ret (pv 2))))) pss_nil)
      (pss_cons (ps_asg (pe_op (op_addK K) (pe_ix (ix_K K) (pv 0) pe_int (fun _ _ => rfl)) pe_int) (pg_sub (pv 0) pe_int set_list))
      (pss_cons (ps_set (i := 3) sc__law_take.nd rfl (Or.inl rfl) (pe_op op_mod (pe_callTy int_K (by rfl) T.n_int (by decide +kernel) (pa_cons (pe_op (op_addK K) (pe_op op_powW (pe_op (op_addK K) (pe_ix (ix_K K) (pv 0) pe_int (fun _ _ => rfl)) (pe_op (op_mulK K) pe_int (pe_ix (ix_K K) (pv 0) pe_int (fun _ _ => rfl)))) pe_int) (pe_op (op_mulK K) pe_int (pe_ix (ix_K K) (pv 0) pe_int (fun _ _ => rfl)))) pa_nil)) (pe_op (op_addK K) (pe_op op_powW pe_int pe_int) pe_int)))
      (pss_one (ps_ret (pe_op op_mod (pe_op op_fdivW (pe_op op_mod (pe_callTy int_K (by rfl) T.n_int (by decide +kernel) (pa_cons (pe_op (op_mulK K) (pv 3) (pe_op (op_addK K) (pv 3) pe_int)) pa_nil)) (pe_op (op_addK K) (pe_op op_powW pe_int pe_int) pe_int)) pe_int) (pv 1))))))), ?_⟩
    have w0 : SqL K H w [.int a, .int b, .int c] := l_of hw
    walk_at "go"
    refine r_ixL w0 rfl ?_
    walk_at "go"
    refine if_2 (fun h0 => ?_) fun h0 => ?_
    · walk_at "go"
      refine r_ixL w0 rfl ?_
      walk_at "go"
      refine r_mod hm ?_
      walk_at "go"
      refine r_ixL w0 rfl ?_
      walk_at "go"
      refine r_div hm (by omega : m.natAbs < 2 ^ 60) (by decide) (by decide) ?_
      walk_at "go"
      refine r_setG hw rfl fun H1 e1 h1 => ?_
      walk_at "go"
      exact q (a % m) H1 (Int.emod_nonneg _ (by omega)) (Int.emod_lt_of_pos _ hm) e1 ⟨a / m, b, c, h1, Int.ediv_nonneg ha (by omega), hb, hb2, hc, by omega⟩
    · walk_at "go"
      refine r_ixL w0 rfl ?_
      walk_at "go"
      refine r_setG hw rfl fun H1 e1 hw1 => ?_
      have w1 : SqL K H1 w [.int a, .int b, .int (c + 1)] := l_of hw1
      have bd : (b + 314159 * (c + 1)).natAbs < 2 ^ 161 := by omega
      walk_at "go"
      refine r_ixL w1 rfl ?_
      walk_at "go"
      refine r_ixL w1 rfl (r_mul (.inl ⟨by decide, by decide⟩) ?_)
      walk_at "go"
      refine r_pow (k := 3) (by decide) bd (by decide) ?_
      walk_at "go"
      refine r_ixL w1 rfl (r_mul (.inl ⟨by decide, by decide⟩) ?_)
      walk_at "go"
      refine r_pow (k := 33) (a := 4) (by decide) (by decide) (by decide) ?_
      walk_at "go"
      refine r_mod (by decide) ?_
      generalize hx : ((b + 314159 * (c + 1)) ^ (((3 : Nat) : Int)).toNat + 2718281 * (c + 1)) % (10 ^ (((33 : Nat) : Int)).toNat + 73) = x
      have x0 : 0 ≤ x := by rw [← hx]; exact Int.emod_nonneg _ (by decide)
      have x1 : x < 10 ^ (((33 : Nat) : Int)).toNat + 73 := by rw [← hx]; exact Int.emod_lt_of_pos _ (by decide)
      have x2 : x < 2 ^ 110 := Int.lt_trans x1 (by decide)
      walk_at "go"
      refine r_mulW (wide_mul (a := 110) (b := 111) (by omega) (by omega) (by decide) (by decide) (by decide)) ?_
      walk_at "go"
      refine r_pow (k := 34) (a := 4) (by decide) (by decide) (by decide) ?_
      walk_at "go"
      refine r_mod (by decide) ?_
      walk_at "go"
      refine r_div (b := 14) (by decide) (by decide) (by decide) (by decide) ?_
      walk_at "go"
      refine r_mod hm ?_
      exact q _ H1 (Int.emod_nonneg _ (by omega)) (Int.emod_lt_of_pos _ hm) e1 ⟨a, b, c + 1, hw1, ha, hb, hb2, by omega, by omega⟩
def sp__law_well (K : PySem.W.Frag) : Sp := fun vs H Q _ => ∃ a ns k, vs = [.ref a, .int k] ∧ IL K H a ns ∧ ns.length ≤ 63 ∧ 0 ≤ k ∧ k ≤ 100 ∧ ∀ p H1, H p = none → Ex H H1 → Well H1 p 0 → Q (.ref p) H1
theorem ok__law_well (T : Tx K mg A) : FnOk P w K mg base CX0 1 A.a__law_well A.f__law_well P__law_well (sp__law_well K) := by
  refine T.F__law_well.ok sc__law_well (fun vs H Q E h => ?_) (fun cdv A' outer s H vs Q E hr h => ?_)
  · obtain ⟨a, ns, k, rfl, _⟩ := h
    rfl
  · obtain ⟨a, ns, k, rfl, hS, hlen, hk0, hk, q⟩ := h
    refine ⟨_, (pss_cons (ps_set (i := 2) sc__law_well.nd rfl (Or.inl rfl) (pe_op (op_addK K) (pe_op (op_mulK K) pe_int (pv 1)) pe_int))
      (Evl.pss_cut (ps_if (pt_cmpR op_lt (pv 1) (pe_callB (len_K K) (by rfl) T.n_len (by decide +kernel) (pa_cons (pv 0) pa_nil)) (nomark _)) (pss_one (ps_set (i := 2) sc__law_well.nd rfl (Or.inl rfl) (pe_ix (ix_K K) (pv 0) (pv 1) (fun _ _ => rfl)))) pss_nil)
      (pss_cons (ps_set (i := 3) sc__law_well.nd rfl (Or.inl rfl) (pe_callB (sum_K K rfl) (by rfl) T.n_sum (by decide +kernel) (pa_cons (pe_lc (own := [("_law_one", 5)]) rfl sc__law_well.nd (pi_listK K (pv 0)) (blkOk_by (own := [("_law_one", 5)]) (N := N__law_well) (sc := defScope s__law_well) (by decide +kernel)) (fun _ _ _ _ _ => (pg_name (i := 5) sc__law_well.nd rfl (Or.inl rfl))) (fun _ _ _ _ _ => pts_nil) (fun _ _ _ _ _ => (pe_op op_mod (pe_callTy int_K (by rfl) T.n_int (by decide +kernel) (pa_cons (pv 5) pa_nil)) (pe_op (op_addK K) (pe_op op_powW pe_int pe_int) pe_int)))) pa_nil)))
      (pss_cons (ps_set (i := 4) sc__law_well.nd rfl (Or.inl rfl) (pe_op op_mod (pe_callTy int_K (by rfl) T.n_int (by decide +kernel) (pa_cons (pe_op (op_addK K) (pe_op (op_addK K) (pe_op (op_addK K) (pe_op (op_mulK K) (pe_callB abs_K (by rfl) T.n_abs (by decide +kernel) (pa_cons (pv 2) pa_nil)) pe_int) (pe_op (op_mulK K) pe_int (pv 3))) (pe_op (op_mulK K) pe_int (pv 1))) (pe_callTy int_K (by rfl) T.n_int (by decide +kernel) (pa_cons (pe_cmpR op_lt (pv 2) pe_int (nomark _)) pa_nil))) pa_nil)) (pe_op (op_addK K) (pe_op op_powW pe_int pe_int) pe_int)))
      (pss_one (ps_ret (pe_lst (pa_cons (pe_callB (max2_K rfl) (by rfl) T.n_max (by decide +kernel) (pa_cons pe_int (pa_cons (pe_op op_sub (pv 2) (pe_op op_powW pe_int pe_int)) pa_nil))) (pa_cons (pv 4) (pa_cons pe_int pa_nil)))))))))), ?_⟩
    walk_at "go"
    refine r_mul (.inl ⟨by decide, by decide⟩) ?_
    walk_at "go"
    refine q_cut (M := fun σ' H' => ∃ cell : Int, H' = H ∧ σ' = [some (.ref a), some (.int k), some (.int cell), none, none, none]) ?_ ?_
    · walk_at "go"
      refine r_lenL hS ?_
      walk_at "go"
      refine if_2 (fun h0 => ?_) fun h0 => ?_
      · rw [List.length_map] at h0
        walk_at "go"
        have hi : k.toNat < ns.length := by omega
        refine r_ixL hS (at_int hk0 (List.getElem?_eq_getElem hi)) ?_
        walk_at "go"
        exact ⟨_, rfl, rfl⟩
      · walk_at "go"
        exact ⟨_, rfl, rfl⟩
    · rintro σ' H' ⟨cell, rfl, rfl⟩
      walk_at "go"
      refine r_itL hS (r_cmL (xs := ns.map V.int) (ys := (ns.map fun x => x % (10 ^ (((27 : Nat) : Int)).toNat + 103)).map V.int) hS (by simp) (by simp; omega) (fun _ => rfl) (fun i x y H1 hx hy e1 Q' k' => ?_) (fun D H1 hD e1 h1 => ?_))
      · rw [List.getElem?_map] at hx
        rw [List.getElem?_map, List.getElem?_map] at hy
        cases hn : ns[i]? with
        | none => rw [hn] at hx; cases hx
        | some z =>
          rw [hn] at hx hy
          cases hx
          cases hy
          walk_at "go"
          refine r_pow (k := 27) (a := 4) (by decide) (by decide) (by decide) ?_
          walk_at "go"
          refine r_mod (by decide) ?_
          exact k' H1 (Ex.refl H1)
      · walk_at "go"
        refine r_sum (l_of h1) ?_
        generalize (ns.map fun x => x % (10 ^ (((27 : Nat) : Int)).toNat + 103)).sum = total
        walk_at "go"
        refine r_mul (.inr ⟨by decide, by decide⟩) ?_
        walk_at "go"
        refine r_mul (.inl ⟨by decide, by decide⟩) ?_
        walk_at "go"
        refine r_mul (.inl ⟨by decide, by decide⟩) ?_
        walk_at "go"
        refine r_pow (k := 31) (a := 4) (by decide) (by decide) (by decide) ?_
        walk_at "go"
        refine r_mod (by decide) ?_
        generalize hx : (((cell.natAbs : Nat) : Int) * 8929 + 61 * total + 2 * k + (if decide (cell < 0) = true then 1 else 0)) % (10 ^ (((31 : Nat) : Int)).toNat + 33) = x
        have x0 : 0 ≤ x := by rw [← hx]; exact Int.emod_nonneg _ (by decide)
        have x1 : x < 10 ^ (((31 : Nat) : Int)).toNat + 33 := by rw [← hx]; exact Int.emod_lt_of_pos _ (by decide)
        have x2 : x < 2 ^ 160 := Int.lt_trans x1 (by decide)
        walk_at "go"
        refine r_pow (k := 18) (a := 4) (by decide) (by decide) (by decide) ?_
        walk_at "go"
        refine r_newL (by simp) fun p H2 hp e2 h2 => ?_
        exact q p H2 (fresh_back e1 hp) (e1.trans e2) ⟨_, x, 0, h2, by omega, x0, by omega, by omega, by omega⟩
def sp__law_back (K : PySem.W.Frag) : Sp := sp_turned_back K
theorem ok__law_back (T : Tx K mg A) : FnOk P w K mg base CX0 1 A.a__law_back A.f__law_back P__law_back (sp__law_back K) := by
  refine T.F__law_back.ok sc__law_back (fun vs H Q E h => ?_) (fun cdv A' outer s H vs Q E hr h => ?_)
  · obtain ⟨a, ns, rfl, _⟩ := h
    rfl
  · obtain ⟨a, ns, rfl, ht, hz, q⟩ := h
    refine ⟨_, (pss_one (ps_ret (pe_callTy (tuple_K K) (by rfl) T.n_tuple (by decide +kernel) (pa_cons (pe_lc (own := [("_law_step", 1)]) rfl sc__law_back.nd (pi_tupK K (pe_revK K (pv 0))) (blkOk_by (own := [("_law_step", 1)]) (N := N__law_back) (sc := defScope s__law_back) (by decide +kernel)) (fun _ _ _ _ _ => (pg_name (i := 1) sc__law_back.nd rfl (Or.inl rfl))) (fun _ _ _ _ _ => pts_nil) (fun _ _ _ _ _ => (pe_un un_neg (pv 1)))) pa_nil)))), ?_⟩
    walk_at "go"
    refine r_revT ht fun b H1 _ e1 h1 => r_itT (t_of h1) (r_cmT (ys := (Fg.bk ns).map V.int) (t_of h1) (by simp [Fg.bk_len]) (by simp [Fg.bk_len]; omega) (fun _ => rfl) (fun k x y H2 hx hy e2 Q' k' => ?_) fun D H2 _ e2 h2 => ?_)
    · obtain ⟨z, rfl, rfl⟩ := bk_get hx hy
      walk_at "go"
      exact k' H2 (Ex.refl H2)
    · walk_at "go"
      exact r_tupL (l_of h2) fun l H3 _ e3 h3 => q l H3 ((e1.trans e2).trans e3) h3
def sp__law_is (K : PySem.W.Frag) : Sp := fun vs H Q _ => ∃ a b ns, vs = [.ref a, .ref b] ∧ IT K H a ns ∧ IT K H b ns ∧ ns.length ≤ 5000 ∧ ∀ H1, Ex H H1 → Q (.bl true) H1
theorem ok__law_is (T : Tx K mg A) : FnOk P w K mg base CX0 1 A.a__law_is A.f__law_is P__law_is (sp__law_is K) := by
  refine T.F__law_is.ok sc__law_is (fun vs H Q E h => ?_) (fun cdv A' outer s H vs Q E hr h => ?_)
  · obtain ⟨a, b, ns, rfl, _⟩ := h
    rfl
  · obtain ⟨a, b, ns, rfl, ha, hb, hz, q⟩ := h
    refine ⟨_, (pss_cons (ps_if (PW.pt (pw_or (pt_not (pt_truK K (pe_callB (isi_K K) (by rfl) T.n_isinstance (by decide +kernel) (pa_cons (pv 0) (pa_cons (pe_bltn (v := .ty "tuple") (by rfl) T.n_tuple (by decide +kernel) rfl) pa_nil))))) (pw_or1 (pt_cmpR (op_neK K hr.units) (pv 0) (pv 1) (nomark _))))) (pss_one (ps_ret pe_bl)) pss_nil)
      (pss_one (ps_ret (pe_callB (all_K K rfl) (by rfl) T.n_all (by decide +kernel) (pa_cons (pe_lc (own := [("_law_step", 2)]) rfl sc__law_is.nd (pi_tupK K (pv 0)) (blkOk_by (own := [("_law_step", 2)]) (N := N__law_is) (sc := defScope s__law_is) (by decide +kernel)) (fun _ _ _ _ _ => (pg_name (i := 2) sc__law_is.nd rfl (Or.inl rfl))) (fun _ _ _ _ _ => pts_nil) (fun _ _ _ _ _ => (pe_and (pe_callB (isi_K K) (by rfl) T.n_isinstance (by decide +kernel) (pa_cons (pv 2) (pa_cons (pe_bltn (v := .ty "int") (by rfl) T.n_int (by decide +kernel) rfl) pa_nil))) (pe_one (pe_not (pe_callB (isi_K K) (by rfl) T.n_isinstance (by decide +kernel) (pa_cons (pv 2) (pa_cons (pe_bltn (v := .ty "bool") (by rfl) T.n_bool (by decide +kernel) rfl) pa_nil)))))))) pa_nil))))), ?_⟩
    walk_at "go"
    refine r_isiT (b := true) ha (kit_ty (by decide +kernel)) ?_
    walk_at "go"
    refine r_neT ha hb ?_
    walk_at "go"
    rw [decide_eq_true (rfl : ns = ns)]
    walk_at "go"
    refine r_itT ha (r_cmT (ys := (ns.map fun _ => true).map V.bl) (xs := ns.map V.int) ha (by simp) (by simp; omega) (fun _ => rfl) (fun i x y H1 hx hy e1 Q' k => ?_) (fun D H1 hD e1 h1 => ?_))
    · rw [List.getElem?_map] at hx
      rw [List.getElem?_map, List.getElem?_map] at hy
      cases hn : ns[i]? with
      | none => rw [hn] at hx; cases hx
      | some z =>
        rw [hn] at hx hy
        cases hx
        cases hy
        walk_at "go"
        refine r_isiI (b := true) (kit_ty (by decide +kernel)) ?_
        walk_at "go"
        refine r_isiI (b := false) (kit_ty (by decide +kernel)) ?_
        walk_at "go"
        exact k H1 (Ex.refl H1)
    · walk_at "go"
      refine r_all (l_of h1) ?_
      have e : ((ns.map fun _ => true).all id) = true := by simp
      rw [e]
      exact q H1 e1
def sp__law_joined (K : PySem.W.Frag) : Sp := fun vs H Q _ => ∃ a b ns ms, vs = [.ref a, .ref b] ∧ IT K H a ns ∧ IT K H b ms ∧ ns.length ≤ 5000 ∧ ms.length ≤ 5000 ∧ Fg.Str ns ∧ Fg.Str ms ∧ ∀ p H1, Ex H H1 → IT K H1 p (Fg.rd (ns ++ ms)) → Q (.ref p) H1
theorem ok__law_joined (T : Tx K mg A) : FnOk P w K mg base CX0 1 A.a__law_joined A.f__law_joined P__law_joined (sp__law_joined K) := by
  refine T.F__law_joined.ok sc__law_joined (fun vs H Q E h => ?_) (fun cdv A' outer s H vs Q E hr h => ?_)
  · obtain ⟨a, b, ns, ms, rfl, _⟩ := h
    rfl
  · obtain ⟨a, b, ns, ms, rfl, ha, hb, hza, hzb, sa, sb, q⟩ := h
    refine ⟨_, (pss_cons (ps_set (i := 2) sc__law_joined.nd rfl (Or.inl rfl) pe_int)
      (pss_cons (ps_while PassesOwn.never (PW.pt (pw_and (pt_cmpR op_lt (pv 2) (pe_callB (len_K K) (by rfl) T.n_len (by decide +kernel) (pa_cons (pv 0) pa_nil)) (nomark _)) (pw_and (pt_cmpR op_lt (pv 2) (pe_callB (len_K K) (by rfl) T.n_len (by decide +kernel) (pa_cons (pv 1) pa_nil)) (nomark _)) (pw_and1 (pt_cmpR (op_eqK K hr.units) (pe_ix (ix_K K) (pv 0) (pe_op op_sub (pe_op op_sub (pe_callB (len_K K) (by rfl) T.n_len (by decide +kernel) (pa_cons (pv 0) pa_nil)) pe_int) (pv 2)) (fun _ _ => rfl)) (pe_un un_neg (pe_ix (ix_K K) (pv 1) (pv 2) (fun _ _ => rfl))) (nomark _)))))) (pss_one (ps_set (i := 2) sc__law_joined.nd rfl (Or.inl rfl) (pe_op (op_addK K) (pv 2) pe_int))))
      (pss_one (ps_ret (pe_op (op_addK K) (pe_slice (sl_K K) (pv 0) po_none (po_some (pe_op op_sub (pe_callB (len_K K) (by rfl) T.n_len (by decide +kernel) (pa_cons (pv 0) pa_nil)) (pv 2)))) (pe_slice (sl_K K) (pv 1) (po_some (pv 2)) po_none)))))), ?_⟩
    walk_at "go"
    refine st_while (fun m σ' H' => ∃ k : Nat, H' = H ∧ σ' = [some (.ref a), some (.ref b), some (.int (k : Int))] ∧ m + k = ns.length ∧ Fg.Opp ns ms k) ns.length ⟨0, rfl, rfl, rfl, Fg.opp_zero _ _⟩ ?_
    rintro m σ' H' ⟨k, rfl, rfl, hm, ho⟩
    -- behind the loop
    have tail : (k < ns.length → k < ms.length → ∀ x y, ns[ns.length - 1 - k]? = some x → ms[k]? = some y → x ≠ -y) →
        tRet (tOp (rAddU K) (tSl (rSlU K) (tVar 0) tNoPart (tPart (tOp (rI0 fun i j => .int (i - j)) (tCB (rLenU K) (tCons (tVar 0) tNil)) (tVar 2)))) (tSl (rSlU K) (tVar 1) (tPart (tVar 2)) tNoPart)) { nx := fun _ H' => Q .non H', rt := Q } [some (.ref a), some (.ref b), some (.int (k : Int))] H' := by
      intro hend
      walk_at "go"
      refine r_lenT ha ?_
      walk_at "go"
      rw [List.length_map]
      refine r_slT ha fun c H1 e1 h1 => ?_
      walk_at "go"
      refine r_slT (ex_t e1 hb) fun d H2 e2 h2 => ?_
      rw [cut_to (by have := ho.1; omega)] at h1
      rw [cut_from (by omega)] at h2
      refine r_catT (ex_t e2 h1) h2 (by simp only [List.length_map, List.length_take, List.length_drop]; omega) fun p H3 e3 h3 => ?_
      refine q p H3 ((e1.trans e2).trans e3) ?_
      rw [← Fg.join_ok sa sb ho hend]
      show SqT K H3 p ((ns.take (ns.length - k) ++ ms.drop k).map V.int)
      rw [List.map_append]
      have k1 : ((ns.length : Int) - (k : Int)).toNat = ns.length - k := by omega
      have k2 : ((k : Nat) : Int).toNat = k := by omega
      rw [k1, k2] at h3
      exact h3
    walk_at "go"
    refine r_lenT ha ?_
    walk_at "go"
    rw [List.length_map]
    refine if_2 (fun h1 => ?_) fun h1 => ?_
    · walk_at "go"
      refine r_lenT hb ?_
      walk_at "go"
      rw [List.length_map]
      refine if_2 (fun h2 => ?_) fun h2 => ?_
      · walk_at "go"
        refine r_lenT ha ?_
        walk_at "go"
        rw [List.length_map]
        have l1 : ns.length - 1 - k < ns.length := by omega
        have l2 : k < ms.length := by omega
        have k1 : ((ns.length : Int) - 1 - (k : Int)).toNat = ns.length - 1 - k := by omega
        refine r_ixT ha (at_int (x := ns[ns.length - 1 - k]) (by omega) (by rw [k1]; exact List.getElem?_eq_getElem l1)) ?_
        walk_at "go"
        refine r_ixT hb (at_int (x := ms[k]) (by omega) (by rw [show ((k : Nat) : Int).toNat = k by omega]; exact List.getElem?_eq_getElem l2)) ?_
        walk_at "go"
        refine if_2 (fun h3 => ?_) fun h3 => ?_
        · refine ⟨_, fun _ _ h => h, ?_⟩
          walk_at "go"
          exact ⟨m - 1, by omega, k + 1, rfl, rfl, by omega, Fg.opp_succ ho (by omega) l2 (List.getElem?_eq_getElem l1) (List.getElem?_eq_getElem l2) h3⟩
        · refine tail fun _ _ x y hx hy => ?_
          rw [List.getElem?_eq_getElem l1] at hx
          rw [List.getElem?_eq_getElem l2] at hy
          cases hx
          cases hy
          exact h3
      · exact tail fun _ z => absurd z (by omega)
    · exact tail fun z => absurd z (by omega)
def sp__law_walk (K : PySem.W.Frag) : Sp := fun vs H Q _ => ∃ w n l m, vs = [.ref w, .int l, .int m] ∧ Well H w n ∧ n < 2 ^ 20 ∧ 1 ≤ l ∧ l ≤ 4 ∧ 0 ≤ m ∧ m ≤ 60 ∧ ∀ p ns H1, DrS w H (n + 130) H1 → IT K H1 p ns → Stp l ns → (ns.length : Int) ≤ m → Q (.ref p) H1
theorem ok__law_walk (T : Tx K mg A) : FnOk P w K mg base CX0 2 A.a__law_walk A.f__law_walk P__law_walk (sp__law_walk K) := by
  refine T.F__law_walk.ok sc__law_walk (fun vs H Q E h => ?_) (fun cdv A' outer s H vs Q E hr h => ?_)
  · obtain ⟨w, n, l, m, rfl, _⟩ := h
    rfl
  · obtain ⟨w, n, l, m, rfl, hw, hn, hl1, hl4, hm0, hm, q⟩ := h
    refine ⟨_, (pss_cons (ps_par (i := 3) (j := 4) (by rfl) sc__law_walk.nd rfl rfl (by decide) rfl rfl (pa_cons (pe_call (ok__law_take T) (hr.mono (by decide)) (by rfl) T.g__law_take T.F__law_take.kp T.b__law_take .nil pass0 (pa_cons (pv 0) (pa_cons pe_int pa_nil))) (pa_cons (pe_ix (ix_K K) (pe_lst (pa_cons (pe_call (ok__law_take T) (hr.mono (by decide)) (by rfl) T.g__law_take T.F__law_take.kp T.b__law_take .nil pass0 (pa_cons (pv 0) (pa_cons (pe_op (op_addK K) (pv 2) pe_int) pa_nil))) (pa_cons (pv 2) pa_nil))) (pe_callTy int_K (by rfl) T.n_int (by decide +kernel) (pa_cons (pe_cmpR (op_eqK K hr.units) (pe_call (ok__law_take T) (hr.mono (by decide)) (by rfl) T.g__law_take T.F__law_take.kp T.b__law_take .nil pass0 (pa_cons (pv 0) (pa_cons pe_int pa_nil))) pe_int (nomark _)) pa_nil)) (fun _ _ => rfl)) pa_nil)) (by rfl))
      (pss_cons (ps_setLc (i := 5) (own := [("_law_turn", 7)]) rfl sc__law_walk.nd rfl rfl (sw_true rfl rfl rfl (by decide +kernel)) (pi_range1 (by rfl) T.n_range (pa_cons (pv 4) pa_nil)) (blkOk_by (own := [("_law_turn", 7)]) (N := N__law_walk) (sc := defScope s__law_walk) (by decide +kernel)) (fun _ _ _ _ _ => (pg_name (i := 7) sc__law_walk.nd rfl (Or.inl rfl))) (fun _ _ _ _ _ => pts_nil) (fun _ _ _ _ _ => (pe_op (op_mulK K) (pe_op (op_addK K) pe_int (pe_call (ok__law_take T) (hr.mono (by decide)) (by rfl) T.g__law_take T.F__law_take.kp T.b__law_take .nil pass0 (pa_cons (pv 0) (pa_cons (pv 1) pa_nil)))) (pe_op op_sub pe_int (pe_op (op_mulK K) pe_int (pe_call (ok__law_take T) (hr.mono (by decide)) (by rfl) T.g__law_take T.F__law_take.kp T.b__law_take .nil pass0 (pa_cons (pv 0) (pa_cons pe_int pa_nil))))))))
      (Evl.pss_cut (ps_if (pt_cmpR (op_eqK K hr.units) (pv 3) pe_int (nomark _)) (pss_one (ps_set (i := 5) sc__law_walk.nd rfl (Or.inl rfl) (pe_slice (sl_K K) (pe_op (op_mulK K) (pe_slice (sl_K K) (pv 5) po_none (po_some (pe_op (op_addK K) pe_int (pe_call (ok__law_take T) (hr.mono (by decide)) (by rfl) T.g__law_take T.F__law_take.kp T.b__law_take .nil pass0 (pa_cons (pv 0) (pa_cons pe_int pa_nil)))))) (pv 4)) po_none (po_some (pv 4))))) pss_nil)
      (Evl.pss_cut (ps_if (pt_cmpR (op_eqK K hr.units) (pv 3) pe_int (nomark _)) (pss_cons (ps_set (i := 6) sc__law_walk.nd rfl (Or.inl rfl) (pe_op op_fdivW (pv 4) pe_int))
      (pss_one (ps_set (i := 5) sc__law_walk.nd rfl (Or.inl rfl) (pe_op (op_addK K) (pe_slice (sl_K K) (pv 5) po_none (po_some (pe_op op_sub (pv 4) (pv 6)))) (pe_lc (own := [("_law_step", 8)]) rfl sc__law_walk.nd (pi_listK K (pe_revK K (pe_slice (sl_K K) (pv 5) po_none (po_some (pv 6))))) (blkOk_by (own := [("_law_step", 8)]) (N := N__law_walk) (sc := defScope s__law_walk) (by decide +kernel)) (fun _ _ _ _ _ => (pg_name (i := 8) sc__law_walk.nd rfl (Or.inl rfl))) (fun _ _ _ _ _ => pts_nil) (fun _ _ _ _ _ => (pe_un un_neg (pv 8)))))))) pss_nil)
      (Evl.pss_cut (ps_if (pt_cmpR (op_eqK K hr.units) (pv 3) pe_int (nomark _)) (pss_one (ps_setLc (i := 5) (own := [("_law_step", 8)]) rfl sc__law_walk.nd rfl rfl (sw_true rfl rfl rfl (by decide +kernel)) (pi_listK K (pv 5)) (blkOk_by (own := [("_law_step", 8)]) (N := N__law_walk) (sc := defScope s__law_walk) (by decide +kernel)) (fun _ _ _ _ _ => (pg_name (i := 8) sc__law_walk.nd rfl (Or.inl rfl))) (fun _ _ _ _ _ => pts_nil) (fun _ _ _ _ _ => (pe_callB abs_K (by rfl) T.n_abs (by decide +kernel) (pa_cons (pv 8) pa_nil))))) pss_nil)
      (pss_one (ps_ret (pe_callTy (tuple_K K) (by rfl) T.n_tuple (by decide +kernel) (pa_cons (pv 5) pa_nil))))))))), ?_⟩
    walk_at "go"
    refine ⟨w, n, 4, rfl, by omega, by omega, hw, by omega, fun way H1 w0 w4 e1 d1 => ?_⟩
    have s1 : DrS w H (n + 1) H1 := ⟨e1, d1⟩
    clear e1 d1
    walk_at "go"
    refine ⟨w, n + 1, m + 1, rfl, by omega, by omega, s1.well, by omega, fun r5 H2 r50 r5m e2 d2 => ?_⟩
    have s2 := s1.on e2 d2
    clear e2 d2 s1
    walk_at "go"
    refine r_newL (by simp) fun c H3 hc e3 h3 => ?_
    have s3 := s2.ext e3
    have hcw : c ≠ w := s2.well.ne hc
    clear e3 s2
    walk_at "go"
    refine ⟨w, n + 2, 6, rfl, by omega, by omega, s3.well, by omega, fun r6 H4 r60 r66 e4 d4 => ?_⟩
    have s4 := s3.on e4 d4
    have h4 := e4 c _ h3 hcw
    clear e4 d4 s3 h3 hc
    walk_at "go"
    obtain ⟨sz, hsz, sz0, szm⟩ : ∃ sz : Int, atI [V.int r5, V.int m] (if decide (r6 = 0) = true then 1 else 0) = some (.int sz) ∧ 0 ≤ sz ∧ sz ≤ m := by
      by_cases h6 : r6 = 0
      · rw [decide_eq_true h6]
        exact ⟨m, rfl, hm0, by omega⟩
      · rw [decide_eq_false h6]
        exact ⟨r5, rfl, r50, by omega⟩
    refine r_ixL (l_of h4) hsz ?_
    walk_at "go"
    refine ⟨_, _, rfl, ?_⟩
    clear h4 hsz hcw
    walk_at "go"
    -- the steps
    refine r_rng1 (by omega) (by omega) (r_cmRS (m := sz.toNat) (fun i H' => DrS w H (n + 3 + 2 * i) H') (fun y => ∃ z, y = .int z ∧ (z ≠ 0 ∧ -l ≤ z ∧ z ≤ l)) (by omega) (fun _ => rfl) s4 (fun i H1 D o h hD => h.new hD) (fun i H5 D acc hi s5 h5 u5 Q' k => ?_) fun D H5 ys hD hy1 hy2 s5 h5 => ?_)
    · obtain ⟨hDw, hD0⟩ := DrS.at u5
      walk_at "go"
      refine ⟨w, n + 3 + 2 * i, l, rfl, by omega, by omega, s5.well, by omega, fun r7 H6 r70 r7l e6 d6 => ?_⟩
      have s6 := s5.on e6 d6
      have h6 := e6 D _ h5 hDw
      walk_at "go"
      refine ⟨w, n + 3 + 2 * i + 1, 2, rfl, by omega, by omega, s6.well, by omega, fun r8 H7 r80 r82 e7 d7 => ?_⟩
      have s7 := s6.on e7 d7
      have h7 := e7 D _ h6 hDw
      walk_at "go"
      refine r_mul (.inl ⟨by omega, by omega⟩) ?_
      walk_at "go"
      refine r_mul (.inl ⟨by omega, by omega⟩) ?_
      have hr8 : r8 = 0 ∨ r8 = 1 := by omega
      refine k _ H7 ⟨_, rfl, ?_⟩ h7 fun o => DrS.put s7 hDw hD0
      rcases hr8 with e | e
      · subst e
        rw [show (1 : Int) - 2 * 0 = 1 by decide, Int.mul_one]
        omega
      · subst e
        rw [show (1 : Int) - 2 * 1 = -1 by decide, Int.mul_neg, Int.mul_one]
        omega
    obtain ⟨ns, rfl, hns⟩ := ints_of ys hy2
    have hDw : D ≠ w := s4.well.ne hD
    rw [List.length_map] at hy1
    clear hy2 hD s4
    have hsz : (sz.toNat : Int) = sz := by omega
    have szn : sz.toNat ≤ 60 := by omega
    walk_at "go"
    -- the list of steps, in whatever way it was made
    have start : ∃ (L : Addr) (ms : List Int), DrS w H (n + 123) H5 ∧ H5 L = some (.lst (ms.map V.int)) ∧ L ≠ w ∧ Stp l ms ∧ ms.length ≤ sz.toNat ∧ L = D := ⟨D, ns, s5.more (by omega), h5, hDw, hns, by omega, rfl⟩
    refine q_cut (M := fun σ' H' => ∃ (L : Addr) (ms : List Int), DrS w H (n + 124) H' ∧ H' L = some (.lst (ms.map V.int)) ∧ L ≠ w ∧ Stp l ms ∧ ms.length ≤ sz.toNat ∧
        σ' = [some (.ref w), some (.int l), some (.int m), some (.int way), some (.int sz), some (.ref L), none, none, none]) ?_ ?_
    · walk_at "go"
      refine if_2 (fun h0 => ?_) fun h0 => ?_
      · walk_at "go"
        refine ⟨w, n + 123, 4, rfl, by omega, by omega, s5.well.more (by omega), by omega, fun r9 H6 r90 r94 e6 d6 => ?_⟩
        have s6 := s5.on e6 d6
        have h6 := e6 D _ h5 hDw
        walk_at "go"
        refine r_slL (l_of h6) fun c2 H7 hc2 e7 h7 => ?_
        rw [cut_to (by omega)] at h7
        walk_at "go"
        refine r_repL h7 sz0 (by omega) ?_ fun c3 H8 hc3 e8 h8 => ?_
        · rw [List.length_map, List.length_take]
          exact Nat.le_trans (Nat.mul_le_mul (by omega : min (1 + r9).toNat ns.length ≤ 60) szn) (by decide)
        walk_at "go"
        have e9 : (List.replicate sz.toNat ((ns.take (1 + r9).toNat).map V.int)).flatten = ((List.replicate sz.toNat (ns.take (1 + r9).toNat)).flatten).map V.int := by simp [List.map_flatten]
        rw [e9] at h8
        refine r_slL (l_of h8) fun c4 H9 hc4 e9 h9 => ?_
        rw [cut_to sz0] at h9
        walk_at "go"
        have s9 := ((s6.ext e7).ext e8).ext e9
        refine ⟨c4, _, s9, h9, (s6.ext (e7.trans e8)).well.ne hc4, stp_of_mem hns fun x hx => ?_, by rw [List.length_take]; omega, rfl⟩
        have hx2 := List.mem_of_mem_take hx
        rw [List.mem_flatten] at hx2
        obtain ⟨y, hy, hxy⟩ := hx2
        rw [(List.mem_replicate.mp hy).2] at hxy
        exact List.mem_of_mem_take hxy
      · walk_at "go"
        exact ⟨D, ns, s5.more (by omega), h5, hDw, hns, by omega, rfl⟩
    rintro σ' H6 ⟨L, ms, s6, h6, hLw, hms, hml, rfl⟩
    clear s5 h5 hDw hns hy1 start ns
    refine q_cut (M := fun σ' H' => ∃ (L : Addr) (ms : List Int) (v : Option V), DrS w H (n + 124) H' ∧ H' L = some (.lst (ms.map V.int)) ∧ L ≠ w ∧ Stp l ms ∧ ms.length ≤ sz.toNat ∧
        σ' = [some (.ref w), some (.int l), some (.int m), some (.int way), some (.int sz), some (.ref L), v, none, none]) ?_ ?_
    · walk_at "go"
      refine if_2 (fun h0 => ?_) fun h0 => ?_
      · walk_at "go"
        refine r_div (b := 2) (by decide) (by decide) (by decide) (by decide) ?_
        walk_at "go"
        refine r_slL (l_of h6) fun c1 H7 hc1 e7 h7 => ?_
        rw [cut_to (by omega)] at h7
        walk_at "go"
        refine r_slL (l_of (e7 _ _ h6)) fun c2 H8 hc2 e8 h8 => ?_
        rw [cut_to (by omega)] at h8
        walk_at "go"
        refine r_revL (l_of h8) fun c3 H9 hc3 e9 h9 => ?_
        rw [← List.map_reverse] at h9
        refine r_itL (l_of h9) (r_cmL (ys := (((ms.take (sz / 3).toNat).reverse).map fun x => -x).map V.int) (l_of h9) (by simp) (by simp; omega) (fun _ => rfl) (fun i x y H10 hx hy e10 Q' k => ?_) fun c4 H10 hc4 e10 h10 => ?_)
        · rw [List.getElem?_map] at hx
          rw [List.getElem?_map, List.getElem?_map] at hy
          cases hz : ((ms.take (sz / 3).toNat).reverse)[i]? with
          | none => rw [hz] at hx; cases hx
          | some z =>
            rw [hz] at hx hy
            cases hx
            cases hy
            walk_at "go"
            exact k H10 (Ex.refl H10)
        · walk_at "go"
          refine r_catL (e10 _ _ (e9 _ _ (e8 _ _ h7))) h10 (by simp; omega) fun c5 H11 hc5 e11 h11 => ?_
          walk_at "go"
          have ee : Ex H6 H11 := ((((e7.trans e8).trans e9).trans e10).trans e11)
          rw [← List.map_append] at h11
          refine ⟨c5, _, _, s6.ext ee, h11, (s6.ext (((e7.trans e8).trans e9).trans e10)).well.ne hc5, ?_, by simp only [List.length_append, List.length_map, List.length_reverse, List.length_take]; omega, rfl⟩
          intro x hx
          rcases List.mem_append.mp hx with hx | hx
          · exact hms x (List.mem_of_mem_take hx)
          · obtain ⟨y, hy, rfl⟩ := List.mem_map.mp hx
            have := hms y (List.mem_of_mem_take (List.mem_reverse.mp hy))
            omega
      · walk_at "go"
        exact ⟨L, ms, none, s6, h6, hLw, hms, hml, rfl⟩
    rintro σ' H7 ⟨L2, ms2, v, s7, h7, hLw2, hms2, hml2, rfl⟩
    refine q_cut (M := fun σ' H' => ∃ (L : Addr) (ms : List Int), DrS w H (n + 124) H' ∧ H' L = some (.lst (ms.map V.int)) ∧ Stp l ms ∧ ms.length ≤ sz.toNat ∧
        σ' = [some (.ref w), some (.int l), some (.int m), some (.int way), some (.int sz), some (.ref L), v, none, none]) ?_ ?_
    · walk_at "go"
      refine if_2 (fun h0 => ?_) fun h0 => ?_
      · walk_at "go"
        refine r_itL (l_of h7) (r_cmL (ys := (ms2.map fun x => ((x.natAbs : Nat) : Int)).map V.int) (l_of h7) (by simp) (by simp; omega) (fun _ => rfl) (fun i x y H10 hx hy e10 Q' k => ?_) fun c4 H10 hc4 e10 h10 => ?_)
        · rw [List.getElem?_map] at hx
          rw [List.getElem?_map, List.getElem?_map] at hy
          cases hz : ms2[i]? with
          | none => rw [hz] at hx; cases hx
          | some z =>
            rw [hz] at hx hy
            cases hx
            cases hy
            walk_at "go"
            exact k H10 (Ex.refl H10)
        · walk_at "go"
          refine ⟨c4, _, s7.ext e10, h10, fun x hx => ?_, by rw [List.length_map]; omega, rfl⟩
          obtain ⟨y, hy, rfl⟩ := List.mem_map.mp hx
          have := hms2 y hy
          omega
      · walk_at "go"
        exact ⟨L2, ms2, s7, h7, hms2, hml2, rfl⟩
    rintro σ' H8 ⟨L3, ms3, s8, h8, hms3, hml3, rfl⟩
    walk_at "go"
    refine r_tupL (l_of h8) fun p H9 hp e9 h9 => ?_
    exact q p ms3 H9 ((s8.ext e9).more (by omega)) h9 hms3 (by omega)
end
end Lw
namespace Lw
open PySem PySem.Spec PyProof.Rows L2 Evl

local macro_rules | `(tactic| walk_at "go") => `(tactic| repeat (first
  | with_reducible refine st_seq ?_ | with_reducible refine st_set ?_ | with_reducible refine st_asg ?_ | with_reducible refine st_ret ?_ | with_reducible refine st_drop ?_ | with_reducible refine st_if ?_
  | with_reducible refine st_c ?_ | ((with_reducible refine' st_v ?h ?_); (case h => exact rfl)) | with_reducible refine st_n ?_ | with_reducible refine st_cons ?_ | with_reducible refine st_op ?_ | with_reducible refine st_un ?_
  | with_reducible refine st_cb ?_ | with_reducible refine st_test ?_ | with_reducible refine st_call ?_ | with_reducible refine st_callK ?_ | with_reducible refine st_sl ?_ | with_reducible refine st_par ?_ | with_reducible refine st_tru ?_
  | with_reducible refine st_and ?_ | with_reducible refine st_or ?_ | with_reducible refine st_not ?_ | with_reducible refine st_B ?_ | with_reducible refine st_andV ?_ | with_reducible refine st_orV ?_ | with_reducible refine st_notV ?_ | with_reducible refine st_ifE ?_
  | with_reducible refine st_part ?_ | with_reducible refine st_nop ?_ | with_reducible refine st_sub ?_ | with_reducible refine st_chain ?_ | with_reducible refine st_bl ?_ | with_reducible refine st_in ?_ | with_reducible refine r_truB ?_
  | with_reducible refine st_nameG ?_ | with_reducible refine if_T ?_ | with_reducible refine if_F ?_ | with_reducible refine if_nT ?_ | with_reducible refine if_nF ?_
  | with_reducible refine r_add ?_ | with_reducible refine r_0 ?_ | with_reducible refine r_neg ?_ | with_reducible refine r_intI ?_ | with_reducible refine r_intB ?_ | with_reducible refine r_abs ?_ | with_reducible refine r_max2 ?_ | with_reducible refine r_min2 ?_ | with_reducible refine r_eqI ?_ | with_reducible refine r_neI ?_
  | with_reducible refine st_nxt ?_ | with_reducible refine st_cnt ?_ | with_reducible refine st_brk ?_ | with_reducible refine st_retn ?_
  | with_reducible refine st_lstN ?_ | with_reducible refine st_tupN ?_
  | with_reducible refine st_for ?_ | with_reducible refine st_lc ?_ | with_reducible refine st_rng1 ?_ | with_reducible refine st_rng2 ?_ | with_reducible refine st_itL ?_ | with_reducible refine st_itT ?_ | with_reducible refine st_rev ?_ | with_reducible refine st_bm ?_ | with_reducible refine st_bm0 ?_
  | ((with_reducible refine' st_aug ?h ?_); (case h => exact rfl)) | with_reducible refine r_augI ?_ | with_reducible refine r_eqB ?_
  | dsimp only))
section
variable {P : Program} {w : World} {K : PySem.W.Frag} {mg : Str → Option Value} {base : Heap} {A : Ad}

def sp_lead_and_core (K : PySem.W.Frag) : Sp := fun vs H Q _ => ∃ a ns, vs = [.ref a] ∧ IT K H a ns ∧ ns.length ≤ 5000 ∧ ∀ q H1, Ex H H1 → P2 K H1 q (Fg.lead ns) (Fg.mid ns) → Q (.ref q) H1
theorem ok_lead_and_core (T : Tx K mg A) : FnOk P w K mg base CX0 1 A.a_lead_and_core A.f_lead_and_core P_lead_and_core (sp_lead_and_core K) := by
  refine T.F_lead_and_core.ok sc_lead_and_core (fun vs H Q E h => ?_) (fun cdv A' outer s H vs Q E hr h => ?_)
  · obtain ⟨a, ns, rfl, _⟩ := h
    rfl
  · obtain ⟨a, ns, rfl, ha, hz, q⟩ := h
    refine ⟨_, (pss_cons (ps_set (i := 1) sc_lead_and_core.nd rfl (Or.inl rfl) pe_int)
      (pss_cons (ps_while PassesOwn.never (PW.pt (pw_and (pt_cmpR op_lt (pv 1) (pe_op op_fdivW (pe_callB (len_K K) (by rfl) T.n_len (by decide +kernel) (pa_cons (pv 0) pa_nil)) pe_int) (nomark _)) (pw_and1 (pt_cmpR (op_eqK K hr.units) (pe_ix (ix_K K) (pv 0) (pv 1) (fun _ _ => rfl)) (pe_un un_neg (pe_ix (ix_K K) (pv 0) (pe_op op_sub (pe_un un_neg pe_int) (pv 1)) (fun _ _ => rfl))) (nomark _))))) (pss_one (ps_aug (i := 1) sc_lead_and_core.nd rfl (Or.inl rfl) pe_int ip_add)))
      (pss_one (ps_ret (pe_tup (pa_cons (pe_slice (sl_K K) (pv 0) po_none (po_some (pv 1))) (pa_cons (pe_slice (sl_K K) (pv 0) (po_some (pv 1)) (po_some (pe_op op_sub (pe_callB (len_K K) (by rfl) T.n_len (by decide +kernel) (pa_cons (pv 0) pa_nil)) (pv 1)))) pa_nil))))))), ?_⟩
    walk_at "go"
    refine st_while (fun m σ' H' => ∃ k : Nat, H' = H ∧ σ' = [some (.ref a), some (.int (k : Int))] ∧ m + k = ns.length / 2 ∧ ∀ j, j < k → Fg.mt ns j = true) (ns.length / 2) ⟨0, rfl, rfl, rfl, fun j h => absurd h (Nat.not_lt_zero j)⟩ ?_
    rintro m σ' H' ⟨k, rfl, rfl, hm, ho⟩
    have tail : (k < ns.length / 2 → Fg.mt ns k = false) →
        tRet (tTup (tCons (tSl (rSlU K) (tVar 0) tNoPart (tPart (tVar 1))) (tCons (tSl (rSlU K) (tVar 0) (tPart (tVar 1)) (tPart (tOp (rI0 fun i j => .int (i - j)) (tCB (rLenU K) (tCons (tVar 0) tNil)) (tVar 1)))) tNil))) { nx := fun _ H' => Q .non H', rt := Q } [some (.ref a), some (.int (k : Int))] H' := by
      intro hend
      have hld := Fg.ld_eq (u := ns) (s := k) (by omega) ho hend
      walk_at "go"
      refine r_slT ha fun c H1 e1 h1 => ?_
      walk_at "go"
      refine r_lenT (ex_t e1 ha) ?_
      walk_at "go"
      rw [List.length_map]
      refine r_slT (ex_t e1 ha) fun d H2 e2 h2 => ?_
      rw [cut_to (by omega)] at h1
      rw [cut_mid (by omega) (by omega) (by omega)] at h2
      walk_at "go"
      refine r_newT (by simp) fun p H3 _ e3 h3 => ?_
      have k1 : ((k : Nat) : Int).toNat = k := by omega
      have k2 : ((ns.length : Int) - (k : Int)).toNat - ((k : Nat) : Int).toNat = ns.length - k - k := by omega
      rw [k2, k1] at h2
      rw [k1] at h1
      refine q p H3 ((e1.trans e2).trans e3) ⟨c, d, t_of h3, ?_, ?_⟩
      · unfold Fg.lead
        rw [hld]
        exact ex_t (e2.trans e3) h1
      · unfold Fg.mid
        rw [hld]
        exact ex_t e3 h2
    walk_at "go"
    refine r_lenT ha ?_
    walk_at "go"
    rw [List.length_map]
    refine r_div (b := 2) (by decide) (by decide) (by decide) (by decide) ?_
    walk_at "go"
    refine if_2 (fun h1 => ?_) fun h1 => ?_
    · have h1' : k < ns.length / 2 := by omega
      have l1 : k < ns.length := by omega
      have l2 : ns.length - 1 - k < ns.length := by omega
      walk_at "go"
      refine r_ixT ha (at_int (x := ns[k]) (by omega) (by rw [show ((k : Nat) : Int).toNat = k by omega]; exact List.getElem?_eq_getElem l1)) ?_
      walk_at "go"
      refine r_ixT ha (at_negI (x := ns[ns.length - 1 - k]) l1 (List.getElem?_eq_getElem l2)) ?_
      have hmt := Fg.mt_of (List.getElem?_eq_getElem l1) (List.getElem?_eq_getElem l2)
      walk_at "go"
      refine if_2 (fun h2 => ?_) fun h2 => ?_
      · refine ⟨_, fun _ _ h => h, ?_⟩
        walk_at "go"
        refine ⟨m - 1, by omega, k + 1, rfl, rfl, by omega, fun j hj => ?_⟩
        rcases Nat.lt_or_ge j k with z | z
        · exact ho j z
        · have : j = k := by omega
          rw [this, hmt]
          exact decide_eq_true h2
      · exact tail fun _ => by rw [hmt]; exact decide_eq_false h2
    · exact tail fun z => absurd z (by omega)
def sp_once_round (K : PySem.W.Frag) : Sp := fun vs H Q _ => ∃ a ns, vs = [.ref a] ∧ IT K H a ns ∧ ns ≠ [] ∧ ns.length ≤ 1000 ∧ ∀ l p H1, Fg.Om ns l → Ex H H1 → IT K H1 p (ns.take l) → Q (.ref p) H1
theorem ok_once_round (T : Tx K mg A) : FnOk P w K mg base CX0 1 A.a_once_round A.f_once_round P_once_round (sp_once_round K) := by
  refine T.F_once_round.ok sc_once_round (fun vs H Q E h => ?_) (fun cdv A' outer s H vs Q E hr h => ?_)
  · obtain ⟨a, ns, rfl, _⟩ := h
    rfl
  · obtain ⟨a, ns, rfl, ha, hne, hz, q⟩ := h
    refine ⟨_, (pss_cons (ps_set (i := 1) sc_once_round.nd rfl (Or.inl rfl) pe_int)
      (pss_cons (ps_while PassesOwn.never (pt_cmpR (op_neK K hr.units) (pe_op (op_mulK K) (pe_slice (sl_K K) (pv 0) po_none (po_some (pv 1))) (pe_op op_fdivW (pe_callB (len_K K) (by rfl) T.n_len (by decide +kernel) (pa_cons (pv 0) pa_nil)) (pv 1))) (pv 0) (nomark _)) (pss_one (ps_aug (i := 1) sc_once_round.nd rfl (Or.inl rfl) pe_int ip_add)))
      (pss_one (ps_ret (pe_slice (sl_K K) (pv 0) po_none (po_some (pv 1))))))), ?_⟩
    have hpos : 0 < ns.length := List.length_pos_iff.mpr hne
    walk_at "go"
    refine st_while (fun m σ' H' => ∃ k : Nat, Ex H H' ∧ σ' = [some (.ref a), some (.int (k : Int))] ∧ m + k = ns.length ∧ 1 ≤ k ∧ ∀ j, 1 ≤ j → j < k → ¬ Fg.Per ns j) (ns.length - 1) ⟨1, Ex.refl H, rfl, by omega, Nat.le_refl _, fun j h1 h2 => absurd h2 (by omega)⟩ ?_
    rintro m σ' H' ⟨k, e0, rfl, hm, hk1, ho⟩
    have k1 : ((k : Nat) : Int).toNat = k := by omega
    walk_at "go"
    refine r_slT (ex_t e0 ha) fun c H1 e1 h1 => ?_
    rw [cut_to (by omega), k1] at h1
    walk_at "go"
    refine r_lenT (ex_t (e0.trans e1) ha) ?_
    walk_at "go"
    rw [List.length_map]
    refine r_div (b := 20) (by omega) (by omega) (by decide) (by decide) ?_
    walk_at "go"
    have hd : ((ns.length : Int) / (k : Int)) = ((ns.length / k : Nat) : Int) := by rw [← Int.natCast_ediv]
    rw [hd]
    have hdl : ns.length / k ≤ ns.length := Nat.div_le_self _ _
    have hq0 : (0 : Int) ≤ ((ns.length / k : Nat) : Int) := Int.natCast_nonneg _
    have hq1 : ((ns.length / k : Nat) : Int) ≤ 1000 := by
      have : ns.length / k ≤ 1000 := by generalize ns.length / k = t at hdl; omega
      exact Int.ofNat_le.mpr this
    refine r_repT h1 hq0 hq1 (by rw [List.length_map, List.length_take]; omega) fun d H2 e2 h2 => ?_
    have hf : (List.replicate ((ns.length / k : Nat) : Int).toNat ((ns.take k).map V.int)).flatten = (Fg.rep (ns.length / k) (ns.take k)).map V.int := by
      rw [← Fg.rep_flat, Int.toNat_natCast]
      simp [List.map_flatten]
    rw [hf] at h2
    walk_at "go"
    refine r_neT h2 (ex_t ((e0.trans e1).trans e2) ha) ?_
    walk_at "go"
    refine ifn_2 (fun h3 => ?_) fun h3 => ?_
    · refine ⟨_, fun _ _ h => h, ?_⟩
      walk_at "go"
      have hkn : k < ns.length := by
        refine Nat.lt_of_le_of_ne (by omega) fun e => h3 ?_
        have := Fg.per_full ns hne
        unfold Fg.Per at this
        rw [e]
        exact this
      refine ⟨m - 1, by omega, k + 1, (e0.trans e1).trans e2, rfl, by omega, by omega, fun j hj1 hj2 => ?_⟩
      rcases Nat.lt_or_ge j k with z | z
      · exact ho j hj1 z
      · have : j = k := by omega
        rw [this]
        exact h3
    · walk_at "go"
      refine r_slT (ex_t ((e0.trans e1).trans e2) ha) fun p H3 e3 h4 => ?_
      rw [cut_to (by omega), k1] at h4
      exact q k p H3 ⟨hk1, by omega, h3, ho⟩ (((e0.trans e1).trans e2).trans e3) h4
def sp_core (K : PySem.W.Frag) : Sp := fun vs H Q _ => ∃ a ns, vs = [.ref a] ∧ IT K H a ns ∧ ns.length ≤ 5000 ∧ Stp 4 ns ∧ ∀ p H1, Ex H H1 → P2 K H1 p (Fg.lead (Fg.rd ns)) (Fg.mid (Fg.rd ns)) → Q (.ref p) H1
theorem ok_core (T : Tx K mg A) : FnOk P w K mg base CX0 5 A.a_core A.f_core P_core (sp_core K) := by
  refine T.F_core.ok sc_core (fun vs H Q E h => ?_) (fun cdv A' outer s H vs Q E hr h => ?_)
  · obtain ⟨a, ns, rfl, _⟩ := h
    rfl
  · obtain ⟨a, ns, rfl, ht, hz, hs, q⟩ := h
    refine ⟨_, (pss_cons (ps_expr (pe_call (ok_check_walk T) (hr.mono (by decide)) (by rfl) T.g_check_walk T.F_check_walk.kp T.b_check_walk .nil pass0 (pa_cons (pe_glob (v := .int 4) (by rfl) T.c_MOST_LETTERS.choose_spec ⟨_, rfl⟩) (pa_cons (pv 0) pa_nil))))
      (pss_one (ps_ret (pe_call (ok_lead_and_core T) (hr.mono (by decide)) (by rfl) T.g_lead_and_core T.F_lead_and_core.kp T.b_lead_and_core .nil pass0 (pa_cons (pe_call (ok_straightened T) (hr.mono (by decide)) (by rfl) T.g_straightened T.F_straightened.kp T.b_straightened .nil pass0 (pa_cons (pv 0) pa_nil)) pa_nil))))), ?_⟩
    walk_at "go"
    refine ⟨4, a, ns, rfl, ht, hz, hs, fun H1 e1 => ?_⟩
    walk_at "go"
    refine ⟨a, ns, rfl, ex_t e1 ht, hz, fun p H2 e2 h2 => ?_⟩
    walk_at "go"
    exact ⟨p, _, rfl, h2, Nat.le_trans (Fg.rd_len _) hz, fun p2 H3 e3 h3 => q p2 H3 ((e1.trans e2).trans e3) h3⟩
def sp_root (K : PySem.W.Frag) : Sp := fun vs H Q _ => ∃ a ns, vs = [.ref a] ∧ IT K H a ns ∧ ns.length ≤ 1000 ∧ Stp 4 ns ∧ ∀ p u t H1, Ex H H1 → RootIs (Fg.rd ns) u t → P1N K H1 p u t → Q (.ref p) H1
theorem ok_root (T : Tx K mg A) : FnOk P w K mg base CX0 5 A.a_root A.f_root P_root (sp_root K) := by
  refine T.F_root.ok sc_root (fun vs H Q E h => ?_) (fun cdv A' outer s H vs Q E hr h => ?_)
  · obtain ⟨a, ns, rfl, _⟩ := h
    rfl
  · obtain ⟨a, ns, rfl, ht, hz, hs, q⟩ := h
    refine ⟨_, (pss_cons (ps_expr (pe_call (ok_check_walk T) (hr.mono (by decide)) (by rfl) T.g_check_walk T.F_check_walk.kp T.b_check_walk .nil pass0 (pa_cons (pe_glob (v := .int 4) (by rfl) T.c_MOST_LETTERS.choose_spec ⟨_, rfl⟩) (pa_cons (pv 0) pa_nil))))
      (pss_cons (ps_asg (pe_call (ok_lead_and_core T) (hr.mono (by decide)) (by rfl) T.g_lead_and_core T.F_lead_and_core.kp T.b_lead_and_core .nil pass0 (pa_cons (pe_call (ok_straightened T) (hr.mono (by decide)) (by rfl) T.g_straightened T.F_straightened.kp T.b_straightened .nil pass0 (pa_cons (pv 0) pa_nil)) pa_nil)) (pg_tupK K (by rfl) (pgs_cons (pg_name (i := 1) sc_root.nd rfl (Or.inl rfl)) (pgs_cons (pg_name (i := 2) sc_root.nd rfl (Or.inl rfl)) pgs_nil))))
      (pss_cons (ps_if (pt_not (pt_truK K (pv 2))) (pss_one (ps_ret (pe_tup (pa_cons (pe_tup pa_nil) (pa_cons pe_int pa_nil))))) pss_nil)
      (pss_cons (ps_set (i := 3) sc_root.nd rfl (Or.inl rfl) (pe_call (ok_once_round T) (hr.mono (by decide)) (by rfl) T.g_once_round T.F_once_round.kp T.b_once_round .nil pass0 (pa_cons (pv 2) pa_nil)))
      (pss_one (ps_ret (pe_tup (pa_cons (pe_op (op_addK K) (pe_op (op_addK K) (pv 1) (pv 3)) (pe_call (ok_turned_back T) (hr.mono (by decide)) (by rfl) T.g_turned_back T.F_turned_back.kp T.b_turned_back .nil pass0 (pa_cons (pv 1) pa_nil))) (pa_cons (pe_op op_fdivW (pe_callB (len_K K) (by rfl) T.n_len (by decide +kernel) (pa_cons (pv 2) pa_nil)) (pe_callB (len_K K) (by rfl) T.n_len (by decide +kernel) (pa_cons (pv 3) pa_nil))) pa_nil))))))))), ?_⟩
    walk_at "go"
    refine ⟨4, a, ns, rfl, ht, by omega, hs, fun H1 e1 => ?_⟩
    walk_at "go"
    refine ⟨a, ns, rfl, ex_t e1 ht, by omega, fun p H2 e2 h2 => ?_⟩
    have hl : (Fg.rd ns).length ≤ 1000 := Nat.le_trans (Fg.rd_len _) hz
    walk_at "go"
    refine ⟨p, _, rfl, h2, by omega, fun p2 H3 e3 h3 => ?_⟩
    obtain ⟨b, c, hp2, hb, hc⟩ := h3.ex
    walk_at "go"
    refine r_tup2 hp2 ?_
    walk_at "go"
    refine r_truT hc ?_
    have e := (e1.trans e2).trans e3
    have hll := lead_len (Fg.rd ns)
    have hml := mid_len (Fg.rd ns)
    by_cases hm : Fg.mid (Fg.rd ns) = []
    · rw [show (!((Fg.mid (Fg.rd ns)).map V.int).isEmpty) = false by rw [hm]; rfl]
      walk_at "go"
      refine r_newT (by simp) fun z H4 _ e4 h4 => ?_
      walk_at "go"
      refine r_newT (by simp) fun y H5 _ e5 h5 => ?_
      exact q y [] 0 H5 (e.trans (e4.trans e5)) (.inl ⟨hm, rfl, rfl⟩) ⟨z, t_of h5, t_of (e5 _ _ h4)⟩
    · have hne := hm
      rw [show (!((Fg.mid (Fg.rd ns)).map V.int).isEmpty) = true by simp [hm]]
      walk_at "go"
      refine ⟨c, _, rfl, hc, hne, by omega, fun l d H4 ho e4 h4 => ?_⟩
      walk_at "go"
      refine r_catT (ex_t e4 hb) h4 (by simp; omega) fun f H5 e5 h5 => ?_
      walk_at "go"
      refine ⟨b, _, rfl, ex_t (e4.trans e5) hb, by omega, fun g H6 e6 h6 => ?_⟩
      refine r_catT (ex_t e6 h5) h6 (by simp [Fg.bk_len]; omega) fun k H7 e7 h7 => ?_
      walk_at "go"
      refine r_lenT (ex_t (((e4.trans e5).trans e6).trans e7) hc) ?_
      walk_at "go"
      refine r_lenT (ex_t ((e5.trans e6).trans e7) h4) ?_
      walk_at "go"
      rw [List.length_map, List.length_map, List.length_take, Nat.min_eq_left ho.le]
      have hl1 := ho.pos
      have hl2 := ho.le
      refine r_div (b := 20) (by omega) (by omega) (by decide) (by decide) ?_
      walk_at "go"
      refine r_newT (by simp) fun y H8 _ e8 h8 => ?_
      have hd : (((Fg.mid (Fg.rd ns)).length : Int) / (l : Int)) = (((Fg.mid (Fg.rd ns)).length / l : Nat) : Int) := by rw [← Int.natCast_ediv]
      rw [hd] at h8
      refine q y (Fg.lead (Fg.rd ns) ++ (Fg.mid (Fg.rd ns)).take l ++ Fg.bk (Fg.lead (Fg.rd ns))) _ H8 (e.trans ((((e4.trans e5).trans e6).trans e7).trans e8)) (.inr ⟨hne, l, ho, rfl, rfl⟩) ⟨k, t_of h8, ?_⟩
      rw [← List.map_append, ← List.map_append] at h7
      exact ex_t e8 h7
def sp_commute (K : PySem.W.Frag) : Sp := fun vs H Q _ => ∃ a ns b ms, vs = [.ref a, .ref b] ∧ IT K H a ns ∧ IT K H b ms ∧ ns.length ≤ 2000 ∧ ms.length ≤ 2000 ∧ Stp 4 ns ∧ Stp 4 ms ∧ ∀ H1, Ex H H1 → Q (.bl (decide (Fg.rd (ns ++ ms) = Fg.rd (ms ++ ns)))) H1
theorem ok_commute (T : Tx K mg A) : FnOk P w K mg base CX0 5 A.a_commute A.f_commute P_commute (sp_commute K) := by
  refine T.F_commute.ok sc_commute (fun vs H Q E h => ?_) (fun cdv A' outer s H vs Q E hr h => ?_)
  · obtain ⟨a, ns, b, ms, rfl, _⟩ := h
    rfl
  · obtain ⟨a, ns, b, ms, rfl, ha, hb, ha2, hb2, hsa, hsb, q⟩ := h
    refine ⟨_, (pss_cons (ps_expr (pe_call (ok_check_walk T) (hr.mono (by decide)) (by rfl) T.g_check_walk T.F_check_walk.kp T.b_check_walk .nil pass0 (pa_cons (pe_glob (v := .int 4) (by rfl) T.c_MOST_LETTERS.choose_spec ⟨_, rfl⟩) (pa_cons (pv 0) pa_nil))))
      (pss_cons (ps_expr (pe_call (ok_check_walk T) (hr.mono (by decide)) (by rfl) T.g_check_walk T.F_check_walk.kp T.b_check_walk .nil pass0 (pa_cons (pe_glob (v := .int 4) (by rfl) T.c_MOST_LETTERS.choose_spec ⟨_, rfl⟩) (pa_cons (pv 1) pa_nil))))
      (pss_one (ps_ret (pe_cmpR (op_eqK K hr.units) (pe_call (ok_straightened T) (hr.mono (by decide)) (by rfl) T.g_straightened T.F_straightened.kp T.b_straightened .nil pass0 (pa_cons (pe_op (op_addK K) (pv 0) (pv 1)) pa_nil)) (pe_call (ok_straightened T) (hr.mono (by decide)) (by rfl) T.g_straightened T.F_straightened.kp T.b_straightened .nil pass0 (pa_cons (pe_op (op_addK K) (pv 1) (pv 0)) pa_nil)) (nomark _)))))), ?_⟩
    walk_at "go"
    refine ⟨4, a, ns, rfl, ha, by omega, hsa, fun H1 e1 => ?_⟩
    walk_at "go"
    refine ⟨4, b, ms, rfl, ex_t e1 hb, by omega, hsb, fun H2 e2 => ?_⟩
    have e := e1.trans e2
    walk_at "go"
    refine r_catT (ex_t e ha) (ex_t e hb) (by simp; omega) fun c H3 e3 h3 => ?_
    rw [← List.map_append] at h3
    walk_at "go"
    refine ⟨c, ns ++ ms, rfl, h3, by rw [List.length_append]; omega, fun p H4 e4 h4 => ?_⟩
    have e' := (e.trans e3).trans e4
    walk_at "go"
    refine r_catT (ex_t e' hb) (ex_t e' ha) (by simp; omega) fun d H5 e5 h5 => ?_
    rw [← List.map_append] at h5
    walk_at "go"
    refine ⟨d, ms ++ ns, rfl, h5, by rw [List.length_append]; omega, fun p2 H6 e6 h6 => ?_⟩
    exact r_eqT (ex_t (e5.trans e6) h4) h6 (q H6 (e'.trans (e5.trans e6)))
end
end Lw
namespace Lw
open PySem PySem.Spec PyProof.Rows L2 Evl

local macro_rules | `(tactic| walk_at "go") => `(tactic| repeat (first
  | with_reducible refine st_seq ?_ | with_reducible refine st_set ?_ | with_reducible refine st_asg ?_ | with_reducible refine st_ret ?_ | with_reducible refine st_drop ?_ | with_reducible refine st_if ?_
  | with_reducible refine st_c ?_ | ((with_reducible refine' st_v ?h ?_); (case h => exact rfl)) | with_reducible refine st_n ?_ | with_reducible refine st_cons ?_ | with_reducible refine st_op ?_ | with_reducible refine st_un ?_
  | with_reducible refine st_cb ?_ | with_reducible refine st_test ?_ | with_reducible refine st_call ?_ | with_reducible refine st_callK ?_ | with_reducible refine st_sl ?_ | with_reducible refine st_par ?_ | with_reducible refine st_tru ?_
  | with_reducible refine st_and ?_ | with_reducible refine st_or ?_ | with_reducible refine st_not ?_ | with_reducible refine st_B ?_ | with_reducible refine st_andV ?_ | with_reducible refine st_orV ?_ | with_reducible refine st_notV ?_ | with_reducible refine st_ifE ?_
  | with_reducible refine st_part ?_ | with_reducible refine st_nop ?_ | with_reducible refine st_sub ?_ | with_reducible refine st_chain ?_ | with_reducible refine st_bl ?_ | with_reducible refine st_in ?_ | with_reducible refine r_truB ?_
  | with_reducible refine st_nameG ?_ | with_reducible refine if_T ?_ | with_reducible refine if_F ?_ | with_reducible refine if_nT ?_ | with_reducible refine if_nF ?_
  | with_reducible refine r_add ?_ | with_reducible refine r_0 ?_ | with_reducible refine r_neg ?_ | with_reducible refine r_intI ?_ | with_reducible refine r_intB ?_ | with_reducible refine r_abs ?_ | with_reducible refine r_max2 ?_ | with_reducible refine r_min2 ?_ | with_reducible refine r_eqI ?_ | with_reducible refine r_neI ?_
  | with_reducible refine st_nxt ?_ | with_reducible refine st_cnt ?_ | with_reducible refine st_brk ?_ | with_reducible refine st_retn ?_
  | with_reducible refine st_lstN ?_ | with_reducible refine st_tupN ?_
  | with_reducible refine st_for ?_ | with_reducible refine st_lc ?_ | with_reducible refine st_rng1 ?_ | with_reducible refine st_rng2 ?_ | with_reducible refine st_itL ?_ | with_reducible refine st_itT ?_ | with_reducible refine st_rev ?_ | with_reducible refine st_bm ?_ | with_reducible refine st_bm0 ?_
  | ((with_reducible refine' st_aug ?h ?_); (case h => exact rfl)) | with_reducible refine r_augI ?_ | with_reducible refine r_eqB ?_
  | dsimp only))
section
variable {P : Program} {w : World} {K : PySem.W.Frag} {mg : Str → Option Value} {base : Heap} {A : Ad}

theorem om_ex {u : List Int} (h : u ≠ []) : ∃ l, Fg.Om u l := by
  have go : ∀ (d k : Nat), u.length - k = d → 1 ≤ k → k ≤ u.length → (∀ j, 1 ≤ j → j < k → ¬ Fg.Per u j) → ∃ l, Fg.Om u l := by
    intro d
    induction d with
    | zero =>
      intro k hd h1 h2 h3
      have e : k = u.length := by omega
      refine ⟨k, h1, h2, ?_, h3⟩
      rw [e]
      exact Fg.per_full u h
    | succ d ih =>
      intro k hd h1 h2 h3
      by_cases hp : Fg.Per u k
      · exact ⟨k, h1, h2, hp, h3⟩
      · refine ih (k + 1) (by omega) (by omega) (by omega) fun j a b => ?_
        rcases Nat.lt_or_ge j k with z | z
        · exact h3 j a z
        · have : j = k := by omega
          rw [this]
          exact hp
  have hp : 0 < u.length := List.length_pos_iff.mpr h
  exact go _ 1 rfl (Nat.le_refl _) hp fun j a b => absurd b (by omega)
def sp__law_straight (K : PySem.W.Frag) : Sp := fun vs H Q _ => ∃ a ns, vs = [.ref a] ∧ IT K H a ns ∧ ns.length ≤ 4000 ∧ ∀ p H1, Ex H H1 → IT K H1 p (Fg.rd ns) → Q (.ref p) H1
theorem ok__law_straight (T : Tx K mg A) : FnOk P w K mg base CX0 2 A.a__law_straight A.f__law_straight P__law_straight (sp__law_straight K) := by
  refine T.F__law_straight.ok sc__law_straight (fun vs H Q E h => ?_) (fun cdv A' outer s H vs Q E hr h => ?_)
  · obtain ⟨a, ns, rfl, _⟩ := h
    rfl
  · obtain ⟨a, ns, rfl, ha, hz, q⟩ := h
    refine ⟨_, (pss_cons (ps_set (i := 1) sc__law_straight.nd rfl (Or.inl rfl) (pe_tup pa_nil))
      (pss_cons (ps_for PassesOwn.never rfl (pi_tupK K (pv 0)) (pg_name (i := 2) sc__law_straight.nd rfl (Or.inl rfl)) (pss_one (ps_set (i := 1) sc__law_straight.nd rfl (Or.inl rfl) (pe_call (ok__law_joined T) (hr.mono (by decide)) (by rfl) T.g__law_joined T.F__law_joined.kp T.b__law_joined .nil pass0 (pa_cons (pv 1) (pa_cons (pe_tup (pa_cons (pv 2) pa_nil)) pa_nil))))))
      (pss_one (ps_ret (pv 1))))), ?_⟩
    walk_at "go"
    refine r_newT (by simp) fun c H1 _ e1 h1 => ?_
    walk_at "go"
    refine r_itT (ex_t e1 ha) (r_forT (xs := ns.map V.int) (fun i σ' H' => ∃ d v, Ex H H' ∧ σ' = [some (.ref a), some (.ref d), v] ∧ IT K H' d (Fg.rd (ns.take i))) ⟨c, none, e1, rfl, t_of h1⟩ (fun i σ' H' _ p => ?_) (fun i x σ' H' hx p => ?_) (fun σ' H' p => ?_))
    · obtain ⟨d, v, e, _, _⟩ := p
      exact ex_t e ha
    · obtain ⟨d, v, e, rfl, hd⟩ := p
      rw [List.getElem?_map] at hx
      cases hn : ns[i]? with
      | none => rw [hn] at hx; cases hx
      | some z =>
        rw [hn] at hx
        cases hx
        walk_at "go"
        refine r_newT (by simp) fun f H2 _ e2 h2 => ?_
        walk_at "go"
        have hf : IT K H2 f [z] := t_of h2
        have hi := (List.getElem?_eq_some_iff.mp hn).1
        refine ⟨d, f, _, [z], rfl, ex_t e2 hd, hf, Nat.le_trans (Fg.rd_len _) (by rw [List.length_take]; omega), by simp, Fg.str_rd _, str_one z, fun p H3 e3 h3 => ?_⟩
        walk_at "go"
        refine ⟨p, _, (e.trans e2).trans e3, rfl, ?_⟩
        rw [take_snoc hn, ← Fg.rd_app_l]
        exact h3
    · obtain ⟨d, v, e, rfl, hd⟩ := p
      rw [List.length_map, List.take_length] at hd
      walk_at "go"
      exact q d H' e hd
def sp__law_core (K : PySem.W.Frag) : Sp := fun vs H Q _ => ∃ a ns, vs = [.ref a] ∧ IT K H a ns ∧ ns.length ≤ 4000 ∧ Fg.Str ns ∧ ∀ p H1, Ex H H1 → P2 K H1 p (Fg.lead ns) (Fg.mid ns) → Q (.ref p) H1
/-- a lead of s steps, and what is between -/
def cutAt (ns : List Int) (s : Nat) : List Int := (ns.drop s).take (ns.length - s - s)
theorem ok__law_core (T : Tx K mg A) : FnOk P w K mg base CX0 2 A.a__law_core A.f__law_core P__law_core (sp__law_core K) := by
  refine T.F__law_core.ok sc__law_core (fun vs H Q E h => ?_) (fun cdv A' outer s H vs Q E hr h => ?_)
  · obtain ⟨a, ns, rfl, _⟩ := h
    rfl
  · obtain ⟨a, ns, rfl, ha, hz, hs, q⟩ := h
    refine ⟨_, (pss_cons (ps_set (i := 1) sc__law_core.nd rfl (Or.inl rfl) (pe_tup (pa_cons (pe_tup pa_nil) (pa_cons (pv 0) pa_nil))))
      (pss_cons (ps_for PassesOwn.never rfl (pi_range2 (by rfl) T.n_range (pa_cons pe_int (pa_cons (pe_op op_fdivW (pe_op (op_addK K) (pe_callB (len_K K) (by rfl) T.n_len (by decide +kernel) (pa_cons (pv 0) pa_nil)) pe_int) pe_int) pa_nil))) (pg_name (i := 2) sc__law_core.nd rfl (Or.inl rfl)) (pss_one (ps_if (pt_cmpR (op_eqK K hr.units) (pe_slice (sl_K K) (pv 0) po_none (po_some (pv 2))) (pe_call (ok__law_back T) (hr.mono (by decide)) (by rfl) T.g__law_back T.F__law_back.kp T.b__law_back .nil pass0 (pa_cons (pe_slice (sl_K K) (pv 0) (po_some (pe_op op_sub (pe_callB (len_K K) (by rfl) T.n_len (by decide +kernel) (pa_cons (pv 0) pa_nil)) (pv 2))) po_none) pa_nil)) (nomark _)) (pss_one (ps_set (i := 1) sc__law_core.nd rfl (Or.inl rfl) (pe_tup (pa_cons (pe_slice (sl_K K) (pv 0) po_none (po_some (pv 2))) (pa_cons (pe_slice (sl_K K) (pv 0) (po_some (pv 2)) (po_some (pe_op op_sub (pe_callB (len_K K) (by rfl) T.n_len (by decide +kernel) (pa_cons (pv 0) pa_nil)) (pv 2)))) pa_nil))))) pss_nil)))
      (pss_one (ps_ret (pv 1))))), ?_⟩
    walk_at "go"
    refine r_newT (by simp) fun c H1 _ e1 h1 => ?_
    walk_at "go"
    refine r_newT (by simp) fun d H2 _ e2 h2 => ?_
    walk_at "go"
    refine r_lenT (ex_t (e1.trans e2) ha) ?_
    walk_at "go"
    rw [List.length_map]
    refine r_div (b := 2) (by decide) (by decide) (by decide) (by decide) ?_
    walk_at "go"
    have hm : (((ns.length : Int) + 1) / 2 - 1).toNat = (ns.length + 1) / 2 - 1 := by omega
    refine r_rng2 ⟨by omega, by omega, by omega, by omega⟩ ?_
    rw [hm]
    refine r_forR (lo := 1) (m := (ns.length + 1) / 2 - 1) (fun i σ' H' => ∃ (d : Addr) (v : Option V), Ex H H' ∧ σ' = [some (.ref a), some (.ref d), v] ∧ P2 K H' d (ns.take (min i (Fg.ld ns))) (cutAt ns (min i (Fg.ld ns)))) ⟨d, none, e1.trans e2, rfl, ⟨c, a, t_of h2, ?_, ?_⟩⟩ (fun i σ' H' hi p => ?_) (fun σ' H' p => ?_)
    · rw [Nat.zero_min]
      exact t_of (e2 _ _ h1)
    · rw [Nat.zero_min]
      unfold cutAt
      rw [List.drop_zero, List.take_of_length_le (by omega)]
      exact ex_t (e1.trans e2) ha
    · obtain ⟨d, v, e, rfl, hd⟩ := p
      have k1 : (1 + (i : Int)).toNat = i + 1 := by omega
      walk_at "go"
      refine r_slT (ex_t e ha) fun f H3 e3 h3 => ?_
      rw [cut_to (by omega), k1] at h3
      walk_at "go"
      refine r_lenT (ex_t (e.trans e3) ha) ?_
      walk_at "go"
      rw [List.length_map]
      refine r_slT (ex_t (e.trans e3) ha) fun g H4 e4 h4 => ?_
      rw [cut_from (by omega), show ((ns.length : Int) - (1 + (i : Int))).toNat = ns.length - (i + 1) by omega] at h4
      walk_at "go"
      refine ⟨g, _, rfl, h4, by rw [List.length_drop]; omega, fun b H5 e5 h5 => ?_⟩
      have e' := ((e.trans e3).trans e4).trans e5
      refine r_eqT (ex_t (e4.trans e5) h3) h5 ?_
      walk_at "go"
      have hiff := Fg.take_bk_ld (u := ns) (s := i + 1) (by omega)
      refine if_2 (fun h0 => ?_) fun h0 => ?_
      · have hle := hiff.mp h0
        walk_at "go"
        refine r_slT (ex_t e' ha) fun f2 H6 e6 h6 => ?_
        rw [cut_to (by omega), k1] at h6
        walk_at "go"
        refine r_lenT (ex_t (e'.trans e6) ha) ?_
        walk_at "go"
        rw [List.length_map]
        refine r_slT (ex_t (e'.trans e6) ha) fun g2 H7 e7 h7 => ?_
        rw [cut_mid (by omega) (by omega) (by omega), k1, show ((ns.length : Int) - (1 + (i : Int))).toNat - (i + 1) = ns.length - (i + 1) - (i + 1) by omega] at h7
        walk_at "go"
        refine r_newT (by simp) fun y H8 _ e8 h8 => ?_
        walk_at "go"
        have hmin : min (i + 1) (Fg.ld ns) = i + 1 := Nat.min_eq_left hle
        refine ⟨y, _, ((e'.trans e6).trans e7).trans e8, rfl, ?_⟩
        rw [hmin]
        exact ⟨f2, g2, t_of h8, ex_t (e7.trans e8) h6, ex_t e8 h7⟩
      · have hlt : Fg.ld ns ≤ i := by
          refine Nat.le_of_not_lt fun z => h0 (hiff.mpr z)
        walk_at "go"
        refine ⟨d, _, e', rfl, ?_⟩
        rw [Nat.min_eq_right (by omega : Fg.ld ns ≤ i + 1)]
        rw [Nat.min_eq_right hlt] at hd
        exact hd.mono ((e3.trans e4).trans e5)
    · obtain ⟨d, v, e, rfl, hd⟩ := p
      walk_at "go"
      refine q d H' e ?_
      have hmin : min ((ns.length + 1) / 2 - 1) (Fg.ld ns) = Fg.ld ns := by
        rcases List.eq_nil_or_concat ns with z | z
        · have := Fg.ld_le ns
          rw [z] at this ⊢
          simp at this
          rw [this]
          exact Nat.min_zero _
        · have hne : ns ≠ [] := fun z2 => by
            obtain ⟨_, _, z⟩ := z
            rw [z2] at z
            simp at z
          have := Fg.ld_str hs hne
          have hp : 0 < ns.length := List.length_pos_iff.mpr hne
          omega
      rw [hmin] at hd
      exact hd
def sp__law_root (K : PySem.W.Frag) : Sp := fun vs H Q _ => ∃ a ns, vs = [.ref a] ∧ IT K H a ns ∧ ns.length ≤ 1000 ∧ Fg.Str ns ∧ ∀ p u t H1, Ex H H1 → RootIs ns u t → P1N K H1 p u t → Q (.ref p) H1
theorem ok__law_root (T : Tx K mg A) : FnOk P w K mg base CX0 3 A.a__law_root A.f__law_root P__law_root (sp__law_root K) := by
  refine T.F__law_root.ok sc__law_root (fun vs H Q E h => ?_) (fun cdv A' outer s H vs Q E hr h => ?_)
  · obtain ⟨a, ns, rfl, _⟩ := h
    rfl
  · obtain ⟨a, ns, rfl, ha, hz, hs, q⟩ := h
    refine ⟨_, (pss_cons (ps_asg (pe_call (ok__law_core T) (hr.mono (by decide)) (by rfl) T.g__law_core T.F__law_core.kp T.b__law_core .nil pass0 (pa_cons (pv 0) pa_nil)) (pg_tupK K (by rfl) (pgs_cons (pg_name (i := 1) sc__law_root.nd rfl (Or.inl rfl)) (pgs_cons (pg_name (i := 2) sc__law_root.nd rfl (Or.inl rfl)) pgs_nil))))
      (pss_cons (ps_set (i := 3) sc__law_root.nd rfl (Or.inl rfl) (pe_tup (pa_cons (pe_tup pa_nil) (pa_cons pe_int pa_nil))))
      (pss_cons (ps_for PassesOwn.never rfl (pi_range2 (by rfl) T.n_range (pa_cons pe_int (pa_cons (pe_op (op_addK K) (pe_callB (len_K K) (by rfl) T.n_len (by decide +kernel) (pa_cons (pv 2) pa_nil)) pe_int) pa_nil))) (pg_name (i := 4) sc__law_root.nd rfl (Or.inl rfl)) (pss_cons (ps_set (i := 5) sc__law_root.nd rfl (Or.inl rfl) (pe_slice (sl_K K) (pv 2) po_none (po_some (pe_op op_fdivW (pe_callB (len_K K) (by rfl) T.n_len (by decide +kernel) (pa_cons (pv 2) pa_nil)) (pv 4)))))
      (pss_one (ps_if (pt_cmpR (op_eqK K hr.units) (pe_op (op_mulK K) (pv 5) (pv 4)) (pv 2) (nomark _)) (pss_one (ps_set (i := 3) sc__law_root.nd rfl (Or.inl rfl) (pe_tup (pa_cons (pe_op (op_addK K) (pe_op (op_addK K) (pv 1) (pv 5)) (pe_call (ok__law_back T) (hr.mono (by decide)) (by rfl) T.g__law_back T.F__law_back.kp T.b__law_back .nil pass0 (pa_cons (pv 1) pa_nil))) (pa_cons (pv 4) pa_nil))))) pss_nil))))
      (pss_one (ps_ret (pv 3)))))), ?_⟩
    walk_at "go"
    refine ⟨a, ns, rfl, ha, by omega, hs, fun p H1 e1 h1 => ?_⟩
    obtain ⟨b, c, hp, hb, hc⟩ := h1.ex
    walk_at "go"
    refine r_tup2 hp ?_
    walk_at "go"
    refine r_newT (by simp) fun z H2 _ e2 h2 => ?_
    walk_at "go"
    refine r_newT (by simp) fun y H3 _ e3 h3 => ?_
    have e0 := (e1.trans e2).trans e3
    have hll := lead_len ns
    have hml := mid_len ns
    have hb3 := ex_t (e2.trans e3) hb
    have hc3 := ex_t (e2.trans e3) hc
    generalize hmm : Fg.mid ns = mm at hc3 hml
    generalize hld : Fg.lead ns = ll at hb3 hll
    clear hb hc h1
    walk_at "go"
    refine r_lenT hc3 ?_
    walk_at "go"
    rw [List.length_map]
    have hm : ((mm.length : Int) + 1 - 1).toNat = mm.length := by omega
    refine r_rng2 ⟨by omega, by omega, by omega, by omega⟩ ?_
    rw [hm]
    refine r_forR (lo := 1) (m := mm.length) (fun i σ' H' => ∃ (d : Addr) (v4 v5 : Option V), Ex H3 H' ∧ σ' = [some (.ref a), some (.ref b), some (.ref c), some (.ref d), v4, v5] ∧
      ((i = 0 ∧ P1N K H' d [] 0) ∨ ∃ t : Nat, 1 ≤ t ∧ t ≤ i ∧ Fg.Tm mm t ∧ (∀ t', t < t' → t' ≤ i → ¬ Fg.Tm mm t') ∧ P1N K H' d (ll ++ mm.take (mm.length / t) ++ Fg.bk ll) (t : Int)))
      ⟨y, none, none, Ex.refl H3, rfl, .inl ⟨rfl, ⟨z, t_of h3, t_of (e3 _ _ h2)⟩⟩⟩ (fun i σ' H' hi p => ?_) (fun σ' H' p => ?_)
    · obtain ⟨d, v4, v5, e, rfl, hd⟩ := p
      have k1 : (1 + (i : Int)) = ((i + 1 : Nat) : Int) := by omega
      walk_at "go"
      refine r_lenT (ex_t e hc3) ?_
      walk_at "go"
      rw [List.length_map]
      refine r_div (b := 20) (by omega) (by omega) (by decide) (by decide) ?_
      walk_at "go"
      have hq : ((mm.length : Int) / (1 + (i : Int))) = ((mm.length / (i + 1) : Nat) : Int) := by rw [k1, ← Int.natCast_ediv]
      rw [hq]
      refine r_slT (ex_t e hc3) fun f H4 e4 h4 => ?_
      rw [cut_to (Int.natCast_nonneg _), Int.toNat_natCast] at h4
      walk_at "go"
      have hdl : mm.length / (i + 1) ≤ mm.length := Nat.div_le_self _ _
      refine r_repT h4 (by omega) (by omega) (by rw [List.length_map, List.length_take, Nat.min_eq_left hdl]; omega) fun g H5 e5 h5 => ?_
      have hf : (List.replicate (1 + (i : Int)).toNat ((mm.take (mm.length / (i + 1))).map V.int)).flatten = (Fg.rep (i + 1) (mm.take (mm.length / (i + 1)))).map V.int := by
        rw [k1, ← Fg.rep_flat, Int.toNat_natCast]
        simp [List.map_flatten]
      rw [hf] at h5
      have e' := (e.trans e4).trans e5
      walk_at "go"
      refine r_eqT h5 (ex_t e' hc3) ?_
      walk_at "go"
      refine if_2 (fun h0 => ?_) fun h0 => ?_
      · walk_at "go"
        refine r_catT (ex_t e' hb3) (ex_t e5 h4) (by simp; omega) fun k H6 e6 h6 => ?_
        walk_at "go"
        refine ⟨b, ll, rfl, ex_t (e'.trans e6) hb3, by omega, fun n H7 e7 h7 => ?_⟩
        refine r_catT (ex_t e7 h6) h7 (by simp [Fg.bk_len]; omega) fun o H8 e8 h8 => ?_
        walk_at "go"
        refine r_newT (by simp) fun r H9 _ e9 h9 => ?_
        walk_at "go"
        rw [← List.map_append, ← List.map_append] at h8
        rw [k1] at h9
        refine ⟨r, _, _, (((e'.trans e6).trans e7).trans e8).trans e9, rfl, .inr ⟨i + 1, by omega, Nat.le_refl _, h0, fun t' h1 h2 => absurd h2 (by omega), ⟨o, t_of h9, ex_t e9 h8⟩⟩⟩
      · walk_at "go"
        refine ⟨d, _, _, e', rfl, ?_⟩
        rcases hd with ⟨h1, _⟩ | ⟨t, t1, t2, t3, t4, t5⟩
        · subst h1
          exact absurd (Fg.tm_one mm) h0
        · refine .inr ⟨t, t1, by omega, t3, fun t' a1 a2 => ?_, t5.mono (e4.trans e5)⟩
          rcases Nat.lt_or_ge i t' with z | z
          · have : t' = i + 1 := by omega
            rw [this]
            exact h0
          · exact t4 t' a1 z
    · obtain ⟨d, v4, v5, e, rfl, hd⟩ := p
      walk_at "go"
      rcases hd with ⟨h1, h2⟩ | ⟨t, t1, t2, t3, t4, t5⟩
      · have hn : mm = [] := List.eq_nil_of_length_eq_zero h1
        exact q d [] 0 H' (e0.trans e) (.inl ⟨by rw [hmm, hn], rfl, rfl⟩) h2
      · have hne : mm ≠ [] := fun z => by
          rw [z] at t2
          simp at t2
          omega
        obtain ⟨l, ho⟩ := om_ex hne
        obtain ⟨o1, o2, o3, o4⟩ := Fg.om_tm ho
        have hle := Fg.tm_le ho t3 t1 t2
        have heq : t = mm.length / l := by
          rcases Nat.lt_or_ge t (mm.length / l) with z | z
          · exact absurd o1 (t4 _ z o4)
          · omega
        refine q d _ _ H' (e0.trans e) (.inr ⟨by rw [hmm]; exact hne, l, by rw [hmm]; exact ho, rfl, rfl⟩) ?_
        rw [hmm, hld]
        rw [heq, o2] at t5
        exact t5
end
end Lw
namespace Lw
open PySem PySem.Spec PyProof.Rows L2 Evl

local macro_rules | `(tactic| walk_at "go") => `(tactic| repeat (first
  | with_reducible refine st_seq ?_ | with_reducible refine st_set ?_ | with_reducible refine st_asg ?_ | with_reducible refine st_ret ?_ | with_reducible refine st_drop ?_ | with_reducible refine st_if ?_
  | with_reducible refine st_c ?_ | ((with_reducible refine' st_v ?h ?_); (case h => exact rfl)) | with_reducible refine st_n ?_ | with_reducible refine st_cons ?_ | with_reducible refine st_op ?_ | with_reducible refine st_un ?_
  | with_reducible refine st_cb ?_ | with_reducible refine st_test ?_ | with_reducible refine st_call ?_ | with_reducible refine st_callK ?_ | with_reducible refine st_sl ?_ | with_reducible refine st_par ?_ | with_reducible refine st_tru ?_
  | with_reducible refine st_and ?_ | with_reducible refine st_or ?_ | with_reducible refine st_not ?_ | with_reducible refine st_B ?_ | with_reducible refine st_andV ?_ | with_reducible refine st_orV ?_ | with_reducible refine st_notV ?_ | with_reducible refine st_ifE ?_
  | with_reducible refine st_part ?_ | with_reducible refine st_nop ?_ | with_reducible refine st_sub ?_ | with_reducible refine st_chain ?_ | with_reducible refine st_bl ?_ | with_reducible refine st_in ?_ | with_reducible refine r_truB ?_
  | with_reducible refine st_nameG ?_ | with_reducible refine if_T ?_ | with_reducible refine if_F ?_ | with_reducible refine if_nT ?_ | with_reducible refine if_nF ?_
  | with_reducible refine r_add ?_ | with_reducible refine r_0 ?_ | with_reducible refine r_neg ?_ | with_reducible refine r_intI ?_ | with_reducible refine r_intB ?_ | with_reducible refine r_abs ?_ | with_reducible refine r_max2 ?_ | with_reducible refine r_min2 ?_ | with_reducible refine r_eqI ?_ | with_reducible refine r_neI ?_
  | with_reducible refine st_nxt ?_ | with_reducible refine st_cnt ?_ | with_reducible refine st_brk ?_ | with_reducible refine st_retn ?_
  | with_reducible refine st_lstN ?_ | with_reducible refine st_tupN ?_
  | with_reducible refine st_for ?_ | with_reducible refine st_lc ?_ | with_reducible refine st_rng1 ?_ | with_reducible refine st_rng2 ?_ | with_reducible refine st_itL ?_ | with_reducible refine st_itT ?_ | with_reducible refine st_rev ?_ | with_reducible refine st_bm ?_ | with_reducible refine st_bm0 ?_
  | ((with_reducible refine' st_aug ?h ?_); (case h => exact rfl)) | with_reducible refine r_augI ?_ | with_reducible refine r_eqB ?_
  | dsimp only))
section
variable {P : Program} {w : World} {K : PySem.W.Frag} {mg : Str → Option Value} {base : Heap} {A : Ad}

def sp__law_pair (K : PySem.W.Frag) : Sp := fun vs H Q _ => ∃ a b u v, vs = [.ref a, .ref b] ∧ P2 K H a u v ∧ P2 K H b u v ∧ u.length ≤ 5000 ∧ v.length ≤ 5000 ∧ ∀ H1, Ex H H1 → Q (.bl true) H1
theorem ok__law_pair (T : Tx K mg A) : FnOk P w K mg base CX0 2 A.a__law_pair A.f__law_pair P__law_pair (sp__law_pair K) := by
  refine T.F__law_pair.ok sc__law_pair (fun vs H Q E h => ?_) (fun cdv A' outer s H vs Q E hr h => ?_)
  · obtain ⟨a, b, u, v, rfl, _⟩ := h
    rfl
  · obtain ⟨a, b, u, v, rfl, ⟨a1, a2, ha, ha1, ha2⟩, ⟨b1, b2, hb, hb1, hb2⟩, zu, zv, q⟩ := h
    refine ⟨_, (pss_cons (ps_if (PW.pt (pw_or (pt_not (pt_truK K (pe_callB (isi_K K) (by rfl) T.n_isinstance (by decide +kernel) (pa_cons (pv 0) (pa_cons (pe_bltn (v := .ty "tuple") (by rfl) T.n_tuple (by decide +kernel) rfl) pa_nil))))) (pw_or1 (pt_cmpR (op_neK K hr.units) (pe_callB (len_K K) (by rfl) T.n_len (by decide +kernel) (pa_cons (pv 0) pa_nil)) pe_int (nomark _))))) (pss_one (ps_ret pe_bl)) pss_nil)
      (pss_one (ps_ret (pe_and (pe_call (ok__law_is T) (hr.mono (by decide)) (by rfl) T.g__law_is T.F__law_is.kp T.b__law_is .nil pass0 (pa_cons (pe_ix (ix_K K) (pv 0) pe_int (fun _ _ => rfl)) (pa_cons (pe_ix (ix_K K) (pv 1) pe_int (fun _ _ => rfl)) pa_nil))) (pe_one (pe_call (ok__law_is T) (hr.mono (by decide)) (by rfl) T.g__law_is T.F__law_is.kp T.b__law_is .nil pass0 (pa_cons (pe_ix (ix_K K) (pv 0) pe_int (fun _ _ => rfl)) (pa_cons (pe_ix (ix_K K) (pv 1) pe_int (fun _ _ => rfl)) pa_nil)))))))), ?_⟩
    walk_at "go"
    refine r_isiT (b := true) ha (kit_ty (by decide +kernel)) ?_
    walk_at "go"
    refine r_lenT ha ?_
    walk_at "go"
    rw [show (!decide ((([V.ref a1, V.ref a2].length : Nat) : Int) = 2)) = false from rfl]
    walk_at "go"
    refine r_ixT ha (v := .ref a1) rfl ?_
    walk_at "go"
    refine r_ixT hb (v := .ref b1) rfl ?_
    walk_at "go"
    refine ⟨a1, b1, u, rfl, ha1, hb1, zu, fun H1 e1 => ?_⟩
    walk_at "go"
    refine r_ixT (ex_t e1 ha) (v := .ref a2) rfl ?_
    walk_at "go"
    refine r_ixT (ex_t e1 hb) (v := .ref b2) rfl ?_
    walk_at "go"
    exact ⟨a2, b2, v, rfl, ex_t e1 ha2, ex_t e1 hb2, zv, fun H2 e2 => q H2 (e1.trans e2)⟩
def sp__law_counted (K : PySem.W.Frag) : Sp := fun vs H Q _ => ∃ a b u t, vs = [.ref a, .ref b] ∧ P1N K H a u t ∧ P1N K H b u t ∧ u.length ≤ 5000 ∧ ∀ H1, Ex H H1 → Q (.bl true) H1
theorem ok__law_counted (T : Tx K mg A) : FnOk P w K mg base CX0 2 A.a__law_counted A.f__law_counted P__law_counted (sp__law_counted K) := by
  refine T.F__law_counted.ok sc__law_counted (fun vs H Q E h => ?_) (fun cdv A' outer s H vs Q E hr h => ?_)
  · obtain ⟨a, b, u, t, rfl, _⟩ := h
    rfl
  · obtain ⟨a, b, u, t, rfl, ⟨a1, ha, ha1⟩, ⟨b1, hb, hb1⟩, zu, q⟩ := h
    refine ⟨_, (pss_cons (ps_if (PW.pt (pw_or (pt_not (pt_truK K (pe_callB (isi_K K) (by rfl) T.n_isinstance (by decide +kernel) (pa_cons (pv 0) (pa_cons (pe_bltn (v := .ty "tuple") (by rfl) T.n_tuple (by decide +kernel) rfl) pa_nil))))) (pw_or (pt_cmpR (op_neK K hr.units) (pe_callB (len_K K) (by rfl) T.n_len (by decide +kernel) (pa_cons (pv 0) pa_nil)) pe_int (nomark _)) (pw_or1 (pt_not (pt_truK K (pe_call (ok__law_is T) (hr.mono (by decide)) (by rfl) T.g__law_is T.F__law_is.kp T.b__law_is .nil pass0 (pa_cons (pe_ix (ix_K K) (pv 0) pe_int (fun _ _ => rfl)) (pa_cons (pe_ix (ix_K K) (pv 1) pe_int (fun _ _ => rfl)) pa_nil))))))))) (pss_one (ps_ret pe_bl)) pss_nil)
      (pss_one (ps_ret (pe_and (pe_callB (isi_K K) (by rfl) T.n_isinstance (by decide +kernel) (pa_cons (pe_ix (ix_K K) (pv 0) pe_int (fun _ _ => rfl)) (pa_cons (pe_bltn (v := .ty "int") (by rfl) T.n_int (by decide +kernel) rfl) pa_nil))) (pe_and (pe_not (pe_callB (isi_K K) (by rfl) T.n_isinstance (by decide +kernel) (pa_cons (pe_ix (ix_K K) (pv 0) pe_int (fun _ _ => rfl)) (pa_cons (pe_bltn (v := .ty "bool") (by rfl) T.n_bool (by decide +kernel) rfl) pa_nil)))) (pe_one (pe_cmpR (op_eqK K hr.units) (pe_ix (ix_K K) (pv 0) pe_int (fun _ _ => rfl)) (pe_ix (ix_K K) (pv 1) pe_int (fun _ _ => rfl)) (nomark _)))))))), ?_⟩
    walk_at "go"
    refine r_isiT (b := true) ha (kit_ty (by decide +kernel)) ?_
    walk_at "go"
    refine r_lenT ha ?_
    walk_at "go"
    rw [show (!decide ((([V.ref a1, V.int t].length : Nat) : Int) = 2)) = false from rfl]
    walk_at "go"
    refine r_ixT ha (v := .ref a1) rfl ?_
    walk_at "go"
    refine r_ixT hb (v := .ref b1) rfl ?_
    walk_at "go"
    refine ⟨a1, b1, u, rfl, ha1, hb1, zu, fun H1 e1 => ?_⟩
    walk_at "go"
    refine r_ixT (ex_t e1 ha) (v := .int t) rfl ?_
    walk_at "go"
    refine r_isiI (b := true) (kit_ty (by decide +kernel)) ?_
    walk_at "go"
    refine r_ixT (ex_t e1 ha) (v := .int t) rfl ?_
    walk_at "go"
    refine r_isiI (b := false) (kit_ty (by decide +kernel)) ?_
    walk_at "go"
    refine r_ixT (ex_t e1 ha) (v := .int t) rfl ?_
    walk_at "go"
    refine r_ixT (ex_t e1 hb) (v := .int t) rfl ?_
    walk_at "go"
    rw [decide_eq_true (rfl : t = t)]
    exact q H1 e1
def sp__law_shown (K : PySem.W.Frag) : Sp := fun vs H Q _ => ∃ a ns, vs = [.ref a] ∧ IT K H a ns ∧ ns.length ≤ 400 ∧ Stp 4 ns ∧ ∀ H1, Ex H H1 → Q (.bl true) H1
theorem ok__law_shown (T : Tx K mg A) : FnOk P w K mg base CX0 6 A.a__law_shown A.f__law_shown P__law_shown (sp__law_shown K) := by
  refine T.F__law_shown.ok sc__law_shown (fun vs H Q E h => ?_) (fun cdv A' outer s H vs Q E hr h => ?_)
  · obtain ⟨a, ns, rfl, _⟩ := h
    rfl
  · obtain ⟨a, ns, rfl, ha, hz, hs, q⟩ := h
    refine ⟨_, (pss_cons (ps_set (i := 1) sc__law_shown.nd rfl (Or.inl rfl) (pe_call (ok__law_straight T) (hr.mono (by decide)) (by rfl) T.g__law_straight T.F__law_straight.kp T.b__law_straight .nil pass0 (pa_cons (pv 0) pa_nil)))
      (pss_cons (ps_if (PW.pt (pw_or (pt_not (pt_truK K (pe_call (ok__law_pair T) (hr.mono (by decide)) (by rfl) T.g__law_pair T.F__law_pair.kp T.b__law_pair .nil pass0 (pa_cons (pe_call (ok_core T) (hr.mono (by decide)) (by rfl) T.g_core T.F_core.kp T.b_core .nil pass0 (pa_cons (pv 0) pa_nil)) (pa_cons (pe_call (ok__law_core T) (hr.mono (by decide)) (by rfl) T.g__law_core T.F__law_core.kp T.b__law_core .nil pass0 (pa_cons (pv 1) pa_nil)) pa_nil))))) (pw_or1 (pt_not (pt_truK K (pe_call (ok__law_counted T) (hr.mono (by decide)) (by rfl) T.g__law_counted T.F__law_counted.kp T.b__law_counted .nil pass0 (pa_cons (pe_call (ok_root T) (hr.mono (by decide)) (by rfl) T.g_root T.F_root.kp T.b_root .nil pass0 (pa_cons (pv 0) pa_nil)) (pa_cons (pe_call (ok__law_root T) (hr.mono (by decide)) (by rfl) T.g__law_root T.F__law_root.kp T.b__law_root .nil pass0 (pa_cons (pv 1) pa_nil)) pa_nil)))))))) (pss_one (ps_ret pe_bl)) pss_nil)
      (pss_one (ps_ret (pe_and (pe_call (ok__law_pair T) (hr.mono (by decide)) (by rfl) T.g__law_pair T.F__law_pair.kp T.b__law_pair .nil pass0 (pa_cons (pe_callK0 (ok_core T) (hr.mono (by decide)) (by rfl) T.g_core T.F_core.kp (kb_core_walk T.F_core) pass0 (pk_cons (pv 1) pk_nil)) (pa_cons (pe_call (ok__law_core T) (hr.mono (by decide)) (by rfl) T.g__law_core T.F__law_core.kp T.b__law_core .nil pass0 (pa_cons (pv 1) pa_nil)) pa_nil))) (pe_one (pe_call (ok__law_counted T) (hr.mono (by decide)) (by rfl) T.g__law_counted T.F__law_counted.kp T.b__law_counted .nil pass0 (pa_cons (pe_callK0 (ok_root T) (hr.mono (by decide)) (by rfl) T.g_root T.F_root.kp (kb_root_walk T.F_root) pass0 (pk_cons (pv 1) pk_nil)) (pa_cons (pe_call (ok__law_root T) (hr.mono (by decide)) (by rfl) T.g__law_root T.F__law_root.kp T.b__law_root .nil pass0 (pa_cons (pv 1) pa_nil)) pa_nil))))))))), ?_⟩
    have hl : (Fg.rd ns).length ≤ 400 := Nat.le_trans (Fg.rd_len _) hz
    have hll := lead_len (Fg.rd ns)
    have hml := mid_len (Fg.rd ns)
    have rr : Fg.rd (Fg.rd ns) = Fg.rd ns := Fg.rd_rd ns
    walk_at "go"
    refine ⟨a, ns, rfl, ha, by omega, fun b H1 e1 hb => ?_⟩
    walk_at "go"
    refine ⟨a, ns, rfl, ex_t e1 ha, by omega, hs, fun p H2 e2 hp => ?_⟩
    walk_at "go"
    refine ⟨b, _, rfl, ex_t e2 hb, by omega, Fg.str_rd _, fun p2 H3 e3 hp2 => ?_⟩
    walk_at "go"
    refine ⟨p, p2, _, _, rfl, hp.mono e3, hp2, by omega, by omega, fun H4 e4 => ?_⟩
    have e := (e2.trans e3).trans e4
    clear e2 e3 e4 hp hp2
    walk_at "go"
    refine ⟨a, ns, rfl, ex_t (e1.trans e) ha, by omega, hs, fun p3 u t H5 e5 ht hp => ?_⟩
    walk_at "go"
    refine ⟨b, _, rfl, ex_t (e.trans e5) hb, by omega, Fg.str_rd _, fun p4 u2 t2 H6 e6 ht2 hp2 => ?_⟩
    obtain ⟨rfl, rfl⟩ := rootIs_unique ht ht2
    have hu := root_len ht
    walk_at "go"
    refine ⟨p3, p4, _, _, rfl, hp.mono e6, hp2, by omega, fun H7 e7 => ?_⟩
    replace e := ((e.trans e5).trans e6).trans e7
    clear e5 e6 e7 hp hp2 ht ht2
    walk_at "go"
    refine ⟨b, _, rfl, ex_t e hb, by omega, stp_rd hs, fun p5 H8 e8 hp => ?_⟩
    rw [rr] at hp
    walk_at "go"
    refine ⟨b, _, rfl, ex_t (e.trans e8) hb, by omega, Fg.str_rd _, fun p6 H9 e9 hp2 => ?_⟩
    walk_at "go"
    refine ⟨p5, p6, _, _, rfl, hp.mono e9, hp2, by omega, by omega, fun H10 e10 => ?_⟩
    replace e := ((e.trans e8).trans e9).trans e10
    clear e8 e9 e10 hp hp2
    walk_at "go"
    refine ⟨b, _, rfl, ex_t e hb, by omega, stp_rd hs, fun p7 u t H11 e11 ht hp => ?_⟩
    rw [rr] at ht
    walk_at "go"
    refine ⟨b, _, rfl, ex_t (e.trans e11) hb, by omega, Fg.str_rd _, fun p8 u2 t2 H12 e12 ht2 hp2 => ?_⟩
    obtain ⟨rfl, rfl⟩ := rootIs_unique ht ht2
    have hu := root_len ht
    walk_at "go"
    exact ⟨p7, p8, _, _, rfl, hp.mono e12, hp2, by omega, fun H13 e13 => q H13 (e1.trans (e.trans (e11.trans (e12.trans e13))))⟩
def sp__law_commute (K : PySem.W.Frag) : Sp := fun vs H Q _ => ∃ a b ns ms, vs = [.ref a, .ref b] ∧ IT K H a ns ∧ IT K H b ms ∧ ns.length ≤ 400 ∧ ms.length ≤ 400 ∧ Stp 4 ns ∧ Stp 4 ms ∧ ∀ H1, Ex H H1 → Q (.bl true) H1
theorem ok__law_commute (T : Tx K mg A) : FnOk P w K mg base CX0 6 A.a__law_commute A.f__law_commute P__law_commute (sp__law_commute K) := by
  refine T.F__law_commute.ok sc__law_commute (fun vs H Q E h => ?_) (fun cdv A' outer s H vs Q E hr h => ?_)
  · obtain ⟨a, b, ns, ms, rfl, _⟩ := h
    rfl
  · obtain ⟨a, b, ns, ms, rfl, ha, hb, hza, hzb, sa, sb, q⟩ := h
    refine ⟨_, (pss_cons (ps_par (i := 2) (j := 3) (by rfl) sc__law_commute.nd rfl rfl (by decide) rfl rfl (pa_cons (pe_call (ok__law_straight T) (hr.mono (by decide)) (by rfl) T.g__law_straight T.F__law_straight.kp T.b__law_straight .nil pass0 (pa_cons (pv 0) pa_nil)) (pa_cons (pe_call (ok__law_straight T) (hr.mono (by decide)) (by rfl) T.g__law_straight T.F__law_straight.kp T.b__law_straight .nil pass0 (pa_cons (pv 1) pa_nil)) pa_nil)) (by rfl))
      (pss_cons (ps_set (i := 4) sc__law_commute.nd rfl (Or.inl rfl) (pe_cmpR (op_eqK K hr.units) (pe_call (ok__law_joined T) (hr.mono (by decide)) (by rfl) T.g__law_joined T.F__law_joined.kp T.b__law_joined .nil pass0 (pa_cons (pv 2) (pa_cons (pv 3) pa_nil))) (pe_call (ok__law_joined T) (hr.mono (by decide)) (by rfl) T.g__law_joined T.F__law_joined.kp T.b__law_joined .nil pass0 (pa_cons (pv 3) (pa_cons (pv 2) pa_nil))) (nomark _)))
      (pss_cons (ps_set (i := 5) sc__law_commute.nd rfl (Or.inl rfl) (pe_call (ok_commute T) (hr.mono (by decide)) (by rfl) T.g_commute T.F_commute.kp T.b_commute .nil pass0 (pa_cons (pv 0) (pa_cons (pv 1) pa_nil))))
      (pss_one (ps_ret (pe_and (pe_callB (isi_K K) (by rfl) T.n_isinstance (by decide +kernel) (pa_cons (pv 5) (pa_cons (pe_bltn (v := .ty "bool") (by rfl) T.n_bool (by decide +kernel) rfl) pa_nil))) (pe_and (pe_cmpR (op_eqK K hr.units) (pv 5) (pv 4) (nomark _)) (pe_one (pe_cmpR (op_eqK K hr.units) (pe_callK0 (ok_commute T) (hr.mono (by decide)) (by rfl) T.g_commute T.F_commute.kp (kb_commute_other_one T.F_commute) pass0 (pk_cons (pv 0) (pk_cons (pv 1) pk_nil))) (pv 4) (nomark _)))))))))), ?_⟩
    have hl1 := Fg.rd_len ns
    have hl2 := Fg.rd_len ms
    walk_at "go"
    refine ⟨a, ns, rfl, ha, by omega, fun c H1 e1 hc => ?_⟩
    walk_at "go"
    refine ⟨b, ms, rfl, ex_t e1 hb, by omega, fun d H2 e2 hd => ?_⟩
    walk_at "go"
    refine ⟨_, _, rfl, ?_⟩
    walk_at "go"
    refine ⟨c, d, _, _, rfl, ex_t e2 hc, hd, by omega, by omega, Fg.str_rd _, Fg.str_rd _, fun p H3 e3 hp => ?_⟩
    walk_at "go"
    refine ⟨d, c, _, _, rfl, ex_t e3 hd, ex_t (e2.trans e3) hc, by omega, by omega, Fg.str_rd _, Fg.str_rd _, fun p2 H4 e4 hp2 => ?_⟩
    rw [Fg.rd_app] at hp hp2
    refine r_eqT (ex_t e4 hp) hp2 ?_
    have e := ((e1.trans e2).trans e3).trans e4
    walk_at "go"
    refine ⟨a, ns, b, ms, rfl, ex_t e ha, ex_t e hb, by omega, by omega, sa, sb, fun H5 e5 => ?_⟩
    walk_at "go"
    refine ⟨_, _, _, _, true, rfl, .ty _, .base (.bl _), kit_ty (by decide +kernel), ?_⟩
    walk_at "go"
    rw [decide_eq_true (rfl : decide (Fg.rd (ns ++ ms) = Fg.rd (ms ++ ns)) = decide (Fg.rd (ns ++ ms) = Fg.rd (ms ++ ns)))]
    walk_at "go"
    refine ⟨b, ms, a, ns, rfl, ex_t (e.trans e5) hb, ex_t (e.trans e5) ha, by omega, by omega, sb, sa, fun H6 e6 => ?_⟩
    walk_at "go"
    have hsym : decide (Fg.rd (ms ++ ns) = Fg.rd (ns ++ ms)) = decide (Fg.rd (ns ++ ms) = Fg.rd (ms ++ ns)) := decide_eq_decide.mpr ⟨Eq.symm, Eq.symm⟩
    rw [decide_eq_true hsym]
    exact q H6 ((e.trans e5).trans e6)
def sp__law_wound (K : PySem.W.Frag) : Sp := fun vs H Q _ => ∃ w n l, vs = [.ref w, .int l] ∧ Well H w n ∧ n < 2 ^ 19 ∧ 1 ≤ l ∧ l ≤ 4 ∧ ∀ p ns H1, DrS w H (n + 262) H1 → IT K H1 p ns → Stp l ns → ns.length ≤ 60 → Q (.ref p) H1
theorem stp_app {l : Int} {u v : List Int} (h : Stp l u) (k : Stp l v) : Stp l (u ++ v) := fun x hx => (List.mem_append.mp hx).elim (h x) (k x)
theorem stp_rep {l : Int} {u : List Int} {k : Nat} (h : Stp l u) : Stp l (Fg.rep k u) := fun x hx => h x (Fg.mem_rep hx)
theorem stp_bkl {l : Int} {ns : List Int} (h : Stp l ns) : Stp l (Fg.bk ns) := fun x hx => by
  have := h _ (Fg.mem_bk hx)
  omega
theorem rep_map (k : Nat) (u : List Int) : (List.replicate k (u.map V.int)).flatten = (Fg.rep k u).map V.int := by
  rw [← Fg.rep_flat]
  simp [List.map_flatten]
theorem ok__law_wound (T : Tx K mg A) : FnOk P w K mg base CX0 3 A.a__law_wound A.f__law_wound P__law_wound (sp__law_wound K) := by
  refine T.F__law_wound.ok sc__law_wound (fun vs H Q E h => ?_) (fun cdv A' outer s H vs Q E hr h => ?_)
  · obtain ⟨w, n, l, rfl, _⟩ := h
    rfl
  · obtain ⟨w, n, l, rfl, hw, hn, hl1, hl4, q⟩ := h
    refine ⟨_, (pss_cons (ps_par (i := 2) (j := 3) (by rfl) sc__law_wound.nd rfl rfl (by decide) rfl rfl (pa_cons (pe_call (ok__law_walk T) (hr.mono (by decide)) (by rfl) T.g__law_walk T.F__law_walk.kp T.b__law_walk .nil pass0 (pa_cons (pv 0) (pa_cons (pv 1) (pa_cons pe_int pa_nil)))) (pa_cons (pe_call (ok__law_walk T) (hr.mono (by decide)) (by rfl) T.g__law_walk T.F__law_walk.kp T.b__law_walk .nil pass0 (pa_cons (pv 0) (pa_cons (pv 1) (pa_cons pe_int pa_nil)))) pa_nil)) (by rfl))
      (pss_cons (ps_set (i := 4) sc__law_wound.nd rfl (Or.inl rfl) (pe_op (op_addK K) pe_int (pe_call (ok__law_take T) (hr.mono (by decide)) (by rfl) T.g__law_take T.F__law_take.kp T.b__law_take .nil pass0 (pa_cons (pv 0) (pa_cons pe_int pa_nil)))))
      (pss_one (ps_ret (pe_op (op_addK K) (pe_op (op_addK K) (pv 2) (pe_op (op_mulK K) (pv 3) (pv 4))) (pe_call (ok__law_back T) (hr.mono (by decide)) (by rfl) T.g__law_back T.F__law_back.kp T.b__law_back .nil pass0 (pa_cons (pv 2) pa_nil))))))), ?_⟩
    walk_at "go"
    refine ⟨w, n, l, 9, rfl, hw, by omega, hl1, hl4, by omega, by omega, fun p ns H1 s1 h1 t1 l1 => ?_⟩
    walk_at "go"
    refine ⟨w, _, l, 7, rfl, s1.well, by omega, hl1, hl4, by omega, by omega, fun p2 ms H2 s2 h2 t2 l2 => ?_⟩
    replace h1 := s2.t s1.well h1
    walk_at "go"
    refine ⟨_, _, rfl, ?_⟩
    walk_at "go"
    refine ⟨w, _, 6, rfl, by omega, by omega, s2.well, by omega, fun r H3 r0 r6 e3 d3 => ?_⟩
    have s3 : DrS w H (n + 130 + 130 + 1) H3 := ⟨(s1.ex.trans s2.ex).trans e3, d3⟩
    replace h1 := s2.well.t e3 h1
    replace h2 := s2.well.t e3 h2
    walk_at "go"
    refine r_repT h2 (by omega) (by omega) (by rw [List.length_map]; omega) fun c H4 e4 h4 => ?_
    rw [rep_map] at h4
    have hk : (1 + r).toNat ≤ 6 := by omega
    have hrl : (Fg.rep (1 + r).toNat ms).length ≤ 42 := by
      rw [Fg.rep_len]
      exact Nat.le_trans (Nat.mul_le_mul hk (by omega : ms.length ≤ 7)) (by decide)
    refine r_catT (ex_t e4 h1) h4 (by simp only [List.length_map]; omega) fun d H5 e5 h5 => ?_
    walk_at "go"
    refine ⟨p, ns, rfl, ex_t (e4.trans e5) h1, by omega, fun f H6 e6 h6 => ?_⟩
    rw [← List.map_append] at h5
    refine r_catT (ex_t e6 h5) h6 (by simp only [List.length_map, List.length_append, Fg.bk_len]; omega) fun g H7 e7 h7 => ?_
    rw [← List.map_append] at h7
    refine q g _ H7 (((s3.ext (e4.trans e5)).ext (e6.trans e7)).more (by omega)) h7 (stp_app (stp_app t1 (stp_rep t2)) (stp_bkl t1)) ?_
    simp only [List.length_append, Fg.bk_len]
    omega
end
end Lw
namespace Lw
open PySem PySem.Spec PyProof.Rows L2 Evl

local macro_rules | `(tactic| walk_at "go") => `(tactic| repeat (first
  | with_reducible refine st_seq ?_ | with_reducible refine st_set ?_ | with_reducible refine st_asg ?_ | with_reducible refine st_ret ?_ | with_reducible refine st_drop ?_ | with_reducible refine st_if ?_
  | with_reducible refine st_c ?_ | ((with_reducible refine' st_v ?h ?_); (case h => exact rfl)) | with_reducible refine st_n ?_ | with_reducible refine st_cons ?_ | with_reducible refine st_op ?_ | with_reducible refine st_un ?_
  | with_reducible refine st_cb ?_ | with_reducible refine st_test ?_ | with_reducible refine st_call ?_ | with_reducible refine st_callK ?_ | with_reducible refine st_sl ?_ | with_reducible refine st_par ?_ | with_reducible refine st_tru ?_
  | with_reducible refine st_and ?_ | with_reducible refine st_or ?_ | with_reducible refine st_not ?_ | with_reducible refine st_B ?_ | with_reducible refine st_andV ?_ | with_reducible refine st_orV ?_ | with_reducible refine st_notV ?_ | with_reducible refine st_ifE ?_
  | with_reducible refine st_part ?_ | with_reducible refine st_nop ?_ | with_reducible refine st_sub ?_ | with_reducible refine st_chain ?_ | with_reducible refine st_bl ?_ | with_reducible refine st_in ?_ | with_reducible refine r_truB ?_
  | with_reducible refine st_nameG ?_ | with_reducible refine if_T ?_ | with_reducible refine if_F ?_ | with_reducible refine if_nT ?_ | with_reducible refine if_nF ?_
  | with_reducible refine r_add ?_ | with_reducible refine r_0 ?_ | with_reducible refine r_neg ?_ | with_reducible refine r_intI ?_ | with_reducible refine r_intB ?_ | with_reducible refine r_abs ?_ | with_reducible refine r_max2 ?_ | with_reducible refine r_min2 ?_ | with_reducible refine r_eqI ?_ | with_reducible refine r_neI ?_
  | with_reducible refine st_nxt ?_ | with_reducible refine st_cnt ?_ | with_reducible refine st_brk ?_ | with_reducible refine st_retn ?_
  | with_reducible refine st_lstN ?_ | with_reducible refine st_tupN ?_
  | with_reducible refine st_for ?_ | with_reducible refine st_lc ?_ | with_reducible refine st_rng1 ?_ | with_reducible refine st_rng2 ?_ | with_reducible refine st_itL ?_ | with_reducible refine st_itT ?_ | with_reducible refine st_rev ?_ | with_reducible refine st_bm ?_ | with_reducible refine st_bm0 ?_
  | ((with_reducible refine' st_aug ?h ?_); (case h => exact rfl)) | with_reducible refine r_augI ?_ | with_reducible refine r_eqB ?_
  | dsimp only))
section
variable {P : Program} {w : World} {K : PySem.W.Frag} {mg : Str → Option Value} {base : Heap} {A : Ad}

def sp__law_right (K : PySem.W.Frag) : Sp := fun vs H Q _ => ∃ w, vs = [.ref w] ∧ Well H w 0 ∧ ∀ H1, ExW w H H1 → Q (.bl true) H1
theorem ok__law_right (T : Tx K mg A) : FnOk P w K mg base CX0 7 A.a__law_right A.f__law_right P__law_right (sp__law_right K) := by
  refine T.F__law_right.ok sc__law_right (fun vs H Q E h => ?_) (fun cdv A' outer s H vs Q E hr h => ?_)
  · obtain ⟨w, rfl, _⟩ := h
    rfl
  · obtain ⟨w, rfl, hw, q⟩ := h
    refine ⟨_, (pss_cons (ps_set (i := 1) sc__law_right.nd rfl (Or.inl rfl) (pe_op (op_addK K) pe_int (pe_call (ok__law_take T) (hr.mono (by decide)) (by rfl) T.g__law_take T.F__law_take.kp T.b__law_take .nil pass0 (pa_cons (pv 0) (pa_cons pe_int pa_nil)))))
      (pss_cons (ps_par (i := 2) (j := 3) (by rfl) sc__law_right.nd rfl rfl (by decide) rfl rfl (pa_cons (pe_call (ok__law_walk T) (hr.mono (by decide)) (by rfl) T.g__law_walk T.F__law_walk.kp T.b__law_walk .nil pass0 (pa_cons (pv 0) (pa_cons (pv 1) (pa_cons pe_int pa_nil)))) (pa_cons (pe_call (ok__law_walk T) (hr.mono (by decide)) (by rfl) T.g__law_walk T.F__law_walk.kp T.b__law_walk .nil pass0 (pa_cons (pv 0) (pa_cons (pv 1) (pa_cons pe_int pa_nil)))) pa_nil)) (by rfl))
      (pss_cons (ps_par (i := 4) (j := 5) (by rfl) sc__law_right.nd rfl rfl (by decide) rfl rfl (pa_cons (pe_call (ok__law_walk T) (hr.mono (by decide)) (by rfl) T.g__law_walk T.F__law_walk.kp T.b__law_walk .nil pass0 (pa_cons (pv 0) (pa_cons (pv 1) (pa_cons pe_int pa_nil)))) (pa_cons (pe_call (ok__law_wound T) (hr.mono (by decide)) (by rfl) T.g__law_wound T.F__law_wound.kp T.b__law_wound .nil pass0 (pa_cons (pv 0) (pa_cons (pv 1) pa_nil))) pa_nil)) (by rfl))
      (pss_cons (ps_par (i := 6) (j := 7) (by rfl) sc__law_right.nd rfl rfl (by decide) rfl rfl (pa_cons (pe_op (op_addK K) pe_int (pe_call (ok__law_take T) (hr.mono (by decide)) (by rfl) T.g__law_take T.F__law_take.kp T.b__law_take .nil pass0 (pa_cons (pv 0) (pa_cons pe_int pa_nil)))) (pa_cons (pe_op (op_addK K) pe_int (pe_call (ok__law_take T) (hr.mono (by decide)) (by rfl) T.g__law_take T.F__law_take.kp T.b__law_take .nil pass0 (pa_cons (pv 0) (pa_cons pe_int pa_nil)))) pa_nil)) (by rfl))
      (pss_cons (ps_set (i := 8) sc__law_right.nd rfl (Or.inl rfl) (pe_op (op_addK K) (pe_op (op_addK K) (pv 2) (pe_op (op_mulK K) (pv 3) (pv 6))) (pe_call (ok__law_back T) (hr.mono (by decide)) (by rfl) T.g__law_back T.F__law_back.kp T.b__law_back .nil pass0 (pa_cons (pv 2) pa_nil))))
      (pss_cons (ps_set (i := 9) sc__law_right.nd rfl (Or.inl rfl) (pe_op (op_addK K) (pe_op (op_addK K) (pv 2) (pe_op (op_mulK K) (pe_call (ok__law_back T) (hr.mono (by decide)) (by rfl) T.g__law_back T.F__law_back.kp T.b__law_back .nil pass0 (pa_cons (pv 3) pa_nil)) (pv 7))) (pe_call (ok__law_back T) (hr.mono (by decide)) (by rfl) T.g__law_back T.F__law_back.kp T.b__law_back .nil pass0 (pa_cons (pv 2) pa_nil))))
      (pss_cons (ps_set (i := 10) sc__law_right.nd rfl (Or.inl rfl) (pe_op (op_addK K) (pe_op (op_addK K) (pe_op (op_addK K) (pv 2) (pe_op (op_mulK K) (pv 3) (pv 7))) (pe_call (ok__law_back T) (hr.mono (by decide)) (by rfl) T.g__law_back T.F__law_back.kp T.b__law_back .nil pass0 (pa_cons (pv 2) pa_nil))) (pe_op (op_mulK K) (pe_tup (pa_cons (pe_op (op_addK K) pe_int (pe_call (ok__law_take T) (hr.mono (by decide)) (by rfl) T.g__law_take T.F__law_take.kp T.b__law_take .nil pass0 (pa_cons (pv 0) (pa_cons (pv 1) pa_nil)))) pa_nil)) (pe_call (ok__law_take T) (hr.mono (by decide)) (by rfl) T.g__law_take T.F__law_take.kp T.b__law_take .nil pass0 (pa_cons (pv 0) (pa_cons pe_int pa_nil))))))
      (pss_cons (ps_for PassesOwn.never rfl (pi_listK K (pe_lst (pa_cons (pv 4) (pa_cons (pv 5) (pa_cons (pv 8) (pa_cons (pv 9) (pa_cons (pv 10) (pa_cons (pe_tup pa_nil) pa_nil)))))))) (pg_name (i := 11) sc__law_right.nd rfl (Or.inl rfl)) (pss_one (ps_if (PW.pt (pw_or (pt_not (pt_truK K (pe_call (ok__law_shown T) (hr.mono (by decide)) (by rfl) T.g__law_shown T.F__law_shown.kp T.b__law_shown .nil pass0 (pa_cons (pv 11) pa_nil)))) (pw_or (pt_not (pt_truK K (pe_call (ok__law_commute T) (hr.mono (by decide)) (by rfl) T.g__law_commute T.F__law_commute.kp T.b__law_commute .nil pass0 (pa_cons (pv 11) (pa_cons (pv 8) pa_nil))))) (pw_or1 (pt_not (pt_truK K (pe_call (ok__law_commute T) (hr.mono (by decide)) (by rfl) T.g__law_commute T.F__law_commute.kp T.b__law_commute .nil pass0 (pa_cons (pv 4) (pa_cons (pv 11) pa_nil))))))))) (pss_one (ps_ret pe_bl)) pss_nil)))
      (pss_cons (ps_set (i := 12) sc__law_right.nd rfl (Or.inl rfl) (pe_call (ok__law_walk T) (hr.mono (by decide)) (by rfl) T.g__law_walk T.F__law_walk.kp T.b__law_walk .nil pass0 (pa_cons (pv 0) (pa_cons (pv 1) (pa_cons pe_int pa_nil)))))
      (pss_cons (ps_if (PW.pt (pw_or (pt_not (pt_truK K (pe_call (ok__law_commute T) (hr.mono (by decide)) (by rfl) T.g__law_commute T.F__law_commute.kp T.b__law_commute .nil pass0 (pa_cons (pe_op (op_addK K) (pv 12) (pv 12)) (pa_cons (pe_call (ok__law_back T) (hr.mono (by decide)) (by rfl) T.g__law_back T.F__law_back.kp T.b__law_back .nil pass0 (pa_cons (pv 12) pa_nil)) pa_nil))))) (pw_or1 (pt_not (pt_truK K (pe_call (ok__law_commute T) (hr.mono (by decide)) (by rfl) T.g__law_commute T.F__law_commute.kp T.b__law_commute .nil pass0 (pa_cons (pv 12) (pa_cons (pe_op (op_addK K) (pv 12) (pv 12)) pa_nil)))))))) (pss_one (ps_ret pe_bl)) pss_nil)
      (pss_cons (ps_set (i := 13) sc__law_right.nd rfl (Or.inl rfl) (pe_call (ok_power T) (hr.mono (by decide)) (by rfl) T.g_power T.F_power.kp T.b_power .nil pass0 (pa_cons (pv 9) (pa_cons (pe_op (op_addK K) pe_int (pe_call (ok__law_take T) (hr.mono (by decide)) (by rfl) T.g__law_take T.F__law_take.kp T.b__law_take .nil pass0 (pa_cons (pv 0) (pa_cons pe_int pa_nil)))) pa_nil))))
      (pss_one (ps_ret (pe_or (pe_cmpR op_gt (pe_callB (len_K K) (by rfl) T.n_len (by decide +kernel) (pa_cons (pv 13) pa_nil)) pe_int (nomark _)) (pe_one (pe_call (ok__law_shown T) (hr.mono (by decide)) (by rfl) T.g__law_shown T.F__law_shown.kp T.b__law_shown .nil pass0 (pa_cons (pv 13) pa_nil))))))))))))))))), ?_⟩
    walk_at "go"
    refine ⟨w, 0, 4, rfl, by omega, by omega, hw, by omega, fun r H1 r0 r4 e1 d1 => ?_⟩
    have s1 : DrS w H 1 H1 := ⟨e1, d1⟩
    clear e1 d1
    walk_at "go"
    generalize hl : 1 + r = l
    have l1 : 1 ≤ l := by omega
    have l4 : l ≤ 4 := by omega
    clear hl r0 r4
    refine ⟨w, _, l, 6, rfl, s1.well, by omega, l1, l4, by omega, by omega, fun p2 u2 H2 s2 h2 t2 z2 => ?_⟩
    walk_at "go"
    refine ⟨w, _, l, 4, rfl, s2.well, by omega, l1, l4, by omega, by omega, fun p3 u3 H3 s3 h3 t3 z3 => ?_⟩
    replace h2 := s3.t s2.well h2
    replace s1 := s1.on (s2.ex.trans s3.ex) s3.well
    clear s2 s3
    walk_at "go"
    refine ⟨_, _, rfl, ?_⟩
    walk_at "go"
    refine ⟨w, _, l, 60, rfl, s1.well, by omega, l1, l4, by omega, by omega, fun p4 u4 H4 s4 h4 t4 z4 => ?_⟩
    walk_at "go"
    refine ⟨w, _, l, rfl, s4.well, by omega, l1, l4, fun p5 u5 H5 s5 h5 t5 z5 => ?_⟩
    replace h2 := s5.t s4.well (s4.t s1.well h2)
    replace h3 := s5.t s4.well (s4.t s1.well h3)
    replace h4 := s5.t s4.well h4
    replace s1 := s1.on (s4.ex.trans s5.ex) s5.well
    clear s4 s5
    walk_at "go"
    refine ⟨_, _, rfl, ?_⟩
    walk_at "go"
    refine ⟨w, _, 12, rfl, by omega, by omega, s1.well, by omega, fun r6 H6 r60 r612 e6 d6 => ?_⟩
    walk_at "go"
    refine ⟨w, _, 6, rfl, by omega, by omega, d6, by omega, fun r7 H7 r70 r76 e7 d7 => ?_⟩
    have e67 := e6.trans e7
    replace h2 := s1.well.t e67 h2
    replace h3 := s1.well.t e67 h3
    replace h4 := s1.well.t e67 h4
    replace h5 := s1.well.t e67 h5
    replace s1 := s1.on e67 d7
    clear e6 e7 d6 d7 e67
    walk_at "go"
    refine ⟨_, _, rfl, ?_⟩
    -- third
    walk_at "go"
    have rl : ∀ (k : Nat), k ≤ 12 → (Fg.rep k u3).length ≤ 48 := fun k hk => by
      rw [Fg.rep_len]
      exact Nat.le_trans (Nat.mul_le_mul hk (by omega : u3.length ≤ 4)) (by decide)
    refine r_repT h3 (by omega) (by omega) (by rw [List.length_map]; omega) fun c1 H8 e1 g1 => ?_
    rw [rep_map] at g1
    have rl12 := rl (1 + r6).toNat (by omega)
    refine r_catT (ex_t e1 h2) g1 (by simp only [List.length_map]; omega) fun c2 H9 e2 g2 => ?_
    rw [← List.map_append] at g2
    walk_at "go"
    refine ⟨p2, u2, rfl, ex_t (e1.trans e2) h2, by omega, fun c3 H10 e3 g3 => ?_⟩
    walk_at "go"
    refine r_catT (ex_t e3 g2) g3 (by simp only [List.length_map, List.length_append, Fg.bk_len]; omega) fun p8 H11 e4 h8 => ?_
    rw [← List.map_append] at h8
    obtain ⟨u8, hu8⟩ : ∃ u8, u8 = u2 ++ Fg.rep (1 + r6).toNat u3 ++ Fg.bk u2 := ⟨_, rfl⟩
    rw [← hu8] at h8
    have t8 : Stp l u8 := by rw [hu8]; exact stp_app (stp_app t2 (stp_rep t3)) (stp_bkl t2)
    have z8 : u8.length ≤ 60 := by rw [hu8]; simp only [List.length_append, Fg.bk_len]; omega
    have ee := (e1.trans e2).trans (e3.trans e4)
    replace h2 := ex_t ee h2
    replace h3 := ex_t ee h3
    replace h4 := ex_t ee h4
    replace h5 := ex_t ee h5
    replace s1 := s1.ext ee
    clear e1 e2 e3 e4 g1 g2 g3 ee hu8 rl12
    -- fourth
    walk_at "go"
    refine ⟨p3, u3, rfl, h3, by omega, fun c0 H12 e0 g0 => ?_⟩
    walk_at "go"
    have rl6 : (Fg.rep (1 + r7).toNat (Fg.bk u3)).length ≤ 24 := by
      rw [Fg.rep_len, Fg.bk_len]
      exact Nat.le_trans (Nat.mul_le_mul (by omega : (1 + r7).toNat ≤ 6) (by omega : u3.length ≤ 4)) (by decide)
    refine r_repT g0 (by omega) (by omega) (by rw [List.length_map, Fg.bk_len]; omega) fun c1 H13 e1 g1 => ?_
    rw [rep_map] at g1
    refine r_catT (ex_t (e0.trans e1) h2) g1 (by simp only [List.length_map]; omega) fun c2 H14 e2 g2 => ?_
    rw [← List.map_append] at g2
    walk_at "go"
    refine ⟨p2, u2, rfl, ex_t ((e0.trans e1).trans e2) h2, by omega, fun c3 H15 e3 g3 => ?_⟩
    walk_at "go"
    refine r_catT (ex_t e3 g2) g3 (by simp only [List.length_map, List.length_append, Fg.bk_len]; omega) fun p9 H16 e4 h9 => ?_
    rw [← List.map_append] at h9
    obtain ⟨u9, hu9⟩ : ∃ u9, u9 = u2 ++ Fg.rep (1 + r7).toNat (Fg.bk u3) ++ Fg.bk u2 := ⟨_, rfl⟩
    rw [← hu9] at h9
    have t9 : Stp l u9 := by rw [hu9]; exact stp_app (stp_app t2 (stp_rep (stp_bkl t3))) (stp_bkl t2)
    have z9 : u9.length ≤ 60 := by rw [hu9]; simp only [List.length_append, Fg.bk_len]; omega
    have ee := ((e0.trans e1).trans e2).trans (e3.trans e4)
    replace h2 := ex_t ee h2
    replace h3 := ex_t ee h3
    replace h4 := ex_t ee h4
    replace h5 := ex_t ee h5
    replace h8 := ex_t ee h8
    replace s1 := s1.ext ee
    clear e0 e1 e2 e3 e4 g0 g1 g2 g3 ee hu9 rl6
    -- fifth
    walk_at "go"
    have rl6 := rl (1 + r7).toNat (by omega)
    have rl7 : (Fg.rep (1 + r7).toNat u3).length ≤ 24 := by
      rw [Fg.rep_len]
      exact Nat.le_trans (Nat.mul_le_mul (by omega : (1 + r7).toNat ≤ 6) (by omega : u3.length ≤ 4)) (by decide)
    refine r_repT h3 (by omega) (by omega) (by rw [List.length_map]; omega) fun c1 H17 e1 g1 => ?_
    rw [rep_map] at g1
    refine r_catT (ex_t e1 h2) g1 (by simp only [List.length_map]; omega) fun c2 H18 e2 g2 => ?_
    rw [← List.map_append] at g2
    walk_at "go"
    refine ⟨p2, u2, rfl, ex_t (e1.trans e2) h2, by omega, fun c3 H19 e3 g3 => ?_⟩
    walk_at "go"
    refine r_catT (ex_t e3 g2) g3 (by simp only [List.length_map, List.length_append, Fg.bk_len]; omega) fun c4 H20 e4 g4 => ?_
    rw [← List.map_append] at g4
    obtain ⟨v, hv⟩ : ∃ v, v = u2 ++ Fg.rep (1 + r7).toNat u3 ++ Fg.bk u2 := ⟨_, rfl⟩
    rw [← hv] at g4
    have tv : Stp l v := by rw [hv]; exact stp_app (stp_app t2 (stp_rep t3)) (stp_bkl t2)
    have zv : v.length ≤ 36 := by rw [hv]; simp only [List.length_append, Fg.bk_len]; omega
    have ee := (e1.trans e2).trans (e3.trans e4)
    replace h4 := ex_t ee h4
    replace h5 := ex_t ee h5
    replace h8 := ex_t ee h8
    replace h9 := ex_t ee h9
    replace s1 := s1.ext ee
    clear e1 e2 e3 e4 g1 g2 g3 ee hv h2 h3
    walk_at "go"
    refine ⟨w, _, l, rfl, by omega, by omega, s1.well, by omega, fun r8 H21 r80 r8l e1 d1 => ?_⟩
    walk_at "go"
    refine r_newT (by simp) fun c5 H22 _ e2 g5 => ?_
    walk_at "go"
    refine ⟨w, _, 2, rfl, by omega, by omega, d1.mono e2, by omega, fun r9 H23 r90 r92 e3 d3 => ?_⟩
    have g5' : IT K H22 c5 [1 + r8] := t_of g5
    have g6 := (d1.mono e2).t e3 g5'
    walk_at "go"
    refine r_repT g6 r90 (by omega) (by simp) fun c6 H24 e4 g7 => ?_
    rw [rep_map] at g7
    have ew : ExW w H20 H24 := ((e1.trans (.of e2)).trans e3).trans (.of e4)
    have dw : Well H24 w _ := d3.mono e4
    refine r_catT (s1.well.t ew g4) g7 (by rw [List.length_map, List.length_map, Fg.rep_len]; simp; omega) fun p10 H25 e5 h10 => ?_
    rw [← List.map_append] at h10
    obtain ⟨u10, hu10⟩ : ∃ u10, u10 = v ++ Fg.rep r9.toNat [1 + r8] := ⟨_, rfl⟩
    rw [← hu10] at h10
    have t10 : Stp l u10 := by
      rw [hu10]
      refine stp_app tv (stp_rep fun x hx => ?_)
      rw [List.mem_singleton.mp hx]
      omega
    have z10 : u10.length ≤ 60 := by rw [hu10, List.length_append, Fg.rep_len]; simp; omega
    replace h4 := ex_t e5 (s1.well.t ew h4)
    replace h5 := ex_t e5 (s1.well.t ew h5)
    replace h8 := ex_t e5 (s1.well.t ew h8)
    replace h9 := ex_t e5 (s1.well.t ew h9)
    replace s1 := (s1.on ew dw).ext e5
    clear e1 e2 e3 e4 e5 d1 d3 g4 g5 g5' g6 g7 ew dw hu10 tv zv v
    -- the list of all
    walk_at "go"
    refine r_newT (by simp) fun z H26 _ e1 hz => ?_
    walk_at "go"
    refine r_newL (by simp) fun L H27 _ e2 hL => ?_
    have e12 := e1.trans e2
    replace h4 := ex_t e12 h4
    replace h5 := ex_t e12 h5
    replace h8 := ex_t e12 h8
    replace h9 := ex_t e12 h9
    replace h10 := ex_t e12 h10
    have hz' : IT K H27 z [] := t_of (e2 _ _ hz)
    replace s1 := s1.ext e12
    clear e1 e2 e12 hz
    have t4' := stp_le t4 l4
    have t8' := stp_le t8 l4
    walk_at "go"
    refine r_itL (l_of hL) (r_forL (xs := [.ref p4, .ref p5, .ref p8, .ref p9, .ref p10, .ref z]) (fun i σ' H' => ∃ v, Ex H27 H' ∧ σ' = [some (.ref w), some (.int l), some (.ref p2), some (.ref p3), some (.ref p4), some (.ref p5), some (.int (1 + r6)), some (.int (1 + r7)), some (.ref p8), some (.ref p9), some (.ref p10), v, none, none]) ⟨none, Ex.refl _, rfl⟩ (fun i σ' H' _ p => ?_) (fun i x σ' H' hx p => ?_) (fun σ' H' p => ?_))
    · obtain ⟨v, e, _⟩ := p
      exact l_of (e _ _ hL)
    · obtain ⟨v, e, rfl⟩ := p
      obtain ⟨px, ux, rfl, hpx, tx, zx⟩ : ∃ px ux, x = .ref px ∧ IT K H27 px ux ∧ Stp 4 ux ∧ ux.length ≤ 60 := by
        have hm := List.mem_of_getElem? hx
        simp only [List.mem_cons, List.not_mem_nil, or_false] at hm
        rcases hm with rfl | rfl | rfl | rfl | rfl | rfl
        · exact ⟨_, _, rfl, h4, t4', by omega⟩
        · exact ⟨_, _, rfl, h5, stp_le t5 l4, by omega⟩
        · exact ⟨_, _, rfl, h8, t8', by omega⟩
        · exact ⟨_, _, rfl, h9, stp_le t9 l4, by omega⟩
        · exact ⟨_, _, rfl, h10, stp_le t10 l4, by omega⟩
        · exact ⟨_, _, rfl, hz', stp_nil, by simp⟩
      walk_at "go"
      refine ⟨px, ux, rfl, ex_t e hpx, by omega, tx, fun Ha ea => ?_⟩
      walk_at "go"
      refine ⟨px, p8, ux, u8, rfl, ex_t (e.trans ea) hpx, ex_t (e.trans ea) h8, by omega, by omega, tx, t8', fun Hb eb => ?_⟩
      walk_at "go"
      refine ⟨p4, px, u4, ux, rfl, ex_t ((e.trans ea).trans eb) h4, ex_t ((e.trans ea).trans eb) hpx, by omega, by omega, t4', tx, fun Hc ec => ?_⟩
      walk_at "go"
      exact ⟨_, ((e.trans ea).trans eb).trans ec, rfl⟩
    · obtain ⟨v, e, rfl⟩ := p
      replace h9 := ex_t e h9
      replace s1 := s1.ext e
      clear h4 h5 h8 h10 hz' hL e t4' t8'
      walk_at "go"
      refine ⟨w, _, l, 30, rfl, s1.well, by omega, l1, l4, by omega, by omega, fun p12 u12 H28 s2 h12 t12 z12 => ?_⟩
      replace h9 := s2.t s1.well h9
      replace s1 := s1.on s2.ex s2.well
      clear s2
      have t12' := stp_le t12 l4
      walk_at "go"
      refine r_catT h12 h12 (by simp only [List.length_map]; omega) fun c1 H29 e1 g1 => ?_
      rw [← List.map_append] at g1
      walk_at "go"
      refine ⟨p12, u12, rfl, ex_t e1 h12, by omega, fun c2 H30 e2 g2 => ?_⟩
      walk_at "go"
      refine ⟨c1, c2, _, _, rfl, ex_t e2 g1, g2, by rw [List.length_append]; omega, by rw [Fg.bk_len]; omega, stp_app t12' t12', stp_bkl t12', fun H31 e3 => ?_⟩
      have e123 := (e1.trans e2).trans e3
      walk_at "go"
      refine r_catT (ex_t e123 h12) (ex_t e123 h12) (by simp only [List.length_map]; omega) fun c3 H32 e4 g3 => ?_
      rw [← List.map_append] at g3
      walk_at "go"
      refine ⟨p12, c3, _, _, rfl, ex_t (e123.trans e4) h12, g3, by omega, by rw [List.length_append]; omega, t12', stp_app t12' t12', fun H33 e5 => ?_⟩
      have e15 := (e123.trans e4).trans e5
      replace h9 := ex_t e15 h9
      replace s1 := s1.ext e15
      clear e1 e2 e3 e4 e5 e123 e15 g1 g2 g3 h12
      walk_at "go"
      refine ⟨w, _, 20, rfl, by omega, by omega, s1.well, by omega, fun r13 H34 r130 r1320 e1 d1 => ?_⟩
      replace h9 := s1.well.t e1 h9
      replace s1 := s1.on e1 d1
      walk_at "go"
      refine ⟨p9, u9, 1 + r13, rfl, h9, by omega, stp_le t9 l4, by omega, by omega, fun p13 H35 e2 h13 => ?_⟩
      walk_at "go"
      refine r_lenT h13 ?_
      walk_at "go"
      rw [List.length_map]
      refine if_2 (fun h0 => ?_) fun h0 => ?_
      · walk_at "go"
        exact q H35 (s1.ext e2).ex
      · walk_at "go"
        exact ⟨p13, _, rfl, h13, by omega, stp_pw (stp_le t9 l4), fun H36 e3 => q H36 ((s1.ext e2).ext e3).ex⟩
def sp_law (K : PySem.W.Frag) : Sp := fun vs H Q _ => ∃ (a : Addr) (ns : List Int), vs = [.ref a] ∧ SqL K H a (ns.map V.int) ∧ ns.length ≤ 63 ∧ ∀ H', Q (.bl true) H'
theorem ok_law (T : Tx K mg A) : FnOk P w K mg base CX0 8 A.a_law A.f_law P_law (sp_law K) := by
  refine T.F_law.ok sc_law (fun vs H Q E h => ?_) (fun cdv A' outer s H vs Q E hr h => ?_)
  · obtain ⟨a, ns, rfl, _⟩ := h
    rfl
  · obtain ⟨a, sc, rfl, hS, hlen, q⟩ := h
    refine ⟨_, (pss_cons (ps_for PassesOwn.never rfl (pi_range1 (by rfl) T.n_range (pa_cons (pe_callB (max2_K rfl) (by rfl) T.n_max (by decide +kernel) (pa_cons pe_int (pa_cons (pe_callB (min2_K rfl) (by rfl) T.n_min (by decide +kernel) (pa_cons pe_int (pa_cons (pe_callB (len_K K) (by rfl) T.n_len (by decide +kernel) (pa_cons (pv 0) pa_nil)) pa_nil))) pa_nil))) pa_nil)) (pg_name (i := 1) sc_law.nd rfl (Or.inl rfl)) (pss_one (ps_if (pt_not (pt_truK K (pe_call (ok__law_right T) (hr.mono (by decide)) (by rfl) T.g__law_right T.F__law_right.kp T.b__law_right .nil pass0 (pa_cons (pe_call (ok__law_well T) (hr.mono (by decide)) (by rfl) T.g__law_well T.F__law_well.kp T.b__law_well .nil pass0 (pa_cons (pv 0) (pa_cons (pv 1) pa_nil))) pa_nil)))) (pss_one (ps_ret pe_bl)) pss_nil)))
      (pss_one (ps_ret pe_bl))), ?_⟩
    walk_at "go"
    refine r_lenL hS ?_
    walk_at "go"
    rw [List.length_map]
    refine r_rng1 (by omega) (by omega) (r_forR (fun i σ' H' => ∃ vk, Ex H H' ∧ σ' = [some (.ref a), vk]) ⟨none, Ex.refl H, rfl⟩ ?_ ?_)
    · rintro i σ' H1 hi ⟨vk, e1, rfl⟩
      walk_at "go"
      refine ⟨a, sc, _, rfl, ex_l e1 hS, hlen, by omega, by omega, fun w H2 hw e2 d2 => ?_⟩
      have hw0 : H w = none := fresh_back e1 hw
      walk_at "go"
      refine ⟨w, rfl, d2, fun H3 e3 => ?_⟩
      walk_at "go"
      refine ⟨_, fun b o hb => ?_, rfl⟩
      exact e3 b o (e2 b o (e1 b o hb)) (ne_of_none hb hw0)
    · rintro σ' H' ⟨vk, e1, rfl⟩
      walk_at "go"
      exact q H'
end
theorem all_mk {l : PySem.W.OpenLaw} {w : World} {K : PySem.W.Frag} {h : Heap} {mg : Str → Option Value} {fa : Addr} {f_is_integer f_straightened f_turned_back f_lead_and_core f_once_round f__law_well f__law_take f__law_back f__law_joined f__law_is f_is_step_of f_check_within f__law_walk f__law_straight f__law_core f__law_pair f__law_counted f_is_walk_of f__law_root f__law_wound f_check_walk f_power f_core f_root f_commute f__law_shown f__law_commute f__law_right f_law : Addr} (X : K.In h) (G : h.Ns mainGlobals mg) (hfa : mg "law" = some (.ref fa))
    {od_is_integer an_is_integer od_straightened an_straightened od_turned_back an_turned_back od_lead_and_core an_lead_and_core od_once_round an_once_round od__law_well an__law_well od__law_take an__law_take od__law_back an__law_back od__law_joined an__law_joined od__law_is an__law_is od_is_step_of an_is_step_of od_check_within an_check_within od__law_walk an__law_walk od__law_straight an__law_straight od__law_core an__law_core od__law_pair an__law_pair od__law_counted an__law_counted od_is_walk_of an_is_walk_of od__law_root an__law_root od__law_wound an__law_wound od_check_walk an_check_walk od_power an_power od_core an_core od_root an_root od_commute an_commute od__law_shown an__law_shown od__law_commute an__law_commute od__law_right an__law_right od_law an_law : Option Addr} {sl_is_integer sl_straightened sl_turned_back sl_lead_and_core sl_once_round sl__law_well sl__law_take sl__law_back sl__law_joined sl__law_is sl_is_step_of sl_check_within sl__law_walk sl__law_straight sl__law_core sl__law_pair sl__law_counted sl_is_walk_of sl__law_root sl__law_wound sl_check_walk sl_power sl_core sl_root sl_commute sl__law_shown sl__law_commute sl__law_right sl_law : Array (Option Value)} {oc_is_integer kV_is_integer dc_is_integer pm_is_integer cd_is_integer ct_is_integer oc_straightened kV_straightened dc_straightened pm_straightened cd_straightened ct_straightened oc_turned_back kV_turned_back dc_turned_back pm_turned_back cd_turned_back ct_turned_back oc_lead_and_core kV_lead_and_core dc_lead_and_core pm_lead_and_core cd_lead_and_core ct_lead_and_core oc_once_round kV_once_round dc_once_round pm_once_round cd_once_round ct_once_round oc__law_well kV__law_well dc__law_well pm__law_well cd__law_well ct__law_well oc__law_take kV__law_take dc__law_take pm__law_take cd__law_take ct__law_take oc__law_back kV__law_back dc__law_back pm__law_back cd__law_back ct__law_back oc__law_joined kV__law_joined dc__law_joined pm__law_joined cd__law_joined ct__law_joined oc__law_is kV__law_is dc__law_is pm__law_is cd__law_is ct__law_is oc_is_step_of kV_is_step_of dc_is_step_of pm_is_step_of cd_is_step_of ct_is_step_of oc_check_within kV_check_within dc_check_within pm_check_within cd_check_within ct_check_within oc__law_walk kV__law_walk dc__law_walk pm__law_walk cd__law_walk ct__law_walk oc__law_straight kV__law_straight dc__law_straight pm__law_straight cd__law_straight ct__law_straight oc__law_core kV__law_core dc__law_core pm__law_core cd__law_core ct__law_core oc__law_pair kV__law_pair dc__law_pair pm__law_pair cd__law_pair ct__law_pair oc__law_counted kV__law_counted dc__law_counted pm__law_counted cd__law_counted ct__law_counted oc_is_walk_of kV_is_walk_of dc_is_walk_of pm_is_walk_of cd_is_walk_of ct_is_walk_of oc__law_root kV__law_root dc__law_root pm__law_root cd__law_root ct__law_root oc__law_wound kV__law_wound dc__law_wound pm__law_wound cd__law_wound ct__law_wound oc_check_walk kV_check_walk dc_check_walk pm_check_walk cd_check_walk ct_check_walk oc_power kV_power dc_power pm_power cd_power ct_power oc_core kV_core dc_core pm_core cd_core ct_core oc_root kV_root dc_root pm_root cd_root ct_root oc_commute kV_commute dc_commute pm_commute cd_commute ct_commute oc__law_shown kV__law_shown dc__law_shown pm__law_shown cd__law_shown ct__law_shown oc__law_commute kV__law_commute dc__law_commute pm__law_commute cd__law_commute ct__law_commute oc__law_right kV__law_right dc__law_right pm__law_right cd__law_right ct__law_right oc_law kV_law dc_law pm_law cd_law ct_law : Value} {tc_MOST_LETTERS tc_MOST_TIMES : Tok}
    (a_is_integer : PySem.W.nsIn K mainGlobals "is_integer" = some (some (.ref f_is_integer))) (l_is_integer : K.lookup f_is_integer = some ⟨oc_is_integer, od_is_integer, .func (PySem.W.fnOf "is_integer" "is_integer" (defArgs s_is_integer) (defBody s_is_integer) (defScope s_is_integer) .none kV_is_integer dc_is_integer pm_is_integer an_is_integer cd_is_integer ct_is_integer), sl_is_integer⟩) (c_is_integer : PySem.W.codeIn K cd_is_integer "is_integer" = true) (k_is_integer : PySem.W.keepIn K (.ref f_is_integer) = true)
    (a_straightened : PySem.W.nsIn K mainGlobals "straightened" = some (some (.ref f_straightened))) (l_straightened : K.lookup f_straightened = some ⟨oc_straightened, od_straightened, .func (PySem.W.fnOf "straightened" "straightened" (defArgs s_straightened) (defBody s_straightened) (defScope s_straightened) .none kV_straightened dc_straightened pm_straightened an_straightened cd_straightened ct_straightened), sl_straightened⟩) (c_straightened : PySem.W.codeIn K cd_straightened "straightened" = true) (k_straightened : PySem.W.keepIn K (.ref f_straightened) = true)
    (a_turned_back : PySem.W.nsIn K mainGlobals "turned_back" = some (some (.ref f_turned_back))) (l_turned_back : K.lookup f_turned_back = some ⟨oc_turned_back, od_turned_back, .func (PySem.W.fnOf "turned_back" "turned_back" (defArgs s_turned_back) (defBody s_turned_back) (defScope s_turned_back) .none kV_turned_back dc_turned_back pm_turned_back an_turned_back cd_turned_back ct_turned_back), sl_turned_back⟩) (c_turned_back : PySem.W.codeIn K cd_turned_back "turned_back" = true) (k_turned_back : PySem.W.keepIn K (.ref f_turned_back) = true)
    (a_lead_and_core : PySem.W.nsIn K mainGlobals "lead_and_core" = some (some (.ref f_lead_and_core))) (l_lead_and_core : K.lookup f_lead_and_core = some ⟨oc_lead_and_core, od_lead_and_core, .func (PySem.W.fnOf "lead_and_core" "lead_and_core" (defArgs s_lead_and_core) (defBody s_lead_and_core) (defScope s_lead_and_core) .none kV_lead_and_core dc_lead_and_core pm_lead_and_core an_lead_and_core cd_lead_and_core ct_lead_and_core), sl_lead_and_core⟩) (c_lead_and_core : PySem.W.codeIn K cd_lead_and_core "lead_and_core" = true) (k_lead_and_core : PySem.W.keepIn K (.ref f_lead_and_core) = true)
    (a_once_round : PySem.W.nsIn K mainGlobals "once_round" = some (some (.ref f_once_round))) (l_once_round : K.lookup f_once_round = some ⟨oc_once_round, od_once_round, .func (PySem.W.fnOf "once_round" "once_round" (defArgs s_once_round) (defBody s_once_round) (defScope s_once_round) .none kV_once_round dc_once_round pm_once_round an_once_round cd_once_round ct_once_round), sl_once_round⟩) (c_once_round : PySem.W.codeIn K cd_once_round "once_round" = true) (k_once_round : PySem.W.keepIn K (.ref f_once_round) = true)
    (a__law_well : PySem.W.nsIn K mainGlobals "_law_well" = some (some (.ref f__law_well))) (l__law_well : K.lookup f__law_well = some ⟨oc__law_well, od__law_well, .func (PySem.W.fnOf "_law_well" "_law_well" (defArgs s__law_well) (defBody s__law_well) (defScope s__law_well) .none kV__law_well dc__law_well pm__law_well an__law_well cd__law_well ct__law_well), sl__law_well⟩) (c__law_well : PySem.W.codeIn K cd__law_well "_law_well" = true) (k__law_well : PySem.W.keepIn K (.ref f__law_well) = true)
    (a__law_take : PySem.W.nsIn K mainGlobals "_law_take" = some (some (.ref f__law_take))) (l__law_take : K.lookup f__law_take = some ⟨oc__law_take, od__law_take, .func (PySem.W.fnOf "_law_take" "_law_take" (defArgs s__law_take) (defBody s__law_take) (defScope s__law_take) .none kV__law_take dc__law_take pm__law_take an__law_take cd__law_take ct__law_take), sl__law_take⟩) (c__law_take : PySem.W.codeIn K cd__law_take "_law_take" = true) (k__law_take : PySem.W.keepIn K (.ref f__law_take) = true)
    (a__law_back : PySem.W.nsIn K mainGlobals "_law_back" = some (some (.ref f__law_back))) (l__law_back : K.lookup f__law_back = some ⟨oc__law_back, od__law_back, .func (PySem.W.fnOf "_law_back" "_law_back" (defArgs s__law_back) (defBody s__law_back) (defScope s__law_back) .none kV__law_back dc__law_back pm__law_back an__law_back cd__law_back ct__law_back), sl__law_back⟩) (c__law_back : PySem.W.codeIn K cd__law_back "_law_back" = true) (k__law_back : PySem.W.keepIn K (.ref f__law_back) = true)
    (a__law_joined : PySem.W.nsIn K mainGlobals "_law_joined" = some (some (.ref f__law_joined))) (l__law_joined : K.lookup f__law_joined = some ⟨oc__law_joined, od__law_joined, .func (PySem.W.fnOf "_law_joined" "_law_joined" (defArgs s__law_joined) (defBody s__law_joined) (defScope s__law_joined) .none kV__law_joined dc__law_joined pm__law_joined an__law_joined cd__law_joined ct__law_joined), sl__law_joined⟩) (c__law_joined : PySem.W.codeIn K cd__law_joined "_law_joined" = true) (k__law_joined : PySem.W.keepIn K (.ref f__law_joined) = true)
    (a__law_is : PySem.W.nsIn K mainGlobals "_law_is" = some (some (.ref f__law_is))) (l__law_is : K.lookup f__law_is = some ⟨oc__law_is, od__law_is, .func (PySem.W.fnOf "_law_is" "_law_is" (defArgs s__law_is) (defBody s__law_is) (defScope s__law_is) .none kV__law_is dc__law_is pm__law_is an__law_is cd__law_is ct__law_is), sl__law_is⟩) (c__law_is : PySem.W.codeIn K cd__law_is "_law_is" = true) (k__law_is : PySem.W.keepIn K (.ref f__law_is) = true)
    (a_is_step_of : PySem.W.nsIn K mainGlobals "is_step_of" = some (some (.ref f_is_step_of))) (l_is_step_of : K.lookup f_is_step_of = some ⟨oc_is_step_of, od_is_step_of, .func (PySem.W.fnOf "is_step_of" "is_step_of" (defArgs s_is_step_of) (defBody s_is_step_of) (defScope s_is_step_of) .none kV_is_step_of dc_is_step_of pm_is_step_of an_is_step_of cd_is_step_of ct_is_step_of), sl_is_step_of⟩) (c_is_step_of : PySem.W.codeIn K cd_is_step_of "is_step_of" = true) (k_is_step_of : PySem.W.keepIn K (.ref f_is_step_of) = true)
    (a_check_within : PySem.W.nsIn K mainGlobals "check_within" = some (some (.ref f_check_within))) (l_check_within : K.lookup f_check_within = some ⟨oc_check_within, od_check_within, .func (PySem.W.fnOf "check_within" "check_within" (defArgs s_check_within) (defBody s_check_within) (defScope s_check_within) .none kV_check_within dc_check_within pm_check_within an_check_within cd_check_within ct_check_within), sl_check_within⟩) (c_check_within : PySem.W.codeIn K cd_check_within "check_within" = true) (k_check_within : PySem.W.keepIn K (.ref f_check_within) = true)
    (a__law_walk : PySem.W.nsIn K mainGlobals "_law_walk" = some (some (.ref f__law_walk))) (l__law_walk : K.lookup f__law_walk = some ⟨oc__law_walk, od__law_walk, .func (PySem.W.fnOf "_law_walk" "_law_walk" (defArgs s__law_walk) (defBody s__law_walk) (defScope s__law_walk) .none kV__law_walk dc__law_walk pm__law_walk an__law_walk cd__law_walk ct__law_walk), sl__law_walk⟩) (c__law_walk : PySem.W.codeIn K cd__law_walk "_law_walk" = true) (k__law_walk : PySem.W.keepIn K (.ref f__law_walk) = true)
    (a__law_straight : PySem.W.nsIn K mainGlobals "_law_straight" = some (some (.ref f__law_straight))) (l__law_straight : K.lookup f__law_straight = some ⟨oc__law_straight, od__law_straight, .func (PySem.W.fnOf "_law_straight" "_law_straight" (defArgs s__law_straight) (defBody s__law_straight) (defScope s__law_straight) .none kV__law_straight dc__law_straight pm__law_straight an__law_straight cd__law_straight ct__law_straight), sl__law_straight⟩) (c__law_straight : PySem.W.codeIn K cd__law_straight "_law_straight" = true) (k__law_straight : PySem.W.keepIn K (.ref f__law_straight) = true)
    (a__law_core : PySem.W.nsIn K mainGlobals "_law_core" = some (some (.ref f__law_core))) (l__law_core : K.lookup f__law_core = some ⟨oc__law_core, od__law_core, .func (PySem.W.fnOf "_law_core" "_law_core" (defArgs s__law_core) (defBody s__law_core) (defScope s__law_core) .none kV__law_core dc__law_core pm__law_core an__law_core cd__law_core ct__law_core), sl__law_core⟩) (c__law_core : PySem.W.codeIn K cd__law_core "_law_core" = true) (k__law_core : PySem.W.keepIn K (.ref f__law_core) = true)
    (a__law_pair : PySem.W.nsIn K mainGlobals "_law_pair" = some (some (.ref f__law_pair))) (l__law_pair : K.lookup f__law_pair = some ⟨oc__law_pair, od__law_pair, .func (PySem.W.fnOf "_law_pair" "_law_pair" (defArgs s__law_pair) (defBody s__law_pair) (defScope s__law_pair) .none kV__law_pair dc__law_pair pm__law_pair an__law_pair cd__law_pair ct__law_pair), sl__law_pair⟩) (c__law_pair : PySem.W.codeIn K cd__law_pair "_law_pair" = true) (k__law_pair : PySem.W.keepIn K (.ref f__law_pair) = true)
    (a__law_counted : PySem.W.nsIn K mainGlobals "_law_counted" = some (some (.ref f__law_counted))) (l__law_counted : K.lookup f__law_counted = some ⟨oc__law_counted, od__law_counted, .func (PySem.W.fnOf "_law_counted" "_law_counted" (defArgs s__law_counted) (defBody s__law_counted) (defScope s__law_counted) .none kV__law_counted dc__law_counted pm__law_counted an__law_counted cd__law_counted ct__law_counted), sl__law_counted⟩) (c__law_counted : PySem.W.codeIn K cd__law_counted "_law_counted" = true) (k__law_counted : PySem.W.keepIn K (.ref f__law_counted) = true)
    (a_is_walk_of : PySem.W.nsIn K mainGlobals "is_walk_of" = some (some (.ref f_is_walk_of))) (l_is_walk_of : K.lookup f_is_walk_of = some ⟨oc_is_walk_of, od_is_walk_of, .func (PySem.W.fnOf "is_walk_of" "is_walk_of" (defArgs s_is_walk_of) (defBody s_is_walk_of) (defScope s_is_walk_of) .none kV_is_walk_of dc_is_walk_of pm_is_walk_of an_is_walk_of cd_is_walk_of ct_is_walk_of), sl_is_walk_of⟩) (c_is_walk_of : PySem.W.codeIn K cd_is_walk_of "is_walk_of" = true) (k_is_walk_of : PySem.W.keepIn K (.ref f_is_walk_of) = true)
    (a__law_root : PySem.W.nsIn K mainGlobals "_law_root" = some (some (.ref f__law_root))) (l__law_root : K.lookup f__law_root = some ⟨oc__law_root, od__law_root, .func (PySem.W.fnOf "_law_root" "_law_root" (defArgs s__law_root) (defBody s__law_root) (defScope s__law_root) .none kV__law_root dc__law_root pm__law_root an__law_root cd__law_root ct__law_root), sl__law_root⟩) (c__law_root : PySem.W.codeIn K cd__law_root "_law_root" = true) (k__law_root : PySem.W.keepIn K (.ref f__law_root) = true)
    (a__law_wound : PySem.W.nsIn K mainGlobals "_law_wound" = some (some (.ref f__law_wound))) (l__law_wound : K.lookup f__law_wound = some ⟨oc__law_wound, od__law_wound, .func (PySem.W.fnOf "_law_wound" "_law_wound" (defArgs s__law_wound) (defBody s__law_wound) (defScope s__law_wound) .none kV__law_wound dc__law_wound pm__law_wound an__law_wound cd__law_wound ct__law_wound), sl__law_wound⟩) (c__law_wound : PySem.W.codeIn K cd__law_wound "_law_wound" = true) (k__law_wound : PySem.W.keepIn K (.ref f__law_wound) = true)
    (a_check_walk : PySem.W.nsIn K mainGlobals "check_walk" = some (some (.ref f_check_walk))) (l_check_walk : K.lookup f_check_walk = some ⟨oc_check_walk, od_check_walk, .func (PySem.W.fnOf "check_walk" "check_walk" (defArgs s_check_walk) (defBody s_check_walk) (defScope s_check_walk) .none kV_check_walk dc_check_walk pm_check_walk an_check_walk cd_check_walk ct_check_walk), sl_check_walk⟩) (c_check_walk : PySem.W.codeIn K cd_check_walk "check_walk" = true) (k_check_walk : PySem.W.keepIn K (.ref f_check_walk) = true)
    (a_power : PySem.W.nsIn K mainGlobals "power" = some (some (.ref f_power))) (l_power : K.lookup f_power = some ⟨oc_power, od_power, .func (PySem.W.fnOf "power" "power" (defArgs s_power) (defBody s_power) (defScope s_power) .none kV_power dc_power pm_power an_power cd_power ct_power), sl_power⟩) (c_power : PySem.W.codeIn K cd_power "power" = true) (k_power : PySem.W.keepIn K (.ref f_power) = true)
    (a_core : PySem.W.nsIn K mainGlobals "core" = some (some (.ref f_core))) (l_core : K.lookup f_core = some ⟨oc_core, od_core, .func (PySem.W.fnOf "core" "core" (defArgs s_core) (defBody s_core) (defScope s_core) .none kV_core dc_core pm_core an_core cd_core ct_core), sl_core⟩) (c_core : PySem.W.codeIn K cd_core "core" = true) (k_core : PySem.W.keepIn K (.ref f_core) = true)
    (a_root : PySem.W.nsIn K mainGlobals "root" = some (some (.ref f_root))) (l_root : K.lookup f_root = some ⟨oc_root, od_root, .func (PySem.W.fnOf "root" "root" (defArgs s_root) (defBody s_root) (defScope s_root) .none kV_root dc_root pm_root an_root cd_root ct_root), sl_root⟩) (c_root : PySem.W.codeIn K cd_root "root" = true) (k_root : PySem.W.keepIn K (.ref f_root) = true)
    (a_commute : PySem.W.nsIn K mainGlobals "commute" = some (some (.ref f_commute))) (l_commute : K.lookup f_commute = some ⟨oc_commute, od_commute, .func (PySem.W.fnOf "commute" "commute" (defArgs s_commute) (defBody s_commute) (defScope s_commute) .none kV_commute dc_commute pm_commute an_commute cd_commute ct_commute), sl_commute⟩) (c_commute : PySem.W.codeIn K cd_commute "commute" = true) (k_commute : PySem.W.keepIn K (.ref f_commute) = true)
    (a__law_shown : PySem.W.nsIn K mainGlobals "_law_shown" = some (some (.ref f__law_shown))) (l__law_shown : K.lookup f__law_shown = some ⟨oc__law_shown, od__law_shown, .func (PySem.W.fnOf "_law_shown" "_law_shown" (defArgs s__law_shown) (defBody s__law_shown) (defScope s__law_shown) .none kV__law_shown dc__law_shown pm__law_shown an__law_shown cd__law_shown ct__law_shown), sl__law_shown⟩) (c__law_shown : PySem.W.codeIn K cd__law_shown "_law_shown" = true) (k__law_shown : PySem.W.keepIn K (.ref f__law_shown) = true)
    (a__law_commute : PySem.W.nsIn K mainGlobals "_law_commute" = some (some (.ref f__law_commute))) (l__law_commute : K.lookup f__law_commute = some ⟨oc__law_commute, od__law_commute, .func (PySem.W.fnOf "_law_commute" "_law_commute" (defArgs s__law_commute) (defBody s__law_commute) (defScope s__law_commute) .none kV__law_commute dc__law_commute pm__law_commute an__law_commute cd__law_commute ct__law_commute), sl__law_commute⟩) (c__law_commute : PySem.W.codeIn K cd__law_commute "_law_commute" = true) (k__law_commute : PySem.W.keepIn K (.ref f__law_commute) = true)
    (a__law_right : PySem.W.nsIn K mainGlobals "_law_right" = some (some (.ref f__law_right))) (l__law_right : K.lookup f__law_right = some ⟨oc__law_right, od__law_right, .func (PySem.W.fnOf "_law_right" "_law_right" (defArgs s__law_right) (defBody s__law_right) (defScope s__law_right) .none kV__law_right dc__law_right pm__law_right an__law_right cd__law_right ct__law_right), sl__law_right⟩) (c__law_right : PySem.W.codeIn K cd__law_right "_law_right" = true) (k__law_right : PySem.W.keepIn K (.ref f__law_right) = true)
    (a_law : PySem.W.nsIn K mainGlobals "law" = some (some (.ref f_law))) (l_law : K.lookup f_law = some ⟨oc_law, od_law, .func (PySem.W.fnOf "law" "law" (defArgs s_law) (defBody s_law) (defScope s_law) .none kV_law dc_law pm_law an_law cd_law ct_law), sl_law⟩) (c_law : PySem.W.codeIn K cd_law "law" = true) (k_law : PySem.W.keepIn K (.ref f_law) = true)
    (z_abs : PySem.W.nsIn K mainGlobals "abs" = some none)
    (z_all : PySem.W.nsIn K mainGlobals "all" = some none)
    (z_bool : PySem.W.nsIn K mainGlobals "bool" = some none)
    (z_int : PySem.W.nsIn K mainGlobals "int" = some none)
    (z_isinstance : PySem.W.nsIn K mainGlobals "isinstance" = some none)
    (z_len : PySem.W.nsIn K mainGlobals "len" = some none)
    (z_max : PySem.W.nsIn K mainGlobals "max" = some none)
    (z_min : PySem.W.nsIn K mainGlobals "min" = some none)
    (z_range : PySem.W.nsIn K mainGlobals "range" = some none)
    (z_sum : PySem.W.nsIn K mainGlobals "sum" = some none)
    (z_tuple : PySem.W.nsIn K mainGlobals "tuple" = some none)
    (v_MOST_LETTERS : PySem.W.nsIn K mainGlobals "MOST_LETTERS" = some (some (.int 4 tc_MOST_LETTERS)))
    (v_MOST_TIMES : PySem.W.nsIn K mainGlobals "MOST_TIMES" = some (some (.int 20 tc_MOST_TIMES)))
    : ∃ fd : FuncData, (∀ (s : Shared) (v : Value), BindsTo s fd ⟨[v], []⟩ [("_law_script", v)]) ∧ ∀ base : Heap, K.In base → base.Ns mainGlobals mg → FnOk l.prog w K mg base CX0 8 fa fd ["_law_script"] (sp_law K) := by
  have e := hfa.symm.trans (PySem.W.mg_of X G a_law)
  cases e
  have F_is_integer := fun_mk (st := s_is_integer) l_is_integer c_is_integer k_is_integer
  have F_straightened := fun_mk (st := s_straightened) l_straightened c_straightened k_straightened
  have F_turned_back := fun_mk (st := s_turned_back) l_turned_back c_turned_back k_turned_back
  have F_lead_and_core := fun_mk (st := s_lead_and_core) l_lead_and_core c_lead_and_core k_lead_and_core
  have F_once_round := fun_mk (st := s_once_round) l_once_round c_once_round k_once_round
  have F__law_well := fun_mk (st := s__law_well) l__law_well c__law_well k__law_well
  have F__law_take := fun_mk (st := s__law_take) l__law_take c__law_take k__law_take
  have F__law_back := fun_mk (st := s__law_back) l__law_back c__law_back k__law_back
  have F__law_joined := fun_mk (st := s__law_joined) l__law_joined c__law_joined k__law_joined
  have F__law_is := fun_mk (st := s__law_is) l__law_is c__law_is k__law_is
  have F_is_step_of := fun_mk (st := s_is_step_of) l_is_step_of c_is_step_of k_is_step_of
  have F_check_within := fun_mk (st := s_check_within) l_check_within c_check_within k_check_within
  have F__law_walk := fun_mk (st := s__law_walk) l__law_walk c__law_walk k__law_walk
  have F__law_straight := fun_mk (st := s__law_straight) l__law_straight c__law_straight k__law_straight
  have F__law_core := fun_mk (st := s__law_core) l__law_core c__law_core k__law_core
  have F__law_pair := fun_mk (st := s__law_pair) l__law_pair c__law_pair k__law_pair
  have F__law_counted := fun_mk (st := s__law_counted) l__law_counted c__law_counted k__law_counted
  have F_is_walk_of := fun_mk (st := s_is_walk_of) l_is_walk_of c_is_walk_of k_is_walk_of
  have F__law_root := fun_mk (st := s__law_root) l__law_root c__law_root k__law_root
  have F__law_wound := fun_mk (st := s__law_wound) l__law_wound c__law_wound k__law_wound
  have F_check_walk := fun_mk (st := s_check_walk) l_check_walk c_check_walk k_check_walk
  have F_power := fun_mk (st := s_power) l_power c_power k_power
  have F_core := fun_mk (st := s_core) l_core c_core k_core
  have F_root := fun_mk (st := s_root) l_root c_root k_root
  have F_commute := fun_mk (st := s_commute) l_commute c_commute k_commute
  have F__law_shown := fun_mk (st := s__law_shown) l__law_shown c__law_shown k__law_shown
  have F__law_commute := fun_mk (st := s__law_commute) l__law_commute c__law_commute k__law_commute
  have F__law_right := fun_mk (st := s__law_right) l__law_right c__law_right k__law_right
  have F_law := fun_mk (st := s_law) l_law c_law k_law
  have b_is_integer := F_is_integer.binds (ps := P_is_integer) fun _ _ _ _ _ _ us hl => match us, hl with | [_], _ => rfl
  have b_straightened := F_straightened.binds (ps := P_straightened) fun _ _ _ _ _ _ us hl => match us, hl with | [_], _ => rfl
  have b_turned_back := F_turned_back.binds (ps := P_turned_back) fun _ _ _ _ _ _ us hl => match us, hl with | [_], _ => rfl
  have b_lead_and_core := F_lead_and_core.binds (ps := P_lead_and_core) fun _ _ _ _ _ _ us hl => match us, hl with | [_], _ => rfl
  have b_once_round := F_once_round.binds (ps := P_once_round) fun _ _ _ _ _ _ us hl => match us, hl with | [_], _ => rfl
  have b__law_well := F__law_well.binds (ps := P__law_well) fun _ _ _ _ _ _ us hl => match us, hl with | [_, _], _ => rfl
  have b__law_take := F__law_take.binds (ps := P__law_take) fun _ _ _ _ _ _ us hl => match us, hl with | [_, _], _ => rfl
  have b__law_back := F__law_back.binds (ps := P__law_back) fun _ _ _ _ _ _ us hl => match us, hl with | [_], _ => rfl
  have b__law_joined := F__law_joined.binds (ps := P__law_joined) fun _ _ _ _ _ _ us hl => match us, hl with | [_, _], _ => rfl
  have b__law_is := F__law_is.binds (ps := P__law_is) fun _ _ _ _ _ _ us hl => match us, hl with | [_, _], _ => rfl
  have b_is_step_of := F_is_step_of.binds (ps := P_is_step_of) fun _ _ _ _ _ _ us hl => match us, hl with | [_, _], _ => rfl
  have b_check_within := F_check_within.binds (ps := P_check_within) fun _ _ _ _ _ _ us hl => match us, hl with | [_, _, _], _ => rfl
  have b__law_walk := F__law_walk.binds (ps := P__law_walk) fun _ _ _ _ _ _ us hl => match us, hl with | [_, _, _], _ => rfl
  have b__law_straight := F__law_straight.binds (ps := P__law_straight) fun _ _ _ _ _ _ us hl => match us, hl with | [_], _ => rfl
  have b__law_core := F__law_core.binds (ps := P__law_core) fun _ _ _ _ _ _ us hl => match us, hl with | [_], _ => rfl
  have b__law_pair := F__law_pair.binds (ps := P__law_pair) fun _ _ _ _ _ _ us hl => match us, hl with | [_, _], _ => rfl
  have b__law_counted := F__law_counted.binds (ps := P__law_counted) fun _ _ _ _ _ _ us hl => match us, hl with | [_, _], _ => rfl
  have b_is_walk_of := F_is_walk_of.binds (ps := P_is_walk_of) fun _ _ _ _ _ _ us hl => match us, hl with | [_, _], _ => rfl
  have b__law_root := F__law_root.binds (ps := P__law_root) fun _ _ _ _ _ _ us hl => match us, hl with | [_], _ => rfl
  have b__law_wound := F__law_wound.binds (ps := P__law_wound) fun _ _ _ _ _ _ us hl => match us, hl with | [_, _], _ => rfl
  have b_check_walk := F_check_walk.binds (ps := P_check_walk) fun _ _ _ _ _ _ us hl => match us, hl with | [_, _], _ => rfl
  have b_power := F_power.binds (ps := P_power) fun _ _ _ _ _ _ us hl => match us, hl with | [_, _], _ => rfl
  have b_core := F_core.binds (ps := P_core) fun _ _ _ _ _ _ us hl => match us, hl with | [_], _ => rfl
  have b_root := F_root.binds (ps := P_root) fun _ _ _ _ _ _ us hl => match us, hl with | [_], _ => rfl
  have b_commute := F_commute.binds (ps := P_commute) fun _ _ _ _ _ _ us hl => match us, hl with | [_, _], _ => rfl
  have b__law_shown := F__law_shown.binds (ps := P__law_shown) fun _ _ _ _ _ _ us hl => match us, hl with | [_], _ => rfl
  have b__law_commute := F__law_commute.binds (ps := P__law_commute) fun _ _ _ _ _ _ us hl => match us, hl with | [_, _], _ => rfl
  have b__law_right := F__law_right.binds (ps := P__law_right) fun _ _ _ _ _ _ us hl => match us, hl with | [_], _ => rfl
  have b_law := F_law.binds (ps := P_law) fun _ _ _ _ _ _ us hl => match us, hl with | [_], _ => rfl
  have T : Tx K mg ⟨f_is_integer, _, f_straightened, _, f_turned_back, _, f_lead_and_core, _, f_once_round, _, f__law_well, _, f__law_take, _, f__law_back, _, f__law_joined, _, f__law_is, _, f_is_step_of, _, f_check_within, _, f__law_walk, _, f__law_straight, _, f__law_core, _, f__law_pair, _, f__law_counted, _, f_is_walk_of, _, f__law_root, _, f__law_wound, _, f_check_walk, _, f_power, _, f_core, _, f_root, _, f_commute, _, f__law_shown, _, f__law_commute, _, f__law_right, _, fa, _⟩ := {
    g_is_integer := PySem.W.mg_of X G a_is_integer, F_is_integer := F_is_integer, b_is_integer := b_is_integer,
    g_straightened := PySem.W.mg_of X G a_straightened, F_straightened := F_straightened, b_straightened := b_straightened,
    g_turned_back := PySem.W.mg_of X G a_turned_back, F_turned_back := F_turned_back, b_turned_back := b_turned_back,
    g_lead_and_core := PySem.W.mg_of X G a_lead_and_core, F_lead_and_core := F_lead_and_core, b_lead_and_core := b_lead_and_core,
    g_once_round := PySem.W.mg_of X G a_once_round, F_once_round := F_once_round, b_once_round := b_once_round,
    g__law_well := PySem.W.mg_of X G a__law_well, F__law_well := F__law_well, b__law_well := b__law_well,
    g__law_take := PySem.W.mg_of X G a__law_take, F__law_take := F__law_take, b__law_take := b__law_take,
    g__law_back := PySem.W.mg_of X G a__law_back, F__law_back := F__law_back, b__law_back := b__law_back,
    g__law_joined := PySem.W.mg_of X G a__law_joined, F__law_joined := F__law_joined, b__law_joined := b__law_joined,
    g__law_is := PySem.W.mg_of X G a__law_is, F__law_is := F__law_is, b__law_is := b__law_is,
    g_is_step_of := PySem.W.mg_of X G a_is_step_of, F_is_step_of := F_is_step_of, b_is_step_of := b_is_step_of,
    g_check_within := PySem.W.mg_of X G a_check_within, F_check_within := F_check_within, b_check_within := b_check_within,
    g__law_walk := PySem.W.mg_of X G a__law_walk, F__law_walk := F__law_walk, b__law_walk := b__law_walk,
    g__law_straight := PySem.W.mg_of X G a__law_straight, F__law_straight := F__law_straight, b__law_straight := b__law_straight,
    g__law_core := PySem.W.mg_of X G a__law_core, F__law_core := F__law_core, b__law_core := b__law_core,
    g__law_pair := PySem.W.mg_of X G a__law_pair, F__law_pair := F__law_pair, b__law_pair := b__law_pair,
    g__law_counted := PySem.W.mg_of X G a__law_counted, F__law_counted := F__law_counted, b__law_counted := b__law_counted,
    g_is_walk_of := PySem.W.mg_of X G a_is_walk_of, F_is_walk_of := F_is_walk_of, b_is_walk_of := b_is_walk_of,
    g__law_root := PySem.W.mg_of X G a__law_root, F__law_root := F__law_root, b__law_root := b__law_root,
    g__law_wound := PySem.W.mg_of X G a__law_wound, F__law_wound := F__law_wound, b__law_wound := b__law_wound,
    g_check_walk := PySem.W.mg_of X G a_check_walk, F_check_walk := F_check_walk, b_check_walk := b_check_walk,
    g_power := PySem.W.mg_of X G a_power, F_power := F_power, b_power := b_power,
    g_core := PySem.W.mg_of X G a_core, F_core := F_core, b_core := b_core,
    g_root := PySem.W.mg_of X G a_root, F_root := F_root, b_root := b_root,
    g_commute := PySem.W.mg_of X G a_commute, F_commute := F_commute, b_commute := b_commute,
    g__law_shown := PySem.W.mg_of X G a__law_shown, F__law_shown := F__law_shown, b__law_shown := b__law_shown,
    g__law_commute := PySem.W.mg_of X G a__law_commute, F__law_commute := F__law_commute, b__law_commute := b__law_commute,
    g__law_right := PySem.W.mg_of X G a__law_right, F__law_right := F__law_right, b__law_right := b__law_right,
    g_law := PySem.W.mg_of X G a_law, F_law := F_law, b_law := b_law,
    n_abs := PySem.W.mg_none_of X G z_abs,
    n_all := PySem.W.mg_none_of X G z_all,
    n_bool := PySem.W.mg_none_of X G z_bool,
    n_int := PySem.W.mg_none_of X G z_int,
    n_isinstance := PySem.W.mg_none_of X G z_isinstance,
    n_len := PySem.W.mg_none_of X G z_len,
    n_max := PySem.W.mg_none_of X G z_max,
    n_min := PySem.W.mg_none_of X G z_min,
    n_range := PySem.W.mg_none_of X G z_range,
    n_sum := PySem.W.mg_none_of X G z_sum,
    n_tuple := PySem.W.mg_none_of X G z_tuple,
    c_MOST_LETTERS := ⟨_, PySem.W.mg_of X G v_MOST_LETTERS⟩,
    c_MOST_TIMES := ⟨_, PySem.W.mg_of X G v_MOST_TIMES⟩ }
  exact ⟨PySem.W.fnOf "law" "law" (defArgs s_law) (defBody s_law) (defScope s_law) .none kV_law dc_law pm_law an_law cd_law ct_law, fun s v => .of_eq rfl, fun base _ _ => ok_law T⟩

end Lw
open PySem PySem.W PyProof.Rows
set_option maxHeartbeats 0 in
theorem PySem.Challenge.cw_walkclubs_k02_cores_and_roots_holds : PySem.Challenge.rw_walkclubs_k02_cores_and_roots.Holds := by
  w_on; o_law; k_head; (case hw => w_witness2)
  k_fill
  refine L2.walk_of (l := PySem.Challenge.rw_walkclubs_k02_cores_and_roots) (n := 63) (k := 8) (x := "_law_script") (CX := fun _ => L2.CX0) (sp := fun w => Lw.sp_law _) rfl (by decide) rfl ⟨rfl, by decide, by decide⟩ (fun w h Y => PySem.W.kIn_of Y) ?F (fun _ _ a ns hl _ hS => ⟨a, ns, rfl, hS, hl, fun _ => rfl⟩) (fun _ _ _ _ _ h => h)
  case F =>
    intro w mg fa h KX G hmg
    refine' Lw.all_mk KX G hmg ?a_is_integer ?l_is_integer ?c_is_integer ?k_is_integer ?a_straightened ?l_straightened ?c_straightened ?k_straightened ?a_turned_back ?l_turned_back ?c_turned_back ?k_turned_back ?a_lead_and_core ?l_lead_and_core ?c_lead_and_core ?k_lead_and_core ?a_once_round ?l_once_round ?c_once_round ?k_once_round ?a__law_well ?l__law_well ?c__law_well ?k__law_well ?a__law_take ?l__law_take ?c__law_take ?k__law_take ?a__law_back ?l__law_back ?c__law_back ?k__law_back ?a__law_joined ?l__law_joined ?c__law_joined ?k__law_joined ?a__law_is ?l__law_is ?c__law_is ?k__law_is ?a_is_step_of ?l_is_step_of ?c_is_step_of ?k_is_step_of ?a_check_within ?l_check_within ?c_check_within ?k_check_within ?a__law_walk ?l__law_walk ?c__law_walk ?k__law_walk ?a__law_straight ?l__law_straight ?c__law_straight ?k__law_straight ?a__law_core ?l__law_core ?c__law_core ?k__law_core ?a__law_pair ?l__law_pair ?c__law_pair ?k__law_pair ?a__law_counted ?l__law_counted ?c__law_counted ?k__law_counted ?a_is_walk_of ?l_is_walk_of ?c_is_walk_of ?k_is_walk_of ?a__law_root ?l__law_root ?c__law_root ?k__law_root ?a__law_wound ?l__law_wound ?c__law_wound ?k__law_wound ?a_check_walk ?l_check_walk ?c_check_walk ?k_check_walk ?a_power ?l_power ?c_power ?k_power ?a_core ?l_core ?c_core ?k_core ?a_root ?l_root ?c_root ?k_root ?a_commute ?l_commute ?c_commute ?k_commute ?a__law_shown ?l__law_shown ?c__law_shown ?k__law_shown ?a__law_commute ?l__law_commute ?c__law_commute ?k__law_commute ?a__law_right ?l__law_right ?c__law_right ?k__law_right ?a_law ?l_law ?c_law ?k_law ?z_abs ?z_all ?z_bool ?z_int ?z_isinstance ?z_len ?z_max ?z_min ?z_range ?z_sum ?z_tuple ?v_MOST_LETTERS ?v_MOST_TIMES
    (case a_is_integer => k_is); (case l_is_integer => k_is); (case c_is_integer => k_is); (case k_is_integer => k_is); (case a_straightened => k_is); (case l_straightened => k_is); (case c_straightened => k_is); (case k_straightened => k_is); (case a_turned_back => k_is); (case l_turned_back => k_is); (case c_turned_back => k_is); (case k_turned_back => k_is); (case a_lead_and_core => k_is); (case l_lead_and_core => k_is); (case c_lead_and_core => k_is); (case k_lead_and_core => k_is); (case a_once_round => k_is); (case l_once_round => k_is); (case c_once_round => k_is); (case k_once_round => k_is); (case a__law_well => k_is); (case l__law_well => k_is); (case c__law_well => k_is); (case k__law_well => k_is); (case a__law_take => k_is); (case l__law_take => k_is); (case c__law_take => k_is); (case k__law_take => k_is); (case a__law_back => k_is); (case l__law_back => k_is); (case c__law_back => k_is); (case k__law_back => k_is); (case a__law_joined => k_is); (case l__law_joined => k_is); (case c__law_joined => k_is); (case k__law_joined => k_is); (case a__law_is => k_is); (case l__law_is => k_is); (case c__law_is => k_is); (case k__law_is => k_is); (case a_is_step_of => k_is); (case l_is_step_of => k_is); (case c_is_step_of => k_is); (case k_is_step_of => k_is); (case a_check_within => k_is); (case l_check_within => k_is); (case c_check_within => k_is); (case k_check_within => k_is); (case a__law_walk => k_is); (case l__law_walk => k_is); (case c__law_walk => k_is); (case k__law_walk => k_is); (case a__law_straight => k_is); (case l__law_straight => k_is); (case c__law_straight => k_is); (case k__law_straight => k_is); (case a__law_core => k_is); (case l__law_core => k_is); (case c__law_core => k_is); (case k__law_core => k_is); (case a__law_pair => k_is); (case l__law_pair => k_is); (case c__law_pair => k_is); (case k__law_pair => k_is); (case a__law_counted => k_is); (case l__law_counted => k_is); (case c__law_counted => k_is); (case k__law_counted => k_is); (case a_is_walk_of => k_is); (case l_is_walk_of => k_is); (case c_is_walk_of => k_is); (case k_is_walk_of => k_is); (case a__law_root => k_is); (case l__law_root => k_is); (case c__law_root => k_is); (case k__law_root => k_is); (case a__law_wound => k_is); (case l__law_wound => k_is); (case c__law_wound => k_is); (case k__law_wound => k_is); (case a_check_walk => k_is); (case l_check_walk => k_is); (case c_check_walk => k_is); (case k_check_walk => k_is); (case a_power => k_is); (case l_power => k_is); (case c_power => k_is); (case k_power => k_is); (case a_core => k_is); (case l_core => k_is); (case c_core => k_is); (case k_core => k_is); (case a_root => k_is); (case l_root => k_is); (case c_root => k_is); (case k_root => k_is); (case a_commute => k_is); (case l_commute => k_is); (case c_commute => k_is); (case k_commute => k_is); (case a__law_shown => k_is); (case l__law_shown => k_is); (case c__law_shown => k_is); (case k__law_shown => k_is); (case a__law_commute => k_is); (case l__law_commute => k_is); (case c__law_commute => k_is); (case k__law_commute => k_is); (case a__law_right => k_is); (case l__law_right => k_is); (case c__law_right => k_is); (case k__law_right => k_is); (case a_law => k_is); (case l_law => k_is); (case c_law => k_is); (case k_law => k_is); (case z_abs => k_is); (case z_all => k_is); (case z_bool => k_is); (case z_int => k_is); (case z_isinstance => k_is); (case z_len => k_is); (case z_max => k_is); (case z_min => k_is); (case z_range => k_is); (case z_sum => k_is); (case z_tuple => k_is); (case v_MOST_LETTERS => k_is); (case v_MOST_TIMES => k_is)

#print axioms PySem.Challenge.cw_walkclubs_k02_cores_and_roots_holds
