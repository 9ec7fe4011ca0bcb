import PyProof.Rows.All
import Wide.All
import OpenK.AllK
import Wide.FinOn
import HandS.ForMost
import HandS.Flow
import HandS.IsInst
import HandS.Style
import HandS.TupAny
import HandS.TupMul
import HandS.Wide
import HandS.Evl
import HandS.SortKw
import PyProof.ReprReads
import HandS.Zip
import PyProof.ReprLen
import KE.GoesNew
import KE.GoesMore
import KE.GoesEnum
import PyProof.ReprRoads
import HandS.Conv
import PyProof.ReprBulk
import HandS.WideMore
import HandS.WideBits
import HandS.RaiseMore
import HandS.Gcd
import KE.KMathGC
import PyProof.AutoIntOps
import HandS.DictComp
import HandS.ListItems
import HandS.Iter
import KE.KDictList
import HandS.TupLe
import PyProof.P3Eq
import KE.GoesEnumKw
import PyProof.Rows.CallKwBuiltin
import HandS.More
import HandS.WordsDict
import HandS.SetKeys
import HandS.DictTup
import HandS.TupLen
import HandS.Defaults
import HandS.List
import KE.KDictDisplayH
import HandS.Finally
import PyProof.CallFns
import HandS.TupSets
import HandS.Deep
import PySem.Challenge.RW_walkclubs_k13_trees_and_bases
set_option Elab.async false
set_option linter.all false
set_option maxRecDepth 100000
set_option maxHeartbeats 4000000
/-! rules that the layer lacks: ** of wide ints, tuple * any int, t[::-1] of a tuple, a call of keywords alone -/
namespace HT
open PySem PySem.Spec PyProof.Rows
section
variable {prog : Program} {w : World} {A : Around} {E : Value → Shared → Prop} {s : Shared}
theorem wk_pick (xs : Array Value) : ((List.range xs.size).filterMap fun (k : Nat) => xs[((((xs.size : Nat) : Int) - 1) + (k : Int) * (-1)).toNat]?).toArray = xs.toList.reverse.toArray := by
  have e : (List.range xs.size).filterMap (fun (k : Nat) => xs[((((xs.size : Nat) : Int) - 1) + (k : Int) * (-1)).toNat]?) = ((List.range xs.size).map fun k => xs.size - 1 - k).filterMap (xs[·]?) := by
    rw [List.filterMap_map]
    have e0 : (fun (k : Nat) => xs[((((xs.size : Nat) : Int) - 1) + (k : Int) * (-1)).toNat]?) = ((xs[·]?) ∘ fun k => xs.size - 1 - k) := by
      funext k
      have e1 : ((((xs.size : Nat) : Int) - 1) + (k : Int) * (-1)).toNat = xs.size - 1 - k := by omega
      show xs[((((xs.size : Nat) : Int) - 1) + (k : Int) * (-1)).toNat]? = xs[xs.size - 1 - k]?
      rw [e1]
    rw [e0]
  rw [e, PySem.W.krv_range, List.filterMap_reverse, PySem.W.krv_all]
theorem wk_places (n : Nat) : Builtin.Slice.slicePlaces ((n : Int) - 1) (-1) (-1) = n := by
  unfold Builtin.Slice.slicePlaces
  rw [if_neg (by decide)]
  by_cases h : n = 0
  · subst h
    rfl
  · rw [if_pos (by omega), show (- -1 : Int) = 1 from rfl, Int.ediv_one]
    omega
theorem wk_applied {sl : Addr} {vs : Value} {n : Nat} {Q : Int × Int × Nat → Shared → Prop} (hs : s.heap.IsSliceOf sl .none .none vs) (ps : IsPart vs (some (-1)))
    (h : Q ((n : Int) - 1, -1, n) s) : wpAny (model prog w) A (Builtin.Slice.sliceApplied (.ref sl) (pure (n : Int))) Q E s := by
  obtain ⟨os, hos, hcs, hds⟩ := id hs
  unfold Builtin.Slice.sliceApplied Builtin.Slice.sliceFields
  refine wpAny_bind (wpAny_bind (wpAny_field hos hds (x := .none) rfl (wpAny_bind (wpAny_field hos hds (x := .none) rfl (wpAny_bind (wpAny_field hos hds (x := vs) rfl (wpAny_pure ?_)))))))
  refine wpAny_bind (slicePart_ ps ?_)
  show wpAny _ _ (if ((-1 : Int) == 0) = true then _ else _) _ _ s
  rw [if_neg (by decide)]
  refine wpAny_bind (slicePart_none (wpAny_bind (slicePart_none (wpAny_bind (wpAny_pure ?_)))))
  show wpAny _ _ (pure (((n : Int) - 1), (-1 : Int), Builtin.Slice.slicePlaces ((n : Int) - 1) (-1) (-1))) _ _ s
  rw [wk_places]
  exact wpAny_pure h
theorem wk_getItem_tuple_rev {t sl : Addr} {items : Array Value} {vs : Value} {Q : Value → Shared → Prop} (ht : IsTup s.heap t items) (hs : s.heap.IsSliceOf sl .none .none vs) (ps : IsPart vs (some (-1)))
    (h : Q (.ref s.heap.objs.size) { s with heap := s.heap.push { cls := .type "tuple", data := .seq items.toList.reverse.toArray } })
    (hsz : items.size ≤ sizeLine) : wpAny (model prog w) A (getItem (.ref t) (.ref sl)) Q E s := by
  have htake : sizeOk (.seq items.toList.reverse.toArray) := by
    show items.toList.reverse.toArray.size ≤ sizeLine
    rw [List.size_toArray, List.length_reverse, Array.length_toList]
    exact hsz
  obtain ⟨os, hos, hcs, hds⟩ := id hs
  have hTs : s.TypeIs (.ref sl) "slice" := ⟨os, hos, hcs⟩
  unfold getItem
  try with_reducible refine wpAny_holding ?_
  first | refine wpAny_bind (wpAny_pure ?_) | skip
  refine wpAny_bind (wpAny_sequenceKey ht.typeIs (by decide) ?_)
  refine wpAny_bind (wpAny_callSpecial?_slot (name := Str.ofString "__getitem__") ht.typeIs PyProof.Rows.slot_tuple_getitem
    (wpAny_call_entry PyProof.Rows.slot_tuple_getitem ht.typeIs entry_tuple_getitem ?_ (args_tuple_getitem _ _)))
  show wpAny _ _ (Builtin.Tuple.tupleItemsOf (.ref t) >>= _) _ _ s
  refine wpAny_bind (tupleItemsOf_ ht ?_)
  refine wpAny_bind (wpAny_typeOf hTs ?_)
  rw [if_pos (by decide)]
  refine wpAny_bind (wk_applied hs ps ?_)
  have hno : ¬ (((((items.size : Nat) : Int) - 1) == 0 && (-1 : Int) == 1 && items.size == items.size) = true) := by
    intro q
    rw [Bool.and_eq_true, Bool.and_eq_true] at q
    exact absurd q.1.2 (by decide)
  show wpAny _ _ (if ((((items.size : Nat) : Int) - 1) == 0 && (-1 : Int) == 1 && items.size == items.size) = true then _ else _) _ _ s
  rw [if_neg hno, wk_pick]
  first
    | exact wpAny_bind (m := Builtin.Tuple.tupleExact _) (wpAny_newObj_type (wpAny_pure ⟨_, rfl, wpAny_pure h⟩) htake)
    | exact wpAny_bind (m := Builtin.Tuple.tupleExact _) (wpAny_newObj_type (wpAny_bind (wpAny_pure (wpAny_pure ⟨_, rfl, wpAny_pure h⟩))) htake)
    | exact wpAny_bind (wpAny_bind (m := Builtin.Tuple.tupleExact _) (wpAny_newObj_type (wpAny_pure (wpAny_pure ⟨_, rfl, wpAny_pure h⟩)) htake))
    | exact wpAny_bind (wpAny_bind (m := Builtin.Tuple.tupleExact _) (wpAny_newObj_type (wpAny_pure ⟨_, rfl, wpAny_pure h⟩) htake))
end
end HT
namespace L2
open PySem PySem.Spec PyProof.Rows HT
/-! ### ** -/
def CPowW (i j : Int) : Prop := 0 ≤ j ∧ (Builtin.Int.intBits i : Int) * j ≤ 2 ^ 27
section
variable {X : Cx}
theorem op_powW : OpR X (binaryOp .Pow) (rI CPowW fun i j => .int (i ^ j.toNat)) := opI fun _ _ _ _ _ _ _ hc q => pow_int hc.1 hc.2 q
end
theorem wide_bits {i : Int} {a : Nat} (h0 : 0 < a) (ha : i.natAbs < 2 ^ a) : Builtin.Int.intBits i ≤ a := by
  have x := PySem.Flt.log2_lt_of h0 ha
  unfold Builtin.Int.intBits
  split <;> omega
theorem wide_pow {i : Int} {a k : Nat} (h0 : 0 < a) (ha : i.natAbs < 2 ^ a) (h : a * k ≤ 134217728) : CPowW i (k : Int) := by
  refine ⟨by omega, ?_⟩
  have x := wide_bits h0 ha
  have y : Builtin.Int.intBits i * k ≤ a * k := Nat.mul_le_mul_right k x
  have z : ((Builtin.Int.intBits i * k : Nat) : Int) ≤ 2 ^ 27 := by
    have : Builtin.Int.intBits i * k ≤ 134217728 := Nat.le_trans y h
    have e : (2 : Int) ^ 27 = 134217728 := by decide
    rw [e]
    omega
  rw [Int.natCast_mul] at z
  exact z
/-! ### tuple * int, any -/
theorem wk_tuple_same (l : Addr) (items : Array Value) (n : Nat) (dd : Option Addr) (sl : Array (Option Value)) (x : Int) (u : Tok) (c0 : (decide (x < -(2 ^ 63)) || decide (x ≥ 2 ^ 63)) = false) (c1 : (items.isEmpty || x == 1) = true) :
    Meets (Builtin.«tuple.__mul__» ⟨[.ref l, .int x u], []⟩) (fun _ R s => s.heap.get? l = some { cls := .type "tuple", dict := dd, data := .seq items n, slots := sl } ∧ R (.ok (.ret (Value.ref l))) s) :=
  .of_wp fun prog w A R s h => by
    obtain ⟨hp, g, d, tk, os⟩ := s
    obtain ⟨hl, h⟩ := h
    have f1 := AutoSeq1.idx_int
    wp_walk using wpAny_loadPart' hl
    repeat (first
      | (refine wpAny_ite_false (decide_eq_false (by rw [c0]; exact Bool.false_ne_true)) ?_; wp_walk using wpAny_loadPart' hl)
      | (refine wpAny_ite_true (decide_eq_true c1) ?_; wp_walk using wpAny_loadPart' hl))
    exact ⟨_, rfl, h⟩
theorem wk_tuple_none (l : Addr) (items : Array Value) (n : Nat) (dd : Option Addr) (sl : Array (Option Value)) (x : Int) (u : Tok) (c0 : (decide (x < -(2 ^ 63)) || decide (x ≥ 2 ^ 63)) = false) (c1 : (items.isEmpty || x == 1) = false) (c2 : (decide (x ≤ 0) || items.isEmpty) = true) :
    Meets (Builtin.«tuple.__mul__» ⟨[.ref l, .int x u], []⟩) (fun _ R s => s.heap.get? l = some { cls := .type "tuple", dict := dd, data := .seq items n, slots := sl } ∧
      R (.ok (.ret (Value.ref s.heap.objs.size))) { s with heap := s.heap.push { cls := Value.type "tuple", data := Data.seq #[] }, toks := s.toks }) :=
  .of_wp fun prog w A R s h => by
    obtain ⟨hp, g, d, tk, os⟩ := s
    obtain ⟨hl, h⟩ := h
    have f1 := AutoSeq1.idx_int
    wp_walk using wpAny_loadPart' hl
    repeat (first
      | (refine wpAny_ite_false (decide_eq_false (by rw [c0]; exact Bool.false_ne_true)) ?_; wp_walk using wpAny_loadPart' hl)
      | (refine wpAny_ite_false (decide_eq_false (by rw [c1]; exact Bool.false_ne_true)) ?_; wp_walk using wpAny_loadPart' hl)
      | (refine wpAny_ite_true (decide_eq_true c2) ?_; wp_walk using wpAny_loadPart' hl))
    exact ⟨_, rfl, h⟩
def rRepTA (K : PySem.W.Frag) : R2 := fun x y H Q => ∃ l k xs, x = .ref l ∧ y = .int k ∧ SqT K H l xs ∧ 0 ≤ k ∧ k ≤ 1000 ∧ xs.length ≤ 1000 ∧
  (xs = [] ∨ k = 1 → Q (.ref l) H) ∧ (¬ (xs = [] ∨ k = 1) → ∀ p, H p = none → Q (.ref p) (upd H p (.tup (List.replicate k.toNat xs).flatten)))
section
variable {X : Cx}
theorem op_repTA : OpR X (binaryOp .Mult) (rRepTA X.K) := by
  intro pins s σ H x y v u Q I rx ry h
  obtain ⟨l, k, xs, rfl, rfl, hT, h1, h2, hz, q1, q2⟩ := h
  by_cases h2k : 2 ≤ k ∧ xs ≠ []
  · exact op_repT pins s σ H _ _ v u Q I rx ry ⟨l, k, xs, rfl, rfl, hT, h2k.2, h2k.1, h2, hz, q2 (fun z => z.elim h2k.2 fun e => by have := h2k.1; omega)⟩
  · cases rx
    obtain ⟨t, rfl⟩ := ry
    obtain ⟨its, r, ⟨⟨cls, dd, data, sl⟩, ho, hc, n, hd⟩, hs⟩ := I.tuple hT
    simp only at hc hd
    subst hc hd
    have hle : its.length = xs.length := r.length.symm
    have c0 : (decide (k < -(2 ^ 63)) || decide (k ≥ 2 ^ 63)) = false := by
      rw [decide_eq_false (by omega), decide_eq_false (by omega)] <;> rfl
    have hi : its.toArray.isEmpty = decide (xs = []) := by
      cases its with
      | nil =>
        have e : xs = [] := List.eq_nil_of_length_eq_zero (by simpa using hle.symm)
        subst e
        rfl
      | cons a b =>
        have e : xs ≠ [] := fun z => by
          subst z
          simp at hle
        rw [decide_eq_false e]
        rfl
    by_cases hw : xs = [] ∨ k = 1
    · have c1 : (its.toArray.isEmpty || k == 1) = true := by
        rw [hi]
        rcases hw with e | e
        · simp [e]
        · simp [e]
      refine wpAny_binaryOp_repeat_ref (T := "tuple") (U := "int") (by decide) ⟨_, ho, rfl⟩ (fun s' => typeIs_int s' k t) noFill_tuple_mul F.fills_int_mul F.slot_int_rmul repeat_tuple F.slot_int_index.lookup
        (call_meets F.slot_int_rmul (typeIs_int s k t) F.entry_int_rmul (F.args_int_rmul_2 _ _) (int_rmul_tuple k t l its.toArray n dd sl)
          ⟨ho, rfl, ⟨_, ho, rfl⟩, call_meets F.slot_tuple_mul ⟨_, ho, rfl⟩ F.entry_tuple_mul (F.args_tuple_mul_2 _ _) (wk_tuple_same l its.toArray n dd sl k t c0 c1) ⟨ho, ?_⟩⟩)
      exact ⟨.ref l, H, I, rfl, q1 hw⟩
    · have hne : xs ≠ [] := fun e => hw (.inl e)
      have hk0 : k = 0 := by
        have h3 : ¬ 2 ≤ k := fun z => h2k ⟨z, hne⟩
        have h4 : k ≠ 1 := fun z => hw (.inr z)
        omega
      have c1 : (its.toArray.isEmpty || k == 1) = false := by
        rw [hi, decide_eq_false hne, hk0]
        rfl
      have c2 : (decide (k ≤ 0) || its.toArray.isEmpty) = true := by
        rw [hk0]
        rfl
      refine wpAny_binaryOp_repeat_ref (T := "tuple") (U := "int") (by decide) ⟨_, ho, rfl⟩ (fun s' => typeIs_int s' k t) noFill_tuple_mul F.fills_int_mul F.slot_int_rmul repeat_tuple F.slot_int_index.lookup
        (call_meets F.slot_int_rmul (typeIs_int s k t) F.entry_int_rmul (F.args_int_rmul_2 _ _) (int_rmul_tuple k t l its.toArray n dd sl)
          ⟨ho, rfl, ⟨_, ho, rfl⟩, call_meets F.slot_tuple_mul ⟨_, ho, rfl⟩ F.entry_tuple_mul (F.args_tuple_mul_2 _ _) (wk_tuple_none l its.toArray n dd sl k t c0 c1 c2) ⟨ho, ?_⟩⟩)
      refine ⟨.ref s.heap.objs.size, _, I.laid (t' := s.toks) (o := .tup (List.replicate k.toNat xs).flatten) (fun b ob q => Heap.get?_push_of_some _ q) (Nat.le_refl _) ?_, rfl, q2 hw _ (I.hok.fresh (Nat.le_refl _))⟩
      subst hk0
      exact ⟨Nat.zero_le _, [], .nil, IsTup.new _ _⟩
/-! ### t[::-1] -/
def tRevT (K : PySem.W.Frag) (te : TE) : TE := fun σ H Q => te σ H fun x H1 => ∃ a xs, x = .ref a ∧ SqT K H1 a xs ∧ ∀ p, H1 p = none → Q (.ref p) (upd H1 p (.tup xs.reverse))
theorem pe_revT {e : Expr} {te : TE} {k : Nat} {p1 p2 p3 pos : Pos} (he : PE X e te) : PE X (.Subscript e (.Slice none none (some (.UnaryOp .USub (.Constant (.int 1) k p1) p2)) p3) pos) (tRevT X.K te) := by
  refine ⟨fun pins s σ H Q I h => ?_⟩
  refine Subscript_ (thn (he.run pins s σ H _ I h) fun v s1 ⟨x, H1, I1, r1, q1⟩ => ?_)
  obtain ⟨a, xs, ex, hx, q⟩ := q1
  subst ex
  cases r1
  have hst : PO X (some (.UnaryOp .USub (.Constant (.int 1) k p1) p2)) (tPart (tUn (rU fun i => .int (-i)) (tC (.int 1)))) := po_some (pe_un un_neg pe_int)
  refine wpAny_Slice (thn (po_none.run pins s1 σ H1 (fun o H2 => o = none ∧ H2 = H1) I1 ⟨rfl, rfl⟩) fun vl s2 ⟨l, H2, I2, pl, el, e2⟩ => ?_)
  subst el e2
  cases pl
  refine thn (po_none.run pins s2 σ H2 (fun o H3 => o = none ∧ H3 = H2) I2 ⟨rfl, rfl⟩) fun vu s3 ⟨u, H3, I3, pu, eu, e3⟩ => ?_
  subst eu e3
  cases pu
  refine thn (hst.run pins s3 σ H3 (fun o H4 => o = some (-1) ∧ H4 = H3) I3 ⟨1, rfl, -1, rfl, rfl, rfl⟩) fun vs s4 ⟨o, H4, I4, ps, eo, e4⟩ => ?_
  subst eo e4
  have I5 : Inv X pins σ H4 { s4 with heap := s4.heap.push { cls := .type "slice", data := .fields #[.none, .none, vs] } } := I4.kept (t' := s4.toks) fun b ob q => Heap.get?_push_of_some _ q
  obtain ⟨its, r, ht, hz⟩ := I5.tuple hx
  have hlen := r.length
  show wpAny (model X.prog X.w) X.A (subscriptTail e (.Slice none none (some (.UnaryOp .USub (.Constant (.int 1) k p1) p2)) p3) (.ref a) (.ref s4.heap.objs.size)) (EP X pins σ Q) X.xe { s4 with heap := s4.heap.push { cls := .type "slice", data := .fields #[.none, .none, vs] } }
  refine tail_any (ops := [.ref a, .ref s4.heap.objs.size]) ht.typeIs (PyProof.Rows.slot_tuple_getitem.lookup) ?_ (by with_unfolding_all rfl)
  refine wk_getItem_tuple_rev ht (Heap.IsSliceOf.new _ .none .none vs) ps ?_ (by rw [List.size_toArray]; omega)
  refine ⟨.ref _, _, I5.laid (t' := s4.toks) (o := .tup xs.reverse) (fun b ob q => Heap.get?_push_of_some _ q) (Nat.le_refl _) ?_, rfl, q _ (I5.hok.fresh (Nat.le_refl _))⟩
  exact ⟨by rw [List.length_reverse]; exact hz, _, r.reverse, IsTup.new _ _⟩
end
/-! ### f(k = v, ..) -/
section
variable {X : Cx} {CX : CXT} {k : Nat} {f : Addr} {fd : FuncData} {ps ks : List Str} {sp : Sp} {E : XK} {x : Str} {p pos : Pos} {kws : List Keyword} {tk : TA} {g : List Value → List Value → List Value} {gV : List V → List V → List V}
theorem pe_callK0 (F : FnOk X.prog X.w X.K X.mg X.base CX k f fd ps sp) (hr : Room k X.A) (hg : Gl X x) (hm : X.mg x = some (.ref f)) (hk : PySem.W.keepIn X.K (.ref f) = true) (hb : KBinds X.K fd ps ks g gV) (hx : Passes CX X E)
    (hkw : PK X kws tk) (hall : (backToKw pos (keywordEach kws X.env)).all (·.1.isSome) = true := by rfl) (hks : (backToKw pos (keywordEach kws X.env)).filterMap (·.1) = ks := by rfl)
    (hdb : (x == ("__debug__" : Str)) = false := by decide)
    (hpl : ((backTo pos (starEach [] X.env)).any (·.1) || (backToKw pos (keywordEach kws X.env)).any (·.1.isNone)) = false := by rfl) :
    PE X (.Call (.Name x p) [] kws pos) (tCallK sp gV E tNil tk) := by
  refine ⟨fun pins s σ H Q I h => ?_⟩
  refine wpAny_Call_Name_kw (ld_glob I hg hm ?_ hdb)
  refine PySem.W.callWith_KW0 (h₀ := X.base) I.ok.mod.kin hk hall ?_ hpl
  refine thn (hkw.run pos pins s σ H _ I h) fun ws s2 ⟨zs, H2, I2, rz, q2⟩ => ⟨I2.kIn, ?_⟩
  rw [hks]
  exact run_fnk (us := []) (vs := []) F hr hb hx I2 .nil rz q2
end
end L2
/-! operators that go by what they meet: ints, lists, tuples -/
namespace L2
open PySem PySem.Spec PyProof.Rows Evl
def rAddI : R2 := rI0 fun i j => .int (i + j)
def rSubI : R2 := rI0 fun i j => .int (i - j)
def rMulI : R2 := rI CMul fun i j => .int (i * j)
def rMulJ : R2 := rI CMulW fun i j => .int (i * j)
def rModI : R2 := rI (fun _ j => 0 < j) fun i j => .int (i % j)
def rAddU (K : PySem.W.Frag) : R2 := fun x y H Q => rAddI x y H Q ∨ rCat x y H Q ∨ rCatA K x y H Q
def rMulU (K : PySem.W.Frag) : R2 := fun x y H Q => rMulI x y H Q ∨ rMulJ x y H Q ∨ rRep x y H Q ∨ rRepTA K x y H Q
def rEqU (K : PySem.W.Frag) : R2 := fun x y H Q => rEq x y H Q ∨ rEqD K x y H Q
def rNeU (K : PySem.W.Frag) : R2 := fun x y H Q => rNe x y H Q ∨ rNeD K x y H Q
def rSlU (K : PySem.W.Frag) : V → Option Int → Option Int → Hp → VK → Prop := fun x lo hi H Q => rSlL K x lo hi H Q ∨ rSlA K x lo hi H Q
section
variable {X : Cx}
theorem op_addU : OpR X (binaryOp .Add) (rAddU X.K) := op_add.or (op_cat.or op_catA)
theorem op_mulU : OpR X (binaryOp .Mult) (rMulU X.K) := op_mul.or (op_mulW.or (op_rep.or op_repTA))
theorem op_eqU (hu : X.A.units + 64 < cLine) : OpR X (compareOp .Eq) (rEqU X.K) := op_eq.or (op_eqD hu)
theorem op_neU (hu : X.A.units + 64 < cLine) : OpR X (compareOp .NotEq) (rNeU X.K) := op_ne.or (op_neD hu)
theorem sl_U : SlR X (rSlU X.K) := sl_list.or sl_tupA
def tRevU (K : PySem.W.Frag) (te : TE) : TE := fun σ H Q => te σ H fun x H1 => (∃ a xs, x = .ref a ∧ SqL K H1 a xs ∧ ∀ p, H1 p = none → Q (.ref p) (upd H1 p (.lst xs.reverse))) ∨ (∃ a xs, x = .ref a ∧ SqT K H1 a xs ∧ ∀ p, H1 p = none → Q (.ref p) (upd H1 p (.tup xs.reverse)))
/-- the reading of a part may be parted: what it gives is one of two -/
theorem pe_revU {e : Expr} {te : TE} {k : Nat} {p1 p2 p3 pos : Pos} (he : PE X e te) : PE X (.Subscript e (.Slice none none (some (.UnaryOp .USub (.Constant (.int 1) k p1) p2)) p3) pos) (tRevU X.K te) := by
  refine ⟨fun pins s σ H Q I h => ?_⟩
  refine Subscript_ (thn (he.run pins s σ H _ I h) fun v s1 ⟨x, H1, I1, r1, q1⟩ => ?_)
  have hst : PO X (some (.UnaryOp .USub (.Constant (.int 1) k p1) p2)) (tPart (tUn (rU fun i => .int (-i)) (tC (.int 1)))) := po_some (pe_un un_neg pe_int)
  refine wpAny_Slice (thn (po_none.run pins s1 σ H1 (fun o H2 => o = none ∧ H2 = H1) I1 ⟨rfl, rfl⟩) fun vl s2 ⟨l, H2, I2, pl, el, e2⟩ => ?_)
  subst el e2
  cases pl
  refine thn (po_none.run pins s2 σ H2 (fun o H3 => o = none ∧ H3 = H2) I2 ⟨rfl, rfl⟩) fun vu s3 ⟨u, H3, I3, pu, eu, e3⟩ => ?_
  subst eu e3
  cases pu
  refine thn (hst.run pins s3 σ H3 (fun o H4 => o = some (-1) ∧ H4 = H3) I3 ⟨1, rfl, -1, rfl, rfl, rfl⟩) fun vs s4 ⟨o, H4, I4, ps, eo, e4⟩ => ?_
  subst eo e4
  have I5 : Inv X pins σ H4 { s4 with heap := s4.heap.push { cls := .type "slice", data := .fields #[.none, .none, vs] } } := I4.kept (t' := s4.toks) fun b ob q => Heap.get?_push_of_some _ q
  rcases q1 with ⟨a, xs, ex, hx, q⟩ | ⟨a, xs, ex, hx, q⟩
  · subst ex
    cases r1
    obtain ⟨its, r, ht, hz⟩ := I5.list hx
    have hlen := r.length
    show wpAny (model X.prog X.w) X.A (subscriptTail e (.Slice none none (some (.UnaryOp .USub (.Constant (.int 1) k p1) p2)) p3) (.ref a) (.ref s4.heap.objs.size)) (EP X pins σ Q) X.xe { s4 with heap := s4.heap.push { cls := .type "slice", data := .fields #[.none, .none, vs] } }
    refine tail_any (ops := [.ref a, .ref s4.heap.objs.size]) ht.isList.typeIs (PySem.slot_list_getitem.lookup) ?_ (by with_unfolding_all rfl)
    refine wpAny_getItem_list_slice ht.isList (Heap.IsSliceOf.new _ .none .none vs) .none .none ps (by decide) ?_ (by rw [List.size_toArray]; omega)
    rw [PySem.W.krv_pick]
    refine ⟨.ref _, _, I5.laid (t' := s4.toks) (o := .lst xs.reverse) (fun b ob q => Heap.get?_push_of_some _ q) (Nat.le_refl _) ?_, rfl, q _ (I5.hok.fresh (Nat.le_refl _))⟩
    exact ⟨by rw [List.length_reverse]; exact hz, _, 0, r.reverse, Heap.get?_push_size _ rfl⟩
  · subst ex
    cases r1
    obtain ⟨its, r, ht, hz⟩ := I5.tuple hx
    have hlen := r.length
    show wpAny (model X.prog X.w) X.A (subscriptTail e (.Slice none none (some (.UnaryOp .USub (.Constant (.int 1) k p1) p2)) p3) (.ref a) (.ref s4.heap.objs.size)) (EP X pins σ Q) X.xe { s4 with heap := s4.heap.push { cls := .type "slice", data := .fields #[.none, .none, vs] } }
    refine tail_any (ops := [.ref a, .ref s4.heap.objs.size]) ht.typeIs (PyProof.Rows.slot_tuple_getitem.lookup) ?_ (by with_unfolding_all rfl)
    refine HT.wk_getItem_tuple_rev ht (Heap.IsSliceOf.new _ .none .none vs) ps ?_ (by rw [List.size_toArray]; omega)
    refine ⟨.ref _, _, I5.laid (t' := s4.toks) (o := .tup xs.reverse) (fun b ob q => Heap.get?_push_of_some _ q) (Nat.le_refl _) ?_, rfl, q _ (I5.hok.fresh (Nat.le_refl _))⟩
    exact ⟨by rw [List.length_reverse]; exact hz, _, r.reverse, IsTup.new _ _⟩
end

/-! ### heaps -/
abbrev IT (K : PySem.W.Frag) (H : Hp) (a : Addr) (ns : List Int) : Prop := SqT K H a (ns.map V.int)
abbrev IL (K : PySem.W.Frag) (H : Hp) (a : Addr) (ns : List Int) : Prop := SqL K H a (ns.map V.int)
/-- all but what stands at w is as it was -/
def ExW (w : Addr) (H H' : Hp) : Prop := ∀ a o, H a = some o → a ≠ w → H' a = some o
theorem ExW.refl {w : Addr} (H : Hp) : ExW w H H := fun _ _ h _ => h
theorem ExW.trans {w : Addr} {H H1 H2 : Hp} (a : ExW w H H1) (b : ExW w H1 H2) : ExW w H H2 := fun x o h n => b x o (a x o h n) n
theorem ExW.of {w : Addr} {H H' : Hp} (e : Ex H H') : ExW w H H' := fun a o h _ => e a o h
theorem ExW.upd {w : Addr} {H : Hp} {o : HO} : ExW w H (upd H w o) := fun a u h n => by
  rw [upd_ne n]
  exact h
theorem exw_t {K : PySem.W.Frag} {w : Addr} {H H' : Hp} {a : Addr} {xs ys : List V} (e : ExW w H H') (hw : H w = some (.lst ys)) (h : SqT K H a xs) : SqT K H' a xs := by
  rcases h with (h | ⟨o, h⟩) | h
  · exact .inl (.inl (e _ _ h (ne_of h hw (by intro z; cases z))))
  · exact .inl (.inr ⟨o, e _ _ h (ne_of h hw (by intro z; cases z))⟩)
  · exact .inr h
theorem exw_l {K : PySem.W.Frag} {w : Addr} {H H' : Hp} {a : Addr} {xs : List V} (e : ExW w H H') (hw : a ≠ w) (h : SqL K H a xs) : SqL K H' a xs := by
  rcases h with (h | ⟨o, h⟩) | h
  · exact .inl (.inl (e _ _ h hw))
  · exact .inl (.inr ⟨o, e _ _ h hw⟩)
  · exact .inr h
/-- a new object, the heap behind it unnamed -/
theorem alloc {H : Hp} {o : HO} {Q : VK} (h : ∀ p H1, H p = none → Ex H H1 → H1 p = some o → Q (.ref p) H1) : ∀ p, H p = none → Q (.ref p) (upd H p o) :=
  fun p hp => h p _ hp (Ex.new hp) upd_same
theorem t_of {K : PySem.W.Frag} {H : Hp} {a : Addr} {xs : List V} (h : H a = some (.tup xs)) : SqT K H a xs := .inl (.inl h)
theorem l_of {K : PySem.W.Frag} {H : Hp} {a : Addr} {xs : List V} (h : H a = some (.lst xs)) : SqL K H a xs := .inl (.inl h)
/-- a tuple of the heap is no list of it -/
theorem t_ne {K : PySem.W.Frag} {H : Hp} {a w : Addr} {xs ys : List V} (h : H a = some (.tup xs)) (hw : H w = some (.lst ys)) : a ≠ w := ne_of h hw (by intro z; cases z)
/-- data of ints -/
theorem dp_ints {K : PySem.W.Frag} {H : Hp} : ∀ ns : List Int, DpAll K H (ns.map V.int) (ns.map PyData.int)
  | [] => .nil
  | n :: r => .cons (.int n) (dp_ints r)
theorem dp_t {K : PySem.W.Frag} {H : Hp} {a : Addr} {ns : List Int} (h : IT K H a ns) : Dp K H (.ref a) (.tuple (ns.map .int)) := .tup h (dp_ints ns)
theorem dp_l {K : PySem.W.Frag} {H : Hp} {a : Addr} {ns : List Int} (h : IL K H a ns) : Dp K H (.ref a) (.list (ns.map .int)) := .lst h (dp_ints ns)
end L2
namespace L2
open PySem PySem.Spec PyProof.Rows Evl
/-! ### == of sequences of ints -/
theorem eqvAll_ints : ∀ ns ms : List Int, PyData.eqvAll (ns.map .int) (ms.map .int) = decide (ns = ms)
  | [], [] => by simp [PyData.eqvAll]
  | [], m :: ms => by simp [PyData.eqvAll]
  | n :: ns, [] => by simp [PyData.eqvAll]
  | n :: ns, m :: ms => by
    rw [List.map_cons, List.map_cons, PyData.eqvAll, eqvAll_ints ns ms, PyData.eqv]
    by_cases h : n = m
    · subst h
      simp
    · simp [h]
theorem eqv_tints (ns ms : List Int) : PyData.eqv (.tuple (ns.map .int)) (.tuple (ms.map .int)) = decide (ns = ms) := by rw [PyData.eqv, eqvAll_ints]
theorem eqv_lints (ns ms : List Int) : PyData.eqv (.list (ns.map .int)) (.list (ms.map .int)) = decide (ns = ms) := by rw [PyData.eqv, eqvAll_ints]
theorem canLay_ints : ∀ ns : List Int, PyData.canLayAll0 (ns.map .int) = true
  | [] => by simp [PyData.canLayAll0]
  | n :: ns => by
    rw [List.map_cons, PyData.canLayAll0, canLay_ints ns]
    simp [PyData.canLay0]
theorem depth_ints : ∀ ns : List Int, PyData.depthAll (ns.map .int) = 0
  | [] => by simp [PyData.depthAll]
  | n :: ns => by
    rw [List.map_cons, PyData.depthAll, depth_ints ns]
    simp [PyData.depth]
theorem shaped_t (ns : List Int) : SeqAt.shaped (.tuple (ns.map .int)) = true := by
  unfold SeqAt.shaped
  rw [PyData.canLay0, canLay_ints, PyData.depth, depth_ints]
  rfl
theorem shaped_l (ns : List Int) : SeqAt.shaped (.list (ns.map .int)) = true := by
  unfold SeqAt.shaped
  rw [PyData.canLay0, canLay_ints, PyData.depth, depth_ints]
  rfl
section
variable {K : PySem.W.Frag} {H : Hp} {Q : VK} {a b : Addr} {ns ms : List Int}
theorem r_eqT (ha : IT K H a ns) (hb : IT K H b ms) (q : Q (.bl (decide (ns = ms))) H) : rEqU K (.ref a) (.ref b) H Q :=
  .inr ⟨_, _, dp_t ha, dp_t hb, shaped_t ns, shaped_t ms, by rw [eqv_tints]; exact q⟩
theorem r_neT (ha : IT K H a ns) (hb : IT K H b ms) (q : Q (.bl (!decide (ns = ms))) H) : rNeU K (.ref a) (.ref b) H Q :=
  .inr ⟨_, _, dp_t ha, dp_t hb, shaped_t ns, shaped_t ms, by rw [eqv_tints]; exact q⟩
theorem r_eqL (ha : IL K H a ns) (hb : IL K H b ms) (q : Q (.bl (decide (ns = ms))) H) : rEqU K (.ref a) (.ref b) H Q :=
  .inr ⟨_, _, dp_l ha, dp_l hb, shaped_l ns, shaped_l ms, by rw [eqv_lints]; exact q⟩
theorem r_neL (ha : IL K H a ns) (hb : IL K H b ms) (q : Q (.bl (!decide (ns = ms))) H) : rNeU K (.ref a) (.ref b) H Q :=
  .inr ⟨_, _, dp_l ha, dp_l hb, shaped_l ns, shaped_l ms, by rw [eqv_lints]; exact q⟩
theorem r_eqI {i j : Int} (q : Q (.bl (decide (i = j))) H) : rEqU K (.int i) (.int j) H Q := .inl ⟨rfl, by
  have e : decide ((V.int i) = V.int j) = decide (i = j) := by simp
  rw [e]
  exact q⟩
theorem r_neI {i j : Int} (q : Q (.bl (!decide (i = j))) H) : rNeU K (.int i) (.int j) H Q := .inl ⟨rfl, by
  have e : decide ((V.int i) = V.int j) = decide (i = j) := by simp
  rw [e]
  exact q⟩
theorem r_add {i j : Int} (q : Q (.int (i + j)) H) : rAddU K (.int i) (.int j) H Q := .inl ⟨i, j, rfl, rfl, q⟩
theorem r_mul {i j : Int} (h : CMul i j) (q : Q (.int (i * j)) H) : rMulU K (.int i) (.int j) H Q := .inl ⟨i, j, rfl, rfl, h, q⟩
theorem r_mulW {i j : Int} (h : CMulW i j) (q : Q (.int (i * j)) H) : rMulU K (.int i) (.int j) H Q := .inr (.inl ⟨i, j, rfl, rfl, h, q⟩)
/-- the tuple of both -/
theorem r_catT {xs ys : List V} (ha : SqT K H a xs) (hb : SqT K H b ys) (hz : xs.length + ys.length ≤ 100000) (q : ∀ p H1, Ex H H1 → SqT K H1 p (xs ++ ys) → Q (.ref p) H1) : rAddU K (.ref a) (.ref b) H Q := by
  refine .inr (.inr ⟨a, b, xs, ys, rfl, rfl, ha, hb, sz_of hz, fun e => ?_, fun _ e => ?_, fun _ _ => alloc fun p H1 _ e h => q p H1 e (t_of h)⟩)
  · subst e
    exact q b H (Ex.refl H) hb
  · subst e
    refine q a H (Ex.refl H) ?_
    rw [List.append_nil]
    exact ha
theorem r_catL {xs ys : List V} (ha : H a = some (.lst xs)) (hb : H b = some (.lst ys)) (hz : xs.length + ys.length ≤ 100000) (q : ∀ p H1, H p = none → Ex H H1 → H1 p = some (.lst (xs ++ ys)) → Q (.ref p) H1) : rAddU K (.ref a) (.ref b) H Q :=
  .inr (.inl ⟨a, b, xs, ys, rfl, rfl, ha, hb, sz_of hz, alloc q⟩)
theorem r_repT {xs : List V} {k : Int} (ha : SqT K H a xs) (h0 : 0 ≤ k) (hk : k ≤ 1000) (hz : xs.length ≤ 1000) (q : ∀ p H1, Ex H H1 → SqT K H1 p (List.replicate k.toNat xs).flatten → Q (.ref p) H1) : rMulU K (.ref a) (.int k) H Q := by
  refine .inr (.inr (.inr ⟨a, k, xs, rfl, rfl, ha, h0, hk, hz, fun e => ?_, fun _ => alloc fun p H1 _ e h => q p H1 e (t_of h)⟩))
  refine q a H (Ex.refl H) ?_
  rcases e with e | e
  · subst e
    have e2 : (List.replicate k.toNat ([] : List V)).flatten = [] := by simp
    rw [e2]
    exact ha
  · subst e
    have e2 : (List.replicate (1 : Int).toNat xs).flatten = xs := by simp
    rw [e2]
    exact ha
/-- a tuple's part -/
theorem r_slT {xs : List V} {lo hi : Option Int} (ha : SqT K H a xs) (q : ∀ p H1, Ex H H1 → SqT K H1 p (cutV xs lo hi) → Q (.ref p) H1) : rSlU K (.ref a) lo hi H Q := by
  refine .inr ⟨a, xs, rfl, ha, fun e => ?_, fun _ => alloc fun p H1 _ e h => q p H1 e (t_of h)⟩
  refine q a H (Ex.refl H) ?_
  have e2 : cutV xs lo hi = xs := by
    unfold cutV
    rw [e.1, e.2, List.drop_zero, Nat.sub_zero, List.take_length]
  rw [e2]
  exact ha
theorem r_slL {xs : List V} {lo hi : Option Int} (ha : SqL K H a xs) (q : ∀ p H1, H p = none → Ex H H1 → H1 p = some (.lst (cutV xs lo hi)) → Q (.ref p) H1) : rSlU K (.ref a) lo hi H Q := .inl ⟨a, xs, rfl, ha, alloc q⟩
end
theorem cut_map {ns : List Int} {lo hi : Option Int} : cutV (ns.map V.int) lo hi = ((ns.drop (HT.sIx ns.length 0 lo)).take (HT.sIx ns.length ns.length hi - HT.sIx ns.length 0 lo)).map V.int := by
  unfold cutV
  rw [List.length_map, List.map_take, List.map_drop]
theorem sIx_int {n d : Nat} {v : Int} (h : 0 ≤ v) : HT.sIx n d (some v) = min v.toNat n := by
  obtain ⟨k, rfl⟩ := Int.eq_ofNat_of_zero_le h
  exact HT.sIx_nat n d k
/-- xs[:k] -/
theorem cut_to {ns : List Int} {k : Int} (h : 0 ≤ k) : cutV (ns.map V.int) none (some k) = (ns.take k.toNat).map V.int := by
  rw [cut_map, HT.sIx_none, sIx_int h, List.drop_zero, Nat.sub_zero]
  congr 1
  rw [Nat.min_def]
  split
  · rfl
  · rw [List.take_of_length_le (Nat.le_refl _), List.take_of_length_le (by omega)]
/-- xs[k:] -/
theorem cut_from {ns : List Int} {k : Int} (h : 0 ≤ k) : cutV (ns.map V.int) (some k) none = (ns.drop k.toNat).map V.int := by
  rw [cut_map, HT.sIx_none, sIx_int h]
  congr 1
  by_cases hk : k.toNat ≤ ns.length
  · rw [Nat.min_eq_left hk, List.take_of_length_le (by rw [List.length_drop]; exact Nat.le_refl _)]
  · rw [Nat.min_eq_right (by omega), List.drop_of_length_le (Nat.le_refl _), List.drop_of_length_le (by omega)]
    simp
/-- an item at a place from 0 on -/
theorem at_int {ns : List Int} {i : Int} {x : Int} (h0 : 0 ≤ i) (hx : ns[i.toNat]? = some x) : atI (ns.map V.int) i = some (.int x) := by
  have e : i = ((i.toNat : Nat) : Int) := by omega
  rw [e]
  exact atI_nat (by rw [List.getElem?_map, hx]; rfl)
theorem at_last {ns : List Int} {x : Int} (hx : ns.getLast? = some x) : atI (ns.map V.int) (-1) = some (.int x) := by
  obtain ⟨ys, rfl⟩ := List.getLast?_eq_some_iff.mp hx
  rw [List.map_append]
  exact atI_last _ _
/-! ### the draws' three ints -/
structure Well (H : Hp) (w : Addr) (n : Nat) : Prop where
  ex : ∃ a b c : Int, H w = some (.lst [.int a, .int b, .int c]) ∧ 0 ≤ a ∧ 0 ≤ b ∧ b.natAbs < 2 ^ 160 ∧ 0 ≤ c ∧ c ≤ n
theorem Well.mono {H H' : Hp} {w : Addr} {n : Nat} (h : Well H w n) (e : Ex H H') : Well H' w n := by
  obtain ⟨a, b, c, h1, h2⟩ := h.ex
  exact ⟨a, b, c, e _ _ h1, h2⟩
theorem Well.more {H : Hp} {w : Addr} {n m : Nat} (h : Well H w n) (e : n ≤ m) : Well H w m := by
  obtain ⟨a, b, c, h1, h2, h3, h4, h5, h6⟩ := h.ex
  exact ⟨a, b, c, h1, h2, h3, h4, h5, by omega⟩
theorem Well.t {K : PySem.W.Frag} {H H' : Hp} {w a : Addr} {n : Nat} {xs : List V} (h : Well H w n) (e : ExW w H H') (t : SqT K H a xs) : SqT K H' a xs := by
  obtain ⟨_, _, _, h1, _⟩ := h.ex
  exact exw_t e h1 t
theorem Well.ne {H : Hp} {w p : Addr} {n : Nat} (h : Well H w n) (hp : H p = none) : p ≠ w := by
  obtain ⟨_, _, _, h1, _⟩ := h.ex
  exact fun e => by
    subst e
    rw [hp] at h1
    cases h1
/-- from what is drawn on -/
def spTake : Sp := fun vs H Q _ => ∃ w n m, vs = [.ref w, .int m] ∧ 0 < m ∧ m < 2 ^ 60 ∧ Well H w n ∧ n < 2 ^ 30 ∧ ∀ r H', 0 ≤ r → r < m → ExW w H H' → Well H' w (n + 1) → Q (.int r) H'
theorem small_t {n : Nat} (h : n ≤ 100000) : n ≤ sizeLine := sz_of h
end L2
namespace L2
open PySem PySem.Spec PyProof.Rows Evl
theorem ty_t {K : PySem.W.Frag} {H : Hp} {a : Addr} {xs : List V} (h : SqT K H a xs) : TyX K H (.ref a) (.type "tuple") := by
  rcases h with (h | ⟨o, h⟩) | ⟨o, its, n, h, c, _⟩
  · exact .base (.tup h)
  · exact .fTuple h
  · exact .kTuple h c
theorem ty_l {K : PySem.W.Frag} {H : Hp} {a : Addr} {xs : List V} (h : SqL K H a xs) : TyX K H (.ref a) (.type "list") := by
  rcases h with (h | ⟨o, h⟩) | ⟨o, its, n, h, c, _⟩
  · exact .base (.lst h)
  · exact .base (.frz h)
  · exact .kList h c
/-! ### comprehensions whose turns change nothing -/
section
variable {K : PySem.W.Frag} {σ : L2.St} {H : Hp} {te tl : TE} {Q : VK} {j : Nat} {vs : List Nat} {a : Addr} {xs ys : List V}
theorem take_snoc {α : Type} {l : List α} {i : Nat} {y : α} (h : l[i]? = some y) : l.take (i + 1) = l.take i ++ [y] := by
  rw [List.take_add_one, h]
  rfl
/-- what one turn does -/
theorem cm_turn {H0 H' : Hp} {D : Addr} {i : Nat} {y : V} {σ2 : L2.St} (hy : ys[i]? = some y) (hz : ys.length ≤ 100000) (hD : H0 D = none) (p : Ex H0 H' ∧ H' D = some (.lst (ys.take i)))
    (he : ∀ Q' : VK, (∀ H2, Ex H' H2 → Q' y H2) → te σ2 H' Q') :
    te σ2 H' fun y H4 => ∃ acc, H4 D = some (.lst acc) ∧ acc.length < sizeLine ∧ (Ex H0 (upd H4 D (.lst (acc ++ [y]))) ∧ (upd H4 D (.lst (acc ++ [y]))) D = some (.lst (ys.take (i + 1)))) := by
  refine he _ fun H2 e2 => ⟨ys.take i, e2 _ _ p.2, ?_, Ex.mut (p.1.trans e2) hD, ?_⟩
  · have := (List.getElem?_eq_some_iff.mp hy).1
    rw [List.length_take]
    exact Nat.lt_of_le_of_lt (Nat.min_le_left _ _) (Nat.lt_of_lt_of_le this (sz_of hz))
  · rw [upd_same, take_snoc hy]
theorem cm_tup (hl : ∀ R : VK, (∀ a H1, Ex H H1 → SqT K H1 a xs → R (.ref a) H1) → tl σ H R) (hxy : ys.length = xs.length) (hz : ys.length ≤ 100000) (hw : ∀ x, wipe ((wipe σ vs).set j (some x)) vs = wipe σ vs)
    (he : ∀ (i : Nat) (x y : V) (H1 : Hp), xs[i]? = some x → ys[i]? = some y → Ex H H1 → ∀ Q' : VK, (∀ H2, Ex H1 H2 → Q' y H2) → te ((wipe σ vs).set j (some x)) H1 Q')
    (q : ∀ D H1, H D = none → Ex H H1 → H1 D = some (.lst ys) → Q (.ref D) H1) : tLc (iTup K tl) (gName j) tYes te vs σ H Q := by
  refine hl _ fun a H1 e1 ht => ⟨a, rfl, ⟨xs, ht⟩, fun D hD => ?_⟩
  refine lc_tup (K := K) (a := a) (xs := xs) (fun i H' => Ex H1 H' ∧ H' D = some (.lst (ys.take i))) ⟨Ex.new hD, by rw [upd_same]; rfl⟩ (fun i H' _ p => ex_t p.1 ht) (fun i x H' hx p => ⟨hw x, ?_⟩) (fun H' p => q D H' ?_ (e1.trans p.1) ?_)
  · have hi : i < ys.length := by rw [hxy]; exact (List.getElem?_eq_some_iff.mp hx).1
    exact cm_turn (List.getElem?_eq_getElem hi) hz hD p fun Q' k => he i x _ H' hx (List.getElem?_eq_getElem hi) (e1.trans p.1) Q' k
  · exact fresh_back e1 hD
  · rw [p.2, ← hxy, List.take_length]
theorem cm_list (hl : ∀ R : VK, (∀ a H1, Ex H H1 → SqL K H1 a xs → R (.ref a) H1) → tl σ H R) (hxy : ys.length = xs.length) (hz : ys.length ≤ 100000) (hw : ∀ x, wipe ((wipe σ vs).set j (some x)) vs = wipe σ vs)
    (he : ∀ (i : Nat) (x y : V) (H1 : Hp), xs[i]? = some x → ys[i]? = some y → Ex H H1 → ∀ Q' : VK, (∀ H2, Ex H1 H2 → Q' y H2) → te ((wipe σ vs).set j (some x)) H1 Q')
    (q : ∀ D H1, H D = none → Ex H H1 → H1 D = some (.lst ys) → Q (.ref D) H1) : tLc (iList K tl) (gName j) tYes te vs σ H Q := by
  refine hl _ fun a H1 e1 ht => ⟨a, rfl, ⟨xs, ht⟩, fun D hD => ?_⟩
  refine lc_list (K := K) (a := a) (xs := xs) (fun i H' => Ex H1 H' ∧ H' D = some (.lst (ys.take i))) ⟨Ex.new hD, by rw [upd_same]; rfl⟩ (fun i H' _ p => ex_l p.1 ht) (fun i x H' hx p => ⟨hw x, ?_⟩) (fun H' p => q D H' ?_ (e1.trans p.1) ?_)
  · have hi : i < ys.length := by rw [hxy]; exact (List.getElem?_eq_some_iff.mp hx).1
    exact cm_turn (List.getElem?_eq_getElem hi) hz hD p fun Q' k => he i x _ H' hx (List.getElem?_eq_getElem hi) (e1.trans p.1) Q' k
  · exact fresh_back e1 hD
  · rw [p.2, ← hxy, List.take_length]
/-- [e for i in range(n) if t] -/
theorem cm_rngF {ta : TA} {tt : TT} {n : Int} (f : Nat → Bool) (v : Nat → V) (hl : ∀ R : List V → Hp → Prop, (∀ H1, Ex H H1 → R [.int n] H1) → ta σ H R) (hn : n ≤ 50000) (hlo : -100000 ≤ n) (hw : ∀ x, wipe ((wipe σ vs).set j (some x)) vs = wipe σ vs)
    (ht : ∀ (i : Nat) H1, (i : Int) < n → Ex H H1 → ∀ Q' : Bool → Hp → Prop, (∀ H2, Ex H1 H2 → Q' (f i) H2) → tt ((wipe σ vs).set j (some (.int (i : Int)))) H1 Q')
    (he : ∀ (i : Nat) H1, (i : Int) < n → f i = true → Ex H H1 → ∀ Q' : VK, (∀ H2, Ex H1 H2 → Q' (v i) H2) → te ((wipe σ vs).set j (some (.int (i : Int)))) H1 Q')
    (q : ∀ D H1, H D = none → Ex H H1 → H1 D = some (.lst (given n.toNat f v)) → Q (.ref D) H1) : tLc (iRng1 ta) (gName j) tt te vs σ H Q := by
  refine hl _ fun H1 e1 => ⟨n, rfl, by omega, by omega, fun D hD => ?_⟩
  refine lc_range (lo := 0) (n := n.toNat) (fun i H' => Ex H1 H' ∧ H' D = some (.lst (given i f v))) ⟨Ex.new hD, by rw [upd_same]; rfl⟩ (fun i H' hi p => ?_) (fun H' p => q D H' ?_ (e1.trans p.1) p.2)
  · rw [show (0 : Int) + (i : Int) = (i : Int) by omega]
    refine ⟨hw _, ht i H' (by omega) (e1.trans p.1) _ fun H2 e2 => ?_⟩
    cases hf : f i with
    | false =>
      refine iteF ⟨p.1.trans e2, ?_⟩
      rw [given_no hf]
      exact e2 _ _ p.2
    | true =>
      refine iteT (he i H2 (by omega) hf ((e1.trans p.1).trans e2) _ fun H3 e3 => ⟨given i f v, e3 _ _ (e2 _ _ p.2), ?_, Ex.mut ((p.1.trans e2).trans e3) hD, ?_⟩)
      · have := given_len i f v
        exact sz_lt (by omega)
      · rw [upd_same, given_yes hf]
  · exact fresh_back e1 hD
/-- [e for i in range(n)], the turns change the heap: S is what stands between them, P what is said of an item -/
theorem cm_rngS {ta : TA} {n : Int} (S : Nat → Hp → Prop) (Pr : V → Prop) (hn : n ≤ 50000) (hlo : -100000 ≤ n) (hw : ∀ x, wipe ((wipe σ vs).set j (some x)) vs = wipe σ vs)
    (hl : ∀ R : List V → Hp → Prop, (∀ H1, S 0 H1 → R [.int n] H1) → ta σ H R)
    (hnew : ∀ i H1 D o, S i H1 → H1 D = none → S i (upd H1 D o))
    (he : ∀ (i : Nat) H1 D acc, (i : Int) < n → S i H1 → H1 D = some (.lst acc) → (∀ o, S i (upd H1 D o)) →
      ∀ Q' : VK, (∀ y H2, Pr y → H2 D = some (.lst acc) → (∀ o, S (i + 1) (upd H2 D o)) → Q' y H2) → te ((wipe σ vs).set j (some (.int (i : Int)))) H1 Q')
    (q : ∀ D H1 ys, ys.length = n.toNat → (∀ y ∈ ys, Pr y) → S n.toNat H1 → (∀ o, S n.toNat (upd H1 D o)) → H1 D = some (.lst ys) → Q (.ref D) H1) : tLc (iRng1 ta) (gName j) tYes te vs σ H Q := by
  refine hl _ fun H1 s1 => ⟨n, rfl, by omega, by omega, fun D hD => ?_⟩
  refine lc_range (lo := 0) (n := n.toNat) (fun i H' => ∃ ys : List V, ys.length = i ∧ (∀ y ∈ ys, Pr y) ∧ S i H' ∧ (∀ o, S i (upd H' D o)) ∧ H' D = some (.lst ys)) ⟨[], rfl, (fun _ h => by cases h), hnew 0 H1 D _ s1 hD, fun o => by rw [upd_upd]; exact hnew 0 H1 D o s1 hD, upd_same⟩ (fun i H' hi p => ?_) (fun H' p => ?_)
  · obtain ⟨ys, h1, h2, h3, h4, h5⟩ := p
    rw [show (0 : Int) + (i : Int) = (i : Int) by omega]
    refine ⟨hw _, ?_⟩
    refine he i H' D ys (by omega) h3 h5 h4 _ fun y H2 z1 z2 z3 => ?_
    refine ⟨ys, z2, sz_lt (by omega), ys ++ [y], by rw [List.length_append, h1]; rfl, fun x hx => ?_, z3 _, fun o => by rw [upd_upd]; exact z3 o, upd_same⟩
    rcases List.mem_append.mp hx with hx | hx
    · exact h2 x hx
    · rw [List.mem_singleton.mp hx]
      exact z1
  · obtain ⟨ys, h1, h2, h3, h4, h5⟩ := p
    exact q D H' ys h1 h2 h3 h4 h5
end
end L2
namespace L2
open PySem PySem.Spec PyProof.Rows Evl
section
variable {K : PySem.W.Frag} {σ : L2.St} {H : Hp} {te tl : TE} {t : TA} {Q : VK} {a : Addr} {xs ys : List V}
theorem st_lst (h : t σ H fun xs H1 => xs.length ≤ 100000 ∧ ∀ p H2, H1 p = none → Ex H1 H2 → H2 p = some (.lst xs) → Q (.ref p) H2) (mono : ∀ A B : List V → Hp → Prop, (∀ xs H, A xs H → B xs H) → t σ H A → t σ H B) : tLst t σ H Q :=
  mono _ _ (fun xs H1 z => ⟨sz_of z.1, alloc z.2⟩) h
theorem st_nil (h : ∀ p H2, H p = none → Ex H H2 → H2 p = some (.lst []) → Q (.ref p) H2) : tLst tNil σ H Q := ⟨Nat.zero_le _, alloc h⟩
/-- tuple(xs), xs a list | a tuple -/
theorem r_tuL {R : VK} (ha : SqL K H a xs) (q : ∀ p H1, H p = none → Ex H H1 → SqT K H1 p xs → R (.ref p) H1) :
    ∃ p ys, [V.ref a] = [.ref p] ∧ ((SqL K H p ys ∧ ∀ l, H l = none → R (.ref l) (upd H l (.tup ys))) ∨ (SqT K H p ys ∧ R (.ref p) H)) :=
  ⟨a, xs, rfl, .inl ⟨ha, alloc fun p H1 hp e h => q p H1 hp e (t_of h)⟩⟩
/-- list(xs) -/
theorem r_liL {R : VK} (ha : SqL K H a xs ∨ SqT K H a xs) (q : ∀ p H1, H p = none → Ex H H1 → H1 p = some (.lst xs) → R (.ref p) H1) :
    ∃ p ys, [V.ref a] = [.ref p] ∧ (SqL K H p ys ∨ SqT K H p ys) ∧ ∀ l, H l = none → R (.ref l) (upd H l (.lst ys)) := ⟨a, xs, rfl, ha, alloc q⟩
/-- xs[::-1] -/
theorem st_revL {te : TE} {a : Addr} {xs : List V} (he : ∀ R : VK, R (.ref a) H → te σ H R) (ha : SqL K H a xs) (q : ∀ p H1, H p = none → Ex H H1 → H1 p = some (.lst xs.reverse) → Q (.ref p) H1) : tRevU K te σ H Q := he _ (.inl ⟨a, xs, rfl, ha, alloc q⟩)
theorem st_revT {te : TE} {a : Addr} {xs : List V} (he : ∀ R : VK, R (.ref a) H → te σ H R) (ha : SqT K H a xs) (q : ∀ p H1, H p = none → Ex H H1 → H1 p = some (.tup xs.reverse) → Q (.ref p) H1) : tRevU K te σ H Q := he _ (.inr ⟨a, xs, rfl, ha, alloc q⟩)
theorem he_var {i : Nat} (h : σ[i]? = some (some (.ref a))) : ∀ R : VK, R (.ref a) H → tVar i σ H R := fun _ r => ⟨_, h, r⟩
end
end L2
namespace L2
open PySem PySem.Spec PyProof.Rows Evl
section
variable {K : PySem.W.Frag} {σ : L2.St} {H : Hp} {te tl ta tb : TE} {t tr : TA} {Q : VK} {D : Ends} {tu tw : TS} {g : TG} {tc : TT}
theorem st_seq (h : tu { D with nx := tw D } σ H) : tSeq tu tw D σ H := h
theorem st_asg (h : te σ H fun x H1 => g x σ H1 D.nx) : tAsg te g D σ H := h
theorem st_set {i : Nat} (h : te σ H fun x H1 => D.nx (σ.set i (some x)) H1) : tAsg te (gName i) D σ H := h
theorem st_ret (h : te σ H D.rt) : tRet te D σ H := h
theorem st_drop (h : te σ H fun _ H1 => D.nx σ H1) : tDrop te D σ H := h
theorem st_if (h : tc σ H fun b H1 => if b = true then tu D σ H1 else tw D σ H1) : tIfS tc tu tw D σ H := h
theorem st_cb {r : List V → Hp → VK → Prop} (h : t σ H fun vs H1 => r vs H1 Q) : tCB r t σ H Q := h
theorem st_cons {R : List V → Hp → Prop} (h : ta σ H fun x H1 => tr σ H1 fun xs H2 => R (x :: xs) H2) : tCons ta tr σ H R := h
theorem st_op {r : R2} (h : ta σ H fun x H1 => tb σ H1 fun y H2 => r x y H2 Q) : tOp r ta tb σ H Q := h
theorem st_un {r : V → Hp → VK → Prop} (h : ta σ H fun x H1 => r x H1 Q) : tUn r ta σ H Q := h
theorem st_test {R : Bool → Hp → Prop} (h : te σ H fun x H1 => ∃ k, x = .bl k ∧ R k H1) : tTest te σ H R := h
theorem st_call {sp : Sp} {dvs : List V} {E : XK} (h : t σ H fun vs H1 => sp (vs ++ dvs) H1 Q E) : tCall sp dvs E t σ H Q := h
theorem st_sl {r : V → Option Int → Option Int → Hp → VK → Prop} {lo hi : TO} (h : te σ H fun x H1 => lo σ H1 fun l H2 => hi σ H2 fun u H3 => r x l u H3 Q) : tSl r te lo hi σ H Q := h
theorem st_tup (h : t σ H fun xs H1 => xs.length ≤ sizeLine ∧ ∀ p, H1 p = none → Q (.ref p) (upd H1 p (.tup xs))) : tTup t σ H Q := h
theorem st_par {i j : Nat} (h : t σ H fun vs H1 => ∃ v w, vs = [v, w] ∧ D.nx ((σ.set i (some v)).set j (some w)) H1) : tPar i j t D σ H := h
end
end L2
namespace L2
open PySem PySem.Spec PyProof.Rows Evl
section
variable {K : PySem.W.Frag} {H : Hp} {Q : VK} {a : Addr} {xs : List V} {i j : Int} {v : V}
theorem r_ixL (h : SqL K H a xs) (e : atI xs i = some v) (q : Q v H) : rIx K (.ref a) (.int i) H Q := .inl ⟨a, xs, i, v, rfl, rfl, h, e, q⟩
theorem r_ixT (h : SqT K H a xs) (e : atI xs i = some v) (q : Q v H) : rIx K (.ref a) (.int i) H Q := .inr (.inl ⟨a, xs, i, v, rfl, rfl, h, e, q⟩)
theorem r_I {C : Int → Int → Prop} {g : Int → Int → V} (h : C i j) (q : Q (g i j) H) : rI C g (.int i) (.int j) H Q := ⟨i, j, rfl, rfl, h, q⟩
theorem r_0 {g : Int → Int → V} (q : Q (g i j) H) : rI0 g (.int i) (.int j) H Q := ⟨i, j, rfl, rfl, q⟩
theorem r_test {b : Bool} {R : Bool → Hp → Prop} (q : R b H) : ∃ k, V.bl b = .bl k ∧ R k H := ⟨b, rfl, q⟩
theorem r_set {R : Hp → Prop} {k : Nat} (h : H a = some (.lst xs)) (e : ixN xs.length i = some k) (q : R (upd H a (.lst (xs.set k v)))) : rSetL (.ref a) (.int i) v H R := ⟨a, xs, i, k, rfl, rfl, h, e, q⟩
end
/-- if by what is known of the answer -/
theorem if_t {c : Prop} [Decidable c] {A B : Prop} (hc : c) (h : A) : if decide c = true then A else B := by
  rw [decide_eq_true hc]
  exact h
theorem if_f {c : Prop} [Decidable c] {A B : Prop} (hc : ¬ c) (h : B) : if decide c = true then A else B := by
  rw [decide_eq_false hc]
  exact h
theorem if_2 {c : Prop} [Decidable c] {A B : Prop} (h1 : c → A) (h2 : ¬ c → B) : if decide c = true then A else B := by
  by_cases hc : c
  · exact if_t hc (h1 hc)
  · exact if_f hc (h2 hc)
/-- the same for a test not .. -/
theorem ifn_2 {c : Prop} [Decidable c] {A B : Prop} (h1 : ¬ c → A) (h2 : c → B) : if (!decide c) = true then A else B := by
  by_cases hc : c
  · rw [decide_eq_true hc]
    exact h2 hc
  · rw [decide_eq_false hc]
    exact h1 hc
end L2
namespace L2
open PySem PySem.Spec PyProof.Rows Evl
theorem st_c {v : V} {σ : L2.St} {H : Hp} {Q : VK} (q : Q v H) : tC v σ H Q := q
theorem st_v {i : Nat} {v : V} {σ : L2.St} {H : Hp} {Q : VK} (h : σ[i]? = some (some v)) (q : Q v H) : tVar i σ H Q := ⟨v, h, q⟩
theorem st_n {σ : L2.St} {H : Hp} {R : List V → Hp → Prop} (q : R [] H) : tNil σ H R := q
end L2
namespace L2
open PySem PySem.Spec PyProof.Rows Evl
theorem r_setG {H : Hp} {a : Addr} {xs : List V} {i : Int} {v : V} {R : Hp → Prop} {k : Nat} (h : H a = some (.lst xs)) (e : ixN xs.length i = some k) (q : ∀ H1, ExW a H H1 → H1 a = some (.lst (xs.set k v)) → R H1) : rSetL (.ref a) (.int i) v H R :=
  ⟨a, xs, i, k, rfl, rfl, h, e, q _ ExW.upd upd_same⟩
end L2
/-! the rules that lean on the written part, with that part named: so they fit within a comprehension's block, too -/
namespace L2
open PySem PySem.Spec PyProof.Rows Evl
section
variable {X : Cx} {K : PySem.W.Frag}
theorem op_addK (K : PySem.W.Frag) (h : X.K = K := by rfl) : OpR X (binaryOp .Add) (rAddU K) := h ▸ op_addU
theorem op_mulK (K : PySem.W.Frag) (h : X.K = K := by rfl) : OpR X (binaryOp .Mult) (rMulU K) := h ▸ op_mulU
theorem op_eqK (K : PySem.W.Frag) (hu : X.A.units + 64 < cLine) (h : X.K = K := by rfl) : OpR X (compareOp .Eq) (rEqU K) := h ▸ op_eqU hu
theorem op_neK (K : PySem.W.Frag) (hu : X.A.units + 64 < cLine) (h : X.K = K := by rfl) : OpR X (compareOp .NotEq) (rNeU K) := h ▸ op_neU hu
theorem op_inK (K : PySem.W.Frag) (h : X.K = K := by rfl) : OpR X (compareOp .In) (rIn K false) := h ▸ op_in_seq
theorem op_notInK (K : PySem.W.Frag) (h : X.K = K := by rfl) : OpR X (compareOp .NotIn) (rIn K true) := h ▸ op_notIn_seq
theorem ix_K (K : PySem.W.Frag) (h : X.K = K := by rfl) : IxR X (rIx K) := h ▸ ix_seq
theorem sl_K (K : PySem.W.Frag) (h : X.K = K := by rfl) : SlR X (rSlU K) := h ▸ sl_U
def rLenU (K : PySem.W.Frag) : List V → Hp → VK → Prop := fun xs H Q => ∃ p ys, xs = [.ref p] ∧ (SqL K H p ys ∨ SqT K H p ys) ∧ Q (.int ys.length) H
def rTupU (K : PySem.W.Frag) : List V → Hp → VK → Prop := fun xs H Q => ∃ p ys, xs = [.ref p] ∧ ((SqL K H p ys ∧ ∀ l, H l = none → Q (.ref l) (upd H l (.tup ys))) ∨ (SqT K H p ys ∧ Q (.ref p) H))
def rLstU (K : PySem.W.Frag) : List V → Hp → VK → Prop := fun xs H Q => ∃ p ys, xs = [.ref p] ∧ (SqL K H p ys ∨ SqT K H p ys) ∧ ∀ l, H l = none → Q (.ref l) (upd H l (.lst ys))
def rAbs : List V → Hp → VK → Prop := fun xs H Q => ∃ i, xs = [.int i] ∧ Q (.int (if i < 0 then -i else i)) H
def rMax2 : List V → Hp → VK → Prop := fun xs H Q => ∃ i j, xs = [.int i, .int j] ∧ Q (.int (if j > i then j else i)) H
def rMin2 : List V → Hp → VK → Prop := fun xs H Q => ∃ i j, xs = [.int i, .int j] ∧ Q (.int (if j < i then j else i)) H
def rInt1 : List V → Hp → VK → Prop := fun xs H Q => (∃ i, xs = [.int i] ∧ Q (.int i) H) ∨ ∃ k, xs = [.bl k] ∧ Q (.int (if k then 1 else 0)) H
theorem len_K (K : PySem.W.Frag) (h : X.K = K := by rfl) : CallR X (.builtin "len") (rLenU K) := h ▸ call_len_seq
theorem tuple_K (K : PySem.W.Frag) (h : X.K = K := by rfl) : CallR X (.type "tuple") (rTupU K) := h ▸ call_tuple_of
theorem list_K (K : PySem.W.Frag) (h : X.K = K := by rfl) : CallR X (.type "list") (rLstU K) := h ▸ call_list_of
theorem abs_K : CallR X (.builtin "abs") rAbs := call_abs
theorem max2_K (hc : X.calm = true) : CallR X (.builtin "max") rMax2 := call_max2 hc
theorem min2_K (hc : X.calm = true) : CallR X (.builtin "min") rMin2 := call_min2 hc
theorem int_K : CallR X (.type "int") rInt1 := call_int1
theorem all_K (K : PySem.W.Frag) (hc : X.calm = true) (h : X.K = K := by rfl) : CallR X (.builtin "all") (rAll K) := h ▸ cr_all hc
theorem any_K (K : PySem.W.Frag) (hc : X.calm = true) (h : X.K = K := by rfl) : CallR X (.builtin "any") (rAny K) := h ▸ cr_any hc
theorem sum_K (K : PySem.W.Frag) (hc : X.calm = true) (h : X.K = K := by rfl) : CallR X (.builtin "sum") (rSum K) := h ▸ cr_sum hc
theorem maxl_K (K : PySem.W.Frag) (hc : X.calm = true) (h : X.K = K := by rfl) : CallR X (.builtin "max") (rMax K) := h ▸ cr_max hc
theorem minl_K (K : PySem.W.Frag) (hc : X.calm = true) (h : X.K = K := by rfl) : CallR X (.builtin "min") (rMin K) := h ▸ cr_min hc
theorem isi_K (K : PySem.W.Frag) (h : X.K = K := by rfl) : CallR X (.builtin "isinstance") (rIsi K) := h ▸ call_isi
theorem pe_revK (K : PySem.W.Frag) {e : Expr} {te : TE} {k : Nat} {p1 p2 p3 pos : Pos} (he : PE X e te) (h : X.K = K := by rfl) : PE X (.Subscript e (.Slice none none (some (.UnaryOp .USub (.Constant (.int 1) k p1) p2)) p3) pos) (tRevU K te) := h ▸ pe_revU he
theorem pi_listK (K : PySem.W.Frag) {tg l : Expr} {tl : TE} (hl : PE X l tl) (h : X.K = K := by rfl) : PI X tg l (iList K tl) := h ▸ pi_list hl
theorem pi_tupK (K : PySem.W.Frag) {tg l : Expr} {tl : TE} (hl : PE X l tl) (h : X.K = K := by rfl) : PI X tg l (iTup K tl) := h ▸ pi_tup hl
def tTruU (K : PySem.W.Frag) (ta : TE) : TT := fun σ H Q => ta σ H fun x H' => ∃ k, TruV K x H' k ∧ Q k H'
theorem pt_truK (K : PySem.W.Frag) {a : Expr} {ta : TE} (ha : PE X a ta) (he : ∀ whole, isTrue a X.env whole = (do let v ← whole; standAt a.pos; holding [v] (truthy v)) := by intro _; rfl) (h : X.K = K := by rfl) : PT X a (tTruU K ta) := h ▸ pt_truth ha he
theorem pg_tupK (K : PySem.W.Frag) {es : List Expr} {k : Nat} {t : TGs} {n : Nat} {pos : Pos} (hc : X.calm = true) (h : PGs X es t) (hn : (assignEach es X.env).length = n := by rfl) (hst : (assignEach es X.env).findIdx? (·.1) = none := by rfl) (hK : X.K = K := by rfl) : PG X (.Tuple es k pos) (gTup K n t) := hK ▸ pg_tup hc h hn hst
theorem pe_bmU (K : PySem.W.Frag) {T : String} {name : Str} {id : String} {r : V → List V → Hp → VK → Prop} {o e : Expr} {es : List Expr} {to : TE} {t : TA} {apos cpos : Pos}
    (pa : PlainAttrs T) (slot : Slot T name id) (hty : typeOf (.builtin id) = pure (.type "method_descriptor")) (hm : MtR X id r) (ho : PE X o to) (ha : PA X (e :: es) t)
    (hbase : attributeBase o name X.env (eval o X.env) = eval o X.env := by rfl)
    (hfew : ((backTo cpos (starEach (e :: es) X.env)).all (fun x => !x.1) && (backToKw cpos (keywordEach [] X.env)).all (fun x => x.1.isSome) && decide ((e :: es).length + ([] : List Keyword).length + (if ([] : List Keyword).isEmpty then 0 else 1) < 30)) = true := by rfl)
    (hline : (apos.endLine == cpos.line) = true := by rfl) (hs : starEach (e :: es) X.env = (false, eval e X.env) :: starEach es X.env := by rfl) (hplain : (backTo cpos (starEach es X.env)).any (·.1) = false := by rfl) (h : X.K = K := by rfl) :
    PE X (.Call (.Attribute o name apos) (e :: es) [] cpos) (tBM K T r to t) := h ▸ pe_bm pa slot hty hm ho ha hbase hfew hline hs hplain
theorem pe_bm0U (K : PySem.W.Frag) {T : String} {name : Str} {id : String} {r : V → List V → Hp → VK → Prop} {o : Expr} {to : TE} {apos cpos : Pos}
    (pa : PlainAttrs T) (slot : Slot T name id) (hty : typeOf (.builtin id) = pure (.type "method_descriptor")) (hm : MtR X id r) (ho : PE X o to)
    (hbase : attributeBase o name X.env (eval o X.env) = eval o X.env := by rfl) (hline : (apos.endLine == cpos.line) = true := by rfl) (h : X.K = K := by rfl) : PE X (.Call (.Attribute o name apos) [] [] cpos) (tBM0 K T r to) := h ▸ pe_bm0 pa slot hty hm ho hbase hline
end
section
variable {K : PySem.W.Frag} {σ : L2.St} {H : Hp} {Q : VK} {a : Addr} {xs : List V}
theorem r_lenL (h : SqL K H a xs) (q : Q (.int (xs.length : Int)) H) : rLenU K [.ref a] H Q := ⟨a, xs, rfl, .inl h, q⟩
theorem r_lenT (h : SqT K H a xs) (q : Q (.int (xs.length : Int)) H) : rLenU K [.ref a] H Q := ⟨a, xs, rfl, .inr h, q⟩
theorem r_tupL (ha : SqL K H a xs) (q : ∀ p H1, H p = none → Ex H H1 → SqT K H1 p xs → Q (.ref p) H1) : rTupU K [.ref a] H Q := r_tuL ha q
theorem r_tupT (ha : SqT K H a xs) (q : Q (.ref a) H) : rTupU K [.ref a] H Q := ⟨a, xs, rfl, .inr ⟨ha, q⟩⟩
theorem r_lstL (ha : SqL K H a xs) (q : ∀ p H1, H p = none → Ex H H1 → H1 p = some (.lst xs) → Q (.ref p) H1) : rLstU K [.ref a] H Q := r_liL (.inl ha) q
theorem r_lstT (ha : SqT K H a xs) (q : ∀ p H1, H p = none → Ex H H1 → H1 p = some (.lst xs) → Q (.ref p) H1) : rLstU K [.ref a] H Q := r_liL (.inr ha) q
theorem r_abs {i : Int} (q : Q (.int ((i.natAbs : Nat) : Int)) H) : rAbs [.int i] H Q := ⟨i, rfl, by
  have e : (if i < 0 then -i else i) = ((i.natAbs : Nat) : Int) := by split <;> omega
  rw [e]
  exact q⟩
theorem r_max2 {i j : Int} (q : Q (.int (max i j)) H) : rMax2 [.int i, .int j] H Q := ⟨i, j, rfl, by
  have e : (if j > i then j else i) = max i j := by split <;> omega
  rw [e]
  exact q⟩
theorem r_min2 {i j : Int} (q : Q (.int (min i j)) H) : rMin2 [.int i, .int j] H Q := ⟨i, j, rfl, by
  have e : (if j < i then j else i) = min i j := by split <;> omega
  rw [e]
  exact q⟩
theorem r_intI {i : Int} (q : Q (.int i) H) : rInt1 [.int i] H Q := .inl ⟨i, rfl, q⟩
theorem r_intB {b : Bool} (q : Q (.int (if b then 1 else 0)) H) : rInt1 [.bl b] H Q := .inr ⟨b, rfl, q⟩
theorem r_sum {ns : List Int} (h : IL K H a ns) (q : Q (.int ns.sum) H) : rSum K [.ref a] H Q := ⟨a, ns, rfl, h, q⟩
theorem r_all {bs : List Bool} (h : SqL K H a (bs.map V.bl)) (q : Q (.bl (bs.all id)) H) : rAll K [.ref a] H Q := ⟨a, bs, rfl, h, q⟩
theorem r_isiI {i : Int} {n : String} {b : Bool} (hb : PySem.W.kitOne K (.type "int") (.type n) = some b) (q : Q (.bl b) H) : rIsi K [.int i, .ty n] H Q := ⟨_, _, _, _, b, rfl, .ty _, .base (.int i), hb, q⟩
theorem r_isiT {n : String} {b : Bool} (h : SqT K H a xs) (hb : PySem.W.kitOne K (.type "tuple") (.type n) = some b) (q : Q (.bl b) H) : rIsi K [.ref a, .ty n] H Q := ⟨_, _, _, _, b, rfl, .ty _, ty_t h, hb, q⟩
end
end L2
namespace L2
open PySem PySem.Spec PyProof.Rows Evl
section
variable {K : PySem.W.Frag} {σ : L2.St} {H : Hp} {Q : VK} {i j : Int} {D : Ends} {tc tc2 : TT}
theorem st_bl {b : Bool} {R : Bool → Prop} (q : R b) : ∃ k, V.bl b = V.bl k ∧ R k := ⟨b, rfl, q⟩
theorem st_in {R : Int → Prop} (q : R i) : ∃ k, V.int i = V.int k ∧ R k := ⟨i, rfl, q⟩
theorem r_neg {g : Int → V} (q : Q (g i) H) : rU g (.int i) H Q := ⟨i, rfl, q⟩
theorem r_mod (h : 0 < j) {g : Int → Int → V} (q : Q (g i j) H) : rI (fun _ j => 0 < j) g (.int i) (.int j) H Q := ⟨i, j, rfl, rfl, h, q⟩
theorem r_div {b : Nat} (h : 0 < j) (hb : j.natAbs < 2 ^ b) (h0 : 0 < b) (h9 : b ≤ 9000) {g : Int → Int → V} (q : Q (g i j) H) : rI CDivW g (.int i) (.int j) H Q := ⟨i, j, rfl, rfl, wide_div h hb h0 h9, q⟩
theorem r_pow {a k : Nat} (h0 : 0 < a) (ha : i.natAbs < 2 ^ a) (h : a * k ≤ 134217728) {g : Int → Int → V} (q : Q (g i (k : Int)) H) : rI CPowW g (.int i) (.int (k : Int)) H Q := ⟨i, _, rfl, rfl, wide_pow h0 ha h, q⟩
theorem st_tru {K : PySem.W.Frag} {ta : TE} {R : Bool → Hp → Prop} (h : ta σ H fun x H' => ∃ k, TruV K x H' k ∧ R k H') : tTruU K ta σ H R := h
theorem r_truB {b : Bool} {R : Bool → Prop} (q : R b) : ∃ k, TruV K (.bl b) H k ∧ R k := ⟨b, rfl, q⟩
theorem r_truL {a : Addr} {xs : List V} {R : Bool → Prop} (h : SqL K H a xs) (q : R (!xs.isEmpty)) : ∃ k, TruV K (.ref a) H k ∧ R k := ⟨_, .inl ⟨xs, h, rfl⟩, q⟩
theorem r_truT {a : Addr} {xs : List V} {R : Bool → Prop} (h : SqT K H a xs) (q : R (!xs.isEmpty)) : ∃ k, TruV K (.ref a) H k ∧ R k := ⟨_, .inr (.inl ⟨xs, h, rfl⟩), q⟩
theorem st_and {R : Bool → Hp → Prop} (h : tc σ H fun c H1 => if c = true then tc2 σ H1 R else R false H1) : tAnd tc tc2 σ H R := h
theorem st_or {R : Bool → Hp → Prop} (h : tc σ H fun c H1 => if c = true then R true H1 else tc2 σ H1 R) : tOr tc tc2 σ H R := h
theorem st_not {R : Bool → Hp → Prop} (h : tc σ H fun c H1 => R (!c) H1) : tNot tc σ H R := h
theorem st_B {te : TE} {R : Bool → Hp → Prop} (h : te σ H fun x H1 => ∃ c, x = .bl c ∧ R c H1) : tB te σ H R := h
theorem st_andV {ta tb : TE} (h : ta σ H fun x H1 => ∃ c, x = .bl c ∧ if c = true then tb σ H1 Q else Q (.bl false) H1) : tAndV ta tb σ H Q := h
theorem st_orV {ta tb : TE} (h : ta σ H fun x H1 => ∃ c, x = .bl c ∧ if c = true then Q (.bl true) H1 else tb σ H1 Q) : tOrV ta tb σ H Q := h
theorem st_notV {ta : TE} (h : ta σ H fun x H1 => ∃ c, x = .bl c ∧ Q (.bl (!c)) H1) : tNotV ta σ H Q := h
theorem st_ifE {ta tb : TE} (h : tc σ H fun c H1 => if c = true then ta σ H1 Q else tb σ H1 Q) : tIf tc ta tb σ H Q := h
theorem st_part {te : TE} {R : Option Int → Hp → Prop} (h : te σ H fun x H1 => ∃ i, x = .int i ∧ R (some i) H1) : tPart te σ H R := h
theorem st_nop {R : Option Int → Hp → Prop} (h : R none H) : tNoPart σ H R := h
theorem st_sub {to ti : TE} {t : TSet} {v : V} {R : St → Hp → Prop} (h : to σ H fun o H1 => ti σ H1 fun i H2 => t o i v H2 fun H3 => R σ H3) : gSub to ti t v σ H R := h
theorem st_callK {sp : Sp} {gV : List V → List V → List V} {E : XK} {t tk : TA} (h : t σ H fun vs H1 => tk σ H1 fun zs H2 => sp (gV vs zs) H2 Q E) : tCallK sp gV E t tk σ H Q := h
theorem if_T {A B : Prop} (h : A) : if true = true then A else B := h
theorem if_F {A B : Prop} (h : B) : if false = true then A else B := h
theorem if_nT {A B : Prop} (h : B) : if (!true) = true then A else B := h
theorem if_nF {A B : Prop} (h : A) : if (!false) = true then A else B := h
theorem st_nameG {i : Nat} {v : V} {R : St → Hp → Prop} (h : R (σ.set i (some v)) H) : gName i v σ H R := h
theorem st_chain {ta tb tc : TE} {r r' : R2} (h : ta σ H fun x H1 => tb σ H1 fun y H2 => r x y H2 fun z H3 => ∃ k, z = .bl k ∧ (if k = true then tc σ H3 fun w' H4 => r' y w' H4 Q else Q (.bl false) H3)) : tChain r r' ta tb tc σ H Q := h
end
end L2
namespace L2
section
variable {σ : L2.St} {H : Hp} {D : Ends}
theorem st_nxt (h : D.nx σ H) : tNext D σ H := h
theorem st_cnt (h : D.ct σ H) : tCont D σ H := h
theorem st_brk (h : D.bk σ H) : tBreak D σ H := h
theorem st_retn (h : D.rt .non H) : tRetN D σ H := h
end
end L2
namespace L2
open PySem PySem.Spec PyProof.Rows Evl
section
variable {σ : L2.St} {H : Hp} {t : TA} {Q : VK} {xs : List V}
def rNewL (xs : List V) (H : Hp) (Q : VK) : Prop := xs.length ≤ sizeLine ∧ ∀ p, H p = none → Q (.ref p) (upd H p (.lst xs))
def rNewT (xs : List V) (H : Hp) (Q : VK) : Prop := xs.length ≤ sizeLine ∧ ∀ p, H p = none → Q (.ref p) (upd H p (.tup xs))
theorem st_lstN (h : t σ H fun xs H1 => rNewL xs H1 Q) : tLst t σ H Q := h
theorem st_tupN (h : t σ H fun xs H1 => rNewT xs H1 Q) : tTup t σ H Q := h
theorem r_newL (hz : xs.length ≤ 100000) (q : ∀ p H1, H p = none → Ex H H1 → H1 p = some (.lst xs) → Q (.ref p) H1) : rNewL xs H Q := ⟨sz_of hz, alloc q⟩
theorem r_newT (hz : xs.length ≤ 100000) (q : ∀ p H1, H p = none → Ex H H1 → H1 p = some (.tup xs) → Q (.ref p) H1) : rNewT xs H Q := ⟨sz_of hz, alloc q⟩
end
end L2
namespace L2
open PySem PySem.Spec PyProof.Rows Evl
section
variable {σ : L2.St} {H : Hp} {D : Ends} {c : TT} {tb : TS}
theorem st_while (W : Nat → L2.St → Hp → Prop) (m0 : Nat) (h0 : W m0 σ H)
    (hs : ∀ m σ' H', W m σ' H' → c σ' H' fun b H1 => if b = true then ∃ N : L2.St → Hp → Prop, (∀ σ2 H2, N σ2 H2 → ∃ m', m' < m ∧ W m' σ2 H2) ∧ tb { D with nx := N, ct := N, bk := D.nx } σ' H1 else D.nx σ' H1) : tWhile c tb D σ H :=
  ⟨W, ⟨m0, h0⟩, hs⟩
theorem wh_in {W : Nat → L2.St → Hp → Prop} {m : Nat} (h : tb { D with nx := fun σ2 H2 => ∃ m', m' < m ∧ W m' σ2 H2, ct := fun σ2 H2 => ∃ m', m' < m ∧ W m' σ2 H2, bk := D.nx } σ H) :
    ∃ N : L2.St → Hp → Prop, (∀ σ2 H2, N σ2 H2 → ∃ m', m' < m ∧ W m' σ2 H2) ∧ tb { D with nx := N, ct := N, bk := D.nx } σ H := ⟨_, fun _ _ h => h, h⟩
end
end L2
/-! loops and comprehensions by what is walked -/
namespace L2
open PySem PySem.Spec PyProof.Rows Evl
def rFor (J : It) (g : TG) (tb : TS) (D : Ends) (σ : L2.St) (H1 : Hp) : Prop := ∃ W : Nat → Nat → L2.St → Hp → Prop, (∃ m, W 0 m σ H1) ∧ ∀ i m σ H, W i m σ H →
  (J.stop i H ∧ D.nx σ H) ∨ (J.go i H ∧ ∃ N : L2.St → Hp → Prop, (∀ σ' H', N σ' H' → ∃ m', m' < m ∧ W (i + 1) m' σ' H') ∧ ∀ x H', J.yld i H x H' → g x σ H' fun σ2 H2 => tb { D with nx := N, ct := N, bk := D.nx } σ2 H2)
def rLc (J : It) (g : TG) (tt : TT) (te : TE) (vs : List Nat) (σ : L2.St) (Q : VK) (H1 : Hp) : Prop := ∀ D, H1 D = none → ∃ W : Nat → Nat → Hp → Prop, (∃ m, W 0 m (upd H1 D (.lst []))) ∧ ∀ i m H, W i m H →
  (J.stop i H ∧ Q (.ref D) H) ∨ (J.go i H ∧ ∃ Nx : Hp → Prop, (∀ H', Nx H' → ∃ m', m' < m ∧ W (i + 1) m' H') ∧ ∀ x H', J.yld i H x H' → g x (wipe σ vs) H' fun σ2 H2 => wipe σ2 vs = wipe σ vs ∧ tt σ2 H2 fun b H3 =>
    if b = true then te σ2 H3 fun y H4 => ∃ acc, H4 D = some (.lst acc) ∧ acc.length < sizeLine ∧ Nx (upd H4 D (.lst (acc ++ [y]))) else Nx H3)
def rRng1 (vs : List V) (R : It → Hp → Prop) (H1 : Hp) : Prop := ∃ j : Int, vs = [.int j] ∧ -(2 ^ 62) ≤ j ∧ j < 2 ^ 62 ∧ R (Itr 0 j.toNat) H1
def rRng2 (vs : List V) (R : It → Hp → Prop) (H1 : Hp) : Prop := ∃ i j : Int, vs = [.int i, .int j] ∧ (-(2 ^ 62) ≤ i ∧ i < 2 ^ 62 ∧ -(2 ^ 62) ≤ j ∧ j < 2 ^ 62) ∧ R (Itr i (j - i).toNat) H1
def rItL (K : PySem.W.Frag) (x : V) (R : It → Hp → Prop) (H1 : Hp) : Prop := ∃ a, x = .ref a ∧ (∃ xs, SqL K H1 a xs) ∧ R (Itl K a) H1
def rItT (K : PySem.W.Frag) (x : V) (R : It → Hp → Prop) (H1 : Hp) : Prop := ∃ a, x = .ref a ∧ (∃ xs, SqT K H1 a xs) ∧ R (Itt K a) H1
def rRev (K : PySem.W.Frag) (x : V) (H1 : Hp) (Q : VK) : Prop := (∃ a xs, x = .ref a ∧ SqL K H1 a xs ∧ ∀ p, H1 p = none → Q (.ref p) (upd H1 p (.lst xs.reverse))) ∨ (∃ a xs, x = .ref a ∧ SqT K H1 a xs ∧ ∀ p, H1 p = none → Q (.ref p) (upd H1 p (.tup xs.reverse)))
def rApp (K : PySem.W.Frag) (T : String) (r : V → List V → Hp → VK → Prop) (t : TA) (σ : L2.St) (x : V) (H1 : Hp) (Q : VK) : Prop := tyV K T x H1 ∧ t σ H1 fun xs H2 => r x xs H2 Q
def rApp0 (K : PySem.W.Frag) (T : String) (r : V → List V → Hp → VK → Prop) (x : V) (H1 : Hp) (Q : VK) : Prop := tyV K T x H1 ∧ r x [] H1 Q
section
variable {K : PySem.W.Frag} {σ : L2.St} {H : Hp} {Q : VK} {D : Ends} {g : TG} {tb : TS} {wi : TI} {ta : TA} {te tl : TE} {tt : TT} {vs : List Nat} {R : It → Hp → Prop} {a : Addr} {xs ys : List V} {j : Nat} {n lo : Int}
theorem st_for (h : wi σ H fun J H1 => rFor J g tb D σ H1) : tFor wi g tb D σ H := h
theorem st_lc (h : wi σ H fun J H1 => rLc J g tt te vs σ Q H1) : tLc wi g tt te vs σ H Q := h
theorem st_rng1 (h : ta σ H fun us H1 => rRng1 us R H1) : iRng1 ta σ H R := h
theorem st_rng2 (h : ta σ H fun us H1 => rRng2 us R H1) : iRng2 ta σ H R := h
theorem st_itL (h : tl σ H fun x H1 => rItL K x R H1) : iList K tl σ H R := h
theorem st_itT (h : tl σ H fun x H1 => rItT K x R H1) : iTup K tl σ H R := h
theorem st_rev (h : te σ H fun x H1 => rRev K x H1 Q) : tRevU K te σ H Q := h
theorem st_bm {T : String} {r : V → List V → Hp → VK → Prop} {t : TA} (h : te σ H fun x H1 => rApp K T r t σ x H1 Q) : tBM K T r te t σ H Q := h
theorem st_bm0 {T : String} {r : V → List V → Hp → VK → Prop} (h : te σ H fun x H1 => rApp0 K T r x H1 Q) : tBM0 K T r te σ H Q := h
theorem r_rng1 (h1 : n < 2 ^ 62) (h0 : -(2 ^ 62) ≤ n) (q : R (Itr 0 n.toNat) H) : rRng1 [.int n] R H := ⟨n, rfl, h0, h1, q⟩
theorem r_rng2 (h : -(2 ^ 62) ≤ lo ∧ lo < 2 ^ 62 ∧ -(2 ^ 62) ≤ n ∧ n < 2 ^ 62) (q : R (Itr lo (n - lo).toNat) H) : rRng2 [.int lo, .int n] R H := ⟨lo, n, rfl, h, q⟩
theorem r_itL (h : SqL K H a xs) (q : R (Itl K a) H) : rItL K (.ref a) R H := ⟨a, rfl, ⟨xs, h⟩, q⟩
theorem r_itT (h : SqT K H a xs) (q : R (Itt K a) H) : rItT K (.ref a) R H := ⟨a, rfl, ⟨xs, h⟩, q⟩
theorem r_revL (h : SqL K H a xs) (q : ∀ p H1, H p = none → Ex H H1 → H1 p = some (.lst xs.reverse) → Q (.ref p) H1) : rRev K (.ref a) H Q := .inl ⟨a, xs, rfl, h, alloc q⟩
theorem r_revT (h : SqT K H a xs) (q : ∀ p H1, H p = none → Ex H H1 → H1 p = some (.tup xs.reverse) → Q (.ref p) H1) : rRev K (.ref a) H Q := .inr ⟨a, xs, rfl, h, alloc q⟩
/-- xs.append(v): the argument is read first -/
theorem r_app {t : TA} (h : SqL K H a xs) (q : t σ H fun us H2 => rAppend (.ref a) us H2 Q) : rApp K "list" rAppend t σ (.ref a) H Q := ⟨.inl ⟨rfl, xs, h⟩, q⟩
theorem r_appd {v : V} (h : H a = some (.lst xs)) (hz : xs.length < 100000) (q : ∀ H1, ExW a H H1 → H1 a = some (.lst (xs ++ [v])) → Q .non H1) : rAppend (.ref a) [v] H Q := ⟨a, xs, v, rfl, rfl, h, sz_lt hz, q _ ExW.upd upd_same⟩
theorem r_pop {v : V} (h : H a = some (.lst (xs ++ [v]))) (q : ∀ H1, ExW a H H1 → H1 a = some (.lst xs) → Q v H1) : rApp0 K "list" rPop (.ref a) H Q := by
  refine ⟨.inl ⟨rfl, _, l_of h⟩, a, _, v, rfl, rfl, h, by simp, ?_⟩
  refine q _ ExW.upd ?_
  rw [upd_same]
  simp
/-! ### for -/
theorem r_forR {m : Nat} (Pv : Nat → L2.St → Hp → Prop) (h0 : Pv 0 σ H) (hs : ∀ i σ' H', i < m → Pv i σ' H' → g (.int (lo + i)) σ' H' fun σ2 H2 => tb { D with nx := Pv (i + 1), ct := Pv (i + 1), bk := D.nx } σ2 H2)
    (hd : ∀ σ' H', Pv m σ' H' → D.nx σ' H') : rFor (Itr lo m) g tb D σ H := for_range (lo := lo) (n := m) Pv h0 hs hd
theorem r_forL (Pv : Nat → L2.St → Hp → Prop) (h0 : Pv 0 σ H) (hl : ∀ i σ' H', i ≤ xs.length → Pv i σ' H' → SqL K H' a xs)
    (hs : ∀ i x σ' H', xs[i]? = some x → Pv i σ' H' → g x σ' H' fun σ2 H2 => tb { D with nx := Pv (i + 1), ct := Pv (i + 1), bk := D.nx } σ2 H2) (hd : ∀ σ' H', Pv xs.length σ' H' → D.nx σ' H') : rFor (Itl K a) g tb D σ H := for_list Pv h0 hl hs hd
theorem r_forT (Pv : Nat → L2.St → Hp → Prop) (h0 : Pv 0 σ H) (hl : ∀ i σ' H', i ≤ xs.length → Pv i σ' H' → SqT K H' a xs)
    (hs : ∀ i x σ' H', xs[i]? = some x → Pv i σ' H' → g x σ' H' fun σ2 H2 => tb { D with nx := Pv (i + 1), ct := Pv (i + 1), bk := D.nx } σ2 H2) (hd : ∀ σ' H', Pv xs.length σ' H' → D.nx σ' H') : rFor (Itt K a) g tb D σ H := for_tup Pv h0 hl hs hd
/-! ### comprehensions whose turns change nothing -/
theorem r_cmT (ht : SqT K H a xs) (hxy : ys.length = xs.length) (hz : ys.length ≤ 100000) (hw : ∀ x, wipe ((wipe σ vs).set j (some x)) vs = wipe σ vs)
    (he : ∀ (i : Nat) (x y : V) (H1 : Hp), xs[i]? = some x → ys[i]? = some y → Ex H H1 → ∀ Q' : VK, (∀ H2, Ex H1 H2 → Q' y H2) → te ((wipe σ vs).set j (some x)) H1 Q')
    (q : ∀ p H1, H p = none → Ex H H1 → H1 p = some (.lst ys) → Q (.ref p) H1) : rLc (Itt K a) (gName j) tYes te vs σ Q H := fun D hD =>
  lc_tup (K := K) (a := a) (xs := xs) (fun i H' => Ex H H' ∧ H' D = some (.lst (ys.take i))) ⟨Ex.new hD, by rw [upd_same]; rfl⟩ (fun i H' _ p => ex_t p.1 ht) (fun i x H' hx p => ⟨hw x, by
    have hi : i < ys.length := by rw [hxy]; exact (List.getElem?_eq_some_iff.mp hx).1
    exact cm_turn (List.getElem?_eq_getElem hi) hz hD p fun Q' k => he i x _ H' hx (List.getElem?_eq_getElem hi) p.1 Q' k⟩) (fun H' p => q D H' hD p.1 (by rw [p.2, ← hxy, List.take_length]))
theorem r_cmL (ht : SqL K H a xs) (hxy : ys.length = xs.length) (hz : ys.length ≤ 100000) (hw : ∀ x, wipe ((wipe σ vs).set j (some x)) vs = wipe σ vs)
    (he : ∀ (i : Nat) (x y : V) (H1 : Hp), xs[i]? = some x → ys[i]? = some y → Ex H H1 → ∀ Q' : VK, (∀ H2, Ex H1 H2 → Q' y H2) → te ((wipe σ vs).set j (some x)) H1 Q')
    (q : ∀ p H1, H p = none → Ex H H1 → H1 p = some (.lst ys) → Q (.ref p) H1) : rLc (Itl K a) (gName j) tYes te vs σ Q H := fun D hD =>
  lc_list (K := K) (a := a) (xs := xs) (fun i H' => Ex H H' ∧ H' D = some (.lst (ys.take i))) ⟨Ex.new hD, by rw [upd_same]; rfl⟩ (fun i H' _ p => ex_l p.1 ht) (fun i x H' hx p => ⟨hw x, by
    have hi : i < ys.length := by rw [hxy]; exact (List.getElem?_eq_some_iff.mp hx).1
    exact cm_turn (List.getElem?_eq_getElem hi) hz hD p fun Q' k => he i x _ H' hx (List.getElem?_eq_getElem hi) p.1 Q' k⟩) (fun H' p => q D H' hD p.1 (by rw [p.2, ← hxy, List.take_length]))
theorem r_cmR {m : Nat} (hxy : ys.length = m) (hz : ys.length ≤ 100000) (hw : ∀ x, wipe ((wipe σ vs).set j (some x)) vs = wipe σ vs)
    (he : ∀ (i : Nat) (y : V) (H1 : Hp), i < m → ys[i]? = some y → Ex H H1 → ∀ Q' : VK, (∀ H2, Ex H1 H2 → Q' y H2) → te ((wipe σ vs).set j (some (.int (lo + (i : Int))))) H1 Q')
    (q : ∀ p H1, H p = none → Ex H H1 → H1 p = some (.lst ys) → Q (.ref p) H1) : rLc (Itr lo m) (gName j) tYes te vs σ Q H := fun D hD =>
  lc_range (lo := lo) (n := m) (fun i H' => Ex H H' ∧ H' D = some (.lst (ys.take i))) ⟨Ex.new hD, by rw [upd_same]; rfl⟩ (fun i H' hi' p => ⟨hw _, by
    have hi : i < ys.length := by rw [hxy]; exact hi'
    exact cm_turn (List.getElem?_eq_getElem hi) hz hD p fun Q' k => he i _ H' hi' (List.getElem?_eq_getElem hi) p.1 Q' k⟩) (fun H' p => q D H' hD p.1 (by rw [p.2, ← hxy, List.take_length]))
/-- [e for i in range(..) if t] -/
theorem r_cmRF {m : Nat} (f : Nat → Bool) (v : Nat → V) (hz : m ≤ 100000) (hw : ∀ x, wipe ((wipe σ vs).set j (some x)) vs = wipe σ vs)
    (ht : ∀ (i : Nat) H1, i < m → Ex H H1 → ∀ Q' : Bool → Hp → Prop, (∀ H2, Ex H1 H2 → Q' (f i) H2) → tt ((wipe σ vs).set j (some (.int (lo + (i : Int))))) H1 Q')
    (he : ∀ (i : Nat) H1, i < m → f i = true → Ex H H1 → ∀ Q' : VK, (∀ H2, Ex H1 H2 → Q' (v i) H2) → te ((wipe σ vs).set j (some (.int (lo + (i : Int))))) H1 Q')
    (q : ∀ p H1, H p = none → Ex H H1 → H1 p = some (.lst (given m f v)) → Q (.ref p) H1) : rLc (Itr lo m) (gName j) tt te vs σ Q H := fun D hD => by
  refine lc_range (lo := lo) (n := m) (fun i H' => Ex H H' ∧ H' D = some (.lst (given i f v))) ⟨Ex.new hD, by rw [upd_same]; rfl⟩ (fun i H' hi p => ⟨hw _, ?_⟩) (fun H' p => q D H' hD p.1 p.2)
  refine ht i H' hi p.1 _ fun H2 e2 => ?_
  cases hf : f i with
  | false =>
    refine if_F ⟨p.1.trans e2, ?_⟩
    rw [given_no hf]
    exact e2 _ _ p.2
  | true =>
    refine if_T (he i H2 hi hf (p.1.trans e2) _ fun H3 e3 => ⟨given i f v, e3 _ _ (e2 _ _ p.2), ?_, Ex.mut ((p.1.trans e2).trans e3) hD, ?_⟩)
    · have := given_len i f v
      exact Nat.lt_of_le_of_lt this (Nat.lt_of_lt_of_le hi (sz_of hz))
    · rw [upd_same, given_yes hf]
/-- [e for i in range(..)], a turn may change the heap: S is what stands between the turns, Pr what is said of an item -/
theorem r_cmRS {m : Nat} (S : Nat → Hp → Prop) (Pr : V → Prop) (hm : m ≤ 100000) (hw : ∀ x, wipe ((wipe σ vs).set j (some x)) vs = wipe σ vs) (h0 : S 0 H)
    (hnew : ∀ i H1 D o, S i H1 → H1 D = none → S i (upd H1 D o))
    (he : ∀ (i : Nat) H1 D acc, i < m → S i H1 → H1 D = some (.lst acc) → (∀ o, S i (upd H1 D o)) →
      ∀ Q' : VK, (∀ y H2, Pr y → H2 D = some (.lst acc) → (∀ o, S (i + 1) (upd H2 D o)) → Q' y H2) → te ((wipe σ vs).set j (some (.int (lo + (i : Int))))) H1 Q')
    (q : ∀ D H1 ys, H D = none → ys.length = m → (∀ y ∈ ys, Pr y) → S m H1 → H1 D = some (.lst ys) → Q (.ref D) H1) : rLc (Itr lo m) (gName j) tYes te vs σ Q H := fun D hD => by
  refine lc_range (lo := lo) (n := m) (fun i H' => ∃ ys : List V, ys.length = i ∧ (∀ y ∈ ys, Pr y) ∧ S i H' ∧ (∀ o, S i (upd H' D o)) ∧ H' D = some (.lst ys)) ⟨[], rfl, (fun _ h => by cases h), hnew 0 H D _ h0 hD, fun o => by rw [upd_upd]; exact hnew 0 H D o h0 hD, upd_same⟩ (fun i H' hi p => ?_) (fun H' p => ?_)
  · obtain ⟨ys, h1, h2, h3, h4, h5⟩ := p
    refine ⟨hw _, ?_⟩
    refine he i H' D ys hi h3 h5 h4 _ fun y H2 z1 z2 z3 => ?_
    refine ⟨ys, z2, sz_lt (by omega), ys ++ [y], by rw [List.length_append, h1]; rfl, fun x hx => ?_, z3 _, fun o => by rw [upd_upd]; exact z3 o, upd_same⟩
    rcases List.mem_append.mp hx with hx | hx
    · exact h2 x hx
    · rw [List.mem_singleton.mp hx]
      exact z1
  · obtain ⟨ys, h1, h2, h3, h4, h5⟩ := p
    exact q D H' ys hD h1 h2 h3 h5
end
end L2
namespace L2
open PySem PySem.Spec PyProof.Rows Evl
section
variable {K : PySem.W.Frag} {H : Hp} {Q : VK} {a : Addr} {xs : List V}
theorem r_repL {k : Int} (h : H a = some (.lst xs)) (h0 : 0 ≤ k) (hk : k ≤ 100000) (hz : xs.length * k.toNat ≤ 100000) (q : ∀ p H1, H p = none → Ex H H1 → H1 p = some (.lst (List.replicate k.toNat xs).flatten) → Q (.ref p) H1) : rMulU K (.ref a) (.int k) H Q :=
  .inr (.inr (.inl ⟨a, k, xs, rfl, rfl, h, by omega, by omega, sz_of hz, alloc q⟩))
/-! ### draws: what stands between -/
/-- all but the well is as it was; n draws are done -/
structure DrS (w : Addr) (H0 : Hp) (n : Nat) (H : Hp) : Prop where
  ex : ExW w H0 H
  well : Well H w n
theorem Well.upd {H : Hp} {w D : Addr} {n : Nat} {o : HO} (h : Well H w n) (hD : D ≠ w) : Well (upd H D o) w n := by
  obtain ⟨a, b, c, h1, h2⟩ := h.ex
  exact ⟨a, b, c, by rw [upd_ne hD.symm]; exact h1, h2⟩
theorem DrS.new {w D : Addr} {H0 H : Hp} {n : Nat} {o : HO} (h : DrS w H0 n H) (hD : H D = none) : DrS w H0 n (upd H D o) :=
  ⟨fun a u e ha => by rw [upd_ne (ne_of_none (h.ex a u e ha) hD)]; exact h.ex a u e ha, h.well.upd (h.well.ne hD)⟩
theorem DrS.at {w D : Addr} {H0 H : Hp} {n : Nat} (h : ∀ o, DrS w H0 n (L2.upd H D o)) : D ≠ w ∧ H0 D = none := by
  have hw : D ≠ w := fun e => by
    obtain ⟨a, b, c, h1, _⟩ := (h (.lst [])).well.ex
    rw [← e, upd_same] at h1
    cases h1
  refine ⟨hw, ?_⟩
  cases e : H0 D with
  | none => rfl
  | some u =>
    have h1 := (h (.lst [])).ex D u e hw
    have h2 := (h (.tup [])).ex D u e hw
    rw [upd_same] at h1 h2
    rw [← h1] at h2
    cases h2
theorem DrS.put {w D : Addr} {H0 H : Hp} {n : Nat} {o : HO} (h : DrS w H0 n H) (hD : D ≠ w) (h0 : H0 D = none) : DrS w H0 n (L2.upd H D o) :=
  ⟨fun a u e ha => by rw [upd_ne (ne_of_none e h0)]; exact h.ex a u e ha, h.well.upd hD⟩
theorem DrS.on {w : Addr} {H0 H H1 : Hp} {n m : Nat} (h : DrS w H0 n H) (e : ExW w H H1) (k : Well H1 w m) : DrS w H0 m H1 := ⟨h.ex.trans e, k⟩
theorem DrS.ext {w : Addr} {H0 H H1 : Hp} {n : Nat} (h : DrS w H0 n H) (e : Ex H H1) : DrS w H0 n H1 := ⟨h.ex.trans (.of e), h.well.mono e⟩
theorem DrS.more {w : Addr} {H0 H : Hp} {n m : Nat} (h : DrS w H0 n H) (e : n ≤ m) : DrS w H0 m H := ⟨h.ex, h.well.more e⟩
theorem DrS.t {w : Addr} {H0 H : Hp} {n : Nat} {a : Addr} {xs : List V} {k : Nat} (h : DrS w H0 n H) (h0 : Well H0 w k) (t : SqT K H0 a xs) : SqT K H a xs := h0.t h.ex t
end
/-- all items are ints of which so much is said -/
theorem intsOf {P : Int → Prop} : ∀ ys : List V, (∀ y ∈ ys, ∃ z, y = .int z ∧ P z) → ∃ ns : List Int, ys = ns.map V.int ∧ ∀ z ∈ ns, P z
  | [], _ => ⟨[], rfl, fun _ h => by cases h⟩
  | y :: ys, h => by
    obtain ⟨ns, e, k⟩ := intsOf ys fun x hx => h x (List.mem_cons_of_mem _ hx)
    obtain ⟨z, e2, k2⟩ := h y List.mem_cons_self
    refine ⟨z :: ns, by rw [e, e2]; rfl, fun x hx => ?_⟩
    rcases List.mem_cons.mp hx with rfl | hx
    · exact k2
    · exact k x hx
end L2
/-! walks of steps: pairs left out -/
namespace Fg
abbrev Wk := List Int
/-- what is kept, the last one first -/
def stp (st : Wk) (x : Int) : Wk := match st with
  | [] => [x]
  | y :: r => if y = -x then r else x :: y :: r
def run (st : Wk) (u : Wk) : Wk := u.foldl stp st
def rd (u : Wk) : Wk := (run [] u).reverse
def bk (u : Wk) : Wk := (u.map fun x => -x).reverse
/-- no step beside its opposite one (of what is kept) -/
def Red : Wk → Prop
  | [] => True
  | [_] => True
  | x :: y :: r => y ≠ -x ∧ Red (y :: r)
theorem Red.tail {x : Int} {r : Wk} (h : Red (x :: r)) : Red r := by
  cases r with
  | nil => trivial
  | cons y r => exact h.2
theorem red_stp {st : Wk} (x : Int) (h : Red st) : Red (stp st x) := by
  cases st with
  | nil => trivial
  | cons y r =>
    show Red (if y = -x then r else x :: y :: r)
    by_cases e : y = -x
    · rw [if_pos e]
      exact h.tail
    · rw [if_neg e]
      exact ⟨e, h⟩
theorem red_run : ∀ (u : Wk) {st : Wk}, Red st → Red (run st u)
  | [], _, h => h
  | x :: u, _, h => red_run u (red_stp x h)
theorem run_append (st u v : Wk) : run st (u ++ v) = run (run st u) v := List.foldl_append
/-- a step and its opposite one are as nothing -/
theorem stp_pair {st : Wk} (x : Int) (h : Red st) : stp (stp st x) (-x) = st := by
  cases st with
  | nil =>
    show (if x = - -x then [] else [-x, x]) = []
    rw [if_pos (by omega)]
  | cons y r =>
    show stp (if y = -x then r else x :: y :: r) (-x) = y :: r
    by_cases e : y = -x
    · rw [if_pos e]
      cases r with
      | nil => rw [e]; rfl
      | cons z r =>
        show (if z = - -x then r else -x :: z :: r) = y :: z :: r
        have hz : z ≠ -y := h.1
        rw [if_neg (by rw [e] at hz; exact hz), e]
    · rw [if_neg e]
      show (if x = - -x then y :: r else -x :: x :: y :: r) = y :: r
      rw [if_pos (by omega)]
/-- the same from all -/
def Eqv (u v : Wk) : Prop := ∀ st, Red st → run st u = run st v
theorem Eqv.refl (u : Wk) : Eqv u u := fun _ _ => rfl
theorem Eqv.symm {u v : Wk} (h : Eqv u v) : Eqv v u := fun st r => (h st r).symm
theorem Eqv.trans {u v w : Wk} (h : Eqv u v) (k : Eqv v w) : Eqv u w := fun st r => (h st r).trans (k st r)
theorem Eqv.app {u v a b : Wk} (h : Eqv u v) (k : Eqv a b) : Eqv (u ++ a) (v ++ b) := fun st r => by
  rw [run_append, run_append, h st r]
  exact k _ (red_run v r)
theorem eqv_pair (x : Int) : Eqv [x, -x] [] := fun st r => stp_pair x r
theorem eqv_cut (u v : Wk) (x : Int) : Eqv (u ++ [x, -x] ++ v) (u ++ v) := by
  have h := ((Eqv.refl u).app (eqv_pair x)).app (Eqv.refl v)
  rw [List.append_nil] at h
  exact h
theorem rd_eq {u v : Wk} (h : Eqv u v) : rd u = rd v := by
  unfold rd
  rw [h [] trivial]
theorem rd_snoc (u : Wk) (x : Int) : rd (u ++ [x]) = (stp (rd u).reverse x).reverse := by
  unfold rd
  rw [run_append, List.reverse_reverse]
  rfl
theorem run_snoc (st u : Wk) (x : Int) : run st (u ++ [x]) = stp (run st u) x := by
  rw [run_append]
  rfl
/-- what is left is the same -/
theorem eqv_rd : ∀ (n : Nat) (u : Wk), u.length = n → Eqv (rd u) u
  | 0, u, h => by
    have e : u = [] := List.eq_nil_of_length_eq_zero h
    subst e
    exact .refl _
  | n + 1, u, h => by
    obtain ⟨m, x, rfl⟩ : ∃ m x, u = m ++ [x] := ⟨u.dropLast, u.getLast (by intro e; subst e; cases h), (List.dropLast_concat_getLast _).symm⟩
    have ih := eqv_rd n m (by rw [List.length_append] at h; simpa using h)
    have hr : Red (rd m).reverse := by
      unfold rd
      rw [List.reverse_reverse]
      exact red_run m trivial
    intro st r
    rw [rd_snoc, run_snoc, ← ih st r]
    generalize hq : (rd m).reverse = q at hr
    have hm : rd m = q.reverse := by rw [← hq, List.reverse_reverse]
    rw [hm]
    cases q with
    | nil => rfl
    | cons y q =>
      show run st (if y = -x then q else x :: y :: q).reverse = stp (run st (y :: q).reverse) x
      by_cases e : y = -x
      · rw [if_pos e, List.reverse_cons, run_snoc, e]
        have k := stp_pair (-x) (red_run q.reverse r)
        rw [Int.neg_neg] at k
        exact k.symm
      · rw [if_neg e, List.reverse_cons, run_snoc]
theorem eqv_of_rd {u v : Wk} (h : rd u = rd v) : Eqv u v := (eqv_rd _ u rfl).symm.trans (h ▸ eqv_rd _ v rfl)
theorem rd_rd (u : Wk) : rd (rd u) = rd u := rd_eq (eqv_rd _ u rfl)
theorem rd_app (u v : Wk) : rd (rd u ++ rd v) = rd (u ++ v) := rd_eq ((eqv_rd _ u rfl).app (eqv_rd _ v rfl))
theorem bk_app (u v : Wk) : bk (u ++ v) = bk v ++ bk u := by unfold bk; rw [List.map_append, List.reverse_append]
theorem bk_bk (u : Wk) : bk (bk u) = u := by
  unfold bk
  rw [List.map_reverse, List.reverse_reverse, List.map_map]
  have e : ((fun x : Int => -x) ∘ fun x => -x) = id := funext fun x => by show - -x = x; omega
  rw [e, List.map_id]
theorem bk_len (u : Wk) : (bk u).length = u.length := by unfold bk; rw [List.length_reverse, List.length_map]
theorem eqv_bk : ∀ u : Wk, Eqv (u ++ bk u) []
  | [] => .refl _
  | x :: u => by
    have e : bk (x :: u) = bk u ++ [-x] := by
      unfold bk
      rw [List.map_cons, List.reverse_cons]
    rw [e]
    have h := ((Eqv.refl [x]).app (eqv_bk u)).app (Eqv.refl [-x])
    rw [List.append_nil] at h
    refine Eqv.trans ?_ (eqv_pair x)
    have e2 : (x :: u) ++ (bk u ++ [-x]) = [x] ++ (u ++ bk u) ++ [-x] := by simp
    rw [e2]
    exact h
theorem eqv_kb (u : Wk) : Eqv (bk u ++ u) [] := by
  have h := eqv_bk (bk u)
  rw [bk_bk] at h
  exact h
theorem Eqv.bk {u v : Wk} (h : Eqv u v) : Eqv (Fg.bk u) (Fg.bk v) := by
  -- back u ~ back u, v, back v ~ back u, u, back v ~ back v
  have h1 : Eqv (Fg.bk u) (Fg.bk u ++ (v ++ Fg.bk v)) := by
    have k := (Eqv.refl (Fg.bk u)).app (eqv_bk v).symm
    rw [List.append_nil] at k
    exact k
  have h2 : Eqv (Fg.bk u ++ (v ++ Fg.bk v)) (Fg.bk u ++ (u ++ Fg.bk v)) := (Eqv.refl _).app (h.symm.app (.refl _))
  have h3 : Eqv (Fg.bk u ++ (u ++ Fg.bk v)) (Fg.bk v) := by
    rw [← List.append_assoc]
    have k := (eqv_kb u).app (Eqv.refl (Fg.bk v))
    exact k
  exact (h1.trans h2).trans h3
/-- straight: no pair side by side -/
def Str (u : Wk) : Prop := ∀ i x, u[i]? = some x → u[i + 1]? ≠ some (-x)
theorem str_nil : Str [] := fun i x h => by simp at h
theorem str_snoc {u : Wk} {x : Int} (h : Str u) (hl : u.getLast? ≠ some (-x)) : Str (u ++ [x]) := by
  intro i z hz e
  by_cases hi : i + 1 < u.length
  · rw [List.getElem?_append_left (by omega)] at hz
    rw [List.getElem?_append_left hi] at e
    exact h i z hz e
  · by_cases hi2 : i + 1 = u.length
    · rw [List.getElem?_append_left (by omega)] at hz
      rw [List.getElem?_append_right (by omega), hi2, Nat.sub_self] at e
      have e' : x = -z := Option.some.inj e
      apply hl
      rw [List.getLast?_eq_getElem?]
      have e3 : u.length - 1 = i := by omega
      rw [e3, hz, e']
      congr 1
      omega
    · rw [List.getElem?_eq_none (by rw [List.length_append]; simp; omega)] at e
      cases e
theorem str_init {u : Wk} {x : Int} (h : Str (u ++ [x])) : Str u ∧ u.getLast? ≠ some (-x) := by
  refine ⟨fun i z hz e => ?_, fun e => ?_⟩
  · have l2 : i + 1 < u.length := (List.getElem?_eq_some_iff.mp e).1
    refine h i z ?_ ?_
    · rw [List.getElem?_append_left (by omega)]
      exact hz
    · rw [List.getElem?_append_left l2]
      exact e
  · rw [List.getLast?_eq_getElem?] at e
    have l1 : u.length - 1 < u.length := (List.getElem?_eq_some_iff.mp e).1
    refine h (u.length - 1) (-x) ?_ ?_
    · rw [List.getElem?_append_left l1]
      exact e
    · rw [show u.length - 1 + 1 = u.length by omega, List.getElem?_append_right (Nat.le_refl _), Nat.sub_self, Int.neg_neg]
      rfl
/-- a straight one stays -/
theorem rd_of_str : ∀ (n : Nat) (u : Wk), u.length = n → Str u → rd u = u
  | 0, u, h, _ => by
    have e : u = [] := List.eq_nil_of_length_eq_zero h
    subst e
    rfl
  | n + 1, u, h, s => by
    obtain ⟨m, x, rfl⟩ : ∃ m x, u = m ++ [x] := ⟨u.dropLast, u.getLast (by intro e; subst e; cases h), (List.dropLast_concat_getLast _).symm⟩
    obtain ⟨s1, s2⟩ := str_init s
    have ih := rd_of_str n m (by rw [List.length_append] at h; simpa using h) s1
    rw [rd_snoc, ih]
    generalize hq : m.reverse = q
    have hm : m = q.reverse := by rw [← hq, List.reverse_reverse]
    cases q with
    | nil => rw [hm]; rfl
    | cons y q =>
      have hl : m.getLast? = some y := by rw [hm, List.reverse_cons, List.getLast?_append]; rfl
      have hy : y ≠ -x := fun e => s2 (by rw [hl, e])
      show (if y = -x then q else x :: y :: q).reverse = m ++ [x]
      rw [if_neg hy, List.reverse_cons, ← hm]
theorem str_of_red : ∀ {st : Wk}, Red st → Str st.reverse
  | [], _ => str_nil
  | [x], _ => str_snoc (u := []) (x := x) str_nil (by simp)
  | x :: y :: r, h => by
    rw [List.reverse_cons]
    refine str_snoc (str_of_red h.2) ?_
    rw [List.reverse_cons, List.getLast?_append]
    intro e
    exact h.1 (Option.some.inj e)
theorem str_rd (u : Wk) : Str (rd u) := str_of_red (red_run u trivial)
theorem rd_str {u : Wk} (h : Str u) : rd u = u := rd_of_str _ u rfl h
theorem str_bk {u : Wk} (h : Str u) : Str (bk u) := by
  intro i x hx e
  unfold bk at hx e
  have l1 : i + 1 < u.length := by
    have := (List.getElem?_eq_some_iff.mp e).1
    simpa using this
  rw [List.getElem?_reverse (by simpa using (by omega : i < u.length)), List.getElem?_map] at hx
  rw [List.getElem?_reverse (by simpa using l1), List.getElem?_map] at e
  simp only [List.length_map] at hx e
  cases h1 : u[u.length - 1 - i]? with
  | none => rw [h1] at hx; cases hx
  | some z =>
    rw [h1] at hx
    have ez : -z = x := Option.some.inj hx
    cases h2 : u[u.length - 1 - (i + 1)]? with
    | none => rw [h2] at e; cases e
    | some y =>
      rw [h2] at e
      have ey : -y = -x := Option.some.inj e
      refine h (u.length - 1 - (i + 1)) y h2 ?_
      rw [show u.length - 1 - (i + 1) + 1 = u.length - 1 - i by omega, h1]
      congr 1
      omega
theorem rd_bk (u : Wk) : rd (bk u) = bk (rd u) := by
  rw [← rd_str (str_bk (str_rd u))]
  exact rd_eq (eqv_rd _ u rfl).symm.bk
theorem rd_len_le : ∀ (n : Nat) (u : Wk), u.length = n → (rd u).length ≤ u.length
  | 0, u, h => by
    have e : u = [] := List.eq_nil_of_length_eq_zero h
    subst e
    exact Nat.le_refl _
  | n + 1, u, h => by
    obtain ⟨m, x, rfl⟩ : ∃ m x, u = m ++ [x] := ⟨u.dropLast, u.getLast (by intro e; subst e; cases h), (List.dropLast_concat_getLast _).symm⟩
    have ih := rd_len_le n m (by rw [List.length_append] at h; simpa using h)
    rw [rd_snoc]
    generalize hq : (rd m).reverse = q
    have hm : rd m = q.reverse := by rw [← hq, List.reverse_reverse]
    rw [hm] at ih
    rw [List.length_append]
    cases q with
    | nil =>
      show 1 ≤ m.length + 1
      omega
    | cons y q =>
      show (if y = -x then q else x :: y :: q).reverse.length ≤ m.length + 1
      rw [List.length_reverse] at ih ⊢
      rw [List.length_cons] at ih
      split
      · omega
      · simp only [List.length_cons]
        omega
theorem rd_len (u : Wk) : (rd u).length ≤ u.length := rd_len_le _ u rfl
/-- u so many times -/
def rep : Nat → Wk → Wk
  | 0, _ => []
  | k + 1, u => rep k u ++ u
theorem rep_flat (k : Nat) (u : Wk) : (List.replicate k u).flatten = rep k u := by
  induction k with
  | zero => rfl
  | succ k ih =>
    rw [List.replicate_succ', List.flatten_append, ih]
    show rep k u ++ (u ++ []) = rep k u ++ u
    rw [List.append_nil]
theorem rep_len (k : Nat) (u : Wk) : (rep k u).length = k * u.length := by
  induction k with
  | zero => simp [rep]
  | succ k ih =>
    show (rep k u ++ u).length = (k + 1) * u.length
    rw [List.length_append, ih, Nat.succ_mul]
theorem eqv_rep {u v : Wk} (h : Eqv u v) : ∀ k, Eqv (rep k u) (rep k v)
  | 0 => .refl _
  | k + 1 => (eqv_rep h k).app h
end Fg
namespace Fg
/-- so many steps at the end of one are opposite to those ahead of the other -/
def Opp (u v : Wk) (s : Nat) : Prop := s ≤ u.length ∧ s ≤ v.length ∧ ∀ j, j < s → ∀ x y, u[u.length - 1 - j]? = some x → v[j]? = some y → x = -y
theorem opp_zero (u v : Wk) : Opp u v 0 := ⟨Nat.zero_le _, Nat.zero_le _, fun j h => absurd h (Nat.not_lt_zero j)⟩
theorem opp_succ {u v : Wk} {s : Nat} {x y : Int} (h : Opp u v s) (hu : s < u.length) (hv : s < v.length) (hx : u[u.length - 1 - s]? = some x) (hy : v[s]? = some y) (e : x = -y) : Opp u v (s + 1) := by
  refine ⟨hu, hv, fun j hj a b ha hb => ?_⟩
  by_cases hjs : j < s
  · exact h.2.2 j hjs a b ha hb
  · have : j = s := by omega
    subst this
    rw [hx] at ha
    rw [hy] at hb
    cases ha
    cases hb
    exact e
theorem eqv_opp {u v : Wk} : ∀ {s : Nat}, Opp u v s → Eqv (u ++ v) (u.take (u.length - s) ++ v.drop s)
  | 0, _ => by
    rw [Nat.sub_zero, List.take_length, List.drop_zero]
    exact .refl _
  | s + 1, h => by
    have h0 : Opp u v s := ⟨by have := h.1; omega, by have := h.2.1; omega, fun j hj => h.2.2 j (by omega)⟩
    refine (eqv_opp h0).trans ?_
    have hu : u.length - 1 - s < u.length := by have := h.1; omega
    have hv : s < v.length := h.2.1
    have e := h.2.2 s (by omega) u[u.length - 1 - s] v[s] (List.getElem?_eq_getElem hu) (List.getElem?_eq_getElem hv)
    have e1 : u.take (u.length - s) = u.take (u.length - (s + 1)) ++ [u[u.length - 1 - s]] := by
      have k : u.length - s = (u.length - 1 - s) + 1 := by have := h.1; omega
      have k2 : u.length - (s + 1) = u.length - 1 - s := by omega
      rw [k, k2, List.take_add_one, List.getElem?_eq_getElem hu]
      rfl
    have e2 : v.drop s = v[s] :: v.drop (s + 1) := List.drop_eq_getElem_cons hv
    rw [e1, e2, e]
    have e3 : u.take (u.length - (s + 1)) ++ [-v[s]] ++ (v[s] :: v.drop (s + 1)) = u.take (u.length - (s + 1)) ++ [-v[s], - -v[s]] ++ v.drop (s + 1) := by
      rw [Int.neg_neg]
      simp
    rw [e3]
    exact eqv_cut _ _ _
theorem str_take {u : Wk} (n : Nat) (h : Str u) : Str (u.take n) := by
  intro i x hx e
  have l2 : i + 1 < (u.take n).length := (List.getElem?_eq_some_iff.mp e).1
  rw [List.length_take] at l2
  rw [List.getElem?_take, if_pos (by omega)] at hx e
  exact h i x hx e
theorem str_drop {u : Wk} (n : Nat) (h : Str u) : Str (u.drop n) := by
  intro i x hx e
  rw [List.getElem?_drop] at hx e
  exact h (n + i) x hx (by rw [← e]; congr 1)
theorem str_app {u v : Wk} (hu : Str u) (hv : Str v) (h : ∀ x y, u.getLast? = some x → v.head? = some y → y ≠ -x) : Str (u ++ v) := by
  intro i x hx e
  by_cases h1 : i + 1 < u.length
  · rw [List.getElem?_append_left (by omega)] at hx
    rw [List.getElem?_append_left h1] at e
    exact hu i x hx e
  · by_cases h2 : i < u.length
    · rw [List.getElem?_append_left h2] at hx
      rw [List.getElem?_append_right (by omega)] at e
      have e0 : i + 1 - u.length = 0 := by omega
      rw [e0] at e
      refine h x (-x) ?_ ?_ rfl
      · rw [List.getLast?_eq_getElem?, show u.length - 1 = i by omega, hx]
      · rw [List.head?_eq_getElem?, e]
    · rw [List.getElem?_append_right (by omega)] at hx
      rw [List.getElem?_append_right (by omega)] at e
      have e0 : i + 1 - u.length = (i - u.length) + 1 := by omega
      rw [e0] at e
      exact hv _ x hx e
theorem join_ok {u v : Wk} {s : Nat} (hu : Str u) (hv : Str v) (h : Opp u v s) (hend : s < u.length → s < v.length → ∀ x y, u[u.length - 1 - s]? = some x → v[s]? = some y → x ≠ -y) :
    u.take (u.length - s) ++ v.drop s = rd (u ++ v) := by
  have hs : Str (u.take (u.length - s) ++ v.drop s) := by
    refine str_app (str_take _ hu) (str_drop _ hv) fun x y hx hy e => ?_
    rw [List.getLast?_eq_getElem?, List.length_take] at hx
    rw [List.head?_eq_getElem?, List.getElem?_drop] at hy
    have hx0 := (List.getElem?_eq_some_iff.mp hx).1
    rw [List.length_take] at hx0
    have hy0 := (List.getElem?_eq_some_iff.mp hy).1
    rw [List.getElem?_take, if_pos (by omega)] at hx
    have k1 : min (u.length - s) u.length - 1 = u.length - 1 - s := by omega
    rw [k1] at hx
    refine hend (by omega) (by omega) x y hx (by simpa using hy) (by omega)
  rw [rd_eq (eqv_opp h), rd_str hs]
theorem rd_rep_rd (u : Wk) (k : Nat) : rd (rep k (rd u)) = rd (rep k u) := rd_eq (eqv_rep (eqv_rd _ u rfl) k)
theorem rd_app_l (u v : Wk) : rd (rd u ++ v) = rd (u ++ v) := rd_eq ((eqv_rd _ u rfl).app (.refl v))
theorem rd_app_r (u v : Wk) : rd (u ++ rd v) = rd (u ++ v) := rd_eq ((Eqv.refl u).app (eqv_rd _ v rfl))
/-- one pair out -/
theorem rd_out {u : Wk} {i : Nat} {x y : Int} (hx : u[i]? = some x) (hy : u[i + 1]? = some y) (e : x = -y) : rd (u.take i ++ u.drop (i + 2)) = rd u := by
  have h1 := (List.getElem?_eq_some_iff.mp hx).1
  have h2 := (List.getElem?_eq_some_iff.mp hy).1
  have e1 : u = u.take i ++ [x, -x] ++ u.drop (i + 2) := by
    have k : u.drop i = x :: y :: u.drop (i + 2) := by
      rw [List.drop_eq_getElem_cons h1, List.drop_eq_getElem_cons h2]
      rw [List.getElem?_eq_getElem h1] at hx
      rw [List.getElem?_eq_getElem h2] at hy
      rw [Option.some.inj hx, Option.some.inj hy]
    have k2 : -x = y := by omega
    rw [k2]
    conv => lhs; rw [← List.take_append_drop i u, k]
    simp
  conv => rhs; rw [e1]
  exact (rd_eq (eqv_cut _ _ x)).symm
/-- no pair: straight -/
theorem str_of_none {u : Wk} (h : ∀ i x y, u[i]? = some x → u[i + 1]? = some y → x ≠ -y) : Str u := fun i x hx e => h i x (-x) hx e (by omega)
theorem mem_stp {st : Wk} {x y : Int} (h : y ∈ stp st x) : y ∈ st ∨ y = x := by
  cases st with
  | nil => exact .inr (List.mem_singleton.mp h)
  | cons z r =>
    have h' : y ∈ (if z = -x then r else x :: z :: r) := h
    split at h'
    · exact .inl (List.mem_cons_of_mem _ h')
    · rcases List.mem_cons.mp h' with e | e
      · exact .inr e
      · exact .inl e
theorem mem_run : ∀ (u : Wk) {st : Wk} {y : Int}, y ∈ run st u → y ∈ st ∨ y ∈ u
  | [], _, _, h => .inl h
  | x :: u, st, y, h => by
    rcases mem_run u (st := stp st x) h with k | k
    · rcases mem_stp k with k | k
      · exact .inl k
      · exact .inr (by rw [k]; exact List.mem_cons_self)
    · exact .inr (List.mem_cons_of_mem _ k)
theorem mem_rd {u : Wk} {y : Int} (h : y ∈ rd u) : y ∈ u := by
  rcases mem_run u (List.mem_reverse.mp h) with k | k
  · cases k
  · exact k
theorem mem_bk {u : Wk} {y : Int} (h : y ∈ bk u) : -y ∈ u := by
  unfold bk at h
  obtain ⟨x, hx, e⟩ := List.mem_map.mp (List.mem_reverse.mp h)
  rw [← e, Int.neg_neg]
  exact hx
theorem mem_rep : ∀ {k : Nat} {u : Wk} {y : Int}, y ∈ rep k u → y ∈ u
  | 0, _, _, h => by cases h
  | k + 1, _, _, h => by
    rcases List.mem_append.mp h with h | h
    · exact mem_rep h
    · exact h
theorem rep_nil : ∀ k : Nat, rep k [] = []
  | 0 => rfl
  | k + 1 => by
    show rep k [] ++ [] = []
    rw [rep_nil k]
    rfl
theorem rep_one (u : Wk) : rep 1 u = u := by
  show [] ++ u = u
  rfl
theorem rd_nil : rd [] = [] := rfl
theorem rd_app_bk (u : Wk) : rd (u ++ bk u) = [] := rd_eq (eqv_bk u)
theorem rd_bk_app (u : Wk) : rd (bk u ++ u) = [] := rd_eq (eqv_kb u)
end Fg
/-! what the words of several laws say -/
namespace L2
open PySem PySem.Spec PyProof.Rows Evl
/-- steps of so many letters -/
def Stp (l : Int) (ns : List Int) : Prop := ∀ x ∈ ns, x ≠ 0 ∧ -l ≤ x ∧ x ≤ l
theorem bk_rev (ns : List Int) : Fg.bk ns = ns.reverse.map fun x => -x := by unfold Fg.bk; rw [List.map_reverse]
theorem bk_get {ns : List Int} {k : Nat} {x y : V} (hx : ((ns.map V.int).reverse)[k]? = some x) (hy : ((Fg.bk ns).map V.int)[k]? = some y) : ∃ z, x = .int z ∧ y = .int (-z) := by
  rw [← List.map_reverse, List.getElem?_map] at hx
  rw [List.getElem?_map, bk_rev, List.getElem?_map] at hy
  cases hn : ns.reverse[k]? with
  | none => rw [hn] at hx; cases hx
  | some z =>
    rw [hn] at hx hy
    cases hx
    cases hy
    exact ⟨z, rfl, rfl⟩
/-- the walk so many times, back for a number below 0 -/
def pw (ns : List Int) (k : Int) : List Int := Fg.rd (Fg.rep k.natAbs (if 0 ≤ k then ns else Fg.bk ns))
theorem abs_if (k : Int) : (if k < 0 then -k else k) = ((k.natAbs : Nat) : Int) := by
  split <;> omega
theorem stp_of_mem {l : Int} {ns ms : List Int} (h : Stp l ns) (k : ∀ x ∈ ms, x ∈ ns) : Stp l ms := fun x hx => h x (k x hx)
theorem given_ints (m : Nat) (f : Nat → Bool) : given m f (fun i => V.int (0 + (i : Int))) = (((List.range m).filter f).map fun i => ((i : Nat) : Int)).map V.int := by
  unfold given
  rw [List.map_map]
  congr 1
  funext i
  show V.int (0 + (i : Int)) = V.int (i : Int)
  rw [Int.zero_add]
theorem pw_rd (ns : List Int) (k : Int) : pw (Fg.rd ns) k = pw ns k := by
  unfold pw
  split
  · exact Fg.rd_rep_rd ns _
  · rw [← Fg.rd_bk]
    exact Fg.rd_rep_rd _ _
theorem pw_zero (ns : List Int) : pw ns 0 = [] := rfl
theorem pw_one (ns : List Int) : pw ns 1 = Fg.rd ns := by
  show Fg.rd (Fg.rep 1 ns) = Fg.rd ns
  rw [Fg.rep_one]
theorem pw_nil (k : Int) : pw [] k = [] := by
  unfold pw
  have e : (if 0 ≤ k then ([] : List Int) else Fg.bk []) = [] := by split <;> rfl
  rw [e, Fg.rep_nil]
  rfl
theorem stp_rd {ns : List Int} (h : Stp 4 ns) : Stp 4 (Fg.rd ns) := fun x hx => h x (Fg.mem_rd hx)
theorem stp_bk {ns : List Int} (h : Stp 4 ns) : Stp 4 (Fg.bk ns) := fun x hx => by
  have := h _ (Fg.mem_bk hx)
  omega
theorem stp_pw {ns : List Int} {k : Int} (h : Stp 4 ns) : Stp 4 (pw ns k) := by
  unfold pw
  refine stp_rd fun x hx => ?_
  have := Fg.mem_rep hx
  split at this
  · exact h x this
  · exact stp_bk h x this
theorem str_pw (ns : List Int) (k : Int) : Fg.Str (pw ns k) := Fg.str_rd _
theorem pw_len {ns : List Int} {k : Int} (h : ns.length ≤ 60) (hlo : -20 ≤ k) (hhi : k ≤ 20) : (pw ns k).length ≤ 1200 := by
  unfold pw
  refine Nat.le_trans (Fg.rd_len _) ?_
  rw [Fg.rep_len]
  have e : (if 0 ≤ k then ns else Fg.bk ns).length ≤ 60 := by
    split
    · exact h
    · rw [Fg.bk_len]
      exact h
  exact Nat.le_trans (Nat.mul_le_mul (by omega : k.natAbs ≤ 20) e) (by decide)
theorem rd60 {ns : List Int} (h : ns.length ≤ 60) : (Fg.rd ns).length ≤ 60 := Nat.le_trans (Fg.rd_len ns) h
theorem stp_nil : Stp 4 [] := fun x hx => by cases hx
theorem stp_le {l : Int} {ns : List Int} (h : Stp l ns) (e : l ≤ 4) : Stp 4 ns := fun x hx => by
  have := h x hx
  omega
end L2
/-! leads, cores, roots -/
namespace Fg
theorem tw_len {p : Nat → Bool} : ∀ (m s : Nat), s ≤ m → (∀ j, j < s → p j = true) → (s < m → p s = false) → ((List.range m).takeWhile p).length = s := by
  intro m s hs h1 h2
  have e : List.range m = List.range s ++ (List.range (m - s)).map (s + ·) := by
    have k : m = s + (m - s) := by omega
    conv => lhs; rw [k]
    rw [List.range_add]
  rw [e, List.takeWhile_append_of_pos (fun a ha => h1 a (List.mem_range.mp ha)), List.length_append, List.length_range]
  by_cases h : s < m
  · have k : m - s = (m - s - 1) + 1 := by omega
    rw [k, List.range_succ_eq_map, List.map_cons, List.takeWhile_cons_of_neg (by rw [Nat.add_zero, h2 h]; exact Bool.false_ne_true)]
    rfl
  · have k : m - s = 0 := by omega
    rw [k]
    rfl
def mt (u : Wk) (j : Nat) : Bool := decide (u.getD j 0 = -(u.getD (u.length - 1 - j) 0))
/-- how many steps the lead has -/
def ld (u : Wk) : Nat := ((List.range (u.length / 2)).takeWhile (mt u)).length
theorem ld_eq {u : Wk} {s : Nat} (h : s ≤ u.length / 2) (h1 : ∀ j, j < s → mt u j = true) (h2 : s < u.length / 2 → mt u s = false) : ld u = s := tw_len _ s h h1 h2
theorem ld_le (u : Wk) : ld u ≤ u.length / 2 := by
  unfold ld
  have h := (List.takeWhile_sublist (mt u) (l := List.range (u.length / 2))).length_le
  rw [List.length_range] at h
  exact h
theorem ld_mt {u : Wk} {j : Nat} (h : j < ld u) : mt u j = true := by
  have hl := ld_le u
  have hs := List.takeWhile_prefix (mt u) (l := List.range (u.length / 2))
  have hm : ((List.range (u.length / 2)).takeWhile (mt u))[j]'h ∈ (List.range (u.length / 2)).takeWhile (mt u) := List.getElem_mem h
  have e : ((List.range (u.length / 2)).takeWhile (mt u))[j]'h = j := by
    rw [hs.getElem h, List.getElem_range]
  have hall := List.all_takeWhile (p := mt u) (l := List.range (u.length / 2))
  rw [List.all_eq_true] at hall
  have k := hall _ hm
  rw [e] at k
  exact k
theorem mt_of {u : Wk} {j : Nat} {x y : Int} (hx : u[j]? = some x) (hy : u[u.length - 1 - j]? = some y) : mt u j = decide (x = -y) := by
  unfold mt
  rw [List.getD_eq_getElem?_getD, List.getD_eq_getElem?_getD, hx, hy]
  rfl
/-- beyond the lead nothing fits -/
theorem ld_end {u : Wk} (h : ld u < u.length / 2) : mt u (ld u) = false := by
  cases e : mt u (ld u) with
  | false => rfl
  | true =>
    exfalso
    -- then the lead would be longer
    have hmono : ∀ j, j < ld u + 1 → mt u j = true := fun j hj => by
      rcases Nat.lt_or_ge j (ld u) with k | k
      · exact ld_mt k
      · have : j = ld u := by omega
        rw [this]
        exact e
    -- the first s that does not fit, or the half
    have : ∃ s, ld u + 1 ≤ s ∧ s ≤ u.length / 2 ∧ (∀ j, j < s → mt u j = true) ∧ (s < u.length / 2 → mt u s = false) := by
      have go : ∀ (d s : Nat), u.length / 2 - s = d → ld u + 1 ≤ s → s ≤ u.length / 2 → (∀ j, j < s → mt u j = true) → ∃ s, ld u + 1 ≤ s ∧ s ≤ u.length / 2 ∧ (∀ j, j < s → mt u j = true) ∧ (s < u.length / 2 → mt u s = false) := by
        intro d
        induction d with
        | zero => exact fun s hd h1 h2 h3 => ⟨s, h1, h2, h3, fun z => absurd z (by omega)⟩
        | succ d ih =>
          intro s hd h1 h2 h3
          cases k : mt u s with
          | false => exact ⟨s, h1, h2, h3, fun _ => k⟩
          | true =>
            refine ih (s + 1) (by omega) (by omega) (by omega) fun j hj => ?_
            rcases Nat.lt_or_ge j s with z | z
            · exact h3 j z
            · have : j = s := by omega
              rw [this]
              exact k
      exact go _ (ld u + 1) rfl (Nat.le_refl _) h hmono
    obtain ⟨s, s1, s2, s3, s4⟩ := this
    have := ld_eq s2 s3 s4
    omega
theorem ld_str {u : Wk} (h : Str u) (hn : u ≠ []) : ld u ≤ (u.length - 1) / 2 := by
  have hl := ld_le u
  have hp : 0 < u.length := List.length_pos_iff.mpr hn
  refine Nat.le_of_not_lt fun z => ?_
  -- then it is the half of an even number
  have e1 : ld u = u.length / 2 := by omega
  have e2 : u.length = 2 * (u.length / 2) := by omega
  have hj : u.length / 2 - 1 < ld u := by omega
  have k := ld_mt hj
  have l1 : u.length / 2 - 1 < u.length := by omega
  have l2 : u.length - 1 - (u.length / 2 - 1) < u.length := by omega
  rw [mt_of (List.getElem?_eq_getElem l1) (List.getElem?_eq_getElem l2)] at k
  have k2 := of_decide_eq_true k
  refine h (u.length / 2 - 1) _ (List.getElem?_eq_getElem l1) ?_
  have e3 : u.length / 2 - 1 + 1 = u.length - 1 - (u.length / 2 - 1) := by omega
  rw [e3, List.getElem?_eq_getElem l2, k2, Int.neg_neg]
def lead (u : Wk) : Wk := u.take (ld u)
def mid (u : Wk) : Wk := (u.drop (ld u)).take (u.length - ld u - ld u)
/-- so many steps ahead are those at the end turned back -/
theorem take_bk {u : Wk} {s : Nat} (hs : s ≤ u.length) : u.take s = bk (u.drop (u.length - s)) ↔ ∀ j, j < s → mt u j = true := by
  have len1 : (u.take s).length = s := by rw [List.length_take]; omega
  have len2 : (bk (u.drop (u.length - s))).length = s := by rw [bk_len, List.length_drop]; omega
  have at2 : ∀ j, j < s → (bk (u.drop (u.length - s)))[j]? = (u[u.length - 1 - j]?).map fun x => -x := fun j hj => by
    unfold bk
    rw [List.getElem?_reverse (by rw [List.length_map, List.length_drop]; omega), List.getElem?_map, List.length_map, List.length_drop, List.getElem?_drop]
    congr 2
    omega
  constructor
  · intro e j hj
    have l1 : j < u.length := by omega
    have l2 : u.length - 1 - j < u.length := by omega
    rw [mt_of (List.getElem?_eq_getElem l1) (List.getElem?_eq_getElem l2)]
    have k : (u.take s)[j]? = (bk (u.drop (u.length - s)))[j]? := by rw [e]
    rw [at2 j hj, List.getElem?_take, if_pos hj, List.getElem?_eq_getElem l1, List.getElem?_eq_getElem l2] at k
    exact decide_eq_true (Option.some.inj k)
  · intro h
    apply List.ext_getElem?
    intro j
    by_cases hj : j < s
    · have l1 : j < u.length := by omega
      have l2 : u.length - 1 - j < u.length := by omega
      have k := h j hj
      rw [mt_of (List.getElem?_eq_getElem l1) (List.getElem?_eq_getElem l2)] at k
      rw [at2 j hj, List.getElem?_take, if_pos hj, List.getElem?_eq_getElem l1, List.getElem?_eq_getElem l2, of_decide_eq_true k]
      rfl
    · rw [List.getElem?_eq_none (by omega), List.getElem?_eq_none (by omega)]
theorem take_bk_ld {u : Wk} {s : Nat} (hs : s ≤ u.length / 2) : (u.take s = bk (u.drop (u.length - s))) ↔ s ≤ ld u := by
  rw [take_bk (by omega)]
  constructor
  · intro h
    refine Nat.le_of_not_lt fun z => ?_
    have := ld_end (u := u) (by omega)
    rw [h (ld u) z] at this
    cases this
  · exact fun h j hj => ld_mt (by omega)
/-! ### once round -/
def Per (u : Wk) (l : Nat) : Prop := rep (u.length / l) (u.take l) = u
instance (u : Wk) (l : Nat) : Decidable (Per u l) := inferInstanceAs (Decidable (_ = _))
structure Om (u : Wk) (l : Nat) : Prop where
  pos : 1 ≤ l
  le : l ≤ u.length
  per : Per u l
  least : ∀ k, 1 ≤ k → k < l → ¬ Per u k
theorem per_full (u : Wk) (h : u ≠ []) : Per u u.length := by
  unfold Per
  rw [Nat.div_self (List.length_pos_iff.mpr h), List.take_length, rep_one]
theorem per_len {u : Wk} {l : Nat} (h : Per u l) (hl : l ≤ u.length) : u.length / l * l = u.length := by
  have e := congrArg List.length h
  rw [rep_len, List.length_take, Nat.min_eq_left hl] at e
  exact e
/-- so many times the part -/
def Tm (u : Wk) (t : Nat) : Prop := rep t (u.take (u.length / t)) = u
theorem tm_one (u : Wk) : Tm u 1 := by
  unfold Tm
  rw [Nat.div_one, List.take_length, rep_one]
theorem om_tm {u : Wk} {l : Nat} (h : Om u l) : Tm u (u.length / l) ∧ u.length / (u.length / l) = l ∧ 1 ≤ u.length / l ∧ u.length / l ≤ u.length := by
  have e := per_len h.per h.le
  have hp := h.pos
  have h1 : 1 ≤ u.length / l := Nat.div_pos h.le hp
  have e2 : u.length / (u.length / l) = l := by
    apply Nat.div_eq_of_eq_mul_right h1
    exact e.symm
  refine ⟨?_, e2, h1, Nat.div_le_self _ _⟩
  unfold Tm
  rw [e2]
  exact h.per
theorem tm_le {u : Wk} {l t : Nat} (h : Om u l) (ht : Tm u t) (h1 : 1 ≤ t) (h2 : t ≤ u.length) : t ≤ u.length / l := by
  have e : t * (u.length / t) = u.length := by
    have k := congrArg List.length ht
    rw [rep_len, List.length_take, Nat.min_eq_left (Nat.div_le_self _ _)] at k
    exact k
  have hl : 1 ≤ u.length / t := Nat.div_pos h2 h1
  have ht2 : u.length / (u.length / t) = t := by
    apply Nat.div_eq_of_eq_mul_right hl
    rw [Nat.mul_comm]
    exact e.symm
  have hp : Per u (u.length / t) := by
    unfold Per
    rw [ht2]
    exact ht
  have hge : l ≤ u.length / t := Nat.le_of_not_lt fun z => h.least _ hl z hp
  have hp2 := h.pos
  rw [← ht2]
  exact Nat.div_le_div_left hge hp2
end Fg
namespace L2
open PySem PySem.Spec PyProof.Rows Evl
section
variable {K : PySem.W.Frag} {σ : L2.St} {H H' : Hp} {Q : VK} {D : Ends} {te : TE} {a : Addr} {xs : List V}
def rAug (i : Nat) (x : V) (ti : TIp) (D : Ends) (σ : L2.St) (y : V) (H1 : Hp) : Prop := ti x y H1 fun z H2 => D.nx (σ.set i (some z)) H2
theorem st_aug {i : Nat} {x : V} {ti : TIp} (hx : σ[i]? = some (some x)) (h : te σ H fun y H1 => rAug i x ti D σ y H1) : tAug i te ti D σ H := ⟨x, hx, h⟩
theorem r_augI {i : Nat} {x y : Int} {f : Int → Int → Int} (h : D.nx (σ.set i (some (.int (f x y)))) H) : rAug i (.int x) (ipI f) D σ (.int y) H := ⟨x, y, rfl, rfl, h⟩
/-- a, b = t -/
theorem r_tup2 {i j : Nat} {x y : V} {R : L2.St → Hp → Prop} (h : SqT K H a [x, y]) (q : R ((σ.set i (some x)).set j (some y)) H) : gTup K 2 (gCons (gName i) (gCons (gName j) gNil)) (.ref a) σ H R := ⟨a, _, rfl, h, rfl, x, [y], rfl, y, [], rfl, rfl, q⟩
theorem at_negI {ns : List Int} {k : Nat} {x : Int} (hk : k < ns.length) (hx : ns[ns.length - 1 - k]? = some x) : atI (ns.map V.int) (-1 - (k : Int)) = some (.int x) := by
  have e : ixN (ns.map V.int).length (-1 - (k : Int)) = some (ns.length - 1 - k) := by
    unfold ixN
    rw [List.length_map, if_neg (by omega), if_pos (by omega)]
    congr 1
    omega
  unfold atI
  rw [e]
  show (ns.map V.int)[ns.length - 1 - k]? = _
  rw [List.getElem?_map, hx]
  rfl
theorem cut_mid {ns : List Int} {lo hi : Int} (h0 : 0 ≤ lo) (h1 : 0 ≤ hi) (h2 : hi ≤ ns.length) : cutV (ns.map V.int) (some lo) (some hi) = ((ns.drop lo.toNat).take (hi.toNat - lo.toNat)).map V.int := by
  rw [cut_map, sIx_int h0, sIx_int h1]
  congr 1
  rw [Nat.min_eq_left (by omega : hi.toNat ≤ ns.length)]
  by_cases h : lo.toNat ≤ ns.length
  · rw [Nat.min_eq_left h]
  · rw [Nat.min_eq_right (by omega), List.drop_of_length_le (Nat.le_refl _), List.drop_of_length_le (by omega)]
    simp
theorem r_eqB {x y : Bool} (q : Q (.bl (decide (x = y))) H) : rEqU K (.bl x) (.bl y) H Q := .inl ⟨rfl, by
  have e : decide ((V.bl x) = V.bl y) = decide (x = y) := by simp
  rw [e]
  exact q⟩
/-- a tuple of two walks -/
structure P2 (K : PySem.W.Frag) (H : Hp) (q : Addr) (u v : List Int) : Prop where
  ex : ∃ a b, SqT K H q [.ref a, .ref b] ∧ IT K H a u ∧ IT K H b v
theorem P2.mono {q : Addr} {u v : List Int} (h : P2 K H q u v) (e : Ex H H') : P2 K H' q u v := by
  obtain ⟨a, b, h1, h2, h3⟩ := h.ex
  exact ⟨a, b, ex_t e h1, ex_t e h2, ex_t e h3⟩
/-- a tuple of a walk and a number -/
structure P1N (K : PySem.W.Frag) (H : Hp) (q : Addr) (u : List Int) (t : Int) : Prop where
  ex : ∃ a, SqT K H q [.ref a, .int t] ∧ IT K H a u
theorem P1N.mono {q : Addr} {u : List Int} {t : Int} (h : P1N K H q u t) (e : Ex H H') : P1N K H' q u t := by
  obtain ⟨a, h1, h2⟩ := h.ex
  exact ⟨a, ex_t e h1, ex_t e h2⟩
/-- the tuples stay -/
def TX (H H' : Hp) : Prop := ∀ a xs, H a = some (.tup xs) ∨ (∃ o, H a = some (.frz o (.tup xs))) → H' a = H a
theorem TX.refl (H : Hp) : TX H H := fun _ _ _ => rfl
theorem TX.trans {H H1 H2 : Hp} (a : TX H H1) (b : TX H1 H2) : TX H H2 := fun x xs h => by
  have e := a x xs h
  rw [← e] at h
  rw [b x xs h, e]
theorem TX.of (e : Ex H H') : TX H H' := fun a xs h => by
  rcases h with h | ⟨o, h⟩
  · rw [h, e _ _ h]
  · rw [h, e _ _ h]
theorem TX.w {w : Addr} {n : Nat} (e : ExW w H H') (k : Well H w n) : TX H H' := fun a xs h => by
  obtain ⟨_, _, _, h1, _⟩ := k.ex
  rcases h with h | ⟨o, h⟩
  · rw [h, e _ _ h (ne_of h h1 (by intro z; cases z))]
  · rw [h, e _ _ h (ne_of h h1 (by intro z; cases z))]
theorem tx_t (e : TX H H') (h : SqT K H a xs) : SqT K H' a xs := by
  rcases h with (h | ⟨o, h⟩) | h
  · exact .inl (.inl (by rw [e _ _ (.inl h)]; exact h))
  · exact .inl (.inr ⟨o, by rw [e _ _ (.inr ⟨o, h⟩)]; exact h⟩)
  · exact .inr h
theorem DrS.tx {w : Addr} {n k : Nat} (h : DrS w H n H') (h0 : Well H w k) : TX H H' := .w h.ex h0
end
theorem str_one (x : Int) : Fg.Str [x] := Fg.str_snoc (u := []) Fg.str_nil (by simp)
theorem om_unique {u : List Int} {l k : Nat} (h1 : Fg.Om u l) (h2 : Fg.Om u k) : l = k := by
  rcases Nat.lt_trichotomy l k with h | h | h
  · exact absurd h1.per (h2.least l h1.pos h)
  · exact h
  · exact absurd h2.per (h1.least k h2.pos h)
/-- what the root of a straight walk is -/
def RootIs (ns u : List Int) (t : Int) : Prop := (Fg.mid ns = [] ∧ u = [] ∧ t = 0) ∨ (Fg.mid ns ≠ [] ∧ ∃ l, Fg.Om (Fg.mid ns) l ∧ u = Fg.lead ns ++ (Fg.mid ns).take l ++ Fg.bk (Fg.lead ns) ∧ t = (((Fg.mid ns).length / l : Nat) : Int))
theorem rootIs_unique {ns u v : List Int} {t s : Int} (h1 : RootIs ns u t) (h2 : RootIs ns v s) : u = v ∧ t = s := by
  rcases h1 with ⟨e1, rfl, rfl⟩ | ⟨n1, l, o1, rfl, rfl⟩
  · rcases h2 with ⟨_, rfl, rfl⟩ | ⟨n2, _⟩
    · exact ⟨rfl, rfl⟩
    · exact absurd e1 n2
  · rcases h2 with ⟨e2, _⟩ | ⟨n2, k, o2, rfl, rfl⟩
    · exact absurd e2 n1
    · have := om_unique o1 o2
      subst this
      exact ⟨rfl, rfl⟩
theorem lead_len (ns : List Int) : (Fg.lead ns).length ≤ ns.length := by
  unfold Fg.lead
  rw [List.length_take]
  exact Nat.min_le_right _ _
theorem mid_len (ns : List Int) : (Fg.mid ns).length ≤ ns.length := by
  unfold Fg.mid
  rw [List.length_take, List.length_drop]
  omega
theorem root_len {ns u : List Int} {t : Int} (h : RootIs ns u t) : u.length ≤ 3 * ns.length := by
  rcases h with ⟨_, rfl, _⟩ | ⟨_, l, _, rfl, _⟩
  · exact Nat.zero_le _
  · have h1 := lead_len ns
    have h2 := mid_len ns
    rw [List.length_append, List.length_append, Fg.bk_len, List.length_take]
    omega
end L2
/-! promises of defs that are entered where no text of an object is being written: repr of data can be told there -/
namespace L2
open PySem PySem.Spec PyProof.Rows
/-- no object's text is under way -/
def Quiet (A : Around) : Prop := A.guards = some []
structure FnG (P : Program) (w : World) (K : PySem.W.Frag) (mg : Str → Option Value) (base : Heap) (CX : CXT) (k : Nat) (f : Addr) (fd : FuncData) (ps : List Str) (sp : Sp) : Prop where
  len : ∀ xs H Q E, sp xs H Q E → xs.length = ps.length
  run : ∀ (A : Around), Quiet A → Room k A → ∀ (outer : List Env) (s : Shared) (H : Hp), Env0 P w K mg base A outer s H →
    ∀ (args : Args) (us : List Value) (xs : List V), BindsTo s fd args (ps.zip us) → Vals xs us → ∀ (Q : VK) (E : XK), sp xs H Q E →
    codeAny (model P w) A (.call (.ref f) args) (CR CX outer P w H s Q E) s
section
variable {P : Program} {w : World} {K : PySem.W.Frag} {mg : Str → Option Value} {base : Heap} {CX : CXT} {k : Nat} {f : Addr} {fd : FuncData} {ps : List Str} {sp : Sp}
theorem FnOk.quiet (F : FnOk P w K mg base CX k f fd ps sp) : FnG P w K mg base CX k f fd ps sp :=
  ⟨F.len, fun A _ hr outer s H e0 args us xs hb hv Q E h => F.run A outer s H args us xs Q E hr e0 hb hv h⟩
theorem FnG.room {j : Nat} (F : FnG P w K mg base CX j f fd ps sp) (h : j ≤ k) : FnG P w K mg base CX k f fd ps sp :=
  ⟨F.len, fun A g hr => F.run A g (hr.mono h)⟩
/-- a def of the text, by its body; nothing is being written where it is entered, so nothing is within -/
theorem fnG_of {name qual : Str} {params : Arguments} {body : List Stmt} {scope : Scope} {dV kV doc pm cdv ct oc : Value} {an od : Option Addr} {osl : Array (Option Value)} {N : List Str}
    (lk : K.lookup f = some ⟨oc, od, .func (PySem.W.fnOf name qual params body scope dV kV doc pm an cdv ct), osl⟩)
    (code : PySem.W.codeIn K cdv qual = true) (S : FnScope N ps scope) (len : ∀ xs H Q E, sp xs H Q E → xs.length = ps.length)
    (inner : ∀ (A : Around), Quiet (A.deeper (envOfC qual scope 0 f cdv)) → ∀ (outer : List Env) (s : Shared) (H : Hp) (xs : List V) (Q : VK) (E : XK),
      Room k (A.deeper (envOfC qual scope s.heap.objs.size f cdv)) → sp xs H Q E →
      ∃ t, PSs (cxOf CX P w K mg base N qual scope f cdv A outer s H E) body t ∧ t { nx := fun _ H' => Q .non H', rt := Q } (start N xs) H) :
    FnG P w K mg base CX (k + 1) f (PySem.W.fnOf name qual params body scope dV kV doc pm an cdv ct) ps sp := by
  refine ⟨len, fun A g hr outer s H e0 args us xs hb hv Q E hsp => ?_⟩
  have inK : K.In s.heap := e0.mod.kin.keeps fun c oc e => (e0.bs c oc e).1
  have nolim : s.heap.NoLimit := e0.mod.nolimit.keeps fun c oc e => (e0.bs c oc e).1
  refine codeAny_call_function hr.depth (inK _ _ lk) rfl S.co S.gen rfl (PySem.W.codeRec_of inK code) (hb _ _ _ _ ?_)
  refine wpAny_newFunctionEnv_cells S.kind ?kinds fun env he s1 x => ?_
  case kinds =>
    intro y hy
    cases S.par y.1 (List.of_mem_zip (show (y.1, y.2) ∈ ps.zip us from hy)).1 with
    | inl q => exact Or.inl q
    | inr q => exact Or.inr ⟨q, PySem.W.cellsFrom_some _ _ _ (Or.inl q)⟩
  cases he
  refine ⟨nolim.keeps x.toInCall.keep, codeAny_func ?_⟩
  have hd := inner A g outer s H xs Q E (hr.deeper _) hsp
  have I : Inv (cxOf CX P w K mg base N qual scope f cdv A outer s H E) [] (start N xs) H s1 :=
    inv_start S hr.hd e0 (len _ _ _ _ hsp) hv x
  have over : ∀ σ' H' v u s', Inv (cxOf CX P w K mg base N qual scope f cdv A outer s H E) [] σ' H' s' → RelV v u → Q v H' → CE outer P w H s Q u s' :=
    fun σ' H' v u s' J rv q => ⟨v, H', J.os, J.bare, J.base, J.hok, rv, q⟩
  obtain ⟨t, ht, hq⟩ := hd
  refine wpAny_mono (ht.run [] s1 (start N xs) H _ I hq) (fun fl s' hs => ?_) fun _ _ hs => hs
  match fl, hs with
  | .ret u, ⟨v, σ', H', J, rv, q⟩ => exact over σ' H' v u s' J rv q
  | .next, ⟨σ', H', J, q⟩ => exact over σ' H' .non .none s' J rfl q
  | .brk, ⟨_, _, _, q⟩ => exact False.elim q
  | .cont, ⟨_, _, _, q⟩ => exact False.elim q
end
section
variable {P : Program} {w : World} {K : PySem.W.Frag} {mg : Str → Option Value} {base : Heap}
theorem Fun.okG {x qual : Str} {st : Stmt} {f : Addr} {fd : FuncData} {N ps : List Str} {k : Nat} {sp : Sp} (F : Fun K x qual st f fd) (S : FnScope N ps (defScope st))
    (len : ∀ xs H Q E, sp xs H Q E → xs.length = ps.length)
    (inner : ∀ (cdv : Value) (A : Around) (outer : List Env) (s : Shared) (H : Hp) (xs : List V) (Q : VK) (E : XK),
      Quiet A → Room k (A.deeper (envOfC qual (defScope st) s.heap.objs.size f cdv)) → sp xs H Q E →
      ∃ t, PSs (cxOf CX0 P w K mg base N qual (defScope st) f cdv A outer s H E).nox (defBody st) t ∧ t { nx := fun _ H' => Q .non H', rt := Q } (start N xs) H) :
    FnG P w K mg base CX0 (k + 1) f fd ps sp := by
  obtain ⟨oc, od, kV, doc, pm, an, cdv, ct, osl, e, lk, code⟩ := F.ex
  subst e
  refine fnG_of lk code S len fun A g outer s H xs Q E hr hsp => ?_
  obtain ⟨t, body, q⟩ := inner cdv A outer s H xs Q E g hr hsp
  exact ⟨t, body.nox, q⟩
end
section
variable {X : Cx} {CX : CXT} {k : Nat} {f : Addr} {fd : FuncData} {ps : List Str} {sp : Sp} {dvs : List V} {ds : List Value} {E : XK} {x : Str} {p pos : Pos} {e : Expr} {es : List Expr} {t : TA}
/-- f(..) of such a def, from where nothing is being written -/
theorem pe_callG (F : FnG X.prog X.w X.K X.mg X.base CX k f fd ps sp) (g : Quiet X.A) (hr : Room k X.A) (hg : Gl X x) (hm : X.mg x = some (.ref f))
    (hk : PySem.W.keepIn X.K (.ref f) = true) (hb : Binds X.K fd ps ds) (hd : Vals dvs ds) (hx : Passes CX X E) (ha : PA X (e :: es) t)
    (hdb : (x == ("__debug__" : Str)) = false := by decide) (he : starEach (e :: es) X.env = (false, eval e X.env) :: starEach es X.env := by rfl)
    (hpl : (backTo pos (starEach es X.env)).any (·.1) = false := by rfl) :
    PE X (.Call (.Name x p) (e :: es) [] pos) (tCall sp dvs E t) := by
  constructor
  intro pins s σ H Q I h
  refine wpAny_Call_Name_kw (ld_glob I hg hm ?_ hdb)
  refine PySem.W.callWith_K (h₀ := X.base) I.ok.mod.kin hk (thn (ha.run pos pins s σ H _ I h) fun us s1 got => ?_) he hpl
  obtain ⟨xs, H1, J, r, q⟩ := got
  have r2 : Vals (xs ++ dvs) (us ++ ds) := r.append hd
  have hl : (us ++ ds).length = ps.length := r2.length.symm.trans (F.len _ _ _ _ q)
  refine ⟨J.kIn, wpAny_call (codeAny_mono (F.run X.A g hr X.stack s1 H1 J.env0 ⟨us, []⟩ (us ++ ds) (xs ++ dvs) (hb s1 us J.kIn hl) r2 Q E q) fun res s' hq => ?_)⟩
  match res, hq with
  | .error v, hq => exact hx pins σ H1 s1 v s' J hq
  | .ok (.ret u), hq => exact J.after hq
  | .ok .next, hq => exact False.elim hq
  | .ok .brk, hq => exact False.elim hq
  | .ok .cont, hq => exact False.elim hq
end
/-! ### the end -/
section
variable {P : Program} {w : World} {K : PySem.W.Frag} {mg mb : Str → Option Value} {CX : CXT} {k : Nat} {fa a : Addr} {fd : FuncData} {x : Str} {sp : Sp} {s₁ : Shared} {us : List Value} {ns : List Int}
/-- from a heap in which nothing but the script is tracked -/
theorem quiet_call (KX : K.In s₁.heap) (hns : s₁.heap.Ns mainGlobals mg) (hb : s₁.heap.Ns builtinsNs mb) (hbb : ∀ y : Str, y ≠ "__name__" → mb y = bootBuiltins y)
    (hlim : s₁.heap.NoLimit) (hg : s₁.gens = #[]) (hr : Room k callerA) (F : ∀ base : Heap, K.In base → base.Ns mainGlobals mg → FnG P w K mg base CX k fa fd [x] sp)
    (hbind : ∀ (s : Shared) (u : Value), BindsTo s fd ⟨[u], []⟩ [(x, u)]) (hCX : ∀ H e s', CX [] H s₁ (fun _ _ _ => False) e s' → False)
    (H : Hp) (hO : Only H) (hS : sp [.ref a] H (fun v _ => v = .bl true) fun _ _ _ => False) (hok : HOk P w H s₁.heap)
    (noA : ∀ c (o : Obj) es ep, s₁.heap.get? c = some o → o.data = .dict es ep → H c = none) (noK : ∀ c o, K.lookup c = some o → H c = none) :
    codeAny (model P w) callerA (.call (.ref fa) ⟨[.ref a], []⟩) (fun r s' => r = .ok (.ret (.bool true)) ∧ OldK s₁.heap s'.heap ∧ s'.os = s₁.os ∧ AllBare s'.gens) s₁ := by
  have shown : ∀ {c : Addr} {m : Str → Option Value}, s₁.heap.Ns c m → (hidT s₁.heap H).Ns c m := by
    rintro c m ⟨o, es, ep, e, d, r⟩
    exact ⟨o, es, ep, hidT_get e (noA c o es ep e d), d, r⟩
  have inK : K.In (hidT s₁.heap H) := fun c o e => hidT_get (KX c o e) (noK c o e)
  have lim : (hidT s₁.heap H).NoLimit := by
    obtain ⟨mc, q1, q2⟩ := hlim
    exact ⟨mc, shown q1, q2⟩
  have e0 : Env0 P w K mg (hidT s₁.heap H) callerA [] s₁ H :=
    { frames := rfl, mod := ⟨inK, shown hns, ⟨mb, shown hb, hbb⟩, lim⟩, bs := fun c o e => of_hidT e, bsz := Nat.le_of_eq (hidT_size _ _), funs := trivial,
      frf := fun c hc => (nomatch (show c ∈ ([] : List Addr) from hc)), hok := hok, bare := .of_eq hg }
  have go := (F _ inK (shown hns)).run callerA rfl hr [] s₁ H e0 ⟨[.ref a], []⟩ [.ref a] [.ref a] (hbind s₁ (.ref a)) (.cons rfl .nil) _ _ hS
  refine codeAny_mono go fun res s' h => ?_
  match res, h with
  | .error e, h => exact (hCX H e s' h).elim
  | .ok .next, h => exact False.elim h
  | .ok .brk, h => exact False.elim h
  | .ok .cont, h => exact False.elim h
  | .ok (.ret u), ⟨v, H', os, bare, un, hok', r', q⟩ =>
    cases (show v = .bl true from q)
    cases (show u = Value.bool true from r')
    refine ⟨rfl, OldK.of_keep fun c o e => ?_, os, bare⟩
    match q : H c with
    | none => exact un.keep c o e q (fun z => nomatch (show c ∈ ([] : List Addr) from z)) (by simp)
    | some u =>
      rcases hO c with z | ⟨ob, ys, z⟩
      · exact nomatch q.symm.trans z
      · obtain ⟨e2, _⟩ := hok' c _ (un.frzs c ob _ z)
        obtain ⟨e1, _⟩ := hok c _ z
        cases e.symm.trans e1
        exact e2
theorem law_quiet (KX : K.In s₁.heap) (hns : s₁.heap.Ns mainGlobals mg) (hb : s₁.heap.Ns builtinsNs mb) (hbb : ∀ y : Str, y ≠ "__name__" → mb y = bootBuiltins y)
    (hlim : s₁.heap.NoLimit) (hg : s₁.gens = #[]) (ha : s₁.heap.get? a = some { cls := .type "list", data := .seq us.toArray }) (hi : IntsAre us ns) (hl : ns.length ≤ sizeLine)
    (hr : Room k callerA) (F : ∀ base : Heap, K.In base → base.Ns mainGlobals mg → FnG P w K mg base CX k fa fd [x] sp)
    (hbind : ∀ (s : Shared) (u : Value), BindsTo s fd ⟨[u], []⟩ [(x, u)]) (hCX : ∀ H e s', CX [] H s₁ (fun _ _ _ => False) e s' → False)
    (hsp : ∀ H : Hp, Only H → SqL K H a (ns.map V.int) → sp [.ref a] H (fun v _ => v = .bl true) fun _ _ _ => False) :
    codeAny (model P w) callerA (.call (.ref fa) ⟨[.ref a], []⟩) (fun r s' => r = .ok (.ret (.bool true)) ∧ OldK s₁.heap s'.heap ∧ s'.os = s₁.os ∧ AllBare s'.gens) s₁ := by
  have rv := vals_ints hi
  have lz := hi.length
  have lz2 : (ns.map V.int).length ≤ sizeLine := by rw [List.length_map]; exact hl
  match hk : K.lookup a with
  | some o =>
    cases ha.symm.trans (KX a o hk)
    refine quiet_call KX hns hb hbb hlim hg hr F hbind hCX (fun _ => none) (fun _ => .inl rfl) (hsp _ (fun _ => .inl rfl) ?_) (fun c u z => nomatch z) (fun _ _ _ _ _ _ => rfl) fun _ _ _ => rfl
    exact .inr ⟨_, us.toArray, _, hk, rfl, rfl, rfl, by rw [List.size_toArray, lz]; exact hl, by simpa using rv⟩
  | none =>
    let o₁ : Obj := { cls := .type "list", data := .seq us.toArray }
    let H₁ : Hp := fun c => if c = a then some (.frz o₁ (.lst (ns.map V.int))) else none
    have at_a : H₁ a = some (.frz o₁ (.lst (ns.map V.int))) := if_pos rfl
    have off : ∀ c, c ≠ a → H₁ c = none := fun c h => if_neg h
    have only : Only H₁ := fun c => by
      by_cases h : c = a
      · cases h; exact .inr ⟨_, _, at_a⟩
      · exact .inl (off c h)
    refine quiet_call KX hns hb hbb hlim hg hr F hbind hCX H₁ only (hsp _ only (.inl (.inr ⟨o₁, at_a⟩))) (fun c u z => ?_) (fun c o es ep e d => ?_) fun c o e => ?_
    · by_cases h : c = a
      · cases h
        cases at_a.symm.trans z
        exact ⟨ha, lz2, us, _, rv, ha⟩
      · exact nomatch (off c h).symm.trans z
    · refine off c fun h => ?_
      cases h
      cases ha.symm.trans e
      exact nomatch (show Data.seq us.toArray _ = Data.dict es ep from d)
    · refine off c fun h => ?_
      cases h
      exact nomatch hk.symm.trans e
end
theorem walk_quiet {l : PySem.W.OpenLaw} {n k : Nat} {q : Program} {loose : List Str} {XP : (Str → Option Value) → Heap → Prop} {YP : World → Heap → Prop} {d : DefRec} {K : Params → PySem.W.Frag} {CX : World → CXT} {sp : World → Sp} {x : Str}
    (hn : l.most = some n) (hn2 : n ≤ sizeLine) (hdf : d.params.defaults = []) (hr : Room k callerA) (hY : ∀ (w : World) (h : Heap), YP w h → (K w.params).In h)
    (F : ∀ (w : World) (mg : Str → Option Value) (fa : Addr) (h : Heap), (K w.params).In h → h.Ns mainGlobals mg → mg d.name = some (.ref fa) → ∃ fd : FuncData,
      (∀ (s : Shared) (u : Value), BindsTo s fd ⟨[u], []⟩ [(x, u)]) ∧ ∀ base : Heap, (K w.params).In base → base.Ns mainGlobals mg → FnG l.prog w (K w.params) mg base (CX w) k fa fd [x] (sp w))
    (hsp : ∀ (w : World) (H : Hp) (a : Addr) (ns : List Int), ns.length ≤ n → Only H → SqL (K w.params) H a (ns.map V.int) → sp w [.ref a] H (fun v _ => v = .bl true) fun _ _ _ => False)
    (hCX : ∀ (w : World) (H : Hp) (s : Shared) (e : Value) (s' : Shared), CX w [] H s (fun _ _ _ => False) e s' → False) :
    PySem.W.WalkO q loose XP YP l.row.toRowW d [] (fun f vs => PySem.call f vs) := by
  refine Att.attach_call hn hdf fun w s₀ s₁ mg mb fa o pm cd doc a vs ns G Y ho hd hcd hmg hobj hints hlen hg => ?_
  have inK := hY w _ Y
  obtain ⟨fd, hb, hF⟩ := F w mg fa _ inK G.T.g hmg
  exact law_quiet inK G.T.g G.T.b G.T.builtins G.T.nolimit hg hobj hints (Nat.le_trans hlen hn2) hr hF hb (fun H e s' => hCX w H s₁ e s') fun H hO hS => hsp w H a ns hlen hO hS
/-! ### an expression cut off from what follows: both ways of a conditional expression come to one word -/
def tCutE (t : TE) : TE := fun σ H Q => ∃ M : VK, t σ H M ∧ ∀ x H1, M x H1 → Q x H1
theorem pe_cutE {X : Cx} {e : Expr} {t : TE} (h : PE X e t) : PE X e (tCutE t) := by
  constructor
  rintro pins s σ H Q I ⟨M, h1, h2⟩
  refine thn (h.run pins s σ H M I h1) fun v s1 got => ?_
  obtain ⟨x, H1, J, r, q⟩ := got
  exact ⟨x, H1, J, r, h2 x H1 q⟩
theorem st_cutE {t : TE} {σ : L2.St} {H : Hp} {Q : VK} (M : VK) (h : t σ H M) (k : ∀ x H1, M x H1 → Q x H1) : tCutE t σ H Q := ⟨M, h, k⟩
end L2
/-! what is walked in pairs and in threes: lists and tuples, mixed -/
namespace L2
open PySem PySem.Spec PyProof.Rows Evl
/-- a kind of sequence: how it stands in the abstract heap and in the heap, and its iterator -/
structure SK where
  Sq : PySem.W.Frag → Hp → Addr → List V → Prop
  Is : Heap → Addr → Array Value → Prop
  It : Heap → Addr → Addr → Nat → Prop
  o : Addr → Obj
  seen : ∀ {X : Cx} {pins : List (Addr × Obj)} {σ : L2.St} {H : Hp} {s : Shared} {a : Addr} {xs : List V}, Inv X pins σ H s → Sq X.K H a xs → ∃ its : List Value, Vals xs its ∧ Is s.heap a its.toArray
  one : ∀ {X : Cx} {pins : List (Addr × Obj)} {σ : L2.St} {H : Hp} {s : Shared} {a : Addr} {xs ys : List V}, Inv X pins σ H s → Sq X.K H a xs → Sq X.K H a ys → xs = ys
  lt : ∀ {h : Heap} {a : Addr} {its : Array Value}, Is h a its → a < h.objs.size
  draws : ∀ {P : Program} {w : World} {A : Around} (_ : A.handled = none) (it a : Addr) (_ : a ≠ it) (its : Array Value), Draws P w A it [it, a] its.size (fun i v => its[i]? = some v) (fun i h => It h it a i ∧ Is h a its)
  begins : ∀ (a : Addr) (its : Array Value), Begins (.ref a) (o a) fun h => Is h a its
  it0 : ∀ {h : Heap} {it a : Addr}, h.get? it = some (o a) → It h it a 0
  live : ∀ {h : Heap} {it a : Addr} {i : Nat}, It h it a i → ∃ ob, h.get? it = some ob ∧ ∀ v, ob.data ≠ .cell v
  keep : ∀ {h h' : Heap} {it a : Addr} {i : Nat}, It h it a i → (∀ ob, h.get? it = some ob → h'.get? it = some ob) → It h' it a i
def skL : SK where
  Sq := SqL
  Is := fun h a its => h.IsList a its
  It := fun h it a i => h.IsListIter it a i
  o := fun a => { cls := .type "list_iterator", data := .fields #[.ref a, .int 0 0] }
  seen := fun I q => let ⟨its, rv, p, _⟩ := I.list q; ⟨its, rv, p.isList⟩
  one := fun I q r => I.list_inj q r
  lt := fun h => let ⟨_, e, _⟩ := h; Heap.lt_size e
  draws := fun hh it a hne its => Draws.list hh it a hne its
  begins := fun a its => begins_list a its
  it0 := fun e => ⟨_, e, rfl, rfl⟩
  live := fun h => let ⟨ob, e, _, d⟩ := h; ⟨ob, e, fun v q => nomatch d.symm.trans q⟩
  keep := fun h k => h.at k
def skT : SK where
  Sq := SqT
  Is := fun h a its => h.IsTuple a its
  It := fun h it a i => h.IsTupleIter it a i
  o := fun a => { cls := .type "tuple_iterator", data := .fields #[.ref a, .int 0 0] }
  seen := fun I q => let ⟨its, rv, p, _⟩ := I.tuple q; ⟨its, rv, p⟩
  one := fun I q r => I.tuple_inj q r
  lt := fun h => let ⟨_, e, _⟩ := h; Heap.lt_size e
  draws := fun hh it a hne its => Draws.tuple hh it a hne its
  begins := fun a its => begins_tuple a its
  it0 := fun e => ⟨_, e, rfl, rfl⟩
  live := fun h => let ⟨ob, e, _, d⟩ := h; ⟨ob, e, fun v q => nomatch d.symm.trans q⟩
  keep := fun h k => h.at k
/-- the items, counted from k0, in new pairs -/
def ItE (k : SK) (K : PySem.W.Frag) (k0 : Int) (a : Addr) : It where
  go := fun i H => ∃ (xs : List V) (x : V), k.Sq K H a xs ∧ xs[i]? = some x
  yld := fun i H v H' => ∃ T x, v = .ref T ∧ H T = none ∧ H' = upd H T (.tup [.int (k0 + (i : Int)), x]) ∧ ∀ xs, k.Sq K H a xs → xs[i]? = some x
  stop := fun i H => ∃ xs : List V, k.Sq K H a xs ∧ xs.length = i
/-- a new tuple, the iterators' cells turned -/
theorem Inv.pairNew {X : Cx} {pins : List (Addr × Obj)} {σ : L2.St} {H : Hp} {s : Shared} {h' : Heap} {tk : Nat} {ch : List Addr} {T : Addr} {xs : List V} {us : List Value} (I : Inv X pins σ H s)
    (hk : ∀ b o, b ∉ ch → s.heap.get? b = some o → h'.get? b = some o) (hf : ∀ b ∈ ch, FpOk X pins H b) (hT : s.heap.objs.size ≤ T) (hz : xs.length ≤ 100) (rv : Vals xs us) (ht : h'.IsTuple T us.toArray) :
    Inv X pins σ (upd H T (.tup xs)) { s with heap := h', toks := tk } :=
  I.turnedNew (t' := tk) (ch := ch) hk hf hT ⟨Nat.le_trans hz (by decide), us, rv, ht⟩
theorem turn_enumE {P : Program} {w : World} {K : PySem.W.Frag} {elts : List Expr} {kk : Nat} {tpos : Pos} (k : SK) (k0 : Int) (a e it : Addr) :
    Turn P w K (.Tuple elts kk tpos) (ItE k K k0 a) [e, it] e (fun i h => (∃ old, IsEnum h e it (k0 + (i : Int)) old) ∧ k.It h it a i ∧ e ≠ it ∧ a ≠ it ∧ e ≠ a) where
  mem := List.mem_cons_self ..
  obj := by
    rintro i h ⟨⟨old, he⟩, hi, _⟩ b hb
    rcases List.mem_cons.mp hb with z | hb
    · subst z; exact ⟨_, he, fun v q => nomatch q⟩
    · cases List.mem_singleton.mp hb
      exact k.live hi
  keep := by
    rintro i h h' ⟨⟨old, he⟩, hi, hne⟩ q
    exact ⟨⟨old, q e (List.mem_cons_self ..) _ he⟩, k.keep hi fun o z => q it (List.mem_cons_of_mem _ (List.mem_cons_self ..)) o z, hne⟩
  item := by
    intro X hP hw hK hc i pins s σ H E I hf st hg
    cases hP; cases hw; cases hK
    obtain ⟨⟨old, he⟩, hi, n1, n2, n3⟩ := st
    obtain ⟨xs, x, hq, hx⟩ := hg
    obtain ⟨its, rv, p⟩ := k.seen I hq
    obtain ⟨u, hu, ru⟩ := rv.get hx
    have hlt : i < its.toArray.size := by
      obtain ⟨z, _⟩ := List.getElem?_eq_some_iff.mp hu
      simpa using z
    have D := k.draws (P := X.prog) (w := X.w) (A := X.A.in1) (I.ok.hd hc) it a n2 its.toArray
    have W := GoesN.enumFrom (elts := elts) (x1 := kk) (pos := tpos) k0 D e n1 (by simp [n1, n3]) (List.mem_cons_self ..)
    refine W.goes i s _ E hlt ⟨⟨old, he⟩, hi, p⟩ fun v h' tk hY hS hk _ => ?_
    obtain ⟨T, t, y, rfl, hT, hy, ht⟩ := hY
    have hy' : its[i]? = some y := by simpa using hy
    cases hu.symm.trans hy'
    have el : e < s.heap.objs.size := Heap.lt_size he
    have il : it < s.heap.objs.size := by obtain ⟨ob, z, _⟩ := k.live hi; exact Heap.lt_size z
    refine ⟨.ref T, _, I.pairNew (ch := [e, it]) (xs := [.int (k0 + (i : Int)), x]) hk hf hT (show 2 ≤ 100 by decide) (.cons ⟨t, rfl⟩ (.cons ru .nil)) ht, rfl, ⟨T, x, rfl, I.hok.fresh hT, rfl, fun ys hys => by rw [k.one I hys hq]; exact hx⟩, ⟨?_, hS.2.1, n1, n2, n3⟩, fun b hb => ?_⟩
    · exact hS.1
    · have bl : b < s.heap.objs.size := by
        rcases List.mem_cons.mp hb with z | hb
        · exact z ▸ el
        · exact (List.mem_singleton.mp hb) ▸ il
      rw [upd_ne (Nat.ne_of_lt (Nat.lt_of_lt_of_le bl hT))]
      exact (hf b hb).1
  done := by
    intro X hP hw hK hc i pins s σ H E I hf st hg
    cases hP; cases hw; cases hK
    obtain ⟨⟨old, he⟩, hi, n1, n2, n3⟩ := st
    obtain ⟨xs, hq, rfl⟩ := hg
    obtain ⟨its, rv, p⟩ := k.seen I hq
    have D := k.draws (P := X.prog) (w := X.w) (A := X.A.in1) (I.ok.hd hc) it a n2 its.toArray
    have W := GoesN.enumFrom (elts := elts) (x1 := kk) (pos := tpos) k0 D e n1 (by simp [n1, n3]) (List.mem_cons_self ..)
    have hl : its.toArray.size = xs.length := by rw [List.size_toArray, rv.length]
    exact W.stops s (fun s1 => Inv X pins σ H s1) E (by rw [hl]; exact ⟨⟨old, he⟩, hi, p⟩) fun h' tk hk _ => I.turnedL (t' := tk) hk hf
  self := fun A i s Q E st h => let ⟨⟨_, he⟩, _⟩ := st; wpAny_pyIter_enum he h

/-! ### the call of enumerate -/
theorem enum1_typeCall (v : Value) : checkTypeCall "enumerate" ⟨[v], []⟩ = pure () := F.typeCall_enumerate_1 v
set_option maxHeartbeats 1000000 in
theorem enum1_meets {v : Value} {o : Obj} {G : Heap → Prop} (B : Begins v o G) :
    Meets (Builtin.«enumerate.__new__» ⟨[.type "enumerate", v], []⟩) (fun _ R s => G s.heap ∧
      R (.ok (.ret (.ref (s.heap.push o).objs.size)))
        { s with heap := (s.heap.push o).push { cls := .type "enumerate", data := .fields #[.none, .bool false, .ref s.heap.objs.size, rawInt 0, .none, .none] } }) := by
  refine .of_wp fun prog w A R s hs => ?_
  obtain ⟨hp, gens, drawn, tk, os⟩ := s
  obtain ⟨hG, hR⟩ := hs
  have hsub := sub_enumerate
  have q1 : ∀ {A' : Around} {E' : Value → Shared → Prop} {R' : Value → Shared → Prop}, R' (.ref hp.objs.size) ⟨hp.push o, gens, drawn, tk, os⟩ → wpAny (model prog w) A' (pyIter v) R' E' ⟨hp, gens, drawn, tk, os⟩ :=
    fun q => B.iter prog w _ _ ⟨hp, gens, drawn, tk, os⟩ _ hG q
  wp_walk using q1
  refine wpAny_stack_any fun st => wpAny_pure ?_
  split
  · rename_i c _ _ _ _ _
    cases (c == Value.type "enumerate")
    all_goals
      wp_walk using q1
      exact ⟨_, rfl, hR⟩
  · wp_walk using q1
    exact ⟨_, rfl, hR⟩
section
variable {prog : Program} {w : World} {A : Around} {E : Value → Shared → Prop} {s : Shared}
theorem enum1_call {v : Value} {o : Obj} {G : Heap → Prop} {Q : Value → Shared → Prop} (B : Begins v o G) (hG : G s.heap)
    (h : ∀ h', IsEnum h' (s.heap.objs.size + 1) s.heap.objs.size 0 .none → h'.get? s.heap.objs.size = some o →
      (∀ b ob, s.heap.get? b = some ob → h'.get? b = some ob) → Q (.ref (s.heap.objs.size + 1)) { s with heap := h' }) :
    wpAny (model prog w) A (call (.type "enumerate") [v]) Q E s := by
  refine callType_new F.called_enumerate (by decide) (enum1_typeCall _) (F.newCall_enumerate_1 _) (fun ob => F.args_object_init_2 ob _) F.entry_enumerate_new (enum1_meets B) ⟨hG, ?_⟩
  have z1 : (s.heap.push o).objs.size = s.heap.objs.size + 1 := Heap.size_push ..
  let oe : Obj := { cls := .type "enumerate", data := .fields #[.none, .bool false, .ref s.heap.objs.size, rawInt 0, .none, .none] }
  have he : ((s.heap.push o).push oe).get? (s.heap.push o).objs.size = some oe := Heap.get?_push_size (s.heap.push o) rfl
  rw [z1] at he
  show _ ∧ _
  rw [z1]
  exact ⟨⟨oe, he, rfl⟩, h _ he (Heap.get?_push_of_some _ (Heap.get?_push_size _ B.free)) fun b ob e => Heap.get?_push_of_some _ (Heap.get?_push_of_some _ e)⟩
end
def iEnumE (k : SK) (K : PySem.W.Frag) (ta : TA) : TI := fun σ H R => ta σ H fun vs H1 => ∃ a xs, vs = [.ref a] ∧ k.Sq K H1 a xs ∧ R (ItE k K 0 a) H1
theorem pi_enumE {X : Cx} (K : PySem.W.Frag) (k : SK) {e : Expr} {ta : TA} {p pos tpos : Pos} {elts : List Expr} {kk : Nat} (hg : Gl X "enumerate") (hm : X.mg "enumerate" = none) (ha : PA X [e] ta)
    (hs : starEach [e] X.env = [(false, eval e X.env)] := by rfl) (h : X.K = K := by rfl) :
    PI X (.Tuple elts kk tpos) (.Call (.Name "enumerate" p) [e] [] pos) (iEnumE k K ta) := by
  cases h
  constructor
  intro pins s σ H R I h
  refine Call_ (ld_blt I hg hm boot_enumerate (PyProof.Rows.callWith_type1 (thn (ha.run pos pins s σ H _ I h) fun us s1 got => ?_) hs rfl))
  obtain ⟨vs, H1, J, r, a, xs, ex, hq, q⟩ := got
  subst ex
  obtain ⟨u, rfl, ru⟩ : ∃ u, us = [u] ∧ u = Value.ref a := by
    cases r with
    | cons r0 rr =>
      cases rr
      exact ⟨_, rfl, r0⟩
  subst ru
  obtain ⟨its, rv, p'⟩ := k.seen J hq
  have al := k.lt p'
  refine enum1_call (k.begins a its.toArray) p' fun h' he hi hk => wpAny_pyIter_enum he ?_
  refine ⟨s1.heap.objs.size + 1, [s1.heap.objs.size + 1, s1.heap.objs.size], _, _, H1, rfl, J.kept (t' := s1.toks) hk, turn_enumE k 0 a (s1.heap.objs.size + 1) s1.heap.objs.size,
    ⟨⟨.none, he⟩, k.it0 hi, Nat.succ_ne_self _, Nat.ne_of_lt al, Nat.ne_of_gt (Nat.lt_succ_of_lt al)⟩, fun b hb => ?_, q⟩
  have hle : s1.heap.objs.size ≤ b := by
    rcases List.mem_cons.mp hb with z | hb
    · exact z ▸ Nat.le_succ _
    · exact (List.mem_singleton.mp hb) ▸ Nat.le_refl _
  exact J.fpOk hle (J.hok.fresh hle)

/-! ### three beside one another -/
def ItZ3 (k1 k2 k3 : SK) (K : PySem.W.Frag) (a b c : Addr) : It where
  go := fun i H => ∃ (xs ys zs : List V) (x y z : V), (k1.Sq K H a xs ∧ k2.Sq K H b ys ∧ k3.Sq K H c zs) ∧ xs[i]? = some x ∧ ys[i]? = some y ∧ zs[i]? = some z
  yld := fun i H v H' => ∃ T x y z, v = .ref T ∧ H T = none ∧ H' = upd H T (.tup [x, y, z]) ∧ (∀ xs, k1.Sq K H a xs → xs[i]? = some x) ∧ (∀ ys, k2.Sq K H b ys → ys[i]? = some y) ∧ ∀ zs, k3.Sq K H c zs → zs[i]? = some z
  stop := fun i H => ∃ xs ys zs : List V, (k1.Sq K H a xs ∧ k2.Sq K H b ys ∧ k3.Sq K H c zs) ∧ min (min xs.length ys.length) zs.length = i
structure Z3 (k1 k2 k3 : SK) (z TI TO i1 i2 i3 a b c : Addr) (i : Nat) (h : Heap) : Prop where
  zp : IsZip h z TI TO .none
  its : IsTupOf3 h TI (.ref i1) (.ref i2) (.ref i3)
  outs : ∃ v1 v2 v3, IsTupOf3 h TO v1 v2 v3
  one : k1.It h i1 a i
  two : k2.It h i2 b i
  three : k3.It h i3 c i
theorem mem6 {b z t o x y u : Addr} (h : b ∈ [z, t, o, x, y, u]) : b = z ∨ b = t ∨ b = o ∨ b = x ∨ b = y ∨ b = u := by simpa using h
theorem Z3.lt {k1 k2 k3 : SK} {z TI TO i1 i2 i3 a b c : Addr} {i : Nat} {h : Heap} (t : Z3 k1 k2 k3 z TI TO i1 i2 i3 a b c i h) : ∀ q ∈ [z, TI, TO, i1, i2, i3], q < h.objs.size := fun q hq => by
  obtain ⟨v1, v2, v3, ho⟩ := t.outs
  rcases mem6 hq with e | e | e | e | e | e
  · exact e ▸ Heap.lt_size t.zp
  · exact e ▸ Heap.lt_size t.its
  · exact e ▸ Heap.lt_size ho
  · obtain ⟨o, g, _⟩ := k1.live t.one
    exact e ▸ Heap.lt_size g
  · obtain ⟨o, g, _⟩ := k2.live t.two
    exact e ▸ Heap.lt_size g
  · obtain ⟨o, g, _⟩ := k3.live t.three
    exact e ▸ Heap.lt_size g
theorem turn_zip3 {P : Program} {w : World} {K : PySem.W.Frag} {elts : List Expr} {kk : Nat} {tpos : Pos} (k1 k2 k3 : SK) {z TI TO i1 i2 i3 a b c : Addr} (S : ZipSep3 z TI TO i1 i2 i3 [i1, a] [i2, b] [i3, c])
    (n1 : a ≠ i1) (n2 : b ≠ i2) (n3 : c ≠ i3) :
    Turn P w K (.Tuple elts kk tpos) (ItZ3 k1 k2 k3 K a b c) [z, TI, TO, i1, i2, i3] z (Z3 k1 k2 k3 z TI TO i1 i2 i3 a b c) where
  mem := List.mem_cons_self ..
  obj := fun i h t q hq => by
    obtain ⟨v1, v2, v3, ho⟩ := t.outs
    rcases mem6 hq with e | e | e | e | e | e
    · exact e ▸ ⟨_, t.zp, fun v q => nomatch q⟩
    · exact e ▸ ⟨_, t.its, fun v q => nomatch q⟩
    · exact e ▸ ⟨_, ho, fun v q => nomatch q⟩
    · exact e ▸ k1.live t.one
    · exact e ▸ k2.live t.two
    · exact e ▸ k3.live t.three
  keep := fun i h h' t q => by
    obtain ⟨v1, v2, v3, ho⟩ := t.outs
    have m : ∀ d, d ∈ [z, TI, TO, i1, i2, i3] → ∀ o, h.get? d = some o → h'.get? d = some o := q
    exact ⟨m z (by simp) _ t.zp, m TI (by simp) _ t.its, ⟨v1, v2, v3, m TO (by simp) _ ho⟩, k1.keep t.one (m i1 (by simp)), k2.keep t.two (m i2 (by simp)), k3.keep t.three (m i3 (by simp))⟩
  item := by
    intro X hP hw hK hc i pins s σ H E I hf t hg
    cases hP; cases hw; cases hK
    obtain ⟨xs, ys, zs, x, y, u, ⟨qa, qb, qc⟩, hx, hy, hu⟩ := hg
    obtain ⟨as, ra, pa⟩ := k1.seen I qa
    obtain ⟨bs, rb, pb⟩ := k2.seen I qb
    obtain ⟨cs, rc, pc⟩ := k3.seen I qc
    obtain ⟨u1, g1, r1⟩ := ra.get hx
    obtain ⟨u2, g2, r2⟩ := rb.get hy
    obtain ⟨u3, g3, r3⟩ := rc.get hu
    have W := GoesN.zip3 (elts := elts) (x1 := kk) (pos := tpos) S (k1.draws (P := X.prog) (w := X.w) (A := X.A.in1) (I.ok.hd hc) i1 a n1 as.toArray) (k2.draws (A := X.A.in1) (I.ok.hd hc) i2 b n2 bs.toArray) (k3.draws (A := X.A.in1) (I.ok.hd hc) i3 c n3 cs.toArray)
    have l1 := (List.getElem?_eq_some_iff.mp g1).1
    have l2 := (List.getElem?_eq_some_iff.mp g2).1
    have l3 := (List.getElem?_eq_some_iff.mp g3).1
    have hlt : i < min (min as.toArray.size bs.toArray.size) cs.toArray.size := by
      rw [List.size_toArray, List.size_toArray, List.size_toArray]
      omega
    have sub : ∀ q ∈ [z, TO, i1, i2, i3], q ∈ [z, TI, TO, i1, i2, i3] := fun q hq => by
      have e : q = z ∨ q = TO ∨ q = i1 ∨ q = i2 ∨ q = i3 := by simpa using hq
      rcases e with e | e | e | e | e <;> (rw [e]; simp)
    refine W.goes i s _ E hlt ⟨t.zp, t.its, t.outs, ⟨t.one, pa⟩, ⟨t.two, pb⟩, ⟨t.three, pc⟩⟩ fun v h' tk hY hS hk _ => ?_
    obtain ⟨T, w1, w2, w3, rfl, hT, e1, e2, e3, ht⟩ := hY
    have e1' : as[i]? = some w1 := by simpa using e1
    have e2' : bs[i]? = some w2 := by simpa using e2
    have e3' : cs[i]? = some w3 := by simpa using e3
    cases g1.symm.trans e1'
    cases g2.symm.trans e2'
    cases g3.symm.trans e3'
    refine ⟨.ref T, _, I.pairNew (ch := [z, TO, i1, i2, i3]) (xs := [x, y, u]) hk (fun q hq => hf q (sub q hq)) hT (show 3 ≤ 100 by decide) (.cons r1 (.cons r2 (.cons r3 .nil))) ht, rfl,
      ⟨T, x, y, u, rfl, I.hok.fresh hT, rfl, fun l hl => by rw [k1.one I hl qa]; exact hx, fun l hl => by rw [k2.one I hl qb]; exact hy, fun l hl => by rw [k3.one I hl qc]; exact hu⟩, ?_, fun q hq => ?_⟩
    · exact ⟨hS.1, hS.2.1, hS.2.2.1, hS.2.2.2.1.1, hS.2.2.2.2.1.1, hS.2.2.2.2.2.1⟩
    · rw [upd_ne (Nat.ne_of_lt (Nat.lt_of_lt_of_le (t.lt q hq) hT))]
      exact (hf q hq).1
  done := by
    intro X hP hw hK hc i pins s σ H E I hf t hg
    cases hP; cases hw; cases hK
    obtain ⟨xs, ys, zs, ⟨qa, qb, qc⟩, rfl⟩ := hg
    obtain ⟨as, ra, pa⟩ := k1.seen I qa
    obtain ⟨bs, rb, pb⟩ := k2.seen I qb
    obtain ⟨cs, rc, pc⟩ := k3.seen I qc
    have W := GoesN.zip3 (elts := elts) (x1 := kk) (pos := tpos) S (k1.draws (P := X.prog) (w := X.w) (A := X.A.in1) (I.ok.hd hc) i1 a n1 as.toArray) (k2.draws (A := X.A.in1) (I.ok.hd hc) i2 b n2 bs.toArray) (k3.draws (A := X.A.in1) (I.ok.hd hc) i3 c n3 cs.toArray)
    have hl : min (min as.toArray.size bs.toArray.size) cs.toArray.size = min (min xs.length ys.length) zs.length := by
      rw [List.size_toArray, List.size_toArray, List.size_toArray, ra.length, rb.length, rc.length]
    have sub : ∀ q ∈ [z, TO, i1, i2, i3], q ∈ [z, TI, TO, i1, i2, i3] := fun q hq => by
      have e : q = z ∨ q = TO ∨ q = i1 ∨ q = i2 ∨ q = i3 := by simpa using hq
      rcases e with e | e | e | e | e <;> (rw [e]; simp)
    exact W.stops s (fun s1 => Inv X pins σ H s1) E (by rw [hl]; exact ⟨t.zp, t.its, t.outs, ⟨t.one, pa⟩, ⟨t.two, pb⟩, ⟨t.three, pc⟩⟩) fun h' tk hk _ => I.turnedL (t' := tk) hk fun q hq => hf q (sub q hq)
  self := fun A i s Q E t h => wpAny_pyIter_zip t.zp h
def iZip3 (k1 k2 k3 : SK) (K : PySem.W.Frag) (ta : TA) : TI := fun σ H R => ta σ H fun vs H1 => ∃ a b c xs ys zs, vs = [.ref a, .ref b, .ref c] ∧ (k1.Sq K H1 a xs ∧ k2.Sq K H1 b ys ∧ k3.Sq K H1 c zs) ∧ R (ItZ3 k1 k2 k3 K a b c) H1
theorem pi_zip3 {X : Cx} (K : PySem.W.Frag) (k1 k2 k3 : SK) {e e2 e3 : Expr} {ta : TA} {p pos tpos : Pos} {elts : List Expr} {kk : Nat} (hg : Gl X "zip") (hm : X.mg "zip" = none) (ha : PA X [e, e2, e3] ta)
    (hs : starEach [e, e2, e3] X.env = (false, eval e X.env) :: starEach [e2, e3] X.env := by rfl) (hpl : (backTo pos (starEach [e2, e3] X.env)).any (·.1) = false := by rfl) (h : X.K = K := by rfl) :
    PI X (.Tuple elts kk tpos) (.Call (.Name "zip" p) [e, e2, e3] [] pos) (iZip3 k1 k2 k3 K ta) := by
  cases h
  constructor
  intro pins s σ H R I h
  refine Call_ (ld_blt I hg hm PyProof.Rows.boot_zip (PyProof.Rows.callWith_type1 (thn (ha.run pos pins s σ H _ I h) fun us s1 got => ?_) hs hpl))
  obtain ⟨vs, H1, J, r, a, b, c, xs, ys, zs, ex, ⟨qa, qb, qc⟩, q⟩ := got
  subst ex
  obtain rfl : us = [Value.ref a, Value.ref b, Value.ref c] := by
    cases r with
    | cons r0 r => cases r with
      | cons r1 r => cases r with
        | cons r2 r =>
          cases r
          rw [show _ = Value.ref a from r0, show _ = Value.ref b from r1, show _ = Value.ref c from r2]
  obtain ⟨as, ra, pa⟩ := k1.seen J qa
  obtain ⟨bs, rb, pb⟩ := k2.seen J qb
  obtain ⟨cs, rc, pc⟩ := k3.seen J qc
  have la := k1.lt pa
  have lb := k2.lt pb
  have lc := k3.lt pc
  have one : ∀ {d : Addr}, d < s1.heap.objs.size → ∀ b ∈ [d], b < s1.heap.objs.size := fun hd b hb => (List.mem_singleton.mp hb) ▸ hd
  refine zip_begins3 (k1.begins a as.toArray) (k2.begins b bs.toArray) (k3.begins c cs.toArray) pa pb pc fun h' hz hTI hTO o1 o2 o3 _ hk => wpAny_pyIter_zip hz ?_
  refine ⟨s1.heap.objs.size + 5, [s1.heap.objs.size + 5, s1.heap.objs.size + 3, s1.heap.objs.size + 4, s1.heap.objs.size, s1.heap.objs.size + 1, s1.heap.objs.size + 2], _, _, H1, rfl, J.kept (t' := s1.toks) hk,
    turn_zip3 k1 k2 k3 (zip_sep3 (one la) (one lb) (one lc)) (Nat.ne_of_lt la) (Nat.ne_of_lt (Nat.lt_of_lt_of_le lb (Nat.le_add_right _ _))) (Nat.ne_of_lt (Nat.lt_of_lt_of_le lc (Nat.le_add_right _ _))),
    ⟨hz, hTI, ⟨_, _, _, hTO⟩, k1.it0 o1, k2.it0 o2, k3.it0 o3⟩, fun d hd => ?_, q⟩
  have hle : s1.heap.objs.size ≤ d := by
    rcases mem6 hd with e | e | e | e | e | e
    · exact e ▸ Nat.le_add_right _ _
    · exact e ▸ Nat.le_add_right _ _
    · exact e ▸ Nat.le_add_right _ _
    · exact e ▸ Nat.le_refl _
    · exact e ▸ Nat.le_add_right _ _
    · exact e ▸ Nat.le_add_right _ _
  exact J.fpOk hle (J.hok.fresh hle)

section
variable {K : PySem.W.Frag} {σ : L2.St} {H : Hp} {Q : VK} {D : Ends} {tb : TS} {ta : TA} {R : It → Hp → Prop} {k k1 k2 k3 : SK} {a b c : Addr} {xs ys zs : List V} {k0 : Int} {m n o : Nat}
def rItE (k : SK) (K : PySem.W.Frag) (vs : List V) (R : It → Hp → Prop) (H1 : Hp) : Prop := ∃ a xs, vs = [.ref a] ∧ k.Sq K H1 a xs ∧ R (ItE k K 0 a) H1
def rItZ3 (k1 k2 k3 : SK) (K : PySem.W.Frag) (vs : List V) (R : It → Hp → Prop) (H1 : Hp) : Prop := ∃ a b c xs ys zs, vs = [.ref a, .ref b, .ref c] ∧ (k1.Sq K H1 a xs ∧ k2.Sq K H1 b ys ∧ k3.Sq K H1 c zs) ∧ R (ItZ3 k1 k2 k3 K a b c) H1
theorem st_enumE (h : ta σ H fun us H1 => rItE k K us R H1) : iEnumE k K ta σ H R := h
theorem st_zip3 (h : ta σ H fun us H1 => rItZ3 k1 k2 k3 K us R H1) : iZip3 k1 k2 k3 K ta σ H R := h
theorem r_enumE (h : k.Sq K H a xs) (q : R (ItE k K 0 a) H) : rItE k K [.ref a] R H := ⟨a, xs, rfl, h, q⟩
theorem r_zip3 (h1 : k1.Sq K H a xs) (h2 : k2.Sq K H b ys) (h3 : k3.Sq K H c zs) (q : R (ItZ3 k1 k2 k3 K a b c) H) : rItZ3 k1 k2 k3 K [.ref a, .ref b, .ref c] R H := ⟨a, b, c, xs, ys, zs, rfl, ⟨h1, h2, h3⟩, q⟩
theorem r_tup3 {i j l : Nat} {x y z : V} {R : L2.St → Hp → Prop} (h : SqT K H a [x, y, z]) (q : R (((σ.set i (some x)).set j (some y)).set l (some z)) H) : gTup K 3 (gCons (gName i) (gCons (gName j) (gCons (gName l) gNil))) (.ref a) σ H R :=
  ⟨a, _, rfl, h, rfl, x, [y, z], rfl, y, [z], rfl, z, [], rfl, rfl, q⟩
/-- for i, x in enumerate(xs) -/
theorem r_forE (Pv : Nat → L2.St → Hp → Prop) (h0 : Pv 0 σ H) (hl : ∀ i σ' H', i ≤ xs.length → Pv i σ' H' → k.Sq K H' a xs)
    (hs : ∀ i x σ' H' H1, xs[i]? = some x → Pv i σ' H' → Ex H' H1 → tb { D with nx := Pv (i + 1), ct := Pv (i + 1), bk := D.nx } ((σ'.set m (some (.int (k0 + (i : Int))))).set n (some x)) H1)
    (hd : ∀ σ' H', Pv xs.length σ' H' → D.nx σ' H') : rFor (ItE k K k0 a) (gTup K 2 (gCons (gName m) (gCons (gName n) gNil))) tb D σ H := by
  refine ⟨fun i d σ H => d = xs.length - i ∧ i ≤ xs.length ∧ Pv i σ H, ⟨_, rfl, Nat.zero_le _, h0⟩, ?_⟩
  rintro i d σ H ⟨rfl, hi, p⟩
  have hq := hl i σ H hi p
  rcases Nat.lt_or_ge i xs.length with lt | ge
  · have hx := List.getElem?_eq_getElem lt
    refine .inr ⟨⟨xs, _, hq, hx⟩, Pv (i + 1), fun σ' H' q => ⟨xs.length - (i + 1), by omega, rfl, lt, q⟩, ?_⟩
    rintro v H' ⟨T, x, rfl, hT, rfl, e⟩
    exact r_tup2 (t_of upd_same) (hs i x σ H _ (e xs hq) p (Ex.new hT))
  · have e : xs.length = i := by omega
    refine .inl ⟨⟨xs, hq, e⟩, hd σ H (by rw [e]; exact p)⟩
/-- for x, y, z in zip(xs, ys, zs) -/
theorem r_forZ3 {N : Nat} (hN : min (min xs.length ys.length) zs.length = N) (Pv : Nat → L2.St → Hp → Prop) (h0 : Pv 0 σ H)
    (hl : ∀ i σ' H', i ≤ N → Pv i σ' H' → k1.Sq K H' a xs ∧ k2.Sq K H' b ys ∧ k3.Sq K H' c zs)
    (hs : ∀ i x y z σ' H' H1, xs[i]? = some x → ys[i]? = some y → zs[i]? = some z → Pv i σ' H' → Ex H' H1 →
      tb { D with nx := Pv (i + 1), ct := Pv (i + 1), bk := D.nx } (((σ'.set m (some x)).set n (some y)).set o (some z)) H1)
    (hd : ∀ σ' H', Pv N σ' H' → D.nx σ' H') : rFor (ItZ3 k1 k2 k3 K a b c) (gTup K 3 (gCons (gName m) (gCons (gName n) (gCons (gName o) gNil)))) tb D σ H := by
  refine ⟨fun i d σ H => d = N - i ∧ i ≤ N ∧ Pv i σ H, ⟨_, rfl, Nat.zero_le _, h0⟩, ?_⟩
  rintro i d σ H ⟨rfl, hi, p⟩
  have hq := hl i σ H hi p
  rcases Nat.lt_or_ge i N with lt | ge
  · have hx := List.getElem?_eq_getElem (show i < xs.length by omega)
    have hy := List.getElem?_eq_getElem (show i < ys.length by omega)
    have hz := List.getElem?_eq_getElem (show i < zs.length by omega)
    refine .inr ⟨⟨xs, ys, zs, _, _, _, hq, hx, hy, hz⟩, Pv (i + 1), fun σ' H' q => ⟨N - (i + 1), by omega, rfl, lt, q⟩, ?_⟩
    rintro v H' ⟨T, x, y, z, rfl, hT, rfl, e1, e2, e3⟩
    exact r_tup3 (t_of upd_same) (hs i x y z σ H _ (e1 xs hq.1) (e2 ys hq.2.1) (e3 zs hq.2.2) p (Ex.new hT))
  · have e : i = N := by omega
    exact .inl ⟨⟨xs, ys, zs, hq, by rw [hN, e]⟩, hd σ H (by rw [← e]; exact p)⟩
end
/-! ### repr of data -/
/-- the text of data that fits -/
structure Shows (d : PyData) : Prop where
  can : PyData.showable d = true
  plain : PyData.hasDict d = false
  depth : PyData.depth d ≤ 50
  fits : d.shown.length ≤ sizeLine
def rRepr (K : PySem.W.Frag) : List V → Hp → VK → Prop := fun xs H Q => ∃ a d, xs = [.ref a] ∧ Dp K H (.ref a) d ∧ Shows d ∧ Q (.str d.shown) H
theorem repr_K {X : Cx} (K : PySem.W.Frag) (g : Quiet X.A) {k : Nat} (hr : Room k X.A) (h : X.K = K := by rfl) : CallR X (.builtin "repr") (rRepr K) := by
  cases h
  intro pins s σ H xs us Q I r h
  obtain ⟨a, d, rfl, hd, sd, q⟩ := h
  obtain ⟨u, rfl, ru⟩ : ∃ u, us = [u] ∧ RelV (.ref a) u := by
    cases r with
    | cons r0 rr =>
      cases rr
      exact ⟨_, rfl, r0⟩
  cases (show u = Value.ref a from ru)
  obtain ⟨as, rd⟩ := Dp.reads I d _ _ hd ru
  have hu : X.A.units + (d.depth + 1) < cLine := by
    have h1 := sd.depth
    have h2 := hr.units
    omega
  exact repr_of_reads' rd sd.can (fun e => nomatch (sd.plain.symm.trans e)) g hu (fun _ _ e => e) (fun h' u tk hk => ⟨.str d.shown, H, I.kept (t' := tk) hk, ⟨u, rfl⟩, q⟩) sd.fits
section
variable {K : PySem.W.Frag} {H : Hp} {Q : VK} {a b : Addr} {d : PyData}
theorem r_repr (h : Dp K H (.ref a) d) (sd : Shows d) (q : Q (.str d.shown) H) : rRepr K [.ref a] H Q := ⟨a, d, rfl, h, sd, q⟩
theorem r_eqS {x y : Str} (q : Q (.bl (decide (x = y))) H) : rEqU K (.str x) (.str y) H Q := .inl ⟨rfl, by
  have e : decide ((V.str x) = V.str y) = decide (x = y) := by simp
  rw [e]
  exact q⟩
theorem r_neS {x y : Str} (q : Q (.bl (!decide (x = y))) H) : rNeU K (.str x) (.str y) H Q := .inl ⟨rfl, by
  have e : decide ((V.str x) = V.str y) = decide (x = y) := by simp
  rw [e]
  exact q⟩
/-- two things that read alike -/
theorem r_eqD {e : PyData} (ha : Dp K H (.ref a) d) (hb : Dp K H (.ref b) e) (s1 : SeqAt.shaped d = true) (s2 : SeqAt.shaped e = true) (q : Q (.bl (PyData.eqv d e)) H) : rEqU K (.ref a) (.ref b) H Q := .inr ⟨d, e, ha, hb, s1, s2, q⟩
theorem r_neD {e : PyData} (ha : Dp K H (.ref a) d) (hb : Dp K H (.ref b) e) (s1 : SeqAt.shaped d = true) (s2 : SeqAt.shaped e = true) (q : Q (.bl (!PyData.eqv d e)) H) : rNeU K (.ref a) (.ref b) H Q := .inr ⟨d, e, ha, hb, s1, s2, q⟩
end
/-! ### data of ints, in sequences -/
/-- a list of sequences -/
def dWs (ws : List (List Int)) : List PyData := ws.map fun w => .tuple (w.map .int)
theorem dWs_lay : ∀ ws, PyData.canLayAll0 (dWs ws) = true
  | [] => rfl
  | w :: ws => by
    show (PyData.canLayAll0 (w.map .int) && PyData.canLayAll0 (dWs ws)) = true
    rw [canLay_ints, dWs_lay ws]
    rfl
theorem dWs_depth : ∀ ws, PyData.depthAll (dWs ws) ≤ 1
  | [] => Nat.zero_le _
  | w :: ws => by
    have h := dWs_depth ws
    show max (PyData.depth (.tuple (w.map .int))) (PyData.depthAll (dWs ws)) ≤ 1
    rw [PyData.depth, depth_ints]
    omega
theorem dWs_eqv : ∀ us ws, PyData.eqvAll (dWs us) (dWs ws) = decide (us = ws)
  | [], [] => by simp [dWs, PyData.eqvAll]
  | [], _ :: _ => by simp [dWs, PyData.eqvAll]
  | _ :: _, [] => by simp [dWs, PyData.eqvAll]
  | u :: us, w :: ws => by
    show (PyData.eqv (.tuple (u.map .int)) (.tuple (w.map .int)) && PyData.eqvAll (dWs us) (dWs ws)) = _
    rw [eqv_tints, dWs_eqv us ws]
    by_cases h : u = w
    · subst h; simp
    · simp [h]
theorem shaped_dWs (ws : List (List Int)) : SeqAt.shaped (.list (dWs ws)) = true := by
  unfold SeqAt.shaped
  have h := dWs_depth ws
  rw [PyData.canLay0, dWs_lay, PyData.depth]
  simp
  omega
theorem shaped_dWsT (ws : List (List Int)) : SeqAt.shaped (.tuple (dWs ws)) = true := by
  unfold SeqAt.shaped
  have h := dWs_depth ws
  rw [PyData.canLay0, dWs_lay, PyData.depth]
  simp
  omega

/-! ### list(range(..)) -/
section
variable {K : PySem.W.Frag} {σ : L2.St} {H : Hp} {Q : VK} {ta tb : TE} {te : L2.St → Hp → (Int → Int → Hp → Prop) → Prop} {R : Int → Int → Hp → Prop} {i j : Int}
def rLstRg (a b : Int) (H1 : Hp) (Q : VK) : Prop := RgOk a b ∧ ∀ q, H1 q = none → Q (.ref q) (upd H1 q (.lst (rgV a b)))
def rTwoI (x y : V) (H2 : Hp) (R : Int → Int → Hp → Prop) : Prop := ∃ i j, x = .int i ∧ y = .int j ∧ R i j H2
theorem st_lstRg (h : te σ H fun a b H1 => rLstRg a b H1 Q) : tLstRg te σ H Q := h
theorem st_rg2 (h : ta σ H fun x H1 => tb σ H1 fun y H2 => rTwoI x y H2 R) : tRg2 ta tb σ H R := h
theorem r_twoI (q : R i j H) : rTwoI (.int i) (.int j) H R := ⟨i, j, rfl, rfl, q⟩
/-- the ints from a on, below b -/
def rgI (a b : Int) : List Int := (List.range (b - a).toNat).map fun i => a + (i : Nat)
theorem rgI_len (a b : Int) : (rgI a b).length = (b - a).toNat := by
  unfold rgI
  rw [List.length_map, List.length_range]
theorem r_lstRg (h0 : 0 ≤ i) (h1 : j ≤ 16777216) (h2 : i ≤ 16777216) (h3 : 0 ≤ j) (q : ∀ p H1, H p = none → Ex H H1 → H1 p = some (.lst ((rgI i j).map V.int)) → Q (.ref p) H1) : rLstRg i j H Q := by
  refine ⟨RgOk.of_le h0 h1 h2 h3, fun p hp => ?_⟩
  refine q p _ hp (Ex.new hp) ?_
  rw [upd_same]
  unfold rgV rgI
  rw [List.map_map]
  rfl
end
end L2
/-! lists of sequences of ints, and data of them that can be written out -/
namespace L2
open PySem PySem.Spec PyProof.Rows Evl
section
variable {K : PySem.W.Frag} {σ : L2.St} {H H' : Hp} {Q : VK} {a : Addr} {xs ys : List V} {ws us : List (List Int)} {x : V} {u : List Int}
/-- a tuple of ints -/
def WkV (K : PySem.W.Frag) (H : Hp) (x : V) (w : List Int) : Prop := ∃ a, x = .ref a ∧ IT K H a w
/-- such tuples, one behind the other -/
structure WkA (K : PySem.W.Frag) (H : Hp) (xs : List V) (ws : List (List Int)) : Prop where
  len : xs.length = ws.length
  at' : ∀ (i : Nat) x w, xs[i]? = some x → ws[i]? = some w → WkV K H x w
theorem WkV.tx (h : WkV K H x u) (e : TX H H') : WkV K H' x u := by
  obtain ⟨a, rfl, h1⟩ := h
  exact ⟨a, rfl, tx_t e h1⟩
theorem WkA.tx (h : WkA K H xs ws) (e : TX H H') : WkA K H' xs ws := ⟨h.len, fun i x w h1 h2 => (h.at' i x w h1 h2).tx e⟩
theorem WkA.ex (h : WkA K H xs ws) (e : Ex H H') : WkA K H' xs ws := h.tx (.of e)
theorem WkA.nil : WkA K H [] [] := ⟨rfl, fun i x w h => by simp at h⟩
theorem WkA.get (h : WkA K H xs ws) {i : Nat} (hx : xs[i]? = some x) : ∃ w, ws[i]? = some w ∧ WkV K H x w := by
  have hi := (List.getElem?_eq_some_iff.mp hx).1
  rw [h.len] at hi
  exact ⟨_, List.getElem?_eq_getElem hi, h.at' i _ _ hx (List.getElem?_eq_getElem hi)⟩
theorem WkA.snoc (h : WkA K H xs ws) (hx : WkV K H x u) : WkA K H (xs ++ [x]) (ws ++ [u]) := by
  refine ⟨by rw [List.length_append, List.length_append, h.len]; rfl, fun i y w h1 h2 => ?_⟩
  rcases Nat.lt_or_ge i xs.length with lt | ge
  · rw [List.getElem?_append_left lt] at h1
    rw [List.getElem?_append_left (h.len ▸ lt)] at h2
    exact h.at' i y w h1 h2
  · rw [List.getElem?_append_right ge] at h1
    rw [List.getElem?_append_right (h.len ▸ ge)] at h2
    have e : i - xs.length = 0 := by
      have := (List.getElem?_eq_some_iff.mp h1).1
      simp at this
      omega
    rw [e] at h1
    rw [← h.len, e] at h2
    cases h1
    cases h2
    exact hx
theorem WkA.set (h : WkA K H xs ws) (hx : WkV K H x u) (k : Nat) : WkA K H (xs.set k x) (ws.set k u) := by
  refine ⟨by rw [List.length_set, List.length_set, h.len], fun i y w h1 h2 => ?_⟩
  rw [List.getElem?_set] at h1 h2
  by_cases e : k = i
  · rw [if_pos e] at h1 h2
    split at h1
    · cases h1
      split at h2
      · cases h2
        exact hx
      · cases h2
    · cases h1
  · rw [if_neg e] at h1 h2
    exact h.at' i y w h1 h2
theorem WkA.app {us : List (List Int)} (h : WkA K H xs ws) (k : WkA K H ys us) : WkA K H (xs ++ ys) (ws ++ us) := by
  refine ⟨by rw [List.length_append, List.length_append, h.len, k.len], fun i y w h1 h2 => ?_⟩
  rcases Nat.lt_or_ge i xs.length with lt | ge
  · rw [List.getElem?_append_left lt] at h1
    rw [List.getElem?_append_left (h.len ▸ lt)] at h2
    exact h.at' i y w h1 h2
  · rw [List.getElem?_append_right ge] at h1
    rw [List.getElem?_append_right (h.len ▸ ge), ← h.len] at h2
    exact k.at' _ y w h1 h2
theorem dp_wks : ∀ {xs : List V} {ws : List (List Int)}, WkA K H xs ws → DpAll K H xs (dWs ws)
  | [], [], _ => .nil
  | [], _ :: _, h => by have := h.len; simp at this
  | _ :: _, [], h => by have := h.len; simp at this
  | x :: xs, w :: ws, h => by
    obtain ⟨a, rfl, h1⟩ := h.at' 0 x w rfl rfl
    exact .cons (dp_t h1) (dp_wks ⟨by have := h.len; simpa using this, fun i y u e1 e2 => h.at' (i + 1) y u (by simpa using e1) (by simpa using e2)⟩)
theorem dp_wl (hl : SqL K H a xs) (h : WkA K H xs ws) : Dp K H (.ref a) (.list (dWs ws)) := .lst hl (dp_wks h)
theorem dp_wt (hl : SqT K H a xs) (h : WkA K H xs ws) : Dp K H (.ref a) (.tuple (dWs ws)) := .tup hl (dp_wks h)
theorem eqv_dWs : PyData.eqv (.list (dWs us)) (.list (dWs ws)) = decide (us = ws) := by rw [PyData.eqv, dWs_eqv]
theorem eqv_dWsT : PyData.eqv (.tuple (dWs us)) (.tuple (dWs ws)) = decide (us = ws) := by rw [PyData.eqv, dWs_eqv]
/-- == of lists of sequences -/
theorem r_eqW {b : Addr} (ha : SqL K H a xs) (wa : WkA K H xs ws) (hb : SqL K H b ys) (wb : WkA K H ys us) (q : Q (.bl (decide (ws = us))) H) : rEqU K (.ref a) (.ref b) H Q :=
  r_eqD (dp_wl ha wa) (dp_wl hb wb) (shaped_dWs _) (shaped_dWs _) (by rw [eqv_dWs]; exact q)
theorem r_neW {b : Addr} (ha : SqL K H a xs) (wa : WkA K H xs ws) (hb : SqL K H b ys) (wb : WkA K H ys us) (q : Q (.bl (!decide (ws = us))) H) : rNeU K (.ref a) (.ref b) H Q :=
  r_neD (dp_wl ha wa) (dp_wl hb wb) (shaped_dWs _) (shaped_dWs _) (by rw [eqv_dWs]; exact q)
/-- what stood at a list is written anew: the tuples stay -/
theorem TX.upd {D : Addr} {o : HO} (h : H D = some (.lst xs)) : TX H (upd H D o) := fun a ys q => by
  rw [upd_ne (fun e => by subst e; rcases q with q | ⟨o', q⟩ <;> (rw [h] at q; cases q))]
theorem TX.w2 {D : Addr} (h : H D = some (.lst xs)) (e : ExW D H H') : TX H H' := fun a ys q => by
  have hne : a ≠ D := fun e => by subst e; rcases q with q | ⟨o', q⟩ <;> (rw [h] at q; cases q)
  rcases q with q | ⟨o', q⟩
  · rw [q, e a _ q hne]
  · rw [q, e a _ q hne]
/-- [e for i in range(..)], a turn may change the heap: S tells of the items so far -/
theorem r_cmRA {vs : List Nat} {j : Nat} {te : TE} {lo : Int} {m : Nat} (S : Nat → List V → Hp → Prop) (hm : m ≤ 100000) (hw : ∀ x, wipe ((wipe σ vs).set j (some x)) vs = wipe σ vs)
    (h0 : ∀ D, H D = none → ∀ o, S 0 [] (L2.upd H D o))
    (he : ∀ i H1 D acc, i < m → acc.length = i → H1 D = some (.lst acc) → (∀ o, S i acc (L2.upd H1 D o)) →
      ∀ Q' : VK, (∀ y H2, H2 D = some (.lst acc) → (∀ o, S (i + 1) (acc ++ [y]) (L2.upd H2 D o)) → Q' y H2) → te ((wipe σ vs).set j (some (.int (lo + (i : Int))))) H1 Q')
    (q : ∀ D H1 ys, H D = none → ys.length = m → H1 D = some (.lst ys) → (∀ o, S m ys (L2.upd H1 D o)) → Q (.ref D) H1) : rLc (Itr lo m) (gName j) tYes te vs σ Q H := fun D hD => by
  refine lc_range (lo := lo) (n := m) (fun i H' => ∃ ys : List V, ys.length = i ∧ (∀ o, S i ys (L2.upd H' D o)) ∧ H' D = some (.lst ys)) ⟨[], rfl, fun o => by rw [upd_upd]; exact h0 D hD o, upd_same⟩ (fun i H' hi p => ?_) (fun H' p => ?_)
  · obtain ⟨ys, h1, h4, h5⟩ := p
    refine ⟨hw _, ?_⟩
    refine he i H' D ys hi h1 h5 h4 _ fun y H2 z2 z3 => ?_
    exact ⟨ys, z2, sz_lt (by omega), ys ++ [y], by rw [List.length_append, h1]; rfl, fun o => by rw [upd_upd]; exact z3 o, upd_same⟩
  · obtain ⟨ys, h1, h4, h5⟩ := p
    exact q D H' ys hD h1 h5 h4
end
theorem upd_id {H : Hp} {D : Addr} {o : HO} (h : H D = some o) : upd H D o = H := by
  funext a
  by_cases e : a = D
  · subst e
    rw [upd_same, h]
  · rw [upd_ne e]
/-! ### texts that fit -/
theorem int_short {i : Int} (h : i.natAbs < 10 ^ 12) : PyData.leavesShort 13 (.int i) = true := by
  rw [PyData.leavesShort, decide_eq_true_eq]
  have e := int_text_length_le10 (k := 12) (by decide) h
  show (Str.ofString (toString i)).length ≤ 13
  rw [PySem.ofString_length]
  exact e
theorem int_can {i : Int} (h : i.natAbs < 10 ^ 12) : PyData.showable (.int i) = true := by
  rw [PyData.showable, decide_eq_true_eq]
  by_cases h0 : i.natAbs = 0
  · rw [h0]; decide
  · have := (Nat.log2_lt h0 (k := 40)).mpr (Nat.lt_of_lt_of_le h (by decide))
    omega
/-- all ints small -/
def Sml (ns : List Int) : Prop := ∀ x ∈ ns, x.natAbs < 10 ^ 12
theorem sml_short : ∀ {ns : List Int}, Sml ns → PyData.leavesShortAll 13 (ns.map .int) = true
  | [], _ => rfl
  | n :: ns, h => by
    rw [List.map_cons, PyData.leavesShortAll, int_short (h n List.mem_cons_self), sml_short fun x hx => h x (List.mem_cons_of_mem _ hx)]
    rfl
theorem sml_can : ∀ {ns : List Int}, Sml ns → PyData.showableAll (ns.map .int) = true
  | [], _ => rfl
  | n :: ns, h => by
    rw [List.map_cons, PyData.showableAll, int_can (h n List.mem_cons_self), sml_can fun x hx => h x (List.mem_cons_of_mem _ hx)]
    rfl
theorem ints_plain : ∀ ns : List Int, PyData.hasDictAll (ns.map .int) = false
  | [] => rfl
  | n :: ns => by
    rw [List.map_cons, PyData.hasDictAll, ints_plain ns]
    rfl
theorem ints_bulk : ∀ ns : List Int, PyData.bulkAll (ns.map .int) = ns.length
  | [] => rfl
  | n :: ns => by
    rw [List.map_cons, PyData.bulkAll, ints_bulk ns, PyData.bulk, List.length_cons]
    omega
theorem wks_short : ∀ {ws : List (List Int)}, (∀ w ∈ ws, Sml w) → PyData.leavesShortAll 13 (dWs ws) = true
  | [], _ => rfl
  | w :: ws, h => by
    show (PyData.leavesShortAll 13 (w.map .int) && PyData.leavesShortAll 13 (dWs ws)) = true
    rw [sml_short (h w List.mem_cons_self), wks_short fun x hx => h x (List.mem_cons_of_mem _ hx)]
    rfl
theorem wks_can : ∀ {ws : List (List Int)}, (∀ w ∈ ws, Sml w) → PyData.showableAll (dWs ws) = true
  | [], _ => rfl
  | w :: ws, h => by
    show (PyData.showableAll (w.map .int) && PyData.showableAll (dWs ws)) = true
    rw [sml_can (h w List.mem_cons_self), wks_can fun x hx => h x (List.mem_cons_of_mem _ hx)]
    rfl
theorem wks_plain : ∀ ws : List (List Int), PyData.hasDictAll (dWs ws) = false
  | [] => rfl
  | w :: ws => by
    show (PyData.hasDictAll (w.map .int) || PyData.hasDictAll (dWs ws)) = false
    rw [ints_plain, wks_plain ws]
    rfl
theorem wks_bulk {n : Nat} : ∀ {ws : List (List Int)}, (∀ w ∈ ws, w.length ≤ n) → PyData.bulkAll (dWs ws) ≤ ws.length * (n + 1)
  | [], _ => Nat.zero_le _
  | w :: ws, h => by
    have h1 := wks_bulk (n := n) (ws := ws) fun x hx => h x (List.mem_cons_of_mem _ hx)
    have h2 := h w List.mem_cons_self
    have e : PyData.bulkAll (dWs (w :: ws)) = PyData.bulkAll (w.map .int) + 1 + PyData.bulkAll (dWs ws) := rfl
    rw [e, ints_bulk, List.length_cons, Nat.add_mul]
    omega
theorem Shows.of {d : PyData} (h1 : PyData.showable d = true) (h2 : PyData.hasDict d = false) (h3 : PyData.depth d ≤ 50) (h4 : PyData.leavesShort 13 d = true) (h5 : PyData.bulk d ≤ 2 ^ 20) : Shows d :=
  ⟨h1, h2, h3, by
    have h := PyData.shown_le_bulk 13 (by decide) d h4
    have e : sizeLine = 16777216 := by decide
    omega⟩
/-! ### more of draws -/
theorem DrS.refl {w : Addr} {H : Hp} {n : Nat} (h : Well H w n) : DrS w H n H := ⟨ExW.refl H, h⟩
/-- something of our own is changed between the draws -/
theorem DrS.mut {w f : Addr} {H0 H H1 : Hp} {n : Nat} (h : DrS w H0 n H) (e : ExW f H H1) (h0 : H0 f = none) (hf : f ≠ w) : DrS w H0 n H1 := by
  refine ⟨fun a o ha hw => e a o (h.ex a o ha hw) (ne_of_none ha h0), ?_⟩
  obtain ⟨a, b, c, h1, h2⟩ := h.well.ex
  exact ⟨a, b, c, e w _ h1 (Ne.symm hf), h2⟩
theorem fresh_w {w p : Addr} {H H1 : Hp} (e : ExW w H H1) (hw : p ≠ w) (hp : H1 p = none) : H p = none := by
  cases h : H p with
  | none => rfl
  | some o =>
    rw [e p o h hw] at hp
    cases hp
theorem DrS.fresh {w p : Addr} {H0 H : Hp} {n : Nat} (h : DrS w H0 n H) (hp : H p = none) : H0 p = none := fresh_w h.ex (h.well.ne hp) hp
theorem ixN_in {n : Nat} {i : Int} (h0 : 0 ≤ i) (h : i.toNat < n) : ixN n i = some i.toNat := by
  unfold ixN
  rw [if_pos h0, if_pos (by omega)]
theorem atI_at {xs : List V} {i : Int} {x : V} (h0 : 0 ≤ i) (hx : xs[i.toNat]? = some x) : atI xs i = some x := by
  have e : i = ((i.toNat : Nat) : Int) := by omega
  rw [e]
  exact atI_nat hx
/-! ### [e for x in xs if t], each turn told by S -/
def CmP (S : Nat → List V → Hp → Prop) (D : Addr) (i : Nat) (H' : Hp) : Prop := ∃ ys : List V, ys.length ≤ i ∧ (∀ o, S i ys (upd H' D o)) ∧ H' D = some (.lst ys)
def CmY (S : Nat → List V → Hp → Prop) (D : Addr) (i : Nat) (y : V) (H' : Hp) : Prop := ∃ acc, H' D = some (.lst acc) ∧ acc.length < sizeLine ∧ CmP S D (i + 1) (upd H' D (.lst (acc ++ [y])))
theorem cm_yes {S : Nat → List V → Hp → Prop} {D : Addr} {i : Nat} {y : V} {H' : Hp} {acc : List V} (h : H' D = some (.lst acc)) (hz : acc.length ≤ i) (hi : i < 100000) (s : ∀ o, S (i + 1) (acc ++ [y]) (upd H' D o)) : CmY S D i y H' :=
  ⟨acc, h, sz_lt (by omega), acc ++ [y], by rw [List.length_append]; simpa using hz, fun o => by rw [upd_upd]; exact s o, upd_same⟩
theorem cm_no {S : Nat → List V → Hp → Prop} {D : Addr} {i : Nat} {H' : Hp} {acc : List V} (h : H' D = some (.lst acc)) (hz : acc.length ≤ i) (s : ∀ o, S (i + 1) acc (upd H' D o)) : CmP S D (i + 1) H' := ⟨acc, by omega, s, h⟩
section
variable {K : PySem.W.Frag} {σ : L2.St} {H : Hp} {Q : VK} {a : Addr} {xs : List V} {vs : List Nat} {j : Nat} {tt : TT} {te : TE}
theorem r_cmLA (S : Nat → List V → Hp → Prop) (hz : xs.length ≤ 100000) (hw : ∀ x, wipe ((wipe σ vs).set j (some x)) vs = wipe σ vs) (hl : ∀ i ys H', S i ys H' → SqL K H' a xs)
    (h0 : ∀ D, H D = none → ∀ o, S 0 [] (upd H D o))
    (he : ∀ i x H1 D acc, xs[i]? = some x → acc.length ≤ i → H1 D = some (.lst acc) → S i acc H1 → (∀ o, S i acc (upd H1 D o)) →
      tt ((wipe σ vs).set j (some x)) H1 fun b H2 => if b = true then te ((wipe σ vs).set j (some x)) H2 (fun y H3 => CmY S D i y H3) else CmP S D (i + 1) H2)
    (q : ∀ D H1 ys, H D = none → H1 D = some (.lst ys) → S xs.length ys H1 → (∀ o, S xs.length ys (upd H1 D o)) → Q (.ref D) H1) : rLc (Itl K a) (gName j) tt te vs σ Q H := fun D hD => by
  have at1 : ∀ {i : Nat} {ys : List V} {H' : Hp}, (∀ o, S i ys (upd H' D o)) → H' D = some (.lst ys) → S i ys H' := fun {i ys H'} h e => by
    have z := h (.lst ys)
    rw [upd_id e] at z
    exact z
  refine lc_list (K := K) (a := a) (xs := xs) (fun i H' => CmP S D i H') ⟨[], Nat.le_refl _, fun o => by rw [upd_upd]; exact h0 D hD o, upd_same⟩ (fun i H' _ p => ?_) (fun i x H' hx p => ⟨hw x, ?_⟩) (fun H' p => ?_)
  · obtain ⟨ys, h1, h2, h3⟩ := p
    exact hl i ys H' (at1 h2 h3)
  · obtain ⟨ys, h1, h2, h3⟩ := p
    exact he i x H' D ys hx h1 h3 (at1 h2 h3) h2
  · obtain ⟨ys, h1, h2, h3⟩ := p
    exact q D H' ys hD h3 (at1 h2 h3) h2
end
/-- xs[:-1] -/
theorem cut_init (xs : List V) (x : V) : cutV (xs ++ [x]) none (some (-1)) = xs := by
  unfold cutV
  rw [HT.sIx_none, List.drop_zero, Nat.sub_zero]
  have e : HT.sIx (xs ++ [x]).length (xs ++ [x]).length (some (-1)) = xs.length := by
    rw [List.length_append]
    show (if (-1 : Int) < 0 then ((-1 : Int) + ((xs.length + 1 : Nat) : Int)).toNat else min (-1 : Int).toNat (xs.length + 1)) = xs.length
    rw [if_pos (by decide)]
    omega
  rw [e, List.take_left']
  rfl
section
variable {K : PySem.W.Frag} {H : Hp} {Q : VK} {a b : Addr} {xs ys : List V} {ws : List (List Int)} {x : Str}
theorem same_neS (q : Q (.bl false) H) : rNeU K (.str x) (.str x) H Q := r_neS (by rw [decide_eq_true (rfl : x = x)]; exact q)
theorem same_eqS (q : Q (.bl true) H) : rEqU K (.str x) (.str x) H Q := r_eqS (by rw [decide_eq_true (rfl : x = x)]; exact q)
theorem same_neW (ha : SqL K H a xs) (wa : WkA K H xs ws) (hb : SqL K H b ys) (wb : WkA K H ys ws) (q : Q (.bl false) H) : rNeU K (.ref a) (.ref b) H Q :=
  r_neW ha wa hb wb (by rw [decide_eq_true (rfl : ws = ws)]; exact q)
theorem same_eqW (ha : SqL K H a xs) (wa : WkA K H xs ws) (hb : SqL K H b ys) (wb : WkA K H ys ws) (q : Q (.bl true) H) : rEqU K (.ref a) (.ref b) H Q :=
  r_eqW ha wa hb wb (by rw [decide_eq_true (rfl : ws = ws)]; exact q)
end
theorem ex_none {H H1 : Hp} {D : Addr} (h : ∀ o, Ex H (upd H1 D o)) : H D = none := by
  cases e : H D with
  | none => rfl
  | some u =>
    have h1 := h (.lst []) D u e
    have h2 := h (.tup []) D u e
    rw [upd_same] at h1 h2
    rw [← h1] at h2
    cases h2
theorem ex_put {H H1 : Hp} {D : Addr} {o : HO} (e : Ex H H1) (h : H D = none) : Ex H (upd H1 D o) := fun a u q => by
  rw [upd_ne (ne_of_none q h)]
  exact e a u q
theorem WkA.init {K : PySem.W.Frag} {H : Hp} {xs : List V} {ws : List (List Int)} {x : V} {w : List Int} (h : WkA K H (xs ++ [x]) (ws ++ [w])) : WkA K H xs ws := by
  have e : xs.length = ws.length := by
    have := h.len
    rw [List.length_append, List.length_append] at this
    simpa using this
  refine ⟨e, fun i y u h1 h2 => h.at' i y u ?_ ?_⟩
  · rw [List.getElem?_append_left (List.getElem?_eq_some_iff.mp h1).1]
    exact h1
  · rw [List.getElem?_append_left (List.getElem?_eq_some_iff.mp h2).1]
    exact h2
theorem WkA.split {K : PySem.W.Frag} {H : Hp} {xs : List V} {ws : List (List Int)} {w : List Int} (h : WkA K H xs (ws ++ [w])) : ∃ ys y, xs = ys ++ [y] ∧ WkA K H ys ws := by
  rcases List.eq_nil_or_concat xs with e | ⟨ys, y, e⟩
  · have := h.len
    rw [e, List.length_append] at this
    simp at this
  · rw [List.concat_eq_append] at e
    subst e
    exact ⟨ys, y, rfl, h.init⟩
end L2
/-! more rules: x *= y, x //= y, x -= y, divmod, list.index, two clauses, in -/
namespace L2
open PySem PySem.Spec PyProof.Rows Evl
section
variable {X : Cx}
theorem ip_mul : PIp X .Mult (rI CMul fun i j => .int (i * j)) := fun pins s σ H x y v u Q I r1 r2 h => iop_mul pins s σ H x y v u Q I r1 r2 h
theorem ip_fdiv : PIp X .FloorDiv (rI CDivW fun i j => .int (i / j)) := fun pins s σ H x y v u Q I r1 r2 h => iop_fdivW pins s σ H x y v u Q I r1 r2 h
def rDivm : List V → Hp → VK → Prop := fun xs H Q => ∃ i j, xs = [.int i, .int j] ∧ CDivW i j ∧ ∀ p, H p = none → Q (.ref p) (upd H p (.tup [.int (i / j), .int (i % j)]))
theorem divmod_K : CallR X (.builtin "divmod") rDivm := by
  intro pins s σ H xs us Q I r h
  obtain ⟨i, j, e, ⟨h1, h2⟩, q⟩ := h
  exact call_divmodW pins s σ H xs us Q I r ⟨i, j, e, ⟨h1, PyProof.noPylong_of_log2 h2⟩, q⟩
theorem mt_indexK (K : PySem.W.Frag) (h : X.K = K := by rfl) : MtR X "list.index" (rIndex K) := h ▸ mt_index
end
theorem idxOf_le : ∀ {ns : List Int} {m : Nat} {x : Int}, ns[m]? = some x → ns.idxOf x ≤ m
  | [], _, _, h => by simp at h
  | n :: ns, 0, x, h => by
    cases h
    rw [List.idxOf_cons_self]
    exact Nat.le_refl 0
  | n :: ns, m + 1, x, h => by
    have ih := idxOf_le (ns := ns) (m := m) (x := x) (by simpa using h)
    rw [List.idxOf_cons]
    cases n == x with
    | true => exact Nat.zero_le _
    | false => exact Nat.succ_le_succ ih
section
variable {K : PySem.W.Frag} {σ : L2.St} {H : Hp} {Q : VK} {D : Ends} {a : Addr} {ns : List Int} {x y : Int}
theorem r_augM {i : Nat} {f : Int → Int → V} {C : Int → Int → Prop} (hc : C x y) (h : D.nx (σ.set i (some (f x y))) H) : rAug i (.int x) (rI C f) D σ (.int y) H := ⟨x, y, rfl, rfl, hc, h⟩
theorem r_divm {b : Nat} (h : 0 < y) (hb : y.natAbs < 2 ^ b) (h0 : 0 < b) (h9 : b ≤ 9000) (q : ∀ p H1, H p = none → Ex H H1 → H1 p = some (.tup [.int (x / y), .int (x % y)]) → Q (.ref p) H1) : rDivm [.int x, .int y] H Q :=
  ⟨x, y, rfl, wide_div h hb h0 h9, alloc q⟩
/-- xs.index(x), a list of ints -/
theorem r_index (h : IL K H a ns) (hx : x ∈ ns) (q : Q (.int ((ns.idxOf x : Nat) : Int)) H) : rIndex K (.ref a) [.int x] H Q := by
  have hi := List.idxOf_lt_length_of_mem hx
  refine ⟨a, _, .int x, ns.idxOf x, .int x, rfl, rfl, h, rfl, ?_, ?_, ?_, fun m z' hm hz => ?_, q⟩
  · rw [List.all_eq_true]
    intro v hv
    obtain ⟨n, _, rfl⟩ := List.mem_map.mp hv
    rfl
  · rw [List.getElem?_map, List.getElem?_eq_getElem hi, List.getElem_idxOf]
    rfl
  · show decide (x = x) = true
    exact decide_eq_true rfl
  · rw [List.getElem?_map] at hz
    cases e : ns[m]? with
    | none => rw [e] at hz; cases hz
    | some n =>
      rw [e] at hz
      cases hz
      show decide (n = x) = false
      refine decide_eq_false fun e2 => ?_
      subst e2
      exact absurd (idxOf_le e) (by omega)
/-- x in xs, a list of ints -/
theorem inV_int (x : Int) (ns : List Int) : inV (.int x) (ns.map V.int) = decide (x ∈ ns) := by
  unfold inV
  induction ns with
  | nil => rfl
  | cons n ns ih =>
    rw [List.map_cons, List.any_cons, ih]
    show ((n == x) || decide (x ∈ ns)) = _
    by_cases e : n = x
    · subst e; simp
    · have e2 : ¬ x = n := fun z => e z.symm
      simp [e, e2]
theorem flat_ints (ns : List Int) : (ns.map V.int).all flatV = true := by
  rw [List.all_eq_true]
  intro v hv
  obtain ⟨n, _, rfl⟩ := List.mem_map.mp hv
  rfl
theorem r_inL (h : IL K H a ns) (q : Q (.bl (decide (x ∈ ns))) H) : rIn K false (.int x) (.ref a) H Q :=
  ⟨a, _, rfl, .inl h, rfl, flat_ints ns, by rw [if_neg (by decide), inV_int]; exact q⟩
theorem r_ninL (h : IL K H a ns) (q : Q (.bl (!decide (x ∈ ns))) H) : rIn K true (.int x) (.ref a) H Q :=
  ⟨a, _, rfl, .inl h, rfl, flat_ints ns, by rw [if_pos rfl, inV_int]; exact q⟩
end
/-! ### two clauses -/
def rLc2 (J : It) (g : TG) (tt : TT) (wi1 : TI) (g1 : TG) (tt1 : TT) (te : TE) (vs vs1 : List Nat) (σ : L2.St) (Q : VK) (H1 : Hp) : Prop := ∀ D, H1 D = none → ∃ W : Nat → Nat → Hp → Prop, (∃ m, W 0 m (upd H1 D (.lst []))) ∧ ∀ i m H, W i m H →
  (J.stop i H ∧ Q (.ref D) H) ∨ (J.go i H ∧ ∃ Nx : Hp → Prop, (∀ H', Nx H' → ∃ m', m' < m ∧ W (i + 1) m' H') ∧ ∀ x H', J.yld i H x H' → g x (wipe σ vs) H' fun σ2 H2 => wipe σ2 vs = wipe σ vs ∧ tt σ2 H2 fun b H3 =>
    if b = true then wi1 σ2 H3 fun J1 H4 => ∃ W1 : Nat → Nat → Hp → Prop, (∃ m, W1 0 m H4) ∧ ∀ j k H, W1 j k H →
      (J1.stop j H ∧ Nx H) ∨ (J1.go j H ∧ ∃ Nx1 : Hp → Prop, (∀ H', Nx1 H' → ∃ k', k' < k ∧ W1 (j + 1) k' H') ∧ ∀ x H', J1.yld j H x H' → g1 x (wipe σ2 vs1) H' fun σ3 H5 => wipe σ3 vs1 = wipe σ2 vs1 ∧ tt1 σ3 H5 fun b H6 =>
        if b = true then te σ3 H6 fun y H7 => ∃ acc, H7 D = some (.lst acc) ∧ acc.length < sizeLine ∧ Nx1 (upd H7 D (.lst (acc ++ [y]))) else Nx1 H6)
    else Nx H3)
theorem st_lc2 {wi : TI} {g : TG} {tt : TT} {wi1 : TI} {g1 : TG} {tt1 : TT} {te : TE} {vs vs1 : List Nat} {σ : L2.St} {H : Hp} {Q : VK} (h : wi σ H fun J H1 => rLc2 J g tt wi1 g1 tt1 te vs vs1 σ Q H1) : tLc2 wi g tt wi1 g1 tt1 te vs vs1 σ H Q := h
section
variable {K : PySem.W.Frag} {σ : L2.St} {H : Hp} {Q : VK} {vs vs1 : List Nat} {j j1 m : Nat} {lo : Int} {wi1 : TI} {te : TE}
theorem t_yes {R : Bool → Hp → Prop} (h : R true H) : tYes σ H R := h
def flat (f : Nat → List V) (i : Nat) : List V := (List.range i).flatMap f
theorem flat_succ (f : Nat → List V) (i : Nat) : flat f (i + 1) = flat f i ++ f i := by
  unfold flat
  rw [List.range_succ, List.flatMap_append]
  simp
/-- [e for i in range(..) for x in (.., ..)], the turns change nothing; f i: what is told at the turn i -/
theorem r_lc2R (f : Nat → List V) (hf : ∀ i, i ≤ m → (flat f i).length ≤ 10000) (hk : ∀ i, i < m → (f i).length ≤ 10000) (hw : ∀ x, wipe ((wipe σ vs).set j (some x)) vs = wipe σ vs) (hw1 : ∀ x y, wipe ((wipe ((wipe σ vs).set j (some x)) vs1).set j1 (some y)) vs1 = wipe ((wipe σ vs).set j (some x)) vs1)
    (h1 : ∀ (i : Nat) (H1 : Hp) (R : It → Hp → Prop), i < m → Ex H H1 → (∀ a H2, Ex H1 H2 → SqT K H2 a (f i) → R (Itt K a) H2) → wi1 ((wipe σ vs).set j (some (.int (lo + (i : Int))))) H1 R)
    (he : ∀ (i : Nat) (y : V) (H1 : Hp) (Q' : VK), i < m → y ∈ f i → Ex H H1 → (∀ H2, Ex H1 H2 → Q' y H2) → te ((wipe ((wipe σ vs).set j (some (.int (lo + (i : Int))))) vs1).set j1 (some y)) H1 Q')
    (q : ∀ p H1, H p = none → Ex H H1 → H1 p = some (.lst (flat f m)) → Q (.ref p) H1) : rLc2 (Itr lo m) (gName j) tYes wi1 (gName j1) tYes te vs vs1 σ Q H := fun D hD => by
  refine ⟨fun i d H' => d = m - i ∧ i ≤ m ∧ Ex H H' ∧ H' D = some (.lst (flat f i)), ⟨m, by simp, Nat.zero_le _, Ex.new hD, upd_same⟩, ?_⟩
  rintro i d H' ⟨rfl, hi, e, h⟩
  rcases Nat.lt_or_ge i m with lt | ge
  · refine .inr ⟨lt, fun H'' => Ex H H'' ∧ H'' D = some (.lst (flat f (i + 1))), fun H'' p => ⟨m - (i + 1), by omega, rfl, lt, p⟩, ?_⟩
    rintro x H'' ⟨rfl, rfl⟩
    refine ⟨hw _, t_yes ?_⟩
    dsimp only
    rw [if_pos rfl]
    refine h1 i _ _ lt e fun a H4 e4 ha => ?_
    refine ⟨fun k d H' => d = (f i).length - k ∧ k ≤ (f i).length ∧ Ex H H' ∧ SqT K H' a (f i) ∧ H' D = some (.lst (flat f i ++ (f i).take k)), ⟨(f i).length, by simp, Nat.zero_le _, e.trans e4, ha, by rw [List.take_zero, List.append_nil]; exact e4 _ _ h⟩, ?_⟩
    rintro k d H5 ⟨rfl, hk', e5, ha5, h5⟩
    rcases Nat.lt_or_ge k (f i).length with lt2 | ge2
    · have hx := List.getElem?_eq_getElem lt2
      refine .inr ⟨⟨_, _, ha5, hx⟩, fun H'' => Ex H H'' ∧ SqT K H'' a (f i) ∧ H'' D = some (.lst (flat f i ++ (f i).take (k + 1))), fun H'' p => ⟨(f i).length - (k + 1), by omega, rfl, lt2, p⟩, ?_⟩
      rintro y H6 ⟨rfl, hy⟩
      have hy' := hy _ ha5
      refine ⟨hw1 _ _, t_yes ?_⟩
      dsimp only
      rw [if_pos rfl]
      refine he i y H6 _ lt (List.mem_of_getElem? hy') e5 fun H7 e7 => ?_
      have h7 := e7 _ _ h5
      have z1 := hf i hi
      have z2 := hk i lt
      refine ⟨_, h7, sz_lt (by rw [List.length_append, List.length_take]; omega), Ex.mut (e5.trans e7) hD, ?_, ?_⟩
      · exact tx_t (TX.upd h7) (ex_t e7 ha5)
      · rw [upd_same, take_snoc hy', List.append_assoc]
    · have e2 : k = (f i).length := by omega
      subst e2
      refine .inl ⟨⟨_, ha5, Nat.le_refl _⟩, e5, ?_⟩
      rw [h5, List.take_length, flat_succ]
  · have e2 : i = m := by omega
    subst e2
    exact .inl ⟨Nat.le_refl _, q D H' hD e h⟩
end
/-! ### [e for x in ints if t], the turns change nothing -/
section
variable {K : PySem.W.Frag} {σ : L2.St} {H : Hp} {Q : VK} {a : Addr} {ns : List Int} {vs : List Nat} {j : Nat} {tt : TT} {te : TE}
theorem r_cmIF (hl : IL K H a ns) (f : Int → Bool) (v : Int → V) (hz : ns.length ≤ 10000) (hw : ∀ x, wipe ((wipe σ vs).set j (some x)) vs = wipe σ vs)
    (ht : ∀ x, x ∈ ns → ∀ (H1 : Hp) (R : Bool → Hp → Prop), Ex H H1 → (∀ H2, Ex H1 H2 → R (f x) H2) → tt ((wipe σ vs).set j (some (.int x))) H1 R)
    (he : ∀ x, x ∈ ns → f x = true → ∀ (H1 : Hp) (Q' : VK), Ex H H1 → (∀ H2, Ex H1 H2 → Q' (v x) H2) → te ((wipe σ vs).set j (some (.int x))) H1 Q')
    (q : ∀ p H1, H p = none → Ex H H1 → H1 p = some (.lst ((ns.filter f).map v)) → Q (.ref p) H1) : rLc (Itl K a) (gName j) tt te vs σ Q H := by
  refine r_cmLA (xs := ns.map V.int) (fun i acc H' => Ex H H' ∧ acc = ((ns.take i).filter f).map v) (by rw [List.length_map]; omega) hw (fun i ys H' p => ex_l p.1 hl) (fun D hD o => ⟨Ex.new hD, rfl⟩) (fun i x H1 D acc hx hz' hacc p hall => ?_) fun D H1 ys hD h p _ => ?_
  · obtain ⟨e, rfl⟩ := p
    have hD : H D = none := ex_none fun o => (hall o).1
    rw [List.getElem?_map] at hx
    cases hn : ns[i]? with
    | none => rw [hn] at hx; cases hx
    | some n =>
      rw [hn] at hx
      cases hx
      have hi := (List.getElem?_eq_some_iff.mp hn).1
      have hm := List.mem_of_getElem? hn
      have tk := take_snoc hn
      refine ht n hm H1 _ e fun H2 e2 => ?_
      cases hf : f n with
      | true =>
        refine if_T (he n hm hf H2 _ (e.trans e2) fun H3 e3 => ?_)
        refine cm_yes ((e2.trans e3) _ _ hacc) hz' (by omega) fun o => ⟨ex_put ((e.trans e2).trans e3) hD, ?_⟩
        rw [tk, List.filter_append, List.map_append, List.filter_cons_of_pos hf, List.filter_nil]
        rfl
      | false =>
        refine if_F (cm_no (e2 _ _ hacc) hz' fun o => ⟨ex_put (e.trans e2) hD, ?_⟩)
        rw [tk, List.filter_append, List.map_append, List.filter_cons_of_neg (by rw [hf]; decide), List.filter_nil, List.map_nil, List.append_nil]
  · obtain ⟨e, rfl⟩ := p
    rw [List.length_map, List.take_length] at h
    exact q D H1 hD e h
end
/-- a method of a list -/
theorem r_met {K : PySem.W.Frag} {r : V → List V → Hp → VK → Prop} {t : TA} {σ : L2.St} {a : Addr} {xs : List V} {H : Hp} {Q : VK} (h : SqL K H a xs) (q : t σ H fun us H2 => r (.ref a) us H2 Q) : rApp K "list" r t σ (.ref a) H Q := ⟨.inl ⟨rfl, xs, h⟩, q⟩
/-- draws from up to 2 ^ 220 -/
def spTakeW : Sp := fun vs H Q _ => ∃ w n m, vs = [.ref w, .int m] ∧ 0 < m ∧ m < 2 ^ 220 ∧ Well H w n ∧ n < 2 ^ 30 ∧ ∀ r H', 0 ≤ r → r < m → ExW w H H' → Well H' w (n + 1) → Q (.int r) H'
/-- the last of a sequence, as a sequence -/
theorem cut_last {ns : List Int} : cutV (ns.map V.int) (some (-1)) none = (ns.drop (ns.length - 1)).map V.int := by
  rw [cut_map, HT.sIx_none]
  have e : HT.sIx ns.length 0 (some (-1)) = ns.length - 1 := by
    show (if (-1 : Int) < 0 then ((-1 : Int) + (ns.length : Int)).toNat else min (-1 : Int).toNat ns.length) = ns.length - 1
    rw [if_pos (by decide)]
    omega
  rw [e, List.take_of_length_le (by rw [List.length_drop]; exact Nat.le_refl _)]
/-! ### ranges downward -/
section
variable {σ : L2.St} {H : Hp} {D : Ends} {g : TG} {tb : TS} {ta : TA} {R : It → Hp → Prop} {i j lo c : Int} {m : Nat}
def rRng3 (vs : List V) (R : It → Hp → Prop) (H1 : Hp) : Prop := ∃ (i j c : Int) (n : Nat), vs = [.int i, .int j, .int c] ∧ RgC i j c n ∧ R (Itc i c n) H1
theorem st_rng3 (h : ta σ H fun us H1 => rRng3 us R H1) : iRng3 ta σ H R := h
theorem r_rngD (h : -(2 ^ 62) ≤ i ∧ i < 2 ^ 62 ∧ -(2 ^ 62) ≤ j ∧ j < 2 ^ 62) (q : R (Itc i (-1) (i - j).toNat) H) : rRng3 [.int i, .int j, .int (-1)] R H := ⟨i, j, -1, _, rfl, RgC.neg h.1 h.2.1 h.2.2.1 h.2.2.2, q⟩
theorem r_forC (Pv : Nat → L2.St → Hp → Prop) (h0 : Pv 0 σ H) (hs : ∀ i σ' H', i < m → Pv i σ' H' → g (.int (lo + (i : Nat) * c)) σ' H' fun σ2 H2 => tb { D with nx := Pv (i + 1), ct := Pv (i + 1), bk := D.nx } σ2 H2)
    (hd : ∀ σ' H', Pv m σ' H' → D.nx σ' H') : rFor (Itc lo c m) g tb D σ H := for_rangeC (lo := lo) (c := c) (n := m) Pv h0 hs hd
end
/-! ### the same over a tuple -/
section
variable {K : PySem.W.Frag} {σ : L2.St} {H : Hp} {Q : VK} {a : Addr} {xs : List V} {ns : List Int} {vs : List Nat} {j : Nat} {tt : TT} {te : TE}
theorem r_cmTA (S : Nat → List V → Hp → Prop) (hz : xs.length ≤ 100000) (hw : ∀ x, wipe ((wipe σ vs).set j (some x)) vs = wipe σ vs) (hl : ∀ i ys H', S i ys H' → SqT K H' a xs)
    (h0 : ∀ D, H D = none → ∀ o, S 0 [] (upd H D o))
    (he : ∀ i x H1 D acc, xs[i]? = some x → acc.length ≤ i → H1 D = some (.lst acc) → S i acc H1 → (∀ o, S i acc (upd H1 D o)) →
      tt ((wipe σ vs).set j (some x)) H1 fun b H2 => if b = true then te ((wipe σ vs).set j (some x)) H2 (fun y H3 => CmY S D i y H3) else CmP S D (i + 1) H2)
    (q : ∀ D H1 ys, H D = none → H1 D = some (.lst ys) → S xs.length ys H1 → (∀ o, S xs.length ys (upd H1 D o)) → Q (.ref D) H1) : rLc (Itt K a) (gName j) tt te vs σ Q H := fun D hD => by
  have at1 : ∀ {i : Nat} {ys : List V} {H' : Hp}, (∀ o, S i ys (upd H' D o)) → H' D = some (.lst ys) → S i ys H' := fun {i ys H'} h e => by
    have z := h (.lst ys)
    rw [upd_id e] at z
    exact z
  refine lc_tup (K := K) (a := a) (xs := xs) (fun i H' => CmP S D i H') ⟨[], Nat.le_refl _, fun o => by rw [upd_upd]; exact h0 D hD o, upd_same⟩ (fun i H' _ p => ?_) (fun i x H' hx p => ⟨hw x, ?_⟩) (fun H' p => ?_)
  · obtain ⟨ys, h1, h2, h3⟩ := p
    exact hl i ys H' (at1 h2 h3)
  · obtain ⟨ys, h1, h2, h3⟩ := p
    exact he i x H' D ys hx h1 h3 (at1 h2 h3) h2
  · obtain ⟨ys, h1, h2, h3⟩ := p
    exact q D H' ys hD h3 (at1 h2 h3) h2
theorem r_cmIFt (hl : IT K H a ns) (f : Int → Bool) (v : Int → V) (hz : ns.length ≤ 10000) (hw : ∀ x, wipe ((wipe σ vs).set j (some x)) vs = wipe σ vs)
    (ht : ∀ x, x ∈ ns → ∀ (H1 : Hp) (R : Bool → Hp → Prop), Ex H H1 → (∀ H2, Ex H1 H2 → R (f x) H2) → tt ((wipe σ vs).set j (some (.int x))) H1 R)
    (he : ∀ x, x ∈ ns → f x = true → ∀ (H1 : Hp) (Q' : VK), Ex H H1 → (∀ H2, Ex H1 H2 → Q' (v x) H2) → te ((wipe σ vs).set j (some (.int x))) H1 Q')
    (q : ∀ p H1, H p = none → Ex H H1 → H1 p = some (.lst ((ns.filter f).map v)) → Q (.ref p) H1) : rLc (Itt K a) (gName j) tt te vs σ Q H := by
  refine r_cmTA (xs := ns.map V.int) (fun i acc H' => Ex H H' ∧ acc = ((ns.take i).filter f).map v) (by rw [List.length_map]; omega) hw (fun i ys H' p => ex_t p.1 hl) (fun D hD o => ⟨Ex.new hD, rfl⟩) (fun i x H1 D acc hx hz' hacc p hall => ?_) fun D H1 ys hD h p _ => ?_
  · obtain ⟨e, rfl⟩ := p
    have hD : H D = none := ex_none fun o => (hall o).1
    rw [List.getElem?_map] at hx
    cases hn : ns[i]? with
    | none => rw [hn] at hx; cases hx
    | some n =>
      rw [hn] at hx
      cases hx
      have hi := (List.getElem?_eq_some_iff.mp hn).1
      have hm := List.mem_of_getElem? hn
      have tk := take_snoc hn
      refine ht n hm H1 _ e fun H2 e2 => ?_
      cases hf : f n with
      | true =>
        refine if_T (he n hm hf H2 _ (e.trans e2) fun H3 e3 => ?_)
        refine cm_yes ((e2.trans e3) _ _ hacc) hz' (by omega) fun o => ⟨ex_put ((e.trans e2).trans e3) hD, ?_⟩
        rw [tk, List.filter_append, List.map_append, List.filter_cons_of_pos hf, List.filter_nil]
        rfl
      | false =>
        refine if_F (cm_no (e2 _ _ hacc) hz' fun o => ⟨ex_put (e.trans e2) hD, ?_⟩)
        rw [tk, List.filter_append, List.map_append, List.filter_cons_of_neg (by rw [hf]; decide), List.filter_nil, List.map_nil, List.append_nil]
  · obtain ⟨e, rfl⟩ := p
    rw [List.length_map, List.take_length] at h
    exact q D H1 hD e h
end
theorem at_lastV {xs : List V} {x : V} (h : 0 < xs.length) (hx : xs[xs.length - 1]? = some x) : atI xs (-1) = some x := by
  have e : ixN xs.length (-1) = some (xs.length - 1) := by
    unfold ixN
    rw [if_neg (by decide), if_pos (by omega)]
    congr 1
    omega
  unfold atI
  rw [e]
  exact hx
end L2
namespace L2
open PySem PySem.Spec PyProof.Rows Evl
section
variable {X : Cx} {K : PySem.W.Frag} {σ : L2.St} {H : Hp} {Q : VK} {D : Ends}
/-- str(i), repr(i) -/
def rTxtI : List V → Hp → VK → Prop := fun xs H Q => ∃ i, xs = [.int i] ∧ i.natAbs.log2 < 1920 ∧ Q (.str (toString i)) H
theorem str_I : CallR X (.type "str") rTxtI := call_str_int
theorem repr_I : CallR X (.builtin "repr") rTxtI := SkE.call_repr_int
theorem r_txtI {i : Int} (h : i.natAbs < 2 ^ 1900) (q : Q (.str (toString i)) H) : rTxtI [.int i] H Q := ⟨i, rfl, Nat.lt_of_lt_of_le (PySem.Flt.log2_lt_of (by decide) h) (by decide), q⟩
/-- factorial(i) -/
def rFact : List V → Hp → VK → Prop := fun vs H Q => ∃ a : Int, vs = [.int a] ∧ 0 ≤ a ∧ a ≤ 20000 ∧ Q (.int ((Builtin.Math.factorialNat a.toNat : Nat) : Int)) H
theorem cr_fact : CallR X (.builtin "math.factorial") rFact := by
  intro pins s σ H vs us Q I r h
  obtain ⟨a, rfl, h0, h1, q⟩ := h
  obtain ⟨u, rfl, t, rfl⟩ := vals1 r
  exact PySem.W.mc_factorial h0 h1 fun _ => ⟨.int _, H, I.tok _, ⟨_, rfl⟩, q⟩
/-- x *= i -/
def ipMulW : TIp := fun x y H Q => ∃ i j, x = .int i ∧ y = .int j ∧ CMulW i j ∧ Q (.int (i * j)) H
theorem ip_mulW : PIp X .Mult ipMulW := by
  intro pins s σ H x y v u Q I r1 r2 h
  obtain ⟨i, j, e1, e2, hc, q⟩ := h
  subst e1; subst e2
  obtain ⟨t, rfl⟩ := r1
  obtain ⟨t', rfl⟩ := r2
  exact PySem.AutoIntOps.imul_0 ⟨.int _, H, I.tok _, ⟨_, rfl⟩, q⟩ hc.ok
theorem r_augMul {i : Nat} {x y : Int} (hc : CMulW x y) (h : D.nx (σ.set i (some (.int (x * y)))) H) : rAug i (.int x) ipMulW D σ (.int y) H := ⟨x, y, rfl, rfl, hc, h⟩
theorem st_par3 {i j l : Nat} {t : TA} (h : t σ H fun vs H1 => ∃ u v w, vs = [u, v, w] ∧ D.nx (((σ.set i (some u)).set j (some v)).set l (some w)) H1) : tPar3 i j l t D σ H := h
end
end L2
/-! dicts: what their keys are, and the rules by what is walked -/
namespace L2
open PySem PySem.Spec PyProof.Rows Evl
/-! ### list(d.values()) -/
theorem kv_vals : ∀ {kvs : List (Key × V)} {vs : List (Key × Value)}, KV kvs vs → Paired (fun (x : V) (u : Value) => RelV x u) (kvs.map (·.2)) (vs.map (·.2))
  | _, _, .nil => .nil
  | _, _, .cons h t => .cons h.2 (kv_vals t)
def rValsL : V → Hp → VK → Prop := fun x H Q => ∃ (d : Addr) (kvs : List (Key × V)), x = .ref d ∧ H d = some (.dK kvs) ∧ ∀ p, H p = none → Q (.ref p) (upd H p (.lst (kvs.map (·.2))))
def tListVals (te : TE) : TE := fun σ H Q => te σ H fun x H1 => rValsL x H1 Q
section
variable {X : Cx} {e : Expr} {te : TE} {p apos cpos pos : Pos}
theorem pe_listVals (hc : X.calm = true) (he : PE X e te) (hg : Gl X "list") (hm : X.mg "list" = none) (hv : bootBuiltins "list" = some (.type "list")) (hbase : attributeBase e "values" X.env (eval e X.env) = eval e X.env := by rfl) (hline : (apos.endLine == cpos.line) = true := by rfl)
    (hs : starEach [.Call (.Attribute e "values" apos) [] [] cpos] X.env = (false, eval (.Call (.Attribute e "values" apos) [] [] cpos) X.env) :: starEach [] X.env := by rfl) :
    PE X (.Call (.Name "list" p) [.Call (.Attribute e "values" apos) [] [] cpos] [] pos) (tListVals te) := by
  refine ⟨fun pins s σ H Q I hq => ?_⟩
  refine wpAny_Call_Name_kw (ld_blt I hg hm hv ?_)
  refine PyProof.Rows.callWith_type1 ?_ hs rfl
  rw [hs]
  show wpAny _ _ (spliced ((false, eval (.Call (.Attribute e "values" apos) [] [] cpos) X.env) :: backTo pos (starEach [] X.env))) _ _ s
  refine Calls.spliced_cons ?_
  refine wpAny_Call_method (T := "dict") (id := "dict.values") hbase rfl hline F.plainAttrs_dict F.slot_dict_values F.type_dict_values (thn (he.run pins s σ H _ I hq) fun u s1 ⟨x, H1, I1, rx, d, kvs, ex, hd, q⟩ => ?_)
  subst ex
  obtain rfl : u = Value.ref d := rx
  obtain ⟨hz, hs0, vs, kv, hdo⟩ := I1.hok d _ hd
  obtain ⟨ep, hat⟩ := hdo.dictAt
  have lk : kvs.length = vs.length := Paired.length kv
  have I2 : Inv X pins σ H1 { s1 with heap := s1.heap.push { cls := .type "dict_values", data := .fields #[.ref d] } } := I1.kept (t' := s1.toks) fun b ob q => Heap.get?_push_of_some _ q
  refine ⟨hdo.typeIs, hdo.mapOf.noDict, ?_⟩
  show wpAny _ _ (callWith cpos (.builtin "dict.values") [.ref d] [] []) _ X.xe s1
  refine method_meetsIn F.slot_dict_values F.entry_dict_values rfl (PySem.evalArgs_none ⟨rfl, hdo.typeIs, F.args_dict_values_1 _, _, meets_dict_values (mixKind X.prog X.w) d hs0, ⟨vs, hdo⟩, ?_⟩)
  refine Calls.spliced_nil ?_
  refine PySem.W.kdl_call (PySem.W.kdl_values (knd := mixKind X.prog X.w) (kvs := vs) (ep := ep) (d := d)) (I1.ok.hd hc) ⟨⟨_, Heap.get?_push_size _ rfl, rfl, rfl⟩, hat.push _⟩ (by rw [← lk]; exact hz) fun h' tk acc c hk hS hacc => ?_
  refine ⟨.ref _, _, I2.laid hk (Nat.le_refl _) (show ObjOk X.prog X.w _ _ _ (.lst (kvs.map (·.2))) from ⟨?_, acc.toList, c, ?_, ?_⟩), rfl, q _ (I2.hok.fresh (Nat.le_refl _))⟩
  · rw [List.length_map]; exact hz
  · have el : acc.toList.length = acc.size := by simp
    have kp := kv_vals kv
    refine vals_of_at (by rw [List.length_map, el, hacc.1, lk]) fun j x w h1 h2 => ?_
    obtain ⟨k, hi⟩ := hacc.2 j w (by rw [← Array.getElem?_toList]; exact h2)
    obtain ⟨y, hy, ry⟩ := LiI.paired_get kp h1
    rw [List.getElem?_map, hi] at hy
    cases hy
    exact ry
  · rw [Array.toArray_toList]; exact hS
end
/-! ### dicts with numbers for keys, in their sequence -/
def dm (l : List Int) (f : Int → V) : List (Key × V) := l.map fun s => (Sum.inl s, f s)
theorem dm_len (l : List Int) (f : Int → V) : (dm l f).length = l.length := by unfold dm; rw [List.length_map]
theorem dm_vals (l : List Int) (f : Int → V) : (dm l f).map (·.2) = l.map f := by unfold dm; rw [List.map_map]; rfl
theorem valV_dm {f : Int → V} : ∀ {l : List Int} {x : Int}, x ∈ l → valV (dm l f) (Sum.inl x) = some (f x)
  | y :: l, x, h => by
    show valV ((Sum.inl y, f y) :: dm l f) (Sum.inl x) = _
    by_cases e : y = x
    · subst e
      exact valV_pos rfl
    · rw [valV_neg (fun z => e (Sum.inl.inj z))]
      rcases List.mem_cons.mp h with h | h
      · exact absurd h.symm e
      · exact valV_dm h
theorem valV_dm_no {f : Int → V} : ∀ {l : List Int} {x : Int}, x ∉ l → valV (dm l f) (Sum.inl x) = none
  | [], _, _ => rfl
  | y :: l, x, h => by
    show valV ((Sum.inl y, f y) :: dm l f) (Sum.inl x) = _
    rw [valV_neg (fun z => h (by rw [Sum.inl.inj z]; exact List.mem_cons_self))]
    exact valV_dm_no fun z => h (List.mem_cons_of_mem _ z)
theorem putK_dm {f : Int → V} {l : List Int} {x : Int} (h : x ∈ l) (y : V) : putK (dm l f) (Sum.inl x) y = dm l fun s => if s = x then y else f s := by
  have e : ((dm l f).any fun kv => decide (kv.1 = Sum.inl x)) = true := by rw [valV_any, valV_dm h]; rfl
  unfold putK
  rw [if_pos e]
  unfold dm
  rw [List.map_map]
  refine List.map_congr_left fun s _ => ?_
  show (if (Sum.inl s : Key) = Sum.inl x then ((Sum.inl s : Key), y) else (Sum.inl s, f s)) = _
  by_cases e2 : s = x
  · rw [if_pos (by rw [e2])]
    show _ = (Sum.inl s, if s = x then y else f s)
    rw [if_pos e2]
  · rw [if_neg (fun z => e2 (Sum.inl.inj z))]
    show _ = (Sum.inl s, if s = x then y else f s)
    rw [if_neg e2]
theorem putK_dm_new {f : Int → V} {l : List Int} {x : Int} (h : x ∉ l) (y : V) : putK (dm l f) (Sum.inl x) y = dm l f ++ [(Sum.inl x, y)] := putK_new y (valV_dm_no h)
theorem dm_snoc (f : Int → V) (l : List Int) (x : Int) : dm (l ++ [x]) f = dm l f ++ [(Sum.inl x, f x)] := by unfold dm; rw [List.map_append]; rfl
def rDc (J : It) (g : TG) (tt : TT) (tk tv : TE) (vs : List Nat) (σ : L2.St) (Q : VK) (H1 : Hp) : Prop := ∀ D, H1 D = none → ∃ W : Nat → Nat → Hp → Prop, (∃ m, W 0 m (upd H1 D (.dK []))) ∧ ∀ i m H, W i m H →
  (J.stop i H ∧ Q (.ref D) H) ∨ (J.go i H ∧ ∃ Nx : Hp → Prop, (∀ H', Nx H' → ∃ m', m' < m ∧ W (i + 1) m' H') ∧ ∀ x H', J.yld i H x H' → g x (wipe σ vs) H' fun σ2 H2 => wipe σ2 vs = wipe σ vs ∧ tt σ2 H2 fun b H3 =>
    if b = true then tk σ2 H3 fun y H4 => tv σ2 H4 fun z H5 => ∃ kvs k, y = kV k ∧ H5 D = some (.dK kvs) ∧ kvs.length < sizeLine ∧ Nx (upd H5 D (.dK (putK kvs k z))) else Nx H3)
def rKeys (x : V) (R : It → Hp → Prop) (H1 : Hp) : Prop := ∃ d o, x = .ref d ∧ ((∃ kvs, H1 d = some (.frz o (.dK kvs)) ∧ R (Itk d o kvs) H1) ∨ ∃ kvs, H1 d = some (.frz o (.dT kvs)) ∧ R (Itkt d o kvs) H1)
def rLockE (t : TE) (σ : L2.St) (H : Hp) (Q : VK) : Prop := tLockE t σ H Q
def rDGet (x y : V) (H2 : Hp) (Q : VK) : Prop := ∃ a v, x = .ref a ∧ DGet H2 a y (some v) ∧ Q v H2
def rDIn (neg : Bool) (x y : V) (H2 : Hp) (Q : VK) : Prop := ∃ a o, x = .ref a ∧ DGet H2 a y o ∧ Q (.bl (if neg then !o.isSome else o.isSome)) H2
def rDPut (x y v : V) (H3 : Hp) (R : Hp → Prop) : Prop := ∃ a H4, x = .ref a ∧ DPut H3 a y v H4 ∧ R H4
def rNewD (H : Hp) (Q : VK) : Prop := ∀ p, H p = none → Q (.ref p) (upd H p (.dK []))
section
variable {K : PySem.W.Frag} {σ : L2.St} {H : Hp} {Q : VK} {D : Ends} {g : TG} {tt : TT} {wi : TI} {td ty tv tk : TE} {vs : List Nat} {a d : Addr} {j : Nat} {R : It → Hp → Prop} {ns l : List Int} {f : Int → V} {x : Int} {kvs : List (Key × V)}
theorem st_lvals (h : td σ H fun x H1 => rValsL x H1 Q) : tListVals td σ H Q := h
theorem r_lvals (h : H d = some (.dK kvs)) (q : ∀ p H1, H p = none → Ex H H1 → H1 p = some (.lst (kvs.map (·.2))) → Q (.ref p) H1) : rValsL (.ref d) H Q := ⟨d, kvs, rfl, h, alloc q⟩
theorem st_dc (h : wi σ H fun J H1 => rDc J g tt tk tv vs σ Q H1) : tDc wi g tt tk tv vs σ H Q := h
theorem st_keys (h : td σ H fun x H1 => rKeys x R H1) : iKeys td σ H R := h
theorem st_dget (h : td σ H fun x H1 => ty σ H1 fun y H2 => rDGet x y H2 Q) : tDGet td ty σ H Q := h
theorem st_din (h : ty σ H fun y H1 => td σ H1 fun x H2 => rDIn false x y H2 Q) : tDIn ty td σ H Q := h
theorem st_dnin (h : ty σ H fun y H1 => td σ H1 fun x H2 => rDIn true x y H2 Q) : tDNotIn ty td σ H Q := h
theorem st_dput (h : tv σ H fun v H1 => td σ H1 fun x H2 => ty σ H2 fun y H3 => rDPut x y v H3 fun H4 => D.nx σ H4) : sDPut td ty tv D σ H := h
theorem st_dnew (h : rNewD H Q) : tDNewK σ H Q := h
theorem r_dnew (q : ∀ p H1, H p = none → Ex H H1 → H1 p = some (.dK []) → Q (.ref p) H1) : rNewD H Q := alloc q
theorem r_dget {v : V} (h : Rd H d (.dK kvs)) (e : valV kvs (Sum.inl x) = some v) (q : Q v H) : rDGet (.ref d) (.int x) H Q := ⟨d, v, rfl, .inl ⟨kvs, Sum.inl x, h, rfl, e.symm⟩, q⟩
theorem r_dput {v : V} {R : Hp → Prop} (h : H d = some (.dK kvs)) (hz : kvs.length < 100000) (q : ∀ H1, ExW d H H1 → H1 d = some (.dK (putK kvs (Sum.inl x) v)) → R H1) : rDPut (.ref d) (.int x) v H R :=
  ⟨d, _, rfl, DPut.k (k := Sum.inl x) h (sz_lt hz), q _ ExW.upd upd_same⟩
/-- {x: e for x in ints} -/
theorem r_dcL (hl : IL K H a ns) (hn : ns.Nodup) (f : Int → V) (hz : ns.length ≤ 10000) (hw : ∀ x, wipe ((wipe σ vs).set j (some x)) vs = wipe σ vs) (hj : ∀ x, ((wipe σ vs).set j (some x))[j]? = some (some x))
    (he : ∀ x, x ∈ ns → ∀ (H1 : Hp) (Q' : VK), Ex H H1 → (∀ H2, Ex H1 H2 → Q' (f x) H2) → tv ((wipe σ vs).set j (some (.int x))) H1 Q')
    (q : ∀ p H1, H p = none → Ex H H1 → H1 p = some (.dK (dm ns f)) → Q (.ref p) H1) : rDc (Itl K a) (gName j) tYes (tVar j) tv vs σ Q H := fun D hD => by
  refine ⟨fun i d H' => d = ns.length - i ∧ i ≤ ns.length ∧ Ex H H' ∧ H' D = some (.dK (dm (ns.take i) f)), ⟨ns.length, by simp, Nat.zero_le _, Ex.new hD, upd_same⟩, ?_⟩
  rintro i d H' ⟨rfl, hi, e, h⟩
  rcases Nat.lt_or_ge i ns.length with lt | ge
  · have hx := List.getElem?_eq_getElem lt
    have hl' := ex_l e hl
    refine .inr ⟨⟨_, _, hl', by rw [List.getElem?_map, hx]; rfl⟩, fun H'' => Ex H H'' ∧ H'' D = some (.dK (dm (ns.take (i + 1)) f)), fun H'' p => ⟨ns.length - (i + 1), by omega, rfl, lt, p⟩, ?_⟩
    rintro y H6 ⟨rfl, hy⟩
    have hy' := hy _ hl'
    rw [List.getElem?_map, hx] at hy'
    cases hy'
    refine ⟨hw _, t_yes ?_⟩
    dsimp only
    rw [if_pos rfl]
    refine ⟨_, hj _, ?_⟩
    refine he _ (List.mem_of_getElem? hx) H6 _ e fun H7 e7 => ?_
    have h7 := e7 _ _ h
    refine ⟨_, Sum.inl ns[i], rfl, h7, sz_lt (by rw [dm_len, List.length_take]; omega), Ex.mut (e.trans e7) hD, ?_⟩
    have nin : ns[i] ∉ ns.take i := fun hm => by
      obtain ⟨k, hk⟩ := List.mem_iff_getElem?.mp hm
      have hki := (List.getElem?_eq_some_iff.mp hk).1
      rw [List.length_take] at hki
      rw [List.getElem?_take_of_lt (by omega)] at hk
      have := (List.getElem?_inj (by omega) hn).mp (hk.trans hx.symm)
      omega
    rw [upd_same, putK_dm_new nin, take_snoc hx, dm_snoc]
  · have e2 : i = ns.length := by omega
    subst e2
    refine .inl ⟨⟨_, ex_l e hl, by rw [List.length_map]; exact Nat.le_refl _⟩, ?_⟩
    rw [List.take_length] at h
    exact q D H' hD e h
/-- {x: e for x in d}, d a dict -/
theorem r_dcD {i0 : Nat} {f0 : Int → V} (hv : σ[i0]? = some (some (.ref d))) (hd : H d = some (.dK (dm ns f0))) (hn : ns.Nodup) (f : Int → V) (hz : ns.length ≤ 10000) (hw : ∀ x, wipe ((wipe σ vs).set j (some x)) vs = wipe σ vs) (hj : ∀ x, ((wipe σ vs).set j (some x))[j]? = some (some x))
    (he : ∀ x, x ∈ ns → ∀ (H1 : Hp) (Q' : VK), ExW d H H1 → Rd H1 d (.dK (dm ns f0)) → (∀ H2, Ex H1 H2 → Q' (f x) H2) → tv ((wipe σ vs).set j (some (.int x))) H1 Q')
    (q : ∀ p H1, H p = none → Ex H H1 → H1 p = some (.dK (dm ns f)) → Q (.ref p) H1) : tLockE (tDc (iKeys (tVar i0)) (gName j) tYes (tVar j) tv vs) σ H Q := by
  refine ⟨d, _, hd, trivial, fun od => ?_⟩
  refine ⟨_, hv, d, od, rfl, .inl ⟨dm ns f0, upd_same, fun D hD => ?_⟩⟩
  have hDd : D ≠ d := fun e => by rw [e, upd_same] at hD; cases hD
  have hD0 : H D = none := by rw [upd_ne hDd] at hD; exact hD
  have fr : (upd H d (.frz od (.dK (dm ns f0)))) d = some (.frz od (.dK (dm ns f0))) := upd_same
  have wx : ExW d H (upd H d (.frz od (.dK (dm ns f0)))) := ExW.upd
  generalize upd H d (.frz od (.dK (dm ns f0))) = H0 at hD fr wx
  refine ⟨fun i m H' => m = ns.length - i ∧ i ≤ ns.length ∧ Ex H0 H' ∧ H' D = some (.dK (dm (ns.take i) f)), ⟨ns.length, by simp, Nat.zero_le _, Ex.new hD, upd_same⟩, ?_⟩
  rintro i m H' ⟨rfl, hi, e, h⟩
  have fr' := e _ _ fr
  rcases Nat.lt_or_ge i ns.length with lt | ge
  · have hx := List.getElem?_eq_getElem lt
    refine .inr ⟨⟨fr', by rw [dm_len]; exact lt⟩, fun H'' => Ex H0 H'' ∧ H'' D = some (.dK (dm (ns.take (i + 1)) f)), fun H'' p => ⟨ns.length - (i + 1), by omega, rfl, lt, p⟩, ?_⟩
    rintro y H6 ⟨rfl, k, v, hy, rfl⟩
    unfold dm at hy
    rw [List.getElem?_map, hx] at hy
    cases hy
    refine ⟨hw _, t_yes ?_⟩
    dsimp only
    rw [if_pos rfl]
    refine ⟨_, hj _, ?_⟩
    refine he _ (List.mem_of_getElem? hx) H6 _ (wx.trans (.of e)) (.inr ⟨od, fr'⟩) fun H7 e7 => ?_
    have h7 := e7 _ _ h
    refine ⟨_, Sum.inl ns[i], rfl, h7, sz_lt (by rw [dm_len, List.length_take]; omega), Ex.mut (e.trans e7) hD, ?_⟩
    have nin : ns[i] ∉ ns.take i := fun hm => by
      obtain ⟨k, hk⟩ := List.mem_iff_getElem?.mp hm
      have hki := (List.getElem?_eq_some_iff.mp hk).1
      rw [List.length_take] at hki
      rw [List.getElem?_take_of_lt (by omega)] at hk
      have := (List.getElem?_inj (by omega) hn).mp (hk.trans hx.symm)
      omega
    rw [upd_same, putK_dm_new nin, take_snoc hx, dm_snoc]
  · have e2 : i = ns.length := by omega
    subst e2
    refine .inl ⟨⟨fr', by rw [dm_len]; exact Nat.le_refl _⟩, fr', ?_⟩
    rw [List.take_length] at h
    refine q D _ hD0 (fun b o hb => ?_) (by rw [upd_ne hDd]; exact h)
    by_cases eb : b = d
    · subst eb
      rw [upd_same, ← hb, hd]
    · rw [upd_ne eb]
      exact e _ _ (wx b o hb eb)
end
/-! ### < of tuples (number, tuple of ints) -/
def rLtP (K : PySem.W.Frag) : R2 := fun x y H Q => ∃ (a b p q : Addr) (i j : Int) (ns ms : List Int), x = .ref a ∧ y = .ref b ∧ SqT K H a [.int i, .ref p] ∧ SqT K H b [.int j, .ref q] ∧ IT K H p ns ∧ IT K H q ms ∧ Q (.bl (if i = j then (if ns = ms then false else HT.lexLt ns ms) else decide (i < j))) H
theorem op_ltP {X : Cx} (K : PySem.W.Frag) (hu : X.A.units + 64 < cLine) (hK : X.K = K := by rfl) : OpR X (compareOp .Lt) (rLtP K) := by
  cases hK
  intro pins s σ H x y v u Q I rx ry h
  obtain ⟨a, b, p, q, i, j, ns, ms, rfl, rfl, ha, hb, hp, hq, hQ⟩ := h
  cases rx
  cases ry
  obtain ⟨its, r1, p1, _⟩ := I.tuple ha
  obtain ⟨its2, r2, p2, _⟩ := I.tuple hb
  obtain ⟨t, rfl⟩ : ∃ t, its = [.int i t, .ref p] := by
    cases r1 with
    | cons h1 r1 =>
      cases r1 with
      | cons h2 r1 =>
        cases r1
        obtain ⟨t, rfl⟩ := h1
        cases h2
        exact ⟨t, rfl⟩
  obtain ⟨t2, rfl⟩ : ∃ t, its2 = [.int j t, .ref q] := by
    cases r2 with
    | cons h1 r2 =>
      cases r2 with
      | cons h2 r2 =>
        cases r2
        obtain ⟨t, rfl⟩ := h1
        cases h2
        exact ⟨t, rfl⟩
  obtain ⟨us, s1, q1, _⟩ := I.tuple hp
  obtain ⟨us2, s2, q2, _⟩ := I.tuple hq
  have i1 : IntsAre us.toArray.toList ns := intsAre_of s1
  have i2 : IntsAre us2.toArray.toList ms := intsAre_of s2
  obtain ⟨as, d1⟩ := Dp.reads I _ _ _ (dp_t hp) (rfl : RelV (.ref p) (.ref p))
  obtain ⟨bs, d2⟩ := Dp.reads I _ _ _ (dp_t hq) (rfl : RelV (.ref q) (.ref q))
  have hu0 : X.A.units < cLine := Nat.lt_of_le_of_lt (Nat.le_add_right _ _) hu
  have hin : X.A.in1.units + 60 < cLine := by
    have e : X.A.in1.units ≤ X.A.units + 4 := by show X.A.units + _ ≤ _; simp
    omega
  have beq : (i == j) = decide (i = j) := by
    by_cases z : i = j
    · rw [decide_eq_true z]; exact beq_iff_eq.mpr z
    · rw [decide_eq_false z]; exact beq_eq_false_iff_ne.mpr z
  have R := Ob.RcOp.tuples_lt (A := X.A) (s := s) (e := fun k => if k = 0 then decide (i = j) else decide (ns = ms)) (r := fun k => if k = 0 then decide (i < j) else HT.lexLt ns ms) p1 p2 hu0 (fun k h1 h2 => by
    match k, h1, h2 with
    | 0, _, _ =>
      show SeqAt.EqAt _ _ (.int i t) (.int j t2) (decide (i = j))
      rw [← beq]
      exact SeqAt.EqAt.int_int _ _ _ _
    | 1, _, _ =>
      show SeqAt.EqAt _ _ (.ref p) (.ref q) (decide (ns = ms))
      rw [← eqv_tints]
      exact SeqAt.eqAt_reads _ _ _ _ _ _ _ _ d1 d2 (by rw [PyData.canLay0, canLay_ints]) (by rw [PyData.canLay0, canLay_ints]) (by rw [PyData.depth, depth_ints, PyData.depth, depth_ints]; simp; omega)
    | k + 2, h1, _ => exact absurd h1 (by simp)) (fun k h1 h2 _ => by
    match k, h1, h2 with
    | 0, _, _ => exact Ob.RcOp.lt_int _ _ _ _
    | 1, _, _ => exact fun prog w E Q h => HT.lt_tupInts q1 q2 i1 i2 (by omega) h
    | k + 2, h1, _ => exact absurd h1 (by simp))
  have z : wpAny (model X.prog X.w) X.A (compareOp .Lt (.ref a) (.ref b)) (EP X pins σ Q) X.xe s := by
    refine R X.prog X.w X.xe (EP X pins σ Q) ⟨.bl _, H, I, rfl, ?_⟩
    have e : Ob.lexAt (fun k => if k = 0 then decide (i = j) else decide (ns = ms)) (fun k => if k = 0 then decide (i < j) else HT.lexLt ns ms) (decide (([Value.int i t, Value.ref p] : List Value).toArray.size < ([Value.int j t2, Value.ref q] : List Value).toArray.size)) 0 (min ([Value.int i t, Value.ref p] : List Value).toArray.size ([Value.int j t2, Value.ref q] : List Value).toArray.size) = (if i = j then (if ns = ms then false else HT.lexLt ns ms) else decide (i < j)) := by
      show Ob.lexAt _ _ _ 0 2 = _
      rw [Ob.lexAt_succ, Ob.lexAt_succ, Ob.lexAt_zero]
      by_cases z1 : i = j <;> by_cases z2 : ns = ms <;> simp [z1, z2]
    rw [e]
    exact hQ
  exact z
theorem r_ltP {K : PySem.W.Frag} {H : Hp} {Q : VK} {a b p q : Addr} {i j : Int} {ns ms : List Int} (ha : SqT K H a [.int i, .ref p]) (hb : SqT K H b [.int j, .ref q]) (hp : IT K H p ns) (hq : IT K H q ms)
    (k : Q (.bl (if i = j then (if ns = ms then false else HT.lexLt ns ms) else decide (i < j))) H) : rLtP K (.ref a) (.ref b) H Q := ⟨a, b, p, q, i, j, ns, ms, rfl, rfl, ha, hb, hp, hq, k⟩
theorem r_neB {K : PySem.W.Frag} {H : Hp} {Q : VK} {x y : Bool} (q : Q (.bl (!decide (x = y))) H) : rNeU K (.bl x) (.bl y) H Q := .inl ⟨rfl, by
  have e : decide ((V.bl x) = V.bl y) = decide (x = y) := by simp
  rw [e]
  exact q⟩
end L2
namespace L2
open PySem PySem.Spec PyProof.Rows Evl
/-! ### enumerate(xs, start=k) -/
section
variable {M : Model} {A : Around} {E : Value → Shared → Prop} {s : Shared} {env : Env}
theorem callWith_type_kwB {pos : Pos} {T : String} {first : List Value} {args : List (Bool × Sem Value)} {keywords : List (Option Str × Sem Value)} {Q : Value → Shared → Prop}
    (hplain : args.any (·.1) = false) (hkw : keywords.any (·.1.isNone) = false)
    (h : wpAny M A (evalArgs (.type T) true args keywords) (fun a s₁ => wpAny M A (call (.type T) (first ++ a.pos) a.kw) Q E s₁) E s) :
    wpAny M A (callWith pos (.type T) first args keywords) Q E s := by
  unfold callWith
  refine wpAny_bind (wpAny_holding (wpAny_mono h (fun a s₁ h₁ => wpAny_bind (wpAny_standAt ?_)) fun _ _ x => x))
  simp only [hplain, hkw, Bool.or_false]
  refine wpAny_bind (wpAny_pure ?_)
  exact wpAny_bind (wpAny_mono h₁ (fun r s₂ hr => wpAny_bind (wpAny_holding (wpAny_point (wpAny_pure hr)))) fun _ _ x => x)
theorem callWith_typeKw {pos : Pos} {T : String} {e : Expr} {rest : List Expr} {kws : List Keyword} {Q : Value → Shared → Prop}
    (h : wpAny M A (spliced (backTo pos (starEach (e :: rest) env))) (fun vs s₁ => wpAny M A (evalAll ((backToKw pos (keywordEach kws env)).map (·.2)))
      (fun kvs s₂ => wpAny M A (call (.type T) vs (((backToKw pos (keywordEach kws env)).filterMap (·.1)).zip kvs)) Q E s₂) E s₁) E s)
    (he : backTo pos (starEach (e :: rest) env) = (false, eval e env) :: backTo pos (starEach rest env) := by rfl)
    (hplain : (backTo pos (starEach (e :: rest) env)).any (·.1) = false := by rfl)
    (hall : (backToKw pos (keywordEach kws env)).all (·.1.isSome) = true := by rfl)
    (hkw : (backToKw pos (keywordEach kws env)).any (·.1.isNone) = false := by rfl) :
    wpAny M A (callWith pos (.type T) [] (backTo pos (starEach (e :: rest) env)) (backToKw pos (keywordEach kws env))) Q E s := by
  refine callWith_type_kwB hplain hkw ?_
  rw [he] at h ⊢
  exact evalArgs_kwB hall h
end
def iEnumS (k : SK) (K : PySem.W.Frag) (ta : TA) (te : TE) : TI := fun σ H R => ta σ H fun vs H1 => te σ H1 fun y H2 => ∃ a xs k0, vs = [.ref a] ∧ y = .int k0 ∧ -(2 ^ 62) ≤ k0 ∧ k0 < 2 ^ 62 ∧ k.Sq K H2 a xs ∧ R (ItE k K k0 a) H2
theorem pi_enumS {X : Cx} (K : PySem.W.Frag) (k : SK) {e e2 : Expr} {ta : TA} {te : TE} {p pos tpos kp : Pos} {elts : List Expr} {kk : Nat} (hg : Gl X "enumerate") (hm : X.mg "enumerate" = none) (ha : PA X [e] ta) (he2 : PE X e2 te)
    (he : backTo pos (starEach [e] X.env) = (false, eval e X.env) :: backTo pos (starEach [] X.env) := by rfl)
    (hplain : (backTo pos (starEach [e] X.env)).any (·.1) = false := by rfl)
    (hall : (backToKw pos (keywordEach [⟨some "start", e2, kp⟩] X.env)).all (·.1.isSome) = true := by rfl)
    (hkw : (backToKw pos (keywordEach [⟨some "start", e2, kp⟩] X.env)).any (·.1.isNone) = false := by rfl)
    (hnm : (backToKw pos (keywordEach [⟨some "start", e2, kp⟩] X.env)).filterMap (·.1) = [Str.ofString "start"] := by rfl)
    (h : X.K = K := by rfl) :
    PI X (.Tuple elts kk tpos) (.Call (.Name "enumerate" p) [e] [⟨some "start", e2, kp⟩] pos) (iEnumS k K ta te) := by
  cases h
  constructor
  intro pins s σ H R I h
  refine wpAny_Call_Name_kw (ld_blt I hg hm boot_enumerate ?_)
  refine callWith_typeKw (thn (ha.run pos pins s σ H _ I h) fun us s1 got => ?_) he hplain hall hkw
  obtain ⟨vs, H1, J, r, q1⟩ := got
  refine kws_cons (thn (he2.run pins s1 σ H1 _ J q1) fun v2 s2 got2 => ?_)
  obtain ⟨y, H2, J2, ry, a, xs, k0, ex, ey, hk0, hk1, hq, q⟩ := got2
  subst ex ey
  obtain ⟨u, rfl, ru⟩ : ∃ u, us = [u] ∧ u = Value.ref a := by
    cases r with
    | cons r0 rr =>
      cases rr
      exact ⟨_, rfl, r0⟩
  subst ru
  obtain ⟨t0, rfl⟩ := ry
  refine kws_nil ?_
  rw [hnm]
  obtain ⟨its, rv, p'⟩ := k.seen J2 hq
  have al := k.lt p'
  refine enum_begins_start (k.begins a its.toArray) p' (by omega) (by omega) fun h' he hi _ hk => wpAny_pyIter_enum he ?_
  refine ⟨s2.heap.objs.size + 1, [s2.heap.objs.size + 1, s2.heap.objs.size], _, _, H2, rfl, J2.kept (t' := s2.toks) hk, turn_enumE k k0 a (s2.heap.objs.size + 1) s2.heap.objs.size,
    ⟨⟨.none, by rw [show k0 + ((0 : Nat) : Int) = k0 by omega]; exact he⟩, k.it0 hi, Nat.succ_ne_self _, Nat.ne_of_lt al, Nat.ne_of_gt (Nat.lt_succ_of_lt al)⟩, fun b hb => ?_, q⟩
  have hle : s2.heap.objs.size ≤ b := by
    rcases List.mem_cons.mp hb with z | hb
    · exact z ▸ Nat.le_succ _
    · exact (List.mem_singleton.mp hb) ▸ Nat.le_refl _
  exact J2.fpOk hle (J2.hok.fresh hle)
def rEnumS (k : SK) (K : PySem.W.Frag) (te : TE) (σ : L2.St) (vs : List V) (R : It → Hp → Prop) (H1 : Hp) : Prop := te σ H1 fun y H2 => ∃ a xs k0, vs = [.ref a] ∧ y = .int k0 ∧ -(2 ^ 62) ≤ k0 ∧ k0 < 2 ^ 62 ∧ k.Sq K H2 a xs ∧ R (ItE k K k0 a) H2
theorem st_enumS {k : SK} {K : PySem.W.Frag} {ta : TA} {te : TE} {σ : L2.St} {H : Hp} {R : It → Hp → Prop} (h : ta σ H fun vs H1 => rEnumS k K te σ vs R H1) : iEnumS k K ta te σ H R := h
theorem r_enumS {k : SK} {K : PySem.W.Frag} {σ : L2.St} {H : Hp} {R : It → Hp → Prop} {a : Addr} {xs : List V} {i : Int} (h0 : -(2 ^ 62) ≤ i) (h1 : i < 2 ^ 62) (h : k.Sq K H a xs) (q : R (ItE k K i a) H) : rEnumS k K (tC (.int i)) σ [.ref a] R H :=
  ⟨a, xs, i, rfl, rfl, h0, h1, h, q⟩
/-! ### dicts as functions of numbers -/
def DI (kvs : List (Key × V)) (f : Int → Option V) : Prop := ∃ l : List Int, l.Nodup ∧ (∀ x, x ∈ l ↔ (f x).isSome = true) ∧ kvs = dm l fun x => (f x).getD .non
theorem DI.nil : DI [] fun _ => none := ⟨[], List.nodup_nil, fun x => by simp, rfl⟩
theorem DI.get {kvs : List (Key × V)} {f : Int → Option V} (h : DI kvs f) (x : Int) : valV kvs (Sum.inl x) = f x := by
  obtain ⟨l, hn, hm, rfl⟩ := h
  by_cases e : x ∈ l
  · rw [valV_dm e]
    have := (hm x).mp e
    cases hf : f x with
    | none => rw [hf] at this; cases this
    | some v => rfl
  · rw [valV_dm_no e]
    cases hf : f x with
    | none => rfl
    | some v => exact absurd ((hm x).mpr (by rw [hf]; rfl)) e
theorem dm_congr {l : List Int} {f g : Int → V} (h : ∀ x ∈ l, f x = g x) : dm l f = dm l g := List.map_congr_left fun x hx => by rw [h x hx]
theorem DI.put {kvs : List (Key × V)} {f : Int → Option V} (h : DI kvs f) (x : Int) (v : V) : DI (putK kvs (Sum.inl x) v) fun t => if t = x then some v else f t := by
  obtain ⟨l, hn, hm, rfl⟩ := h
  by_cases e : x ∈ l
  · refine ⟨l, hn, fun t => ?_, ?_⟩
    · by_cases et : t = x
      · subst et
        simp [e]
      · simp only [if_neg et]
        exact hm t
    · rw [putK_dm e]
      refine dm_congr fun t _ => ?_
      show (if t = x then v else (f t).getD .non) = (if t = x then some v else f t).getD .non
      split <;> rfl
  · refine ⟨l ++ [x], ?_, fun t => ?_, ?_⟩
    · rw [List.nodup_append]
      refine ⟨hn, by simp, fun a ha b hb => ?_⟩
      rw [List.mem_singleton.mp hb]
      exact fun z => e (by rw [← z]; exact ha)
    · rw [List.mem_append, List.mem_singleton]
      by_cases et : t = x
      · subst et
        simp
      · simp only [if_neg et]
        exact ⟨fun z => (hm t).mp (z.resolve_right et), fun z => .inl ((hm t).mpr z)⟩
    · rw [putK_dm_new e, dm_snoc]
      congr 1
      · refine dm_congr fun t ht => ?_
        show (f t).getD .non = (if t = x then some v else f t).getD .non
        rw [if_neg fun z => e (by rw [← z]; exact ht)]
      · simp
theorem DI.drop {kvs : List (Key × V)} {f : Int → Option V} (h : DI kvs f) (x : Int) : DI (dropK kvs (Sum.inl x)) fun t => if t = x then none else f t := by
  obtain ⟨l, hn, hm, rfl⟩ := h
  refine ⟨l.filter fun t => decide (t ≠ x), hn.filter _, fun t => ?_, ?_⟩
  · rw [List.mem_filter]
    by_cases et : t = x
    · simp [et]
    · simp only [if_neg et, decide_eq_true et, and_true]
      exact hm t
  · unfold dropK dm
    rw [List.filter_map]
    have e : (l.filter ((fun kv : Key × V => decide (kv.1 ≠ Sum.inl x)) ∘ fun s => ((Sum.inl s : Key), (f s).getD .non))) = l.filter fun t => decide (t ≠ x) := by
      refine List.filter_congr fun t _ => ?_
      show decide ((Sum.inl t : Key) ≠ Sum.inl x) = decide (t ≠ x)
      congr 1
      exact propext ⟨fun h z => h (by rw [z]), fun h z => h (Sum.inl.inj z)⟩
    rw [e]
    refine List.map_congr_left fun t ht => ?_
    have := of_decide_eq_true (List.mem_filter.mp ht).2
    simp only [if_neg this]
theorem DI.congr {kvs : List (Key × V)} {f g : Int → Option V} (h : DI kvs f) (e : ∀ x, f x = g x) : DI kvs g := by
  have : f = g := funext e
  rw [← this]
  exact h
/-- the keys, by what else tells them -/
theorem perm_of {l m : List Int} (hl : l.Nodup) (hm : m.Nodup) (h : ∀ x, x ∈ l ↔ x ∈ m) : l.Perm m := (List.perm_ext_iff_of_nodup hl hm).mpr fun x => h x
theorem DI.len {kvs : List (Key × V)} {f : Int → Option V} (h : DI kvs f) {m : List Int} (hm : m.Nodup) (e : ∀ x, x ∈ m ↔ (f x).isSome = true) : kvs.length = m.length := by
  obtain ⟨l, hn, hl, rfl⟩ := h
  rw [dm_len]
  exact (perm_of hn hm fun x => (hl x).trans (e x).symm).length_eq
/-! ### rules -/
def rDG1 (ty : TE) (σ : L2.St) (x : V) (H1 : Hp) (Q : VK) : Prop := ∃ a, x = .ref a ∧ IsD H1 a ∧ ty σ H1 fun y H2 => ∃ o, DGet H2 a y o ∧ Q (o.getD .non) H2
def rDG1b (a : Addr) (y : V) (H2 : Hp) (Q : VK) : Prop := ∃ o, DGet H2 a y o ∧ Q (o.getD .non) H2
def rDG2 (ty tx : TE) (σ : L2.St) (x : V) (H1 : Hp) (Q : VK) : Prop := ∃ a, x = .ref a ∧ IsD H1 a ∧ ty σ H1 fun y H2 => tx σ H2 fun z H3 => ∃ o, DGet H3 a y o ∧ Q (o.getD z) H3
def rDG2b (a : Addr) (y z : V) (H2 : Hp) (Q : VK) : Prop := ∃ o, DGet H2 a y o ∧ Q (o.getD z) H2
def rDPop (ty : TE) (σ : L2.St) (x : V) (H1 : Hp) (Q : VK) : Prop := ∃ a, x = .ref a ∧ IsD H1 a ∧ ty σ H1 fun y H2 => ∃ kvs k v, H2 a = some (.dK kvs) ∧ y = kV k ∧ valV kvs k = some v ∧ Q v (upd H2 a (.dK (dropK kvs k)))
def rDPopb (a : Addr) (y : V) (H2 : Hp) (Q : VK) : Prop := ∃ kvs k v, H2 a = some (.dK kvs) ∧ y = kV k ∧ valV kvs k = some v ∧ Q v (upd H2 a (.dK (dropK kvs k)))
def rDSet (ty tx : TE) (σ : L2.St) (x : V) (H1 : Hp) (Q : VK) : Prop := ∃ a, x = .ref a ∧ IsD H1 a ∧ ty σ H1 fun y H2 => tx σ H2 fun z H3 => ∃ (kvs : List (Key × V)) (k : Key), H3 a = some (.dK kvs) ∧ y = kV k ∧ kvs.length < sizeLine ∧ (∀ v, valV kvs k = some v → Q v H3) ∧ (valV kvs k = none → Q z (upd H3 a (.dK (putK kvs k z))))
def rDSetb (a : Addr) (y z : V) (H3 : Hp) (Q : VK) : Prop := ∃ (kvs : List (Key × V)) (k : Key), H3 a = some (.dK kvs) ∧ y = kV k ∧ kvs.length < sizeLine ∧ (∀ v, valV kvs k = some v → Q v H3) ∧ (valV kvs k = none → Q z (upd H3 a (.dK (putK kvs k z))))
def rDictC : List V → Hp → VK → Prop := fun xs H Q => ∃ (a : Addr) (kvs : List (Key × V)), xs = [.ref a] ∧ Rd H a (.dK kvs) ∧ ∀ p, H p = none → Q (.ref p) (upd H p (.dK kvs))
def rLenD : List V → Hp → VK → Prop := fun xs H Q => ∃ a kvs, xs = [V.ref a] ∧ H a = some (.dK kvs) ∧ Q (.int kvs.length) H
theorem dict_C {X : Cx} : CallR X (.type "dict") rDictC := call_dictD
theorem len_D {X : Cx} : CallR X (.builtin "len") rLenD := call_lenD
theorem list_D {X : Cx} (hc : X.calm = true) : CallR X (.type "list") rListD := call_list_dK hc
section
variable {K : PySem.W.Frag} {σ : L2.St} {H : Hp} {Q : VK} {D : Ends} {td ty tx : TE} {d : Addr} {x : Int} {z v : V} {kvs : List (Key × V)} {f : Int → Option V}
theorem st_dg1 (h : td σ H fun x H1 => rDG1 ty σ x H1 Q) : tDGet1 td ty σ H Q := h
theorem st_dg2 (h : td σ H fun x H1 => rDG2 ty tx σ x H1 Q) : tDGet2 td ty tx σ H Q := h
theorem st_dpop (h : td σ H fun x H1 => rDPop ty σ x H1 Q) : tDPop1 td ty σ H Q := h
theorem st_dset (h : td σ H fun x H1 => rDSet ty tx σ x H1 Q) : tDSetd td ty tx σ H Q := h
theorem r_dg1 (h : Rd H d (.dK kvs)) (q : ty σ H fun y H2 => rDG1b d y H2 Q) : rDG1 ty σ (.ref d) H Q := ⟨d, rfl, .inl ⟨kvs, h⟩, q⟩
theorem r_dg1b (h : Rd H d (.dK kvs)) (k : DI kvs f) (q : Q ((f x).getD .non) H) : rDG1b d (.int x) H Q := ⟨_, .inl ⟨kvs, Sum.inl x, h, rfl, (k.get x).symm⟩, q⟩
theorem r_dg2 (h : Rd H d (.dK kvs)) (q : ty σ H fun y H2 => tx σ H2 fun z H3 => rDG2b d y z H3 Q) : rDG2 ty tx σ (.ref d) H Q := ⟨d, rfl, .inl ⟨kvs, h⟩, q⟩
theorem r_dg2b (h : Rd H d (.dK kvs)) (k : DI kvs f) (q : Q ((f x).getD z) H) : rDG2b d (.int x) z H Q := ⟨_, .inl ⟨kvs, Sum.inl x, h, rfl, (k.get x).symm⟩, q⟩
theorem r_dpop (h : Rd H d (.dK kvs)) (q : ty σ H fun y H2 => rDPopb d y H2 Q) : rDPop ty σ (.ref d) H Q := ⟨d, rfl, .inl ⟨kvs, h⟩, q⟩
theorem r_dpopb (h : H d = some (.dK kvs)) (k : DI kvs f) (e : f x = some v) (q : ∀ H1 kvs', ExW d H H1 → H1 d = some (.dK kvs') → DI kvs' (fun t => if t = x then none else f t) → Q v H1) : rDPopb d (.int x) H Q :=
  ⟨kvs, Sum.inl x, v, h, rfl, (k.get x).trans e, q _ _ ExW.upd upd_same (k.drop x)⟩
theorem r_dset (h : Rd H d (.dK kvs)) (q : ty σ H fun y H2 => tx σ H2 fun z H3 => rDSetb d y z H3 Q) : rDSet ty tx σ (.ref d) H Q := ⟨d, rfl, .inl ⟨kvs, h⟩, q⟩
theorem r_dsetb (h : H d = some (.dK kvs)) (k : DI kvs f) (hz : kvs.length < 100000) (q1 : ∀ v, f x = some v → Q v H) (q2 : f x = none → ∀ H1 kvs', ExW d H H1 → H1 d = some (.dK kvs') → DI kvs' (fun t => if t = x then some z else f t) → Q z H1) : rDSetb d (.int x) z H Q :=
  ⟨kvs, Sum.inl x, h, rfl, sz_lt hz, fun v e => q1 v ((k.get x).symm.trans e), fun e => q2 ((k.get x).symm.trans e) _ _ ExW.upd upd_same (k.put x z)⟩
theorem r_dgetI (h : Rd H d (.dK kvs)) (k : DI kvs f) (e : f x = some v) (q : Q v H) : rDGet (.ref d) (.int x) H Q := r_dget h ((k.get x).trans e) q
theorem r_dinI (h : Rd H d (.dK kvs)) (k : DI kvs f) (q : Q (.bl (f x).isSome) H) : rDIn false (.ref d) (.int x) H Q := ⟨d, _, rfl, .inl ⟨kvs, Sum.inl x, h, rfl, (k.get x).symm⟩, q⟩
theorem r_dninI (h : Rd H d (.dK kvs)) (k : DI kvs f) (q : Q (.bl (!(f x).isSome)) H) : rDIn true (.ref d) (.int x) H Q := ⟨d, _, rfl, .inl ⟨kvs, Sum.inl x, h, rfl, (k.get x).symm⟩, q⟩
theorem r_dputI {R : Hp → Prop} (h : H d = some (.dK kvs)) (k : DI kvs f) (hz : kvs.length < 100000) (q : ∀ H1 kvs', ExW d H H1 → H1 d = some (.dK kvs') → DI kvs' (fun t => if t = x then some v else f t) → R H1) : rDPut (.ref d) (.int x) v H R :=
  r_dput h hz fun H1 e h1 => q H1 _ e h1 (k.put x v)
theorem r_dictC (h : Rd H d (.dK kvs)) (q : ∀ p H1, H p = none → Ex H H1 → H1 p = some (.dK kvs) → Q (.ref p) H1) : rDictC [.ref d] H Q := ⟨d, kvs, rfl, h, alloc q⟩
theorem r_lenD (h : H d = some (.dK kvs)) (q : Q (.int (kvs.length : Int)) H) : rLenD [.ref d] H Q := ⟨d, kvs, rfl, h, q⟩
theorem r_lstD (h : H d = some (.dK kvs)) (q : ∀ p H1, H p = none → Ex H H1 → H1 p = some (.lst (kvs.map fun kv => kV kv.1)) → Q (.ref p) H1) : rListD [.ref d] H Q := ⟨d, kvs, rfl, h, alloc q⟩
/-- {k: v} of one pair -/
def rDisp1 (p : Addr) (x v : V) (H2 : Hp) (Q : VK) : Prop := H2 p = some (.dK []) ∧ ∃ k : Key, x = kV k ∧ Q (.ref p) (upd H2 p (.dK [(k, v)]))
theorem st_disp1 {tk tv : TE} (h : ∀ p H1, H p = none → Ex H H1 → H1 p = some (.dK []) → tk σ H1 fun x H2 => tv σ H2 fun v H3 => rDisp1 p x v H3 Q) (mono1 : ∀ (A B : VK) H, (∀ x H, A x H → B x H) → tk σ H A → tk σ H B) (mono2 : ∀ (A B : VK) H, (∀ x H, A x H → B x H) → tv σ H A → tv σ H B) : tDisp [(tk, tv)] σ H Q := fun p hp => by
  refine mono1 _ _ _ (fun x H2 h2 => mono2 _ _ _ (fun v H3 h3 => ?_) h2) (h p _ hp (Ex.new hp) upd_same)
  obtain ⟨e, k, ex, q⟩ := h3
  subst ex
  exact ⟨e, [(k, v)], rfl, by simp, q⟩
end
end L2
/-! straight walks in their order -/
namespace Od
open L2
/-- the steps of so many letters, in their order -/
def steps (L : Nat) : List Int := (List.range L).flatMap fun (i : Nat) => [(i : Int) + 1, -((i : Int) + 1)]
theorem mem_steps {L : Nat} {x : Int} : x ∈ steps L ↔ (x ≠ 0 ∧ -(L : Int) ≤ x ∧ x ≤ L) := by
  unfold steps
  rw [List.mem_flatMap]
  constructor
  · rintro ⟨i, hi, hx⟩
    have := List.mem_range.mp hi
    have e : x = (i : Int) + 1 ∨ x = -((i : Int) + 1) := by simpa using hx
    omega
  · rintro ⟨h0, h1, h2⟩
    refine ⟨x.natAbs - 1, List.mem_range.mpr (by omega), ?_⟩
    have e : x = ((x.natAbs - 1 : Nat) : Int) + 1 ∨ x = -(((x.natAbs - 1 : Nat) : Int) + 1) := by omega
    simpa using e
theorem steps_succ (L : Nat) : steps (L + 1) = steps L ++ [(L : Int) + 1, -((L : Int) + 1)] := by
  unfold steps
  rw [List.range_succ, List.flatMap_append]
  rfl
theorem steps_len : ∀ L : Nat, (steps L).length = 2 * L
  | 0 => rfl
  | L + 1 => by
    rw [steps_succ, List.length_append, steps_len L]
    rfl
theorem steps_nodup : ∀ L : Nat, (steps L).Nodup
  | 0 => List.nodup_nil
  | L + 1 => by
    rw [steps_succ, List.nodup_append]
    refine ⟨steps_nodup L, by simp; omega, fun a ha b hb => ?_⟩
    have h1 := mem_steps.mp ha
    have e : b = (L : Int) + 1 ∨ b = -((L : Int) + 1) := by simpa using hb
    omega
/-- the steps that may stand behind -/
def bh (L : Nat) (p : Option Int) : List Int := (steps L).filter fun s => decide (p ≠ some (-s))
theorem mem_bh {L : Nat} {p : Option Int} {x : Int} : x ∈ bh L p ↔ (x ∈ steps L ∧ p ≠ some (-x)) := by
  unfold bh
  rw [List.mem_filter, decide_eq_true_eq]
theorem bh_none (L : Nat) : bh L none = steps L := by
  unfold bh
  rw [List.filter_eq_self]
  intro a _
  simp
theorem bh_nodup (L : Nat) (p : Option Int) : (bh L p).Nodup := (steps_nodup L).filter _
theorem filter_one {l : List Int} (h : l.Nodup) {y : Int} (hy : y ∈ l) : (l.filter fun s => decide (s ≠ y)).length + 1 = l.length := by
  induction l with
  | nil => cases hy
  | cons a l ih =>
    rw [List.nodup_cons] at h
    by_cases e : a = y
    · subst e
      rw [List.filter_cons_of_neg (by simp), List.length_cons]
      congr 1
      rw [List.filter_eq_self.mpr]
      intro b hb
      have : b ≠ a := fun e => h.1 (e ▸ hb)
      simpa using this
    · have hy' : y ∈ l := by
        rcases List.mem_cons.mp hy with z | z
        · exact absurd z.symm e
        · exact z
      rw [List.filter_cons_of_pos (by simpa using e), List.length_cons, List.length_cons, ih h.2 hy']
theorem bh_some_len {L : Nat} {x : Int} (hx : x ∈ steps L) : (bh L (some x)).length = 2 * L - 1 := by
  have h1 := mem_steps.mp hx
  have hm : -x ∈ steps L := mem_steps.mpr (by omega)
  have h2 := filter_one (steps_nodup L) hm
  rw [steps_len] at h2
  have e : bh L (some x) = (steps L).filter fun s => decide (s ≠ -x) := by
    unfold bh
    congr 1
    funext s
    congr 1
    rw [Ne, Ne, Option.some.injEq]
    exact propext ⟨fun h e => h (by omega), fun h e => h (by omega)⟩
  rw [e]
  omega
theorem at_idx {l : List Int} {x : Int} (h : x ∈ l) : l[l.idxOf x]? = some x := by
  have hi := List.idxOf_lt_length_of_mem h
  rw [List.getElem?_eq_getElem hi, List.getElem_idxOf]
/-- straight walks of the letters that may stand behind p -/
def G (L : Nat) : Option Int → List Int → Prop
  | _, [] => True
  | p, s :: w => s ∈ bh L p ∧ G L (some s) w
/-- the number of such of a length -/
def tot (L : Nat) (p : Option Int) : Nat → Nat
  | 0 => 1
  | z + 1 => (bh L p).length * (2 * L - 1) ^ z
theorem tot_some {L : Nat} {x : Int} (hx : x ∈ steps L) : ∀ z, tot L (some x) z = (2 * L - 1) ^ z
  | 0 => rfl
  | z + 1 => by
    rw [tot, bh_some_len hx, Nat.pow_succ, Nat.mul_comm]
theorem tot_none (L z : Nat) : tot L none (z + 1) = 2 * L * (2 * L - 1) ^ z := by rw [tot, bh_none, steps_len]
/-- its number among those of its length -/
def V (L : Nat) : Option Int → List Int → Nat
  | _, [] => 0
  | p, s :: w => (bh L p).idxOf s * (2 * L - 1) ^ w.length + V L (some s) w
theorem bh_steps {L : Nat} {p : Option Int} {x : Int} (h : x ∈ bh L p) : x ∈ steps L := (mem_bh.mp h).1
theorem V_lt {L : Nat} : ∀ {w : List Int} {p : Option Int}, G L p w → V L p w < tot L p w.length
  | [], _, _ => Nat.one_pos
  | s :: w, p, h => by
    have ih := V_lt h.2
    rw [tot_some (bh_steps h.1)] at ih
    have hi := List.idxOf_lt_length_of_mem h.1
    rw [V, List.length_cons, tot]
    calc (bh L p).idxOf s * (2 * L - 1) ^ w.length + V L (some s) w
        < (bh L p).idxOf s * (2 * L - 1) ^ w.length + (2 * L - 1) ^ w.length := by omega
      _ = ((bh L p).idxOf s + 1) * (2 * L - 1) ^ w.length := by rw [Nat.add_mul, Nat.one_mul]
      _ ≤ (bh L p).length * (2 * L - 1) ^ w.length := Nat.mul_le_mul_right _ hi
theorem V_inj {L : Nat} : ∀ {w u : List Int} {p : Option Int}, G L p w → G L p u → w.length = u.length → V L p w = V L p u → w = u
  | [], [], _, _, _, _, _ => rfl
  | [], _ :: _, _, _, _, h, _ => by cases h
  | _ :: _, [], _, _, _, h, _ => by cases h
  | s :: w, t :: u, p, h1, h2, hl, hv => by
    have hl' : w.length = u.length := by simpa using hl
    have a := V_lt h1.2
    have b := V_lt h2.2
    rw [tot_some (bh_steps h1.1)] at a
    rw [tot_some (bh_steps h2.1), ← hl'] at b
    rw [V, V, ← hl'] at hv
    have e1 : (bh L p).idxOf s = (bh L p).idxOf t := by
      rcases Nat.lt_trichotomy ((bh L p).idxOf s) ((bh L p).idxOf t) with h | h | h
      · have := Nat.mul_le_mul_right ((2 * L - 1) ^ w.length) (Nat.succ_le_of_lt h)
        rw [Nat.succ_mul] at this
        omega
      · exact h
      · have := Nat.mul_le_mul_right ((2 * L - 1) ^ w.length) (Nat.succ_le_of_lt h)
        rw [Nat.succ_mul] at this
        omega
    rw [e1] at hv
    have e2 : s = t := by
      have q1 := at_idx h1.1
      have q2 := at_idx h2.1
      rw [e1] at q1
      rw [q1] at q2
      exact Option.some.inj q2
    subst e2
    rw [V_inj h1.2 h2.2 hl' (by omega)]
/-- the last step, or what stands ahead -/
def lst (p : Option Int) (w : List Int) : Option Int := match w.getLast? with | some x => some x | none => p
theorem lst_nil (p : Option Int) : lst p [] = p := rfl
theorem lst_snoc (p : Option Int) (w : List Int) (s : Int) : lst p (w ++ [s]) = some s := by
  unfold lst
  rw [List.getLast?_concat]
theorem lst_cons (p : Option Int) (s : Int) (w : List Int) : lst p (s :: w) = lst (some s) w := by
  unfold lst
  cases w with
  | nil => rfl
  | cons t w => rw [List.getLast?_cons_cons]; rw [List.getLast?_eq_some_getLast (List.cons_ne_nil t w)]
theorem G_snoc {L : Nat} : ∀ {w : List Int} {p : Option Int} {s : Int}, G L p (w ++ [s]) ↔ (G L p w ∧ s ∈ bh L (lst p w))
  | [], p, s => by simp [G, lst_nil]
  | t :: w, p, s => by
    rw [List.cons_append, G, G, G_snoc, lst_cons, and_assoc]
theorem G_mem {L : Nat} : ∀ {w : List Int} {p : Option Int}, G L p w → ∀ x ∈ w, x ∈ steps L
  | [], _, _, _, h => by cases h
  | s :: w, p, h, x, hx => by
    rcases List.mem_cons.mp hx with e | hx
    · rw [e]; exact bh_steps h.1
    · exact G_mem h.2 x hx
theorem lst_mem {L : Nat} {w : List Int} {x : Int} (h : G L none w) (hx : lst none w = some x) : x ∈ steps L := by
  unfold lst at hx
  cases e : w.getLast? with
  | none => rw [e] at hx; cases hx
  | some y =>
    rw [e] at hx
    cases hx
    exact G_mem h _ (List.mem_of_getLast? e)
theorem bh_len {L : Nat} {w : List Int} (h : G L none w) : (bh L (lst none w)).length = if w = [] then 2 * L else 2 * L - 1 := by
  rcases List.eq_nil_or_concat w with e | ⟨u, x, e⟩
  · subst e
    rw [lst_nil, bh_none, steps_len, if_pos rfl]
  · rw [List.concat_eq_append] at e
    subst e
    rw [if_neg (by simp), lst_snoc, bh_some_len (G_mem h x (by simp))]
/-- by the last step -/
theorem V_snoc {L : Nat} : ∀ {w : List Int} {p : Option Int} {s : Int}, G L p (w ++ [s]) → V L p (w ++ [s]) = V L p w * (bh L (lst p w)).length + (bh L (lst p w)).idxOf s
  | [], p, s, _ => by simp [V, lst_nil]
  | t :: w, p, s, h => by
    have h' : t ∈ bh L p ∧ G L (some t) (w ++ [s]) := h
    have ih := V_snoc h'.2
    have g := (G_snoc.mp h'.2).1
    have c : (bh L (lst (some t) w)).length = 2 * L - 1 := by
      rcases List.eq_nil_or_concat w with e | ⟨u, x, e⟩
      · subst e
        rw [lst_nil, bh_some_len (bh_steps h'.1)]
      · rw [List.concat_eq_append] at e
        subst e
        rw [lst_snoc, bh_some_len (G_mem g x (by simp))]
    rw [List.cons_append, V, V, ih, lst_cons, c, List.length_append, List.length_singleton, Nat.pow_succ, Nat.add_mul, Nat.mul_assoc, Nat.add_assoc]
/-- all shorter ones -/
def S (L : Nat) : Nat → Nat
  | 0 => 0
  | z + 1 => S L z + tot L none z
def place (L : Nat) (w : List Int) : Nat := S L w.length + V L none w
theorem tot_pos {L : Nat} (hL : 0 < L) : ∀ z, 0 < tot L none z
  | 0 => Nat.one_pos
  | z + 1 => by
    rw [tot_none]
    exact Nat.mul_pos (by omega) (Nat.pow_pos (by omega))
theorem S_mono {L : Nat} {a b : Nat} (h : a ≤ b) : S L a ≤ S L b := by
  induction h with
  | refl => exact Nat.le_refl _
  | step _ ih => exact Nat.le_trans ih (Nat.le_add_right _ _)
theorem S_ge {L : Nat} (hL : 0 < L) : ∀ z, z ≤ S L z
  | 0 => Nat.le_refl _
  | z + 1 => by
    have := S_ge hL z
    have := tot_pos hL z
    rw [S]
    omega
theorem S_pow {L : Nat} : ∀ z, (2 * L - 1) ^ z ≤ S L (z + 1)
  | 0 => by simp [S, tot]
  | z + 1 => by
    rw [S, tot_none, Nat.pow_succ, Nat.mul_comm]
    have : (2 * L - 1) * (2 * L - 1) ^ z ≤ 2 * L * (2 * L - 1) ^ z := Nat.mul_le_mul_right _ (by omega)
    omega
theorem place_lt {L : Nat} {w : List Int} (h : G L none w) : place L w < S L (w.length + 1) := by
  have := V_lt h
  unfold place
  rw [S]
  omega
theorem place_ge (L : Nat) (w : List Int) : S L w.length ≤ place L w := Nat.le_add_right _ _
theorem place_len {L : Nat} {w u : List Int} (h1 : G L none w) (h2 : G L none u) (h : place L w ≤ place L u) : w.length ≤ u.length := by
  rcases Nat.lt_or_ge u.length w.length with lt | ge
  · have a := place_lt h2
    have b := place_ge L w
    have c := S_mono (L := L) (a := u.length + 1) (b := w.length) lt
    omega
  · exact ge
theorem place_inj {L : Nat} {w u : List Int} (h1 : G L none w) (h2 : G L none u) (h : place L w = place L u) : w = u := by
  have e : w.length = u.length := Nat.le_antisymm (place_len h1 h2 (Nat.le_of_eq h)) (place_len h2 h1 (Nat.le_of_eq h.symm))
  refine V_inj h1 h2 e ?_
  unfold place at h
  rw [e] at h
  omega
theorem snoc_ind {α : Type} {C : List α → Prop} (h0 : C []) (h1 : ∀ u x, C u → C (u ++ [x])) (w : List α) : C w := by
  have h : ∀ (n : Nat) (w : List α), w.length = n → C w := by
    intro n
    induction n with
    | zero =>
      intro w h
      rw [List.eq_nil_of_length_eq_zero h]
      exact h0
    | succ n ih =>
      intro w h
      rcases List.eq_nil_or_concat w with e | ⟨u, x, e⟩
      · rw [e]; exact h0
      · rw [List.concat_eq_append] at e
        subst e
        exact h1 u x (ih u (by simpa using h))
  exact h _ w rfl
/-- such walks are the straight ones -/
theorem G_of {L : Nat} : ∀ {w : List Int} , Stp L w → Fg.Str w → G L none w := by
  intro w
  refine snoc_ind (C := fun w => Stp L w → Fg.Str w → G L none w) (fun _ _ => trivial) (fun u x ih => ?_) w
  · intro h1 h2
    obtain ⟨s1, s2⟩ := Fg.str_init h2
    refine G_snoc.mpr ⟨ih (fun y hy => h1 y (List.mem_append_left _ hy)) s1, mem_bh.mpr ⟨mem_steps.mpr (h1 x (by simp)), ?_⟩⟩
    unfold lst
    cases e : u.getLast? with
    | none => simp
    | some y => rw [e] at s2; exact s2
theorem of_G {L : Nat} : ∀ {w : List Int}, G L none w → Stp L w ∧ Fg.Str w := by
  intro w
  refine snoc_ind (C := fun w => G L none w → Stp L w ∧ Fg.Str w) (fun _ => ⟨fun x hx => (nomatch hx), Fg.str_nil⟩) (fun u x ih => ?_) w
  · intro h
    obtain ⟨g, hx⟩ := G_snoc.mp h
    obtain ⟨a, b⟩ := ih g
    obtain ⟨h3, h4⟩ := mem_bh.mp hx
    refine ⟨fun y hy => ?_, Fg.str_snoc b ?_⟩
    · rcases List.mem_append.mp hy with hy | hy
      · exact a y hy
      · rw [List.mem_singleton.mp hy]
        exact mem_steps.mp h3
    · intro e
      unfold lst at h4
      rw [e] at h4
      exact h4 rfl
theorem G_take {L : Nat} {w : List Int} (h : G L none w) (i : Nat) : G L none (w.take i) := by
  obtain ⟨a, b⟩ := of_G h
  refine G_of (fun x hx => a x (List.mem_of_mem_take hx)) fun j x hj hj2 => ?_
  rw [List.getElem?_take] at hj hj2
  split at hj
  · split at hj2
    · exact b j x hj hj2
    · cases hj2
  · cases hj
theorem S_sum (L : Nat) : ∀ z : Nat, ((List.range z).map fun i => ((tot L none i : Nat) : Int)).sum = ((S L z : Nat) : Int)
  | 0 => rfl
  | z + 1 => by
    rw [List.range_succ, List.map_append, List.sum_append, S_sum L z, S, Int.natCast_add]
    simp
theorem tot_next {L : Nat} (z : Nat) : tot L none (z + 1) = tot L none z * (if z = 0 then 2 * L else 2 * L - 1) := by
  cases z with
  | zero => rw [tot_none, tot]; simp
  | succ z => rw [tot_none, tot_none, if_neg (by omega), Nat.pow_succ]; simp only [Nat.mul_assoc]
theorem tot_S {L : Nat} (h4 : L ≤ 4) (z : Nat) : tot L none z ≤ 8 * S L z + 1 := by
  cases z with
  | zero => exact Nat.le_add_left _ _
  | succ z =>
    have h1 : tot L none (z + 1) ≤ tot L none z * 8 := by
      rw [tot_next]
      exact Nat.mul_le_mul_left _ (by split <;> omega)
    have h2 : tot L none z ≤ S L (z + 1) := Nat.le_add_left _ _
    omega
/-- what is left to choose behind i of z steps -/
def left (L z i : Nat) : Nat := if i = 0 then tot L none z else (2 * L - 1) ^ (z - i)
theorem left_next {L z i : Nat} {w : List Int} (h : i < z) (g : G L none w) (hw : w.length = i) : left L z i = (bh L (lst none w)).length * left L z (i + 1) := by
  rw [bh_len g]
  unfold left
  rw [if_neg (by omega : ¬ i + 1 = 0)]
  by_cases h0 : i = 0
  · subst h0
    rw [if_pos rfl, if_pos (List.eq_nil_of_length_eq_zero hw)]
    obtain ⟨y, rfl⟩ : ∃ y, z = y + 1 := ⟨z - 1, by omega⟩
    rw [tot_none]
    rfl
  · rw [if_neg h0, if_neg (by intro e; rw [e] at hw; exact h0 hw.symm), show z - i = (z - (i + 1)) + 1 by omega, Nat.pow_succ, Nat.mul_comm]
theorem left_end (L z : Nat) : left L z z = 1 := by
  unfold left
  split
  · next h => rw [h]; rfl
  · rw [Nat.sub_self, Nat.pow_zero]
theorem left_pos {L : Nat} (hL : 0 < L) (z i : Nat) : 0 < left L z i := by
  unfold left
  split
  · exact tot_pos hL z
  · exact Nat.pow_pos (by omega)
theorem left_le {L z i : Nat} (hL : 0 < L) : left L z i ≤ tot L none z := by
  unfold left
  split
  · exact Nat.le_refl _
  · cases z with
    | zero => rw [Nat.zero_sub, Nat.pow_zero]; exact Nat.le_refl 1
    | succ z =>
      rw [tot_none]
      refine Nat.le_trans (Nat.pow_le_pow_right (by omega) (by omega : z + 1 - i ≤ z)) ?_
      exact Nat.le_mul_of_pos_left _ (by omega)
theorem bh_small {L : Nat} (h4 : L ≤ 4) (p : Option Int) : (bh L p).length ≤ 8 := by
  have h1 : (bh L p).length ≤ (steps L).length := List.length_filter_le _ _
  rw [steps_len] at h1
  omega
theorem G_at {L : Nat} {w : List Int} {i : Nat} {x : Int} (g : G L none w) (hx : w[i]? = some x) : x ∈ bh L (lst none (w.take i)) := by
  have h := G_take g (i + 1)
  rw [take_snoc hx] at h
  exact (G_snoc.mp h).2
theorem V_at {L : Nat} {w : List Int} {i : Nat} {x : Int} (g : G L none w) (hx : w[i]? = some x) : V L none (w.take (i + 1)) = V L none (w.take i) * (bh L (lst none (w.take i))).length + (bh L (lst none (w.take i))).idxOf x := by
  have h := G_take g (i + 1)
  rw [take_snoc hx] at h ⊢
  exact V_snoc h
theorem idx_filter {f : Int → Bool} : ∀ {l : List Int} {x : Int}, x ∈ l → f x = true → (l.filter f).idxOf x = ((l.take (l.idxOf x)).filter f).length
  | [], _, h, _ => by cases h
  | a :: l, x, h, hf => by
    by_cases e : a = x
    · subst e
      rw [List.filter_cons_of_pos hf, List.idxOf_cons_self, List.idxOf_cons_self]
      rfl
    · have hx : x ∈ l := by
        rcases List.mem_cons.mp h with z | z
        · exact absurd z.symm e
        · exact z
      have e2 : (a == x) = false := beq_false_of_ne e
      have ih := idx_filter hx hf
      rw [show (a :: l).idxOf x = l.idxOf x + 1 by rw [List.idxOf_cons, e2]; rfl]
      show _ = ((List.take (l.idxOf x + 1) (a :: l)).filter f).length
      rw [List.take_succ_cons]
      cases hfa : f a with
      | true =>
        rw [List.filter_cons_of_pos hfa, List.filter_cons_of_pos hfa, List.idxOf_cons, e2, List.length_cons, ← ih]
        rfl
      | false =>
        rw [List.filter_cons_of_neg (by rw [hfa]; decide), List.filter_cons_of_neg (by rw [hfa]; decide), ← ih]
theorem take_ne {w : List Int} {i : Nat} (h0 : ¬ i = 0) (hl : i < w.length) : w.take i ≠ [] := fun e => by
  have h := congrArg List.length e
  rw [List.length_take, Nat.min_eq_left (Nat.le_of_lt hl)] at h
  exact h0 h
theorem bh_pos {L : Nat} (h1 : 1 ≤ L) {w : List Int} (g : G L none w) : 0 < (bh L (lst none w)).length := by
  rw [bh_len g]
  split <;> omega
/-- the least step behind -/
theorem V_head {L : Nat} {w : List Int} {s : Int} (g : G L none w) (h : (bh L (lst none w))[0]? = some s) : G L none (w ++ [s]) ∧ V L none (w ++ [s]) = V L none w * (2 * L - 1) := by
  have hm := List.mem_of_getElem? h
  have g' : G L none (w ++ [s]) := G_snoc.mpr ⟨g, hm⟩
  refine ⟨g', ?_⟩
  have h0 : (bh L (lst none w)).idxOf s = 0 := Nat.le_zero.mp (L2.idxOf_le h)
  rw [V_snoc g', h0, Nat.add_zero, bh_len g]
  by_cases e : w = []
  · subst e
    rw [V, Nat.zero_mul, Nat.zero_mul]
  · rw [if_neg e]
/-- what is told of the end of a walk: all its digits behind are the greatest -/
def Top (L : Nat) (w : List Int) (j : Nat) : Prop := if j = 0 then V L none w + 1 = tot L none w.length else V L none w + 1 = (V L none (w.take j) + 1) * (2 * L - 1) ^ (w.length - j)
theorem top_end (L : Nat) (w : List Int) : Top L w w.length := by
  unfold Top
  split
  · next h =>
    rw [List.eq_nil_of_length_eq_zero h]
    rfl
  · rw [List.take_length, Nat.sub_self, Nat.pow_zero, Nat.mul_one]
theorem top_next {L : Nat} {w : List Int} {i : Nat} {x : Int} (g : G L none w) (hx : w[i]? = some x) (h : Top L w (i + 1)) (hi : (bh L (lst none (w.take i))).idxOf x + 1 = (bh L (lst none (w.take i))).length) : Top L w i := by
  have hl := (List.getElem?_eq_some_iff.mp hx).1
  unfold Top at h ⊢
  rw [if_neg (by omega), V_at g hx] at h
  have c := bh_len (G_take g i)
  have e1 : V L none (w.take i) * (bh L (lst none (w.take i))).length + (bh L (lst none (w.take i))).idxOf x + 1 = (V L none (w.take i) + 1) * (bh L (lst none (w.take i))).length := by
    rw [Nat.add_mul, Nat.one_mul]
    omega
  rw [e1] at h
  by_cases h0 : i = 0
  · subst h0
    rw [if_pos rfl, h]
    have c0 : (bh L (lst none (w.take 0))).length = 2 * L := by rw [c, List.take_zero, if_pos rfl]
    rw [c0, List.take_zero, V, Nat.zero_add, Nat.one_mul]
    have e2 : w.length = (w.length - (0 + 1)) + 1 := by omega
    rw [e2, tot_none]
    rfl
  · rw [if_neg h0, h]
    have c1 : (bh L (lst none (w.take i))).length = 2 * L - 1 := by
      rw [c, if_neg (take_ne h0 hl)]
    rw [c1, show w.length - i = (w.length - (i + 1)) + 1 by omega, Nat.pow_succ, Nat.mul_assoc, Nat.mul_comm (2 * L - 1)]
/-- with the next step in its place -/
theorem top_more {L : Nat} {w : List Int} {i : Nat} {x y : Int} (g : G L none w) (hx : w[i]? = some x) (h : Top L w (i + 1)) (hy : (bh L (lst none (w.take i)))[(bh L (lst none (w.take i))).idxOf x + 1]? = some y) :
    G L none (w.take i ++ [y]) ∧ V L none (w.take i ++ [y]) * (2 * L - 1) ^ (w.length - (i + 1)) = V L none w + 1 := by
  have g' : G L none (w.take i ++ [y]) := G_snoc.mpr ⟨G_take g i, List.mem_of_getElem? hy⟩
  refine ⟨g', ?_⟩
  unfold Top at h
  rw [if_neg (by omega), V_at g hx] at h
  have hlt := (List.getElem?_eq_some_iff.mp hy).1
  have hid : (bh L (lst none (w.take i))).idxOf y = (bh L (lst none (w.take i))).idxOf x + 1 := by
    have := (bh_nodup L (lst none (w.take i))).idxOf_getElem _ hlt
    rw [(List.getElem?_eq_some_iff.mp hy).2] at this
    exact this
  rw [V_snoc g', hid, h, Nat.add_assoc]
/-- the sum of what is ahead, as far as it is told -/
theorem ahead_step {L : Nat} {w : List Int} {i : Nat} {x : Int} (g : G L none w) (hx : w[i]? = some x) :
    V L none (w.take (i + 1)) * (2 * L - 1) ^ (w.length - (i + 1)) = V L none (w.take i) * (2 * L - 1) ^ (w.length - i) + (bh L (lst none (w.take i))).idxOf x * (2 * L - 1) ^ (w.length - (i + 1)) := by
  have hl := (List.getElem?_eq_some_iff.mp hx).1
  rw [V_at g hx, Nat.add_mul]
  congr 1
  by_cases h0 : i = 0
  · subst h0
    rw [List.take_zero, V, Nat.zero_mul, Nat.zero_mul, Nat.zero_mul]
  · have c1 : (bh L (lst none (w.take i))).length = 2 * L - 1 := by
      rw [bh_len (G_take g i), if_neg (take_ne h0 hl)]
    rw [c1, show w.length - i = (w.length - (i + 1)) + 1 by omega, Nat.pow_succ, Nat.mul_assoc, Nat.mul_comm (2 * L - 1)]
theorem S_le8 {L : Nat} (h4 : L ≤ 4) : ∀ z, S L z ≤ 8 ^ z ∧ tot L none z ≤ 8 ^ z
  | 0 => ⟨Nat.zero_le _, Nat.le_refl _⟩
  | z + 1 => by
    obtain ⟨a, b⟩ := S_le8 h4 z
    refine ⟨?_, ?_⟩
    · rw [S, Nat.pow_succ]
      omega
    · rw [tot_next, Nat.pow_succ]
      exact Nat.mul_le_mul b (by split <;> omega)
theorem S_lt {L : Nat} (h1 : 1 ≤ L) {a b : Nat} (h : S L a < S L b) : a < b := by
  rcases Nat.lt_or_ge a b with l | g
  · exact l
  · have := S_mono (L := L) g
    omega
theorem near {L : Nat} (h1 : 1 ≤ L) {u : List Int} (g : G L none u) {z : Nat} (h : S L z ≤ place L u + 1) : z ≤ u.length + 1 := by
  have a := place_lt g
  have b := tot_pos h1 (u.length + 1)
  have c : S L (u.length + 2) = S L (u.length + 1) + tot L none (u.length + 1) := rfl
  have := S_lt h1 (a := z) (b := u.length + 2) (by omega)
  omega
theorem place_le8 {L : Nat} (h4 : L ≤ 4) {u : List Int} (g : G L none u) : place L u + 1 ≤ 8 ^ (u.length + 1) := by
  have a := place_lt g
  have b := (S_le8 h4 (u.length + 1)).1
  omega
theorem lst_ne (u : List Int) (x : Int) : decide (lst none u ≠ some (-x)) = !decide (u.drop (u.length - 1) = [-x]) := by
  have e : lst none u = some (-x) ↔ u.drop (u.length - 1) = [-x] := by
    rcases List.eq_nil_or_concat u with e | ⟨v, y, e⟩
    · subst e
      simp [lst]
    · rw [List.concat_eq_append] at e
      subst e
      rw [lst_snoc, List.length_append]
      show some y = some (-x) ↔ List.drop (v.length + 1 - 1) (v ++ [y]) = [-x]
      rw [Nat.add_sub_cancel, List.drop_left']
      · simp
      · rfl
  by_cases h : lst none u = some (-x)
  · have h2 : ¬ (lst none u ≠ some (-x)) := fun z => z h
    rw [decide_eq_false h2, decide_eq_true (e.mp h)]
    rfl
  · have h2 : lst none u ≠ some (-x) := h
    have h3 : ¬ (u.drop (u.length - 1) = [-x]) := fun z => h (e.mpr z)
    rw [decide_eq_true h2, decide_eq_false h3]
    rfl
theorem lst_take {w : List Int} {i : Nat} {y : Int} (hy : w[i]? = some y) : lst none (w.take (i + 1)) = some y := by
  rw [take_snoc hy, lst_snoc]
/-- all of a length, as far as t * c of them -/
structure En (L z : Nat) (n : Nat) (ws : List (List Int)) : Prop where
  len : ws.length = n
  at' : ∀ q w, ws[q]? = some w → G L none w ∧ w.length = z ∧ V L none w = q
theorem en_step {L z t : Nat} {ws : List (List Int)} {w : List Int} (h : En L (z + 1) (t * (bh L (lst none w)).length) ws) (g : G L none w) (hz : w.length = z) (hv : V L none w = t) :
    En L (z + 1) ((t + 1) * (bh L (lst none w)).length) (ws ++ (bh L (lst none w)).map fun s => w ++ [s]) := by
  refine ⟨by rw [List.length_append, List.length_map, h.len, Nat.succ_mul], fun q u hq => ?_⟩
  rcases Nat.lt_or_ge q ws.length with lt | ge
  · rw [List.getElem?_append_left lt] at hq
    exact h.at' q u hq
  · rw [List.getElem?_append_right ge, List.getElem?_map] at hq
    cases hb : (bh L (lst none w))[q - ws.length]? with
    | none => rw [hb] at hq; cases hq
    | some s =>
      rw [hb] at hq
      cases hq
      have hlt := (List.getElem?_eq_some_iff.mp hb).1
      have hid := (bh_nodup L (lst none w)).idxOf_getElem _ hlt
      rw [(List.getElem?_eq_some_iff.mp hb).2] at hid
      have g' : G L none (w ++ [s]) := G_snoc.mpr ⟨g, List.mem_of_getElem? hb⟩
      refine ⟨g', by rw [List.length_append, hz]; rfl, ?_⟩
      rw [V_snoc g', hid, hv]
      have := h.len
      omega
/-- all to a length -/
structure Fd (L z : Nat) (ws : List (List Int)) : Prop where
  len : ws.length = S L (z + 1)
  at' : ∀ q w, ws[q]? = some w → G L none w ∧ w.length ≤ z ∧ place L w = q
theorem fd_step {L z : Nat} {ws us : List (List Int)} (h : Fd L z ws) (k : En L (z + 1) (tot L none (z + 1)) us) : Fd L (z + 1) (ws ++ us) := by
  refine ⟨by rw [List.length_append, h.len, k.len]; rfl, fun q w hq => ?_⟩
  rcases Nat.lt_or_ge q ws.length with lt | ge
  · rw [List.getElem?_append_left lt] at hq
    obtain ⟨a, b, c⟩ := h.at' q w hq
    exact ⟨a, by omega, c⟩
  · rw [List.getElem?_append_right ge] at hq
    obtain ⟨a, b, c⟩ := k.at' _ w hq
    refine ⟨a, by omega, ?_⟩
    unfold place
    rw [b, c, ← h.len]
    omega
theorem en_zero (L : Nat) : En L 0 1 [[]] := ⟨rfl, fun q w h => by
  cases q with
  | zero => cases h; exact ⟨trivial, rfl, rfl⟩
  | succ q => simp at h⟩
theorem fd_zero (L : Nat) : Fd L 0 [[]] := ⟨rfl, fun q w h => by
  cases q with
  | zero => cases h; exact ⟨trivial, Nat.le_refl _, rfl⟩
  | succ q => simp at h⟩
theorem fd_count {L z l : Nat} {ws : List (List Int)} (h : Fd L z ws) : ∀ t, t ≤ ws.length → ((ws.take t).filter fun w => decide (w.length = l)).length = min t (S L (l + 1)) - min t (S L l)
  | 0, _ => by simp
  | t + 1, ht => by
    have ih := fd_count (l := l) h t (by omega)
    have hq := List.getElem?_eq_getElem (show t < ws.length by omega)
    generalize ws[t] = w at hq
    obtain ⟨g, _, pl⟩ := h.at' t w hq
    have a := place_ge L w
    have b := place_lt g
    have s1 : S L (l + 1) = S L l + tot L none l := rfl
    rw [take_snoc hq, List.filter_append, List.length_append, ih]
    by_cases e : w.length = l
    · rw [List.filter_cons_of_pos (by simpa using e), List.filter_nil, List.length_singleton]
      subst e
      omega
    · rw [List.filter_cons_of_neg (by simpa using e), List.filter_nil, List.length_nil]
      rcases Nat.lt_or_ge w.length l with lt | ge
      · have := S_mono (L := L) (a := w.length + 1) (b := l) lt
        omega
      · have := S_mono (L := L) (a := l + 1) (b := w.length) (by omega)
        omega
theorem fd_many {L z l : Nat} {ws : List (List Int)} (h : Fd L z ws) (hl : l ≤ z) : (ws.filter fun w => decide (w.length = l)).length = tot L none l := by
  have := fd_count (l := l) h ws.length (Nat.le_refl _)
  rw [List.take_length, h.len] at this
  rw [this]
  have a := S_mono (L := L) (a := l + 1) (b := z + 1) (by omega)
  have s1 : S L (l + 1) = S L l + tot L none l := rfl
  omega
end Od
/-! webs: rooms and steps between them; what is reached from a room, step by step -/
namespace Wb
open L2
/-- where a step leads from a room -/
abbrev Gm := Nat → Int → Option Nat
structure Gr (L n : Nat) (d : Gm) : Prop where
  dom : ∀ r s g, d r s = some g → r < n ∧ g < n ∧ s ∈ Od.steps L
  sym : ∀ r s g, d r s = some g → d g (-s) = some r
theorem Gr.back {L n : Nat} {d : Gm} (G : Gr L n d) {r g : Nat} {s : Int} : d r s = some g ↔ d g (-s) = some r :=
  ⟨G.sym r s g, fun h => by have := G.sym g (-s) r h; rw [Int.neg_neg] at this; exact this⟩
/-- rooms found, each with what leads there -/
abbrev Fd := List (Nat × Option (Nat × Int))
def adv (d : Gm) (r : Nat) (fd : Fd) (s : Int) : Fd := match d r s with
  | some g => if g ∈ fd.map (·.1) then fd else fd ++ [(g, some (r, s))]
  | none => fd
def look (d : Gm) (r : Nat) (S : List Int) (fd : Fd) : Fd := S.foldl (adv d r) fd
theorem look_snoc (d : Gm) (r : Nat) (S : List Int) (s : Int) (fd : Fd) : look d r (S ++ [s]) fd = adv d r (look d r S fd) s := by unfold look; rw [List.foldl_append]; rfl
def run (d : Gm) (S : List Int) : Nat → Nat → Fd → Fd
  | 0, _, fd => fd
  | k + 1, p, fd => match fd[p]? with
    | some (r, _) => run d S k (p + 1) (look d r S fd)
    | none => fd
theorem run_on {d : Gm} {S : List Int} {k p r : Nat} {x : Option (Nat × Int)} {fd : Fd} (h : fd[p]? = some (r, x)) : run d S (k + 1) p fd = run d S k (p + 1) (look d r S fd) := by rw [run, h]
theorem run_end {d : Gm} {S : List Int} {k p : Nat} {fd : Fd} (h : fd.length ≤ p) : run d S k p fd = fd := by
  cases k with
  | zero => rfl
  | succ k => rw [run, List.getElem?_eq_none h]
def bfs (L n : Nat) (d : Gm) (home : Nat) : Fd := run d (Od.steps L) (n + 1) 0 [(home, none)]
/-- the rooms found are rooms, each once -/
structure Ok (n : Nat) (fd : Fd) : Prop where
  nodup : (fd.map (·.1)).Nodup
  lt : ∀ g ∈ fd.map (·.1), g < n
theorem nodup_lt {n : Nat} : ∀ {l : List Nat}, l.Nodup → (∀ x ∈ l, x < n) → l.length ≤ n := by
  induction n with
  | zero =>
    intro l _ h
    cases l with
    | nil => exact Nat.le_refl _
    | cons x l => exact absurd (h x List.mem_cons_self) (Nat.not_lt_zero _)
  | succ n ih =>
    intro l hn h
    by_cases hm : n ∈ l
    · have e := List.perm_cons_erase hm
      have hn2 : (l.erase n).Nodup := hn.erase n
      have z := ih (l := l.erase n) hn2 fun x hx => by
        have h1 := h x (List.mem_of_mem_erase hx)
        have h2 : x ≠ n := fun z => by
          subst z
          exact (List.Nodup.not_mem_erase hn) hx
        omega
      have := e.length_eq
      rw [List.length_cons] at this
      omega
    · have z := ih (l := l) hn fun x hx => by
        have h1 := h x hx
        have h2 : x ≠ n := fun z => by
          subst z
          exact hm hx
        omega
      omega
theorem Ok.len {n : Nat} {fd : Fd} (h : Ok n fd) : fd.length ≤ n := by
  have := nodup_lt h.nodup h.lt
  rwa [List.length_map] at this
theorem adv_ok {L n : Nat} {d : Gm} {r : Nat} {s : Int} {fd : Fd} (G : Gr L n d) (h : Ok n fd) : Ok n (adv d r fd s) := by
  unfold adv
  cases e : d r s with
  | none => exact h
  | some g =>
    show Ok n (if g ∈ fd.map (·.1) then fd else fd ++ [(g, some (r, s))])
    split
    · exact h
    · rename_i hg
      refine ⟨?_, fun x hx => ?_⟩
      · rw [List.map_append, List.nodup_append]
        refine ⟨h.nodup, by simp, fun a ha b hb => ?_⟩
        simp only [List.map_cons, List.map_nil, List.mem_singleton] at hb
        rw [hb]
        exact fun z => hg (by rw [← z]; exact ha)
      · rw [List.map_append, List.mem_append] at hx
        rcases hx with hx | hx
        · exact h.lt x hx
        · simp only [List.map_cons, List.map_nil, List.mem_singleton] at hx
          rw [hx]
          exact (G.dom _ _ _ e).2.1
theorem look_ok {L n : Nat} {d : Gm} {r : Nat} (G : Gr L n d) : ∀ (S : List Int) {fd : Fd}, Ok n fd → Ok n (look d r S fd)
  | [], _, h => h
  | s :: S, _, h => look_ok G S (adv_ok G h)
/-- what is found stays, in its place -/
theorem adv_pre (d : Gm) (r : Nat) (fd : Fd) (s : Int) : ∃ m, adv d r fd s = fd ++ m := by
  unfold adv
  cases e : d r s with
  | none => exact ⟨[], (List.append_nil _).symm⟩
  | some g =>
    show ∃ m, (if g ∈ fd.map (·.1) then fd else fd ++ [(g, some (r, s))]) = fd ++ m
    split
    · exact ⟨[], (List.append_nil _).symm⟩
    · exact ⟨_, rfl⟩
theorem look_pre (d : Gm) (r : Nat) : ∀ (S : List Int) (fd : Fd), ∃ m, look d r S fd = fd ++ m
  | [], fd => ⟨[], (List.append_nil _).symm⟩
  | s :: S, fd => by
    obtain ⟨m, e⟩ := adv_pre d r fd s
    obtain ⟨m2, e2⟩ := look_pre d r S (adv d r fd s)
    refine ⟨m ++ m2, ?_⟩
    show look d r S (adv d r fd s) = _
    rw [e2, e, List.append_assoc]
/-- all that steps lead to is found behind the look -/
theorem adv_in {d : Gm} {r g : Nat} {s : Int} (fd : Fd) (h : d r s = some g) : g ∈ (adv d r fd s).map (·.1) := by
  unfold adv
  rw [h]
  show g ∈ (if g ∈ fd.map (·.1) then fd else fd ++ [(g, some (r, s))]).map (·.1)
  split
  · assumption
  · simp
theorem pre_in {g : Nat} {fd m : Fd} (h : g ∈ fd.map (·.1)) : g ∈ (fd ++ m).map (·.1) := by
  rw [List.map_append]
  exact List.mem_append_left _ h
theorem look_in {d : Gm} {r g : Nat} {s : Int} : ∀ {S : List Int} (fd : Fd), s ∈ S → d r s = some g → g ∈ (look d r S fd).map (·.1)
  | t :: S, fd, hs, h => by
    show g ∈ (look d r S (adv d r fd t)).map (·.1)
    rcases List.mem_cons.mp hs with e | hs
    · subst e
      obtain ⟨m, e⟩ := look_pre d r S (adv d r fd s)
      rw [e]
      exact pre_in (adv_in fd h)
    · exact look_in _ hs h
/-- from whence each is found -/
def Par (d : Gm) (home : Nat) (fd : Fd) : Prop := ∀ (i : Nat) (g : Nat) (x : Option (Nat × Int)), fd[i]? = some (g, x) → (i = 0 ∧ g = home ∧ x = none) ∨ ∃ r s j y, x = some (r, s) ∧ d r s = some g ∧ j < i ∧ fd[j]? = some (r, y)
theorem adv_par {d : Gm} {home r : Nat} {s : Int} {fd : Fd} (h : Par d home fd) (hr : ∃ (j : Nat) (y : Option (Nat × Int)), fd[j]? = some (r, y)) : Par d home (adv d r fd s) ∧ ∃ (j : Nat) (y : Option (Nat × Int)), (adv d r fd s)[j]? = some (r, y) := by
  unfold adv
  cases e : d r s with
  | none => exact ⟨h, hr⟩
  | some g =>
    show Par d home (if g ∈ fd.map (·.1) then fd else fd ++ [(g, some (r, s))]) ∧ ∃ (j : Nat) (y : Option (Nat × Int)), (if g ∈ fd.map (·.1) then fd else fd ++ [(g, some (r, s))])[j]? = some (r, y)
    split
    · exact ⟨h, hr⟩
    · obtain ⟨j, y, hj⟩ := hr
      have lj := (List.getElem?_eq_some_iff.mp hj).1
      refine ⟨fun i g' x hi => ?_, j, y, by rw [List.getElem?_append_left lj]; exact hj⟩
      rcases Nat.lt_or_ge i fd.length with lt | ge
      · rw [List.getElem?_append_left lt] at hi
        rcases h i g' x hi with k | ⟨r', s', j', y', k1, k2, k3, k4⟩
        · exact .inl k
        · exact .inr ⟨r', s', j', y', k1, k2, k3, by rw [List.getElem?_append_left (by omega)]; exact k4⟩
      · rw [List.getElem?_append_right ge] at hi
        have e0 : i - fd.length = 0 := by
          have := (List.getElem?_eq_some_iff.mp hi).1
          simp at this
          omega
        rw [e0] at hi
        cases hi
        exact .inr ⟨r, s, j, y, rfl, e, by omega, by rw [List.getElem?_append_left lj]; exact hj⟩
theorem look_par {d : Gm} {home r : Nat} : ∀ (S : List Int) {fd : Fd}, Par d home fd → (∃ (j : Nat) (y : Option (Nat × Int)), fd[j]? = some (r, y)) → Par d home (look d r S fd)
  | [], _, h, _ => h
  | s :: S, _, h, hr => look_par S (adv_par h hr).1 (adv_par h hr).2
/-- what stands between two turns: the rooms ahead of the place are done with -/
structure Rn (L n : Nat) (d : Gm) (home : Nat) (p : Nat) (fd : Fd) : Prop where
  ok : Ok n fd
  par : Par d home fd
  hd : fd[0]? = some (home, none)
  done : ∀ (i r : Nat) (x : Option (Nat × Int)) (s : Int) (g : Nat), i < p → fd[i]? = some (r, x) → d r s = some g → g ∈ fd.map (·.1)
theorem rn_start {L n : Nat} {d : Gm} {home : Nat} (h : home < n) : Rn L n d home 0 [(home, none)] := by
  refine ⟨⟨by simp, fun g hg => ?_⟩, fun i g x hi => ?_, rfl, fun i r x s g hi => by omega⟩
  · simp only [List.map_cons, List.map_nil, List.mem_singleton] at hg
    omega
  · cases i with
    | zero => cases hi; exact .inl ⟨rfl, rfl, rfl⟩
    | succ i => simp at hi
theorem rn_next {L n : Nat} {d : Gm} {home p r : Nat} {x : Option (Nat × Int)} {fd : Fd} (G : Gr L n d) (R : Rn L n d home p fd) (hp : fd[p]? = some (r, x)) : Rn L n d home (p + 1) (look d r (Od.steps L) fd) := by
  obtain ⟨m, e⟩ := look_pre d r (Od.steps L) fd
  have lp := (List.getElem?_eq_some_iff.mp hp).1
  refine ⟨look_ok G _ R.ok, look_par _ R.par ⟨p, x, hp⟩, ?_, fun i r' x' s g hi hr hd => ?_⟩
  · rw [e, List.getElem?_append_left (by omega)]
    exact R.hd
  · have li : i < fd.length := by omega
    rw [e, List.getElem?_append_left li] at hr
    rcases Nat.lt_or_ge i p with lt | ge
    · rw [e]
      exact pre_in (R.done i r' x' s g lt hr hd)
    · have : i = p := by omega
      subst this
      rw [hp] at hr
      cases hr
      exact look_in _ (G.dom _ _ _ hd).2.2 hd
theorem rn_run {L n : Nat} {d : Gm} {home : Nat} (G : Gr L n d) : ∀ (k p : Nat) (fd : Fd), n < p + k → Rn L n d home p fd → ∃ q, (run d (Od.steps L) k p fd).length ≤ q ∧ Rn L n d home q (run d (Od.steps L) k p fd)
  | 0, p, fd, hk, R => ⟨p, by have := R.ok.len; show fd.length ≤ p; omega, R⟩
  | k + 1, p, fd, hk, R => by
    cases hp : fd[p]? with
    | none =>
      have : fd.length ≤ p := by
        rcases Nat.lt_or_ge p fd.length with lt | ge
        · rw [List.getElem?_eq_getElem lt] at hp
          cases hp
        · exact ge
      rw [run_end this]
      exact ⟨p, this, R⟩
    | some y =>
      obtain ⟨r, x⟩ := y
      rw [run_on hp]
      exact rn_run G k (p + 1) _ (by omega) (rn_next G R hp)
/-- all that is reached -/
theorem bfs_all {L n : Nat} {d : Gm} {home : Nat} (G : Gr L n d) (h : home < n) : ∃ q, (bfs L n d home).length ≤ q ∧ Rn L n d home q (bfs L n d home) := rn_run G (n + 1) 0 _ (by omega) (rn_start h)
theorem bfs_ok {L n : Nat} {d : Gm} {home : Nat} (G : Gr L n d) (h : home < n) : Ok n (bfs L n d home) := (bfs_all G h).choose_spec.2.ok
theorem bfs_closed {L n : Nat} {d : Gm} {home r g : Nat} {s : Int} (G : Gr L n d) (h : home < n) (hr : r ∈ (bfs L n d home).map (·.1)) (hd : d r s = some g) : g ∈ (bfs L n d home).map (·.1) := by
  obtain ⟨q, hq, R⟩ := bfs_all G h
  obtain ⟨i, hi⟩ := List.mem_iff_getElem?.mp hr
  rw [List.getElem?_map] at hi
  cases e : (bfs L n d home)[i]? with
  | none => rw [e] at hi; cases hi
  | some y =>
    rw [e] at hi
    cases hi
    exact R.done i y.1 y.2 s g (by have := (List.getElem?_eq_some_iff.mp e).1; omega) e hd
/-! ### the same rooms by other names -/
def ren (φ : Nat → Nat) (fd : Fd) : Fd := fd.map fun y => (φ y.1, y.2.map fun z => (φ z.1, z.2))
theorem ren_keys (φ : Nat → Nat) (fd : Fd) : (ren φ fd).map (·.1) = (fd.map (·.1)).map φ := by unfold ren; rw [List.map_map, List.map_map]; rfl
structure Sim (d d' : Gm) (φ : Nat → Nat) (P : Nat → Prop) : Prop where
  inj : ∀ a b, P a → P b → φ a = φ b → a = b
  go : ∀ r s, P r → d' (φ r) s = (d r s).map φ
  on : ∀ r s g, P r → d r s = some g → P g
theorem adv_ren {d d' : Gm} {φ : Nat → Nat} {P : Nat → Prop} (I : Sim d d' φ P) {r : Nat} {s : Int} {fd : Fd} (hr : P r) (hf : ∀ g ∈ fd.map (·.1), P g) : adv d' (φ r) (ren φ fd) s = ren φ (adv d r fd s) ∧ ∀ g ∈ (adv d r fd s).map (·.1), P g := by
  unfold adv
  rw [I.go r s hr]
  cases e : d r s with
  | none => exact ⟨rfl, hf⟩
  | some g =>
    have pg := I.on r s g hr e
    show (if φ g ∈ (ren φ fd).map (·.1) then ren φ fd else ren φ fd ++ [(φ g, some (φ r, s))]) = ren φ (if g ∈ fd.map (·.1) then fd else fd ++ [(g, some (r, s))]) ∧ ∀ g' ∈ (if g ∈ fd.map (·.1) then fd else fd ++ [(g, some (r, s))]).map (·.1), P g'
    rw [ren_keys]
    have iff : φ g ∈ (fd.map (·.1)).map φ ↔ g ∈ fd.map (·.1) := by
      refine ⟨fun h => ?_, fun h => List.mem_map_of_mem h⟩
      obtain ⟨a, ha, e2⟩ := List.mem_map.mp h
      rw [← I.inj a g (hf a ha) pg e2]
      exact ha
    by_cases hg : g ∈ fd.map (·.1)
    · rw [if_pos (iff.mpr hg), if_pos hg]
      exact ⟨rfl, hf⟩
    · rw [if_neg (fun z => hg (iff.mp z)), if_neg hg]
      refine ⟨by unfold ren; rw [List.map_append]; rfl, fun x hx => ?_⟩
      rw [List.map_append, List.mem_append] at hx
      rcases hx with hx | hx
      · exact hf x hx
      · simp only [List.map_cons, List.map_nil, List.mem_singleton] at hx
        rw [hx]
        exact pg
theorem look_ren {d d' : Gm} {φ : Nat → Nat} {P : Nat → Prop} (I : Sim d d' φ P) {r : Nat} (hr : P r) : ∀ (S : List Int) {fd : Fd}, (∀ g ∈ fd.map (·.1), P g) → look d' (φ r) S (ren φ fd) = ren φ (look d r S fd) ∧ ∀ g ∈ (look d r S fd).map (·.1), P g
  | [], _, hf => ⟨rfl, hf⟩
  | s :: S, fd, hf => by
    have a := adv_ren I (s := s) hr hf
    have b := look_ren I hr S a.2
    refine ⟨?_, b.2⟩
    show look d' (φ r) S (adv d' (φ r) (ren φ fd) s) = _
    rw [a.1]
    exact b.1
theorem run_ren {d d' : Gm} {φ : Nat → Nat} {P : Nat → Prop} (I : Sim d d' φ P) (S : List Int) : ∀ (k p : Nat) {fd : Fd}, (∀ g ∈ fd.map (·.1), P g) → run d' S k p (ren φ fd) = ren φ (run d S k p fd)
  | 0, _, _, _ => rfl
  | k + 1, p, fd, hf => by
    cases hp : fd[p]? with
    | none =>
      have h2 : (ren φ fd)[p]? = none := by unfold ren; rw [List.getElem?_map, hp]; rfl
      have e1 : run d' S (k + 1) p (ren φ fd) = ren φ fd := by rw [run, h2]
      have e2 : run d S (k + 1) p fd = fd := by rw [run, hp]
      rw [e1, e2]
    | some y =>
      obtain ⟨r, x⟩ := y
      have h2 : (ren φ fd)[p]? = some (φ r, x.map fun z => (φ z.1, z.2)) := by unfold ren; rw [List.getElem?_map, hp]; rfl
      have hr : P r := hf r (List.mem_map.mpr ⟨_, List.mem_of_getElem? hp, rfl⟩)
      have a := look_ren I hr S hf
      rw [run_on hp, run_on h2, a.1]
      exact run_ren I S k (p + 1) a.2
/-- more turns than needed change nothing -/
theorem run_more {d : Gm} {S : List Int} {L n : Nat} {home : Nat} (G : Gr L n d) (hS : S = Od.steps L) : ∀ (k j p : Nat) (fd : Fd), n < p + k → Rn L n d home p fd → run d S (k + j) p fd = run d S k p fd
  | 0, j, p, fd, hk, R => by
    have := R.ok.len
    rw [run_end (by omega), run_end (by omega)]
  | k + 1, j, p, fd, hk, R => by
    cases hp : fd[p]? with
    | none =>
      have : fd.length ≤ p := by
        rcases Nat.lt_or_ge p fd.length with lt | ge
        · rw [List.getElem?_eq_getElem lt] at hp
          cases hp
        · exact ge
      rw [run_end this, run_end this]
    | some y =>
      obtain ⟨r, x⟩ := y
      rw [show k + 1 + j = (k + j) + 1 by omega, run_on hp, run_on hp]
      subst hS
      exact run_more G rfl k j (p + 1) _ (by omega) (rn_next G R hp)
/-! ### webs -/
/-- how many doors a room has -/
def deg (L : Nat) (d : Gm) (r : Nat) : Nat := ((Od.steps L).filter fun s => (d r s).isSome).length
structure Web (L n : Nat) (d : Gm) : Prop where
  l1 : 1 ≤ L
  l4 : L ≤ 4
  pos : 0 < n
  gr : Gr L n d
  two : ∀ r, 0 < r → r < n → 2 ≤ deg L d r
  ord : (bfs L n d 0).map (·.1) = List.range n
/-- the rows that tell of it -/
def row (L : Nat) (d : Gm) (r : Nat) : List Int := (List.range L).map fun (l : Nat) => match d r ((l : Int) + 1) with
  | some g => (g : Int)
  | none => -1
def rows (L n : Nat) (d : Gm) : List (List Int) := (List.range n).map (row L d)
/-- all that is reached, numbered as it is reached, is a web -/
theorem web_of_bfs {L n : Nat} {d' : Gm} (l1 : 1 ≤ L) (l4 : L ≤ 4) (hn : 0 < n) (G : Gr L n d') (leaf : ∀ r, 0 < r → r < n → deg L d' r ≠ 1) :
    ∃ d : Gm, Web L (bfs L n d' 0).length d ∧ ∀ r, r < (bfs L n d' 0).length → ∀ s, d r s = (d' (((bfs L n d' 0).map (·.1)).getD r 0) s).map ((bfs L n d' 0).map (·.1)).idxOf := by
  obtain ⟨ord, ho⟩ : ∃ ord, (bfs L n d' 0).map (·.1) = ord := ⟨_, rfl⟩
  obtain ⟨m, hm⟩ : ∃ m, (bfs L n d' 0).length = m := ⟨_, rfl⟩
  have lm : ord.length = m := by rw [← ho, List.length_map, hm]
  have ok := bfs_ok G hn
  have nd : ord.Nodup := ho ▸ ok.nodup
  have lt : ∀ g ∈ ord, g < n := fun g hg => ok.lt g (ho ▸ hg)
  have cl : ∀ r s g, r ∈ ord → d' r s = some g → g ∈ ord := fun r s g hr hd => by
    rw [← ho] at hr ⊢
    exact bfs_closed G hn hr hd
  rw [ho, hm]
  have at_in : ∀ r, r < m → ord.getD r 0 ∈ ord := fun r hr => by
    rw [List.getD_eq_getElem?_getD, List.getElem?_eq_getElem (by omega)]
    exact List.getElem_mem _
  have at_idx : ∀ g ∈ ord, ord.getD (ord.idxOf g) 0 = g := fun g hg => by
    have h1 := List.idxOf_lt_length_of_mem hg
    rw [List.getD_eq_getElem?_getD, List.getElem?_eq_getElem h1, Option.getD_some, List.getElem_idxOf]
  have idx_at : ∀ r, r < m → ord.idxOf (ord.getD r 0) = r := fun r hr => by
    have h1 := List.idxOf_lt_length_of_mem (at_in r hr)
    have a : ord[ord.idxOf (ord.getD r 0)]? = some (ord.getD r 0) := by rw [List.getElem?_eq_getElem h1, List.getElem_idxOf]
    have b : ord[r]? = some (ord.getD r 0) := by
      rw [List.getD_eq_getElem?_getD, List.getElem?_eq_getElem (by omega : r < ord.length)]
      rfl
    exact (List.getElem?_inj h1 nd).mp (a.trans b.symm)
  refine ⟨fun r s => if r < m then (d' (ord.getD r 0) s).map ord.idxOf else none, ?_, fun r hr s => if_pos hr⟩
  have get : ∀ {r : Nat} {s : Int} {g : Nat}, (if r < m then (d' (ord.getD r 0) s).map ord.idxOf else none) = some g → r < m ∧ g < m ∧ d' (ord.getD r 0) s = some (ord.getD g 0) := fun {r s g} h => by
    by_cases hr : r < m
    · rw [if_pos hr] at h
      cases e : d' (ord.getD r 0) s with
      | none => rw [e] at h; cases h
      | some g' =>
        rw [e] at h
        cases h
        have hg := cl _ _ _ (at_in r hr) e
        exact ⟨hr, by rw [← lm]; exact List.idxOf_lt_length_of_mem hg, by rw [at_idx _ hg]⟩
    · rw [if_neg hr] at h
      cases h
  have put : ∀ {r g : Nat} {s : Int}, r < m → g < m → d' (ord.getD r 0) s = some (ord.getD g 0) → (if r < m then (d' (ord.getD r 0) s).map ord.idxOf else none) = some g := fun {r g s} hr hg h => by
    rw [if_pos hr, h]
    show some (ord.idxOf (ord.getD g 0)) = some g
    rw [idx_at g hg]
  have G2 : Gr L m fun r s => if r < m then (d' (ord.getD r 0) s).map ord.idxOf else none := by
    refine ⟨fun r s g h => ?_, fun r s g h => ?_⟩
    · obtain ⟨h1, h2, h3⟩ := get h
      exact ⟨h1, h2, (G.dom _ _ _ h3).2.2⟩
    · obtain ⟨h1, h2, h3⟩ := get h
      exact put h2 h1 (G.sym _ _ _ h3)
  have pos : 0 < m := by
    obtain ⟨q, hq, R⟩ := bfs_all (home := 0) G hn
    have := (List.getElem?_eq_some_iff.mp R.hd).1
    omega
  have home : ord.getD 0 0 = 0 := by
    obtain ⟨q, hq, R⟩ := bfs_all (home := 0) G hn
    rw [← ho, List.getD_eq_getElem?_getD, List.getElem?_map, R.hd]
    rfl
  have I : Sim (fun r s => if r < m then (d' (ord.getD r 0) s).map ord.idxOf else none) d' (fun r => ord.getD r 0) (· < m) := by
    refine ⟨fun a b ha hb e => ?_, fun r s hr => ?_, fun r s g _ h => (get h).2.1⟩
    · rw [← idx_at a ha, ← idx_at b hb]
      exact congrArg ord.idxOf e
    · rw [if_pos hr]
      cases e : d' (ord.getD r 0) s with
      | none => rfl
      | some g =>
        show some g = some (ord.getD (ord.idxOf g) 0)
        rw [at_idx _ (cl _ _ _ (at_in r hr) e)]
  have mn : m ≤ n := by
    have := ok.len
    omega
  have bf : (bfs L n d' 0) = ren (fun r => ord.getD r 0) (bfs L m (fun r s => if r < m then (d' (ord.getD r 0) s).map ord.idxOf else none) 0) := by
    have a := run_ren I (Od.steps L) (n + 1) 0 (fd := [(0, none)]) fun g hg => by
      simp only [List.map_cons, List.map_nil, List.mem_singleton] at hg
      omega
    have b : ren (fun r => ord.getD r 0) [(0, none)] = [(0, none)] := by
      show [(ord.getD 0 0, none)] = _
      rw [home]
    rw [b] at a
    have c := run_more (home := 0) G2 rfl (m + 1) (n - m) 0 [(0, none)] (by omega) (rn_start pos)
    rw [show m + 1 + (n - m) = n + 1 by omega] at c
    rw [c] at a
    exact a
  refine ⟨l1, l4, pos, G2, fun r hr0 hr => ?_, ?_⟩
  · have same : deg L (fun r s => if r < m then (d' (ord.getD r 0) s).map ord.idxOf else none) r = deg L d' (ord.getD r 0) := by
      unfold deg
      congr 1
      refine List.filter_congr fun s _ => ?_
      show (if r < m then (d' (ord.getD r 0) s).map ord.idxOf else none).isSome = _
      rw [if_pos hr]
      cases d' (ord.getD r 0) s <;> rfl
    rw [same]
    have hin := at_in r hr
    have ne0 : ord.getD r 0 ≠ 0 := fun z => by
      have := idx_at r hr
      rw [z, ← home, idx_at 0 pos] at this
      omega
    have d1 := leaf _ (by omega) (lt _ hin)
    obtain ⟨q, hq, R⟩ := bfs_all (home := 0) G hn
    obtain ⟨i, hi⟩ := List.mem_iff_getElem?.mp (ho ▸ hin)
    rw [List.getElem?_map] at hi
    cases e : (bfs L n d' 0)[i]? with
    | none => rw [e] at hi; cases hi
    | some y =>
      rw [e] at hi
      have hy : y.1 = ord.getD r 0 := by
        rw [ho] at hi
        exact Option.some.inj hi
      rcases R.par i y.1 y.2 e with ⟨_, k, _⟩ | ⟨r', s, j, y', _, k, _⟩
      · exact absurd (hy.symm.trans k) ne0
      · rw [hy] at k
        have k2 := G.sym _ _ _ k
        have : 0 < deg L d' (ord.getD r 0) := by
          unfold deg
          exact List.length_pos_of_mem (List.mem_filter.mpr ⟨(G.dom _ _ _ k2).2.2, by rw [k2]; rfl⟩)
        omega
  · obtain ⟨ks, hks⟩ : ∃ ks, (bfs L m (fun r s => if r < m then (d' (ord.getD r 0) s).map ord.idxOf else none) 0).map (·.1) = ks := ⟨_, rfl⟩
    have e1 : ord = ks.map fun r => ord.getD r 0 := by rw [← hks, ← ren_keys, ← bf, ho]
    have ok2 := bfs_ok G2 pos
    have lk : ks.length = m := by
      have := congrArg List.length e1
      rw [List.length_map, lm] at this
      exact this.symm
    rw [hks]
    refine List.ext_getElem? fun i => ?_
    rcases Nat.lt_or_ge i m with h | h
    · have hk := List.getElem?_eq_getElem (l := ks) (i := i) (by omega)
      have e2 := congrArg (fun l => l[i]?) e1
      simp only [List.getElem?_map] at e2
      rw [hk] at e2
      have klt : ks[i]'(by omega) < m := ok2.lt _ (by rw [hks]; exact List.getElem_mem _)
      have e3 : ord.getD i 0 = ord.getD (ks[i]'(by omega)) 0 := by
        rw [List.getD_eq_getElem?_getD, e2]
        rfl
      have := congrArg ord.idxOf e3
      rw [idx_at i h, idx_at _ klt] at this
      rw [hk, List.getElem?_range h, ← this]
    · rw [List.getElem?_eq_none (by omega), List.getElem?_eq_none (by rw [List.length_range]; omega)]
/-! ### the ways laid one by one -/
/-- those up to a letter of a room -/
def laid (d : Gm) (i j : Nat) : Gm := fun x s => match d x s with
  | none => none
  | some g => if 0 < s then (if x < i ∨ (x = i ∧ s ≤ (j : Int)) then some g else none) else (if g < i ∨ (g = i ∧ -s ≤ (j : Int)) then some g else none)
theorem laid_no {d : Gm} {i j x : Nat} {s : Int} (h : d x s = none) : laid d i j x s = none := by unfold laid; rw [h]
theorem laid_pos {d : Gm} {i j x g : Nat} {s : Int} (h : d x s = some g) (hs : 0 < s) : laid d i j x s = if x < i ∨ (x = i ∧ s ≤ (j : Int)) then some g else none := by
  unfold laid
  rw [h]
  exact if_pos hs
theorem laid_neg {d : Gm} {i j x g : Nat} {s : Int} (h : d x s = some g) (hs : ¬ 0 < s) : laid d i j x s = if g < i ∨ (g = i ∧ -s ≤ (j : Int)) then some g else none := by
  unfold laid
  rw [h]
  exact if_neg hs
theorem ite_same {c c' : Prop} [Decidable c] [Decidable c'] {α : Type} {a b : α} (h : c ↔ c') : (if c then a else b) = if c' then a else b := by
  by_cases hc : c
  · rw [if_pos hc, if_pos (h.mp hc)]
  · rw [if_neg hc, if_neg fun z => hc (h.mpr z)]
theorem step_ne {L n : Nat} {d : Gm} (G : Gr L n d) {x g : Nat} {s : Int} (h : d x s = some g) : s ≠ 0 ∧ -(L : Int) ≤ s ∧ s ≤ L := Od.mem_steps.mp (G.dom _ _ _ h).2.2
theorem laid_none {L n : Nat} {d : Gm} (G : Gr L n d) {i j : Nat} (h : d i ((j : Int) + 1) = none) (x : Nat) (s : Int) : laid d i (j + 1) x s = laid d i j x s := by
  cases e : d x s with
  | none => rw [laid_no e, laid_no e]
  | some g =>
    by_cases hs : 0 < s
    · rw [laid_pos e hs, laid_pos e hs]
      refine ite_same ⟨fun z => ?_, fun z => by omega⟩
      rcases z with z | ⟨z1, z2⟩
      · exact .inl z
      · refine .inr ⟨z1, ?_⟩
        rcases Decidable.em ((j : Int) < s) with q | q
        · exfalso
          have : s = (j : Int) + 1 := by omega
          rw [this, z1, h] at e
          cases e
        · omega
    · rw [laid_neg e hs, laid_neg e hs]
      refine ite_same ⟨fun z => ?_, fun z => by omega⟩
      rcases z with z | ⟨z1, z2⟩
      · exact .inl z
      · refine .inr ⟨z1, ?_⟩
        rcases Decidable.em ((j : Int) < -s) with q | q
        · exfalso
          have k := G.sym _ _ _ e
          have : -s = (j : Int) + 1 := by omega
          rw [this, z1, h] at k
          cases k
        · omega
theorem laid_some {L n : Nat} {d : Gm} (G : Gr L n d) {i j g : Nat} (h : d i ((j : Int) + 1) = some g) (x : Nat) (s : Int) : laid d i (j + 1) x s = if x = g ∧ s = -((j : Int) + 1) then some i else if x = i ∧ s = (j : Int) + 1 then some g else laid d i j x s := by
  by_cases c1 : x = g ∧ s = -((j : Int) + 1)
  · rw [if_pos c1, c1.1, c1.2, laid_neg (G.sym _ _ _ h) (by omega), if_pos (.inr ⟨rfl, by omega⟩)]
  rw [if_neg c1]
  by_cases c2 : x = i ∧ s = (j : Int) + 1
  · rw [if_pos c2, c2.1, c2.2, laid_pos h (by omega), if_pos (.inr ⟨rfl, by omega⟩)]
  rw [if_neg c2]
  cases e : d x s with
  | none => rw [laid_no e, laid_no e]
  | some g' =>
    by_cases hs : 0 < s
    · rw [laid_pos e hs, laid_pos e hs]
      refine ite_same ⟨fun z => ?_, fun z => by omega⟩
      rcases z with z | ⟨z1, z2⟩
      · exact .inl z
      · refine .inr ⟨z1, ?_⟩
        rcases Decidable.em ((j : Int) < s) with q | q
        · exact absurd ⟨z1, by omega⟩ c2
        · omega
    · rw [laid_neg e hs, laid_neg e hs]
      refine ite_same ⟨fun z => ?_, fun z => by omega⟩
      rcases z with z | ⟨z1, z2⟩
      · exact .inl z
      · refine .inr ⟨z1, ?_⟩
        rcases Decidable.em ((j : Int) < -s) with q | q
        · have k := G.sym _ _ _ e
          have e3 : -s = (j : Int) + 1 := by omega
          rw [e3, z1, h] at k
          exact absurd ⟨(Option.some.inj k).symm, by omega⟩ c1
        · omega
theorem laid_start {L n : Nat} {d : Gm} (G : Gr L n d) (x : Nat) (s : Int) : laid d 0 0 x s = none := by
  cases e : d x s with
  | none => exact laid_no e
  | some g =>
    have := step_ne G e
    by_cases hs : 0 < s
    · rw [laid_pos e hs, if_neg (by omega)]
    · rw [laid_neg e hs, if_neg (by omega)]
theorem laid_row {L n : Nat} {d : Gm} (G : Gr L n d) {i : Nat} (x : Nat) (s : Int) : laid d i L x s = laid d (i + 1) 0 x s := by
  cases e : d x s with
  | none => rw [laid_no e, laid_no e]
  | some g =>
    have := step_ne G e
    by_cases hs : 0 < s
    · rw [laid_pos e hs, laid_pos e hs]
      exact ite_same (by omega)
    · rw [laid_neg e hs, laid_neg e hs]
      exact ite_same (by omega)
theorem laid_all {L n : Nat} {d : Gm} (G : Gr L n d) (x : Nat) (s : Int) : laid d n 0 x s = d x s := by
  cases e : d x s with
  | none => exact laid_no e
  | some g =>
    have := G.dom _ _ _ e
    by_cases hs : 0 < s
    · rw [laid_pos e hs, if_pos (by omega)]
    · rw [laid_neg e hs, if_pos (by omega)]
/-- what is not laid yet -/
theorem laid_new {L n : Nat} {d : Gm} (G : Gr L n d) {i j g : Nat} (h : d i ((j : Int) + 1) = some g) : laid d i j g (-((j : Int) + 1)) = none := by
  rw [laid_neg (G.sym _ _ _ h) (by omega), if_neg (by omega)]
theorem laid_sub {d : Gm} {i j x : Nat} {s : Int} (h : (laid d i j x s).isSome = true) : (d x s).isSome = true := by
  cases e : d x s with
  | none => rw [laid_no e] at h; cases h
  | some g => rfl
theorem row_at {L r l : Nat} {d : Gm} (h : l < L) : (row L d r)[l]? = some (match d r ((l : Int) + 1) with
  | some g => (g : Int)
  | none => -1) := by
  unfold row
  rw [List.getElem?_map, List.getElem?_range h]
  rfl
theorem rows_at {L n r : Nat} {d : Gm} (h : r < n) : (rows L n d)[r]? = some (row L d r) := by
  unfold rows
  rw [List.getElem?_map, List.getElem?_range h]
  rfl
theorem row_len (L : Nat) (d : Gm) (r : Nat) : (row L d r).length = L := by unfold row; rw [List.length_map, List.length_range]
theorem rows_len (L n : Nat) (d : Gm) : (rows L n d).length = n := by unfold rows; rw [List.length_map, List.length_range]
/-! ### how many straight walks lead home -/
/-- by first steps, and all of them -/
def hw (L : Nat) (d : Gm) : Nat → (Nat → Int → Int) × (Nat → Int)
  | 0 => (fun _ _ => 0, fun r => if r = 0 then 1 else 0)
  | k + 1 => (fun r s => match d r s with
      | some g => (hw L d k).2 g - (hw L d k).1 g (-s)
      | none => 0, fun r => ((Od.steps L).map fun s => match d r s with
      | some g => (hw L d k).2 g - (hw L d k).1 g (-s)
      | none => 0).sum)
/-- how many walks of a length lead from home to home -/
def mem (L : Nat) (d : Gm) (k : Nat) : Int := (hw L d k).2 0
theorem hw_tot (L : Nat) (d : Gm) (k r : Nat) : (hw L d (k + 1)).2 r = ((Od.steps L).map ((hw L d (k + 1)).1 r)).sum := rfl
theorem hw_none {L : Nat} {d : Gm} {k r : Nat} {s : Int} (h : d r s = none) : (hw L d k).1 r s = 0 := by
  cases k with
  | zero => rfl
  | succ k =>
    show (match d r s with
      | some g => (hw L d k).2 g - (hw L d k).1 g (-s)
      | none => 0) = 0
    rw [h]
theorem hw_some {L : Nat} {d : Gm} {k r g : Nat} {s : Int} (h : d r s = some g) : (hw L d (k + 1)).1 r s = (hw L d k).2 g - (hw L d k).1 g (-s) := by
  show (match d r s with
      | some g => (hw L d k).2 g - (hw L d k).1 g (-s)
      | none => 0) = _
  rw [h]
end Wb
/-! webs as they stand in memory -/
namespace L2
open PySem PySem.Spec PyProof.Rows Evl
/-- a room, if there is one -/
def vN (o : Option Nat) : Option V := o.map fun (g : Nat) => V.int (g : Int)
theorem vN_some {o : Option Nat} : (vN o).isSome = o.isSome := by cases o <;> rfl
/-- a web: (letters, rows) -/
structure WebH (K : PySem.W.Frag) (H : Hp) (a : Addr) (L n : Nat) (d : Wb.Gm) : Prop where
  ex : ∃ (r : Addr) (xs : List V), SqT K H a [.int (L : Int), .ref r] ∧ SqT K H r xs ∧ WkA K H xs (Wb.rows L n d)
theorem WebH.mono {K : PySem.W.Frag} {H H1 : Hp} {a : Addr} {L n : Nat} {d : Wb.Gm} (h : WebH K H a L n d) (e : Ex H H1) : WebH K H1 a L n d := by
  obtain ⟨r, xs, h1, h2, h3⟩ := h.ex
  exact ⟨r, xs, ex_t e h1, ex_t e h2, h3.ex e⟩
theorem WebH.tx {K : PySem.W.Frag} {H H1 : Hp} {a : Addr} {L n : Nat} {d : Wb.Gm} (h : WebH K H a L n d) (e : TX H H1) : WebH K H1 a L n d := by
  obtain ⟨r, xs, h1, h2, h3⟩ := h.ex
  exact ⟨r, xs, tx_t e h1, tx_t e h2, h3.tx e⟩
/-- a list of dicts with numbers for keys: new ones behind H0 -/
structure DL (H0 H : Hp) (a : Addr) (n : Nat) (f : Nat → Int → Option V) : Prop where
  ex : ∃ ds : List Addr, ds.length = n ∧ ds.Nodup ∧ a ∉ ds ∧ (∀ x ∈ ds, H0 x = none) ∧ H0 a = none ∧ H a = some (.lst (ds.map V.ref)) ∧ ∀ i x, ds[i]? = some x → ∃ kvs, H x = some (.dK kvs) ∧ DI kvs (f i)
theorem DL.mono {H0 H H1 : Hp} {a : Addr} {n : Nat} {f : Nat → Int → Option V} (h : DL H0 H a n f) (e : Ex H H1) : DL H0 H1 a n f := by
  obtain ⟨ds, h1, h2, h3, h4, h5, h6, h7⟩ := h.ex
  refine ⟨ds, h1, h2, h3, h4, h5, e _ _ h6, fun i x hx => ?_⟩
  obtain ⟨kvs, k1, k2⟩ := h7 i x hx
  exact ⟨kvs, e _ _ k1, k2⟩
theorem DL.congr {H0 H : Hp} {a : Addr} {n : Nat} {f g : Nat → Int → Option V} (h : DL H0 H a n f) (e : ∀ i, i < n → ∀ x, f i x = g i x) : DL H0 H a n g := by
  obtain ⟨ds, h1, h2, h3, h4, h5, h6, h7⟩ := h.ex
  refine ⟨ds, h1, h2, h3, h4, h5, h6, fun i x hx => ?_⟩
  obtain ⟨kvs, k1, k2⟩ := h7 i x hx
  exact ⟨kvs, k1, k2.congr (e i (by rw [← h1]; exact (List.getElem?_eq_some_iff.mp hx).1))⟩
/-- the dict at a place -/
theorem DL.at' {H0 H : Hp} {a : Addr} {n : Nat} {f : Nat → Int → Option V} (h : DL H0 H a n f) {i : Nat} (hi : i < n) : ∃ xs x kvs, H a = some (.lst xs) ∧ xs[i]? = some (.ref x) ∧ H x = some (.dK kvs) ∧ DI kvs (f i) ∧ x ≠ a ∧ H0 x = none ∧
    ∀ H1 kvs' g, ExW x H H1 → H1 x = some (.dK kvs') → DI kvs' g → DL H0 H1 a n (fun j => if j = i then g else f j) := by
  obtain ⟨ds, h1, h2, h3, h4, h5, h6, h7⟩ := h.ex
  have hx := List.getElem?_eq_getElem (l := ds) (i := i) (by omega)
  obtain ⟨kvs, k1, k2⟩ := h7 i _ hx
  have xin := List.mem_of_getElem? hx
  have xa : ds[i] ≠ a := fun z => h3 (z ▸ xin)
  refine ⟨_, ds[i], kvs, h6, by rw [List.getElem?_map, hx]; rfl, k1, k2, xa, h4 _ xin, fun H1 kvs' g e q1 q2 => ?_⟩
  refine ⟨ds, h1, h2, h3, h4, h5, e _ _ h6 xa.symm, fun j y hy => ?_⟩
  by_cases ej : j = i
  · subst ej
    rw [hx] at hy
    cases hy
    exact ⟨kvs', q1, by rw [if_pos rfl]; exact q2⟩
  · obtain ⟨kv2, m1, m2⟩ := h7 j y hy
    have ne : y ≠ ds[i] := fun z => by
      subst z
      exact ej ((List.getElem?_inj (List.getElem?_eq_some_iff.mp hy).1 h2).mp (hy.trans hx.symm))
    exact ⟨kv2, e _ _ m1 ne, by rw [if_neg ej]; exact m2⟩
theorem DL.ex0 {H0 H H1 : Hp} {x : Addr} (e : Ex H0 H) (w : ExW x H H1) (hx : H0 x = none) : Ex H0 H1 := fun a o ha => w a o (e a o ha) (ne_of_none ha hx)
theorem DI.le {kvs : List (Key × V)} {f : Int → Option V} (h : DI kvs f) {m : List Int} (hm : m.Nodup) (e : ∀ x, (f x).isSome = true → x ∈ m) : kvs.length ≤ m.length := by
  rw [h.len (hm.filter fun x => (f x).isSome) fun x => by rw [List.mem_filter]; exact ⟨fun z => z.2, fun z => ⟨e x z, z⟩⟩]
  exact List.length_filter_le _ _
/-- a table of steps: for each room a dict -/
structure TabH (H : Hp) (a : Addr) (n : Nat) (d : Wb.Gm) : Prop where
  ex : ∃ ds : List Addr, ds.length = n ∧ H a = some (.lst (ds.map V.ref)) ∧ ∀ i x, ds[i]? = some x → ∃ kvs, H x = some (.dK kvs) ∧ DI kvs fun s => vN (d i s)
theorem TabH.mono {H H1 : Hp} {a : Addr} {n : Nat} {d : Wb.Gm} (h : TabH H a n d) (e : Ex H H1) : TabH H1 a n d := by
  obtain ⟨ds, h1, h6, h7⟩ := h.ex
  refine ⟨ds, h1, e _ _ h6, fun i x hx => ?_⟩
  obtain ⟨kvs, k1, k2⟩ := h7 i x hx
  exact ⟨kvs, e _ _ k1, k2⟩
theorem TabH.of {H0 H : Hp} {a : Addr} {n : Nat} {f : Nat → Int → Option V} {d : Wb.Gm} (h : DL H0 H a n f) (e : ∀ i, i < n → ∀ s, f i s = vN (d i s)) : TabH H a n d := by
  obtain ⟨ds, h1, h2, h3, h4, h5, h6, h7⟩ := (h.congr e).ex
  exact ⟨ds, h1, h6, h7⟩
theorem TabH.at' {H : Hp} {a : Addr} {n : Nat} {d : Wb.Gm} (h : TabH H a n d) {i : Nat} (hi : i < n) : ∃ xs x kvs, H a = some (.lst xs) ∧ xs.length = n ∧ xs[i]? = some (.ref x) ∧ H x = some (.dK kvs) ∧ DI kvs fun s => vN (d i s) := by
  obtain ⟨ds, h1, h6, h7⟩ := h.ex
  have hx := List.getElem?_eq_getElem (l := ds) (i := i) (by omega)
  obtain ⟨kvs, k1, k2⟩ := h7 i _ hx
  exact ⟨_, _, kvs, h6, by rw [List.length_map]; exact h1, by rw [List.getElem?_map, hx]; rfl, k1, k2⟩
/-- all the rooms reached, each with what leads there -/
structure RchH (K : PySem.W.Frag) (H : Hp) (kvs : List (Key × V)) (fd : Wb.Fd) : Prop where
  len : kvs.length = fd.length
  at' : ∀ (i : Nat) kv y, kvs[i]? = some kv → fd[i]? = some y → kv.1 = Sum.inl (y.1 : Int) ∧ match y.2 with
    | none => kv.2 = .non
    | some (r, s) => WkV K H kv.2 [(r : Int), s]
theorem RchH.mono {K : PySem.W.Frag} {H H1 : Hp} {kvs : List (Key × V)} {fd : Wb.Fd} (h : RchH K H kvs fd) (e : TX H H1) : RchH K H1 kvs fd := by
  refine ⟨h.len, fun i kv y h1 h2 => ?_⟩
  obtain ⟨a, b⟩ := h.at' i kv y h1 h2
  refine ⟨a, ?_⟩
  cases e2 : y.2 with
  | none => rw [e2] at b; exact b
  | some z => rw [e2] at b; exact b.tx e
theorem RchH.keys {K : PySem.W.Frag} {H : Hp} {kvs : List (Key × V)} {fd : Wb.Fd} (h : RchH K H kvs fd) : kvs.map (·.1) = (fd.map (·.1)).map fun (g : Nat) => (Sum.inl (g : Int) : Key) := by
  refine List.ext_getElem? fun i => ?_
  rw [List.getElem?_map, List.getElem?_map, List.getElem?_map]
  rcases Nat.lt_or_ge i kvs.length with lt | ge
  · have a := List.getElem?_eq_getElem lt
    have b := List.getElem?_eq_getElem (l := fd) (i := i) (h.len ▸ lt)
    rw [a, b]
    exact congrArg some (h.at' i _ _ a b).1
  · rw [List.getElem?_eq_none ge, List.getElem?_eq_none (h.len ▸ ge)]
    rfl
theorem RchH.mem {K : PySem.W.Frag} {H : Hp} {kvs : List (Key × V)} {fd : Wb.Fd} (h : RchH K H kvs fd) (g : Nat) : (valV kvs (Sum.inl (g : Int))).isSome = decide (g ∈ fd.map (·.1)) := by
  have iff : (Sum.inl (g : Int) : Key) ∈ kvs.map (·.1) ↔ g ∈ fd.map (·.1) := by
    rw [h.keys]
    refine ⟨fun z => ?_, fun z => List.mem_map_of_mem z⟩
    obtain ⟨x, hx, e⟩ := List.mem_map.mp z
    have := Sum.inl.inj e
    have : x = g := by omega
    rw [← this]
    exact hx
  cases e : valV kvs (Sum.inl (g : Int)) with
  | none => exact (decide_eq_false fun z => valV_not e (iff.mpr z)).symm
  | some v => exact (decide_eq_true (iff.mp (valV_in e))).symm
/-! ### new dicts, one for each item -/
section
variable {K : PySem.W.Frag} {σ : L2.St} {H : Hp} {Q : VK} {vs : List Nat} {j : Nat} {a : Addr} {xs : List V}
/-- so many new dicts -/
def NewDs (H0 : Hp) (i : Nat) (ys : List V) (H' : Hp) : Prop := ∃ ds : List Addr, ys = ds.map V.ref ∧ ds.length = i ∧ ds.Nodup ∧ (∀ x ∈ ds, H0 x = none) ∧ (∀ x ∈ ds, H' x = some (.dK [])) ∧ Ex H0 H'
theorem newDs_off {H0 H1 : Hp} {i : Nat} {acc : List V} {D : Addr} (hall : ∀ o, NewDs H0 i acc (upd H1 D o)) : H0 D = none ∧ ∃ ds : List Addr, acc = ds.map V.ref ∧ ds.length = i ∧ ds.Nodup ∧ D ∉ ds ∧ (∀ x ∈ ds, H0 x = none) ∧ (∀ x ∈ ds, H1 x = some (.dK [])) := by
  refine ⟨ex_none fun o => (hall o).choose_spec.2.2.2.2.2, ?_⟩
  obtain ⟨ds, h1, h2, h3, h4, h5, h6⟩ := hall (.lst [])
  have hD : D ∉ ds := fun z => by
    have := h5 D z
    rw [upd_same] at this
    cases this
  refine ⟨ds, h1, h2, h3, hD, h4, fun x hx => ?_⟩
  have := h5 x hx
  have ne : x ≠ D := fun z => hD (z ▸ hx)
  rwa [upd_ne ne] at this
theorem newDs_turn {H0 H1 : Hp} {i : Nat} {acc : List V} {D : Addr} {σ : L2.St} (hall : ∀ o, NewDs H0 i acc (upd H1 D o)) (hacc : H1 D = some (.lst acc)) (e : Ex H0 H1) (R : VK)
    (k : ∀ y H2, H2 D = some (.lst acc) → (∀ o, NewDs H0 (i + 1) (acc ++ [y]) (upd H2 D o)) → R y H2) : tDNewK σ H1 R := by
  obtain ⟨hD0, ds, rfl, h2, h3, hD, h4, h5⟩ := newDs_off hall
  refine st_dnew (r_dnew fun p H2 hp e2 k2 => ?_)
  have hpD : p ≠ D := fun z => by rw [z, hacc] at hp; cases hp
  have hpd : p ∉ ds := fun z => by rw [h5 p z] at hp; cases hp
  refine k _ H2 (e2 _ _ hacc) fun o => ⟨ds ++ [p], by rw [List.map_append]; rfl, by rw [List.length_append, h2]; rfl, ?_, fun x hx => ?_, fun x hx => ?_, ex_put (e.trans e2) hD0⟩
  · rw [List.nodup_append]
    refine ⟨h3, by simp, fun x hx y hy => ?_⟩
    rw [List.mem_singleton.mp hy]
    exact fun z => hpd (z ▸ hx)
  · rcases List.mem_append.mp hx with hx | hx
    · exact h4 x hx
    · rw [List.mem_singleton.mp hx]
      exact fresh_back e hp
  · rcases List.mem_append.mp hx with hx | hx
    · have ne : x ≠ D := fun z => hD (z ▸ hx)
      rw [upd_ne ne]
      exact e2 _ _ (h5 x hx)
    · rw [List.mem_singleton.mp hx, upd_ne hpD]
      exact k2
theorem newDs_end {H0 H1 : Hp} {i : Nat} {acc : List V} {D : Addr} (hall : ∀ o, NewDs H0 i acc (upd H1 D o)) (hacc : H1 D = some (.lst acc)) (e : Ex H0 H1) : DL H0 H1 D i fun _ _ => none := by
  obtain ⟨hD0, ds, rfl, h2, h3, hD, h4, h5⟩ := newDs_off hall
  exact ⟨ds, h2, h3, hD, h4, hD0, hacc, fun k x hx => ⟨[], h5 x (List.mem_of_getElem? hx), DI.nil⟩⟩
theorem dl_T (hl : SqT K H a xs) (hz : xs.length ≤ 10000) (hw : ∀ x, wipe ((wipe σ vs).set j (some x)) vs = wipe σ vs)
    (q : ∀ p H1, H p = none → Ex H H1 → DL H H1 p xs.length (fun _ _ => none) → Q (.ref p) H1) : rLc (Itt K a) (gName j) tYes tDNewK vs σ Q H := by
  refine r_cmTA (xs := xs) (fun i ys H' => NewDs H i ys H') (by omega) hw (fun i ys H' p => ex_t p.choose_spec.2.2.2.2.2 hl) (fun D hD o => ⟨[], rfl, rfl, List.nodup_nil, (fun x hx => nomatch hx), (fun x hx => nomatch hx), Ex.new hD⟩) (fun i x H1 D acc hx hz' hacc p hall => ?_) fun D H1 ys hD h p hall => ?_
  · have hi := (List.getElem?_eq_some_iff.mp hx).1
    refine t_yes (if_T ?_)
    exact newDs_turn hall hacc p.choose_spec.2.2.2.2.2 _ fun y H2 z1 z2 => cm_yes z1 hz' (by omega) z2
  · exact q D H1 hD p.choose_spec.2.2.2.2.2 (newDs_end hall h p.choose_spec.2.2.2.2.2)
theorem dl_R {lo : Int} {m : Nat} (hz : m ≤ 10000) (hw : ∀ x, wipe ((wipe σ vs).set j (some x)) vs = wipe σ vs)
    (q : ∀ p H1, H p = none → Ex H H1 → DL H H1 p m (fun _ _ => none) → Q (.ref p) H1) : rLc (Itr lo m) (gName j) tYes tDNewK vs σ Q H := by
  have at1 : ∀ {i : Nat} {ys : List V} {H' : Hp} {D : Addr}, (∀ o, NewDs H i ys (upd H' D o)) → H' D = some (.lst ys) → NewDs H i ys H' := fun {i ys H' D} h e => by
    have z := h (.lst ys)
    rw [upd_id e] at z
    exact z
  refine r_cmRA (m := m) (fun i ys H' => NewDs H i ys H') (by omega) hw (fun D hD o => ⟨[], rfl, rfl, List.nodup_nil, (fun x hx => nomatch hx), (fun x hx => nomatch hx), Ex.new hD⟩) (fun i H1 D acc hi hz' hacc hall Q' k => ?_) fun D H1 ys hD zy h hall => ?_
  · exact newDs_turn hall hacc (at1 hall hacc).choose_spec.2.2.2.2.2 _ fun y H2 z1 z2 => k y H2 z1 z2
  · have e := (at1 hall h).choose_spec.2.2.2.2.2
    exact q D H1 hD e (newDs_end hall h e)
end
theorem RchH.snoc {K : PySem.W.Frag} {H : Hp} {kvs : List (Key × V)} {fd : Wb.Fd} {g r : Nat} {s : Int} {x : V} (h : RchH K H kvs fd) (hx : WkV K H x [(r : Int), s]) : RchH K H (kvs ++ [(Sum.inl (g : Int), x)]) (fd ++ [(g, some (r, s))]) := by
  refine ⟨by rw [List.length_append, List.length_append, h.len]; rfl, fun i kv y h1 h2 => ?_⟩
  rcases Nat.lt_or_ge i kvs.length with lt | ge
  · rw [List.getElem?_append_left lt] at h1
    rw [List.getElem?_append_left (h.len ▸ lt)] at h2
    exact h.at' i kv y h1 h2
  · rw [List.getElem?_append_right ge] at h1
    rw [List.getElem?_append_right (h.len ▸ ge)] at h2
    have e : i - kvs.length = 0 := by
      have := (List.getElem?_eq_some_iff.mp h1).1
      simp at this
      omega
    rw [e] at h1
    rw [← h.len, e] at h2
    cases h1
    cases h2
    exact ⟨rfl, hx⟩
theorem r_dninV {H : Hp} {Q : VK} {d : Addr} {x : Int} {kvs : List (Key × V)} (h : Rd H d (.dK kvs)) (q : Q (.bl (!(valV kvs (Sum.inl x)).isSome)) H) : rDIn true (.ref d) (.int x) H Q := ⟨d, _, rfl, .inl ⟨kvs, Sum.inl x, h, rfl, rfl⟩, q⟩
theorem r_dinV {H : Hp} {Q : VK} {d : Addr} {x : Int} {kvs : List (Key × V)} (h : Rd H d (.dK kvs)) (q : Q (.bl (valV kvs (Sum.inl x)).isSome) H) : rDIn false (.ref d) (.int x) H Q := ⟨d, _, rfl, .inl ⟨kvs, Sum.inl x, h, rfl, rfl⟩, q⟩
theorem FunD.okN {P : Program} {w : World} {K : PySem.W.Frag} {mg : Str → Option Value} {base : Heap} {x qual : Str} {params : Arguments} {body : List Stmt} {scope : Scope} {dvs : List V} {kws : List (Str × V)} {f : Addr} {fd : FuncData} {N ps : List Str} {k : Nat} {sp : Sp} (F : FunD K x qual params body scope dvs kws f fd) (S : FnScope N ps scope)
    (len : ∀ xs H Q E, sp xs H Q E → xs.length = ps.length)
    (inner : ∀ (cdv : Value) (A : Around) (outer : List Env) (s : Shared) (H : Hp) (xs : List V) (Q : VK) (E : XK),
      Room k (A.deeper (envOfC qual scope s.heap.objs.size f cdv)) → sp xs H Q E →
      ∃ t, PSs (cxOf CX0 P w K mg base N qual scope f cdv A outer s H E).nox body t ∧ t { nx := fun _ H' => Q .non H', rt := Q } (start N xs) H) :
    FnOk P w K mg base CX0 (k + 1) f fd ps sp :=
  F.ok S len fun cdv A outer s H xs Q E hr hsp => by
    obtain ⟨t, b, q⟩ := inner cdv A outer s H xs Q E hr hsp
    exact ⟨t, b.nox, q⟩
end L2
/-! objects by their fields; lists of dicts made by comprehensions; sums over dicts -/
namespace L2
open PySem PySem.Spec PyProof.Rows Evl
/-! ### fields and methods -/
def rFld (K : PySem.W.Frag) (f : Str) (x : V) (H1 : Hp) (Q : VK) : Prop := ∃ a C dx fs v, x = .ref a ∧ H1 a = some (.ins C dx fs) ∧ Cls K C ∧ NoAttr K C f ∧ fs.lookup f = some v ∧ Q v H1
def rSFld (K : PySem.W.Frag) (f : Str) (y x : V) (H2 : Hp) (R : Hp → Prop) : Prop := ∃ a C dx fs, x = .ref a ∧ H2 a = some (.ins C dx fs) ∧ Cls K C ∧ NoAttr K C f ∧ fs.length < 1000 ∧ R (upd H2 a (.ins C dx (putF f y fs)))
def rMeth (C : Addr) (m : Str) (sp : Sp) (dvs : List V) (E : XK) (t : TA) (σ : L2.St) (x : V) (H1 : Hp) (Q : VK) : Prop := ∃ a dx fs, x = .ref a ∧ H1 a = some (.ins C dx fs) ∧ fs.lookup m = none ∧ t σ H1 fun vs H2 => sp (x :: (vs ++ dvs)) H2 Q E
def rMake (C : Addr) (sp : Sp) (dvs : List V) (E : XK) (vs : List V) (H1 : Hp) (Q : VK) : Prop := ∀ x dx, H1 x = none → H1 dx = none → dx ≠ x → sp (.ref x :: (vs ++ dvs)) (upd (upd H1 dx (.own x)) x (.ins C dx [])) (fun v H2 => v = .non ∧ Q (.ref x) H2) E
section
variable {K : PySem.W.Frag} {σ : L2.St} {H : Hp} {Q : VK} {D : Ends} {ta tv : TE} {t : TA} {f m : Str} {a C dx : Addr} {fs : List (Str × V)} {v y : V} {sp : Sp} {dvs vs : List V} {E : XK}
theorem st_fld (h : ta σ H fun x H1 => rFld K f x H1 Q) : tFld K ta f σ H Q := h
theorem st_sfld (h : tv σ H fun y H1 => ta σ H1 fun x H2 => rSFld K f y x H2 fun H3 => D.nx σ H3) : sFld K ta tv f D σ H := h
theorem st_meth (h : ta σ H fun x H1 => rMeth C m sp dvs E t σ x H1 Q) : tMeth C m sp dvs E ta t σ H Q := h
theorem st_make (h : t σ H fun vs H1 => rMake C sp dvs E vs H1 Q) : tMake C sp dvs E t σ H Q := h
theorem r_fld (h : H a = some (.ins C dx fs)) (c : Cls K C) (n : NoAttr K C f) (l : fs.lookup f = some v) (q : Q v H) : rFld K f (.ref a) H Q := ⟨a, C, dx, fs, v, rfl, h, c, n, l, q⟩
theorem r_sfld {R : Hp → Prop} (h : H a = some (.ins C dx fs)) (c : Cls K C) (n : NoAttr K C f) (hz : fs.length < 1000) (q : ∀ H1, ExW a H H1 → H1 a = some (.ins C dx (putF f y fs)) → R H1) : rSFld K f y (.ref a) H R :=
  ⟨a, C, dx, fs, rfl, h, c, n, hz, q _ ExW.upd upd_same⟩
theorem r_meth (h : H a = some (.ins C dx fs)) (l : fs.lookup m = none) (q : t σ H fun vs H2 => sp (.ref a :: (vs ++ dvs)) H2 Q E) : rMeth C m sp dvs E t σ (.ref a) H Q := ⟨a, dx, fs, rfl, h, l, q⟩
theorem r_make (q : ∀ x dx H2, H x = none → Ex H H2 → H2 x = some (.ins C dx []) → sp (.ref x :: (vs ++ dvs)) H2 (fun v H3 => v = .non ∧ Q (.ref x) H3) E) : rMake C sp dvs E vs H Q := fun x dx hx hdx hne =>
  q x dx _ hx (fun b o ho => by rw [upd_ne (ne_of_none ho hx), upd_ne (ne_of_none ho hdx)]; exact ho) upd_same
end
theorem pe_fldK {X : Cx} (K : PySem.W.Frag) {e : Expr} {f : Str} {pos : Pos} {ta : TE} (he : PE X e ta) (hb : attributeBase e f X.env (eval e X.env) = eval e X.env := by rfl) (h : X.K = K := by rfl) : PE X (.Attribute e f pos) (tFld K ta f) := h ▸ pe_fld he hb
theorem st_rg1 {ta : TE} {σ : L2.St} {H : Hp} {R : Int → Int → Hp → Prop} (h : ta σ H fun x H1 => ∃ n, x = .int n ∧ R 0 n H1) : tRg1 ta σ H R := h
/-! ### lists of dicts, each as told -/
def NewDf (H0 : Hp) (f : Nat → Int → Option V) (i : Nat) (ys : List V) (H' : Hp) : Prop := ∃ ds : List Addr, ys = ds.map V.ref ∧ ds.length = i ∧ ds.Nodup ∧ (∀ x ∈ ds, H0 x = none) ∧ (∀ k x, ds[k]? = some x → ∃ kvs, H' x = some (.dK kvs) ∧ DI kvs (f k)) ∧ Ex H0 H'
section
variable {K : PySem.W.Frag} {σ : L2.St} {H : Hp} {Q : VK} {vs : List Nat} {j : Nat} {a : Addr} {xs : List V} {te : TE} {f : Nat → Int → Option V}
theorem newDf_off {H0 H1 : Hp} {i : Nat} {acc : List V} {D : Addr} (hall : ∀ o, NewDf H0 f i acc (upd H1 D o)) : H0 D = none ∧ ∃ ds : List Addr, acc = ds.map V.ref ∧ ds.length = i ∧ ds.Nodup ∧ D ∉ ds ∧ (∀ x ∈ ds, H0 x = none) ∧ (∀ k x, ds[k]? = some x → ∃ kvs, H1 x = some (.dK kvs) ∧ DI kvs (f k)) := by
  refine ⟨ex_none fun o => (hall o).choose_spec.2.2.2.2.2, ?_⟩
  obtain ⟨ds, h1, h2, h3, h4, h5, h6⟩ := hall (.lst [])
  have hD : D ∉ ds := fun z => by
    obtain ⟨k, hk⟩ := List.mem_iff_getElem?.mp z
    obtain ⟨kvs, q, _⟩ := h5 k D hk
    rw [upd_same] at q
    cases q
  refine ⟨ds, h1, h2, h3, hD, h4, fun k x hx => ?_⟩
  obtain ⟨kvs, q1, q2⟩ := h5 k x hx
  have ne : x ≠ D := fun z => hD (z ▸ List.mem_of_getElem? hx)
  exact ⟨kvs, by rwa [upd_ne ne] at q1, q2⟩
theorem newDf_next {H0 H1 H2 : Hp} {i : Nat} {acc : List V} {D p : Addr} {kvs : List (Key × V)} (hall : ∀ o, NewDf H0 f i acc (upd H1 D o)) (hacc : H1 D = some (.lst acc)) (e : Ex H0 H1) (hp : H1 p = none) (e2 : Ex H1 H2) (k2 : H2 p = some (.dK kvs)) (hd : DI kvs (f i)) : ∀ o, NewDf H0 f (i + 1) (acc ++ [.ref p]) (upd H2 D o) := fun o => by
  obtain ⟨hD0, ds, rfl, h2, h3, hD, h4, h5⟩ := newDf_off hall
  have hpD : p ≠ D := fun z => by rw [z, hacc] at hp; cases hp
  have hpd : p ∉ ds := fun z => by
    obtain ⟨k, hk⟩ := List.mem_iff_getElem?.mp z
    obtain ⟨_, q, _⟩ := h5 k p hk
    rw [q] at hp
    cases hp
  refine ⟨ds ++ [p], by rw [List.map_append]; rfl, by rw [List.length_append, h2]; rfl, ?_, fun x hx => ?_, fun k x hx => ?_, ex_put (e.trans e2) hD0⟩
  · rw [List.nodup_append]
    refine ⟨h3, by simp, fun x hx y hy => ?_⟩
    rw [List.mem_singleton.mp hy]
    exact fun z => hpd (z ▸ hx)
  · rcases List.mem_append.mp hx with hx | hx
    · exact h4 x hx
    · rw [List.mem_singleton.mp hx]
      exact fresh_back e hp
  · rcases Nat.lt_or_ge k ds.length with lt | ge
    · rw [List.getElem?_append_left lt] at hx
      obtain ⟨kv, q1, q2⟩ := h5 k x hx
      have ne : x ≠ D := fun z => hD (z ▸ List.mem_of_getElem? hx)
      exact ⟨kv, by rw [upd_ne ne]; exact e2 _ _ q1, q2⟩
    · rw [List.getElem?_append_right ge] at hx
      have ek : k = i := by
        have := (List.getElem?_eq_some_iff.mp hx).1
        simp at this
        omega
      rw [ek, h2, Nat.sub_self] at hx
      cases hx
      rw [ek]
      exact ⟨kvs, by rw [upd_ne hpD]; exact k2, hd⟩
theorem newDf_end {H0 H1 : Hp} {i : Nat} {acc : List V} {D : Addr} (hall : ∀ o, NewDf H0 f i acc (upd H1 D o)) (hacc : H1 D = some (.lst acc)) : DL H0 H1 D i f := by
  obtain ⟨hD0, ds, rfl, h2, h3, hD, h4, h5⟩ := newDf_off hall
  exact ⟨ds, h2, h3, hD, h4, hD0, hacc, h5⟩
/-- [e for x in xs], each e a new dict -/
theorem dlf_L (hl : SqL K H a xs) (hz : xs.length ≤ 10000) (hw : ∀ x, wipe ((wipe σ vs).set j (some x)) vs = wipe σ vs)
    (he : ∀ i x H1 (R : VK), xs[i]? = some x → Ex H H1 → (∀ p kvs H2, H1 p = none → Ex H1 H2 → H2 p = some (.dK kvs) → DI kvs (f i) → R (.ref p) H2) → te ((wipe σ vs).set j (some x)) H1 R)
    (q : ∀ p H1, H p = none → Ex H H1 → DL H H1 p xs.length f → Q (.ref p) H1) : rLc (Itl K a) (gName j) tYes te vs σ Q H := by
  refine r_cmLA (xs := xs) (fun i ys H' => NewDf H f i ys H') (by omega) hw (fun i ys H' p => ex_l p.choose_spec.2.2.2.2.2 hl) (fun D hD o => ⟨[], rfl, rfl, List.nodup_nil, (fun x hx => nomatch hx), (fun k x hx => by simp at hx), Ex.new hD⟩) (fun i x H1 D acc hx hz' hacc p hall => ?_) fun D H1 ys hD h p hall => ?_
  · have hi := (List.getElem?_eq_some_iff.mp hx).1
    have e := p.choose_spec.2.2.2.2.2
    refine t_yes (if_T ?_)
    exact he i x H1 _ hx e fun p' kvs H2 hp e2 k2 hd => cm_yes (e2 _ _ hacc) hz' (by omega) (newDf_next hall hacc e hp e2 k2 hd)
  · exact q D H1 hD p.choose_spec.2.2.2.2.2 (newDf_end hall h)
end
/-! ### {x: e for x, y in d.items()} -/
section
variable {K : PySem.W.Frag} {σ : L2.St} {H : Hp} {Q : VK} {td tv : TE} {vs : List Nat} {d : Addr} {j j2 : Nat} {ns : List Int}
theorem r_dcI2 {i0 : Nat} {f0 : Int → V} (hv : σ[i0]? = some (some (.ref d))) (hd : H d = some (.dK (dm ns f0))) (hn : ns.Nodup) (f : Int → V) (hz : ns.length ≤ 10000) (hw : ∀ x y, wipe (((wipe σ vs).set j (some x)).set j2 (some y)) vs = wipe σ vs) (hj : ∀ x y, (((wipe σ vs).set j (some x)).set j2 (some y))[j]? = some (some x))
    (he : ∀ x, x ∈ ns → ∀ (H1 : Hp) (Q' : VK), ExW d H H1 → Rd H1 d (.dK (dm ns f0)) → (∀ H2, Ex H1 H2 → Q' (f x) H2) → tv (((wipe σ vs).set j (some (.int x))).set j2 (some (f0 x))) H1 Q')
    (q : ∀ p H1, H p = none → Ex H H1 → H1 p = some (.dK (dm ns f)) → Q (.ref p) H1) : tLockE (tDc (iItems (tVar i0)) (gTup K 2 (gCons (gName j) (gCons (gName j2) gNil))) tYes (tVar j) tv vs) σ H Q := by
  refine ⟨d, _, hd, trivial, fun od => ?_⟩
  refine ⟨_, hv, d, od, dm ns f0, rfl, upd_same, fun D hD => ?_⟩
  have hDd : D ≠ d := fun e => by rw [e, upd_same] at hD; cases hD
  have hD0 : H D = none := by rw [upd_ne hDd] at hD; exact hD
  have fr : (upd H d (.frz od (.dK (dm ns f0)))) d = some (.frz od (.dK (dm ns f0))) := upd_same
  have wx : ExW d H (upd H d (.frz od (.dK (dm ns f0)))) := ExW.upd
  generalize upd H d (.frz od (.dK (dm ns f0))) = H0 at hD fr wx
  refine ⟨fun i m H' => m = ns.length - i ∧ i ≤ ns.length ∧ Ex H0 H' ∧ H' D = some (.dK (dm (ns.take i) f)), ⟨ns.length, by simp, Nat.zero_le _, Ex.new hD, upd_same⟩, ?_⟩
  rintro i m H' ⟨rfl, hi, e, h⟩
  have fr' := e _ _ fr
  rcases Nat.lt_or_ge i ns.length with lt | ge
  · have hx := List.getElem?_eq_getElem lt
    refine .inr ⟨⟨fr', by rw [dm_len]; exact lt⟩, fun H'' => Ex H0 H'' ∧ H'' D = some (.dK (dm (ns.take (i + 1)) f)), fun H'' p => ⟨ns.length - (i + 1), by omega, rfl, lt, p⟩, ?_⟩
    rintro y H6 ⟨T, k, v, hy, rfl, hT, rfl⟩
    unfold dm at hy
    rw [List.getElem?_map, hx] at hy
    cases hy
    have e6 : Ex H' (upd H' T (.tup [kV (Sum.inl ns[i]), f0 ns[i]])) := Ex.new hT
    refine r_tup2 (x := .int ns[i]) (y := f0 ns[i]) (t_of (by rw [upd_same]; rfl)) ?_
    refine ⟨hw _ _, t_yes ?_⟩
    dsimp only
    rw [if_pos rfl]
    refine ⟨_, hj _ _, ?_⟩
    refine he _ (List.mem_of_getElem? hx) _ _ (wx.trans (.of (e.trans e6))) (.inr ⟨od, e6 _ _ fr'⟩) fun H7 e7 => ?_
    have h7 := e7 _ _ (e6 _ _ h)
    refine ⟨_, Sum.inl ns[i], rfl, h7, sz_lt (by rw [dm_len, List.length_take]; omega), Ex.mut ((e.trans e6).trans e7) hD, ?_⟩
    have nin : ns[i] ∉ ns.take i := fun hm => by
      obtain ⟨k, hk⟩ := List.mem_iff_getElem?.mp hm
      have hki := (List.getElem?_eq_some_iff.mp hk).1
      rw [List.length_take] at hki
      rw [List.getElem?_take_of_lt (by omega)] at hk
      have := (List.getElem?_inj (by omega) hn).mp (hk.trans hx.symm)
      omega
    rw [upd_same, putK_dm_new nin, take_snoc hx, dm_snoc]
  · have e2 : i = ns.length := by omega
    subst e2
    refine .inl ⟨⟨fr', by rw [dm_len]; exact Nat.le_refl _⟩, fr', ?_⟩
    rw [List.take_length] at h
    refine q D _ hD0 (fun b o hb => ?_) (by rw [upd_ne hDd]; exact h)
    by_cases eb : b = d
    · subst eb
      rw [upd_same, ← hb, hd]
    · rw [upd_ne eb]
      exact e _ _ (wx b o hb eb)
end
/-! ### sums -/
theorem perm_sum {l m : List Int} (h : l.Perm m) : l.sum = m.sum := by
  induction h with
  | nil => rfl
  | cons x _ ih => rw [List.sum_cons, List.sum_cons, ih]
  | swap x y l => rw [List.sum_cons, List.sum_cons, List.sum_cons, List.sum_cons]; omega
  | trans _ _ a b => rw [a, b]
theorem sum_filter {b : Int → Int} {p : Int → Bool} : ∀ {m : List Int}, (∀ x ∈ m, p x = false → b x = 0) → ((m.filter p).map b).sum = (m.map b).sum
  | [], _ => rfl
  | x :: m, h => by
    have ih := sum_filter (m := m) fun y hy => h y (List.mem_cons_of_mem _ hy)
    cases hp : p x with
    | true => rw [List.filter_cons_of_pos hp, List.map_cons, List.sum_cons, List.map_cons, List.sum_cons, ih]
    | false => rw [List.filter_cons_of_neg (by rw [hp]; decide), ih, List.map_cons, List.sum_cons, h x List.mem_cons_self hp]; omega
theorem DI.vals {kvs : List (Key × V)} {f : Int → Option V} (h : DI kvs f) (b : Int → Int) (hb : ∀ x v, f x = some v → v = .int (b x)) {m : List Int} (hm : m.Nodup) (hs : ∀ x, (f x).isSome = true → x ∈ m) (h0 : ∀ x ∈ m, (f x).isSome = false → b x = 0) :
    ∃ ns : List Int, kvs.map (·.2) = ns.map V.int ∧ ns.sum = (m.map b).sum := by
  obtain ⟨l, hn, hl, rfl⟩ := h
  refine ⟨l.map b, ?_, ?_⟩
  · rw [dm_vals, List.map_map]
    refine List.map_congr_left fun x hx => ?_
    have := (hl x).mp hx
    cases e : f x with
    | none => rw [e] at this; cases this
    | some v => exact hb x v e
  · rw [← sum_filter (p := fun x => (f x).isSome) h0]
    exact perm_sum ((perm_of hn (hm.filter _) fun x => by rw [hl, List.mem_filter]; exact ⟨fun z => ⟨hs x z, z⟩, fun z => z.2⟩).map b)
/-- what a dict is, by its keys -/
theorem DI.dm {kvs : List (Key × V)} {f : Int → Option V} (h : DI kvs f) : ∃ l : List Int, l.Nodup ∧ (∀ x, x ∈ l ↔ (f x).isSome = true) ∧ kvs = L2.dm l fun x => (f x).getD .non := h
theorem DI.of_dm {l : List Int} {g : Int → V} {f : Int → Option V} (hn : l.Nodup) (hl : ∀ x, x ∈ l ↔ (f x).isSome = true) (e : ∀ x ∈ l, f x = some (g x)) : DI (L2.dm l g) f := ⟨l, hn, hl, dm_congr fun x hx => by rw [e x hx]; rfl⟩
/-! ### fields by name -/
theorem pf_hit {f : Str} {v x : V} {r : List (Str × V)} : putF f v ((f, x) :: r) = (f, v) :: r := if_pos rfl
theorem pf_skip {f g : Str} {v x : V} {r : List (Str × V)} (h : ¬ g = f) : putF f v ((g, x) :: r) = (g, x) :: putF f v r := if_neg h
theorem pf_nil {f : Str} {v : V} : putF f v [] = [(f, v)] := rfl
theorem lk_hit {f : Str} {x : V} {r : List (Str × V)} : ((f, x) :: r).lookup f = some x := by rw [List.lookup_cons]; simp
theorem lk_skip {f g : Str} {x : V} {r : List (Str × V)} (h : ¬ g = f) : ((g, x) :: r).lookup f = r.lookup f := by
  rw [List.lookup_cons]
  have : (f == g) = false := by
    cases e : f == g with
    | false => rfl
    | true => exact absurd (eq_of_beq e).symm h
  rw [this]
theorem lk_nil {f : Str} : ([] : List (Str × V)).lookup f = none := rfl
/-! ### all but objects stay -/
def ExI (H H1 : Hp) : Prop := ∀ a o, H a = some o → (∀ C dx fs, o ≠ .ins C dx fs) → H1 a = some o
theorem ExI.refl (H : Hp) : ExI H H := fun _ _ h _ => h
theorem ExI.of {H H1 : Hp} (e : Ex H H1) : ExI H H1 := fun a o h _ => e a o h
theorem ExI.trans {H H1 H2 : Hp} (a : ExI H H1) (b : ExI H1 H2) : ExI H H2 := fun x o h n => b x o (a x o h n) n
theorem ExI.w {H H1 : Hp} {x C dx : Addr} {fs : List (Str × V)} (e : ExW x H H1) (hx : H x = some (.ins C dx fs)) : ExI H H1 := fun a o h n => e a o h fun z => by
  rw [z, hx] at h
  exact n _ _ _ (Option.some.inj h).symm
theorem ExI.lst {H H1 : Hp} (e : ExI H H1) {a : Addr} {xs : List V} (h : H a = some (.lst xs)) : H1 a = some (.lst xs) := e _ _ h fun _ _ _ z => nomatch z
theorem ExI.dk {H H1 : Hp} (e : ExI H H1) {a : Addr} {kvs : List (Key × V)} (h : H a = some (.dK kvs)) : H1 a = some (.dK kvs) := e _ _ h fun _ _ _ z => nomatch z
theorem ExI.tx {H H1 : Hp} (e : ExI H H1) : TX H H1 := fun a xs h => by
  rcases h with h | ⟨o, h⟩
  · rw [h, e _ _ h fun _ _ _ z => nomatch z]
  · rw [h, e _ _ h fun _ _ _ z => nomatch z]
/-- a list of dicts that is read -/
structure DR (H : Hp) (a : Addr) (n : Nat) (f : Nat → Int → Option V) : Prop where
  ex : ∃ ds : List Addr, ds.length = n ∧ H a = some (.lst (ds.map V.ref)) ∧ ∀ i x, ds[i]? = some x → ∃ kvs, H x = some (.dK kvs) ∧ DI kvs (f i)
theorem DR.i {H H1 : Hp} {a : Addr} {n : Nat} {f : Nat → Int → Option V} (h : DR H a n f) (e : ExI H H1) : DR H1 a n f := by
  obtain ⟨ds, h1, h2, h3⟩ := h.ex
  refine ⟨ds, h1, e.lst h2, fun i x hx => ?_⟩
  obtain ⟨kvs, k1, k2⟩ := h3 i x hx
  exact ⟨kvs, e.dk k1, k2⟩
theorem DR.of {H0 H : Hp} {a : Addr} {n : Nat} {f : Nat → Int → Option V} (h : DL H0 H a n f) : DR H a n f := by
  obtain ⟨ds, h1, h2, h3, h4, h5, h6, h7⟩ := h.ex
  exact ⟨ds, h1, h6, h7⟩
theorem DR.at' {H : Hp} {a : Addr} {n : Nat} {f : Nat → Int → Option V} (h : DR H a n f) {i : Nat} (hi : i < n) : ∃ xs x kvs, H a = some (.lst xs) ∧ xs.length = n ∧ xs[i]? = some (.ref x) ∧ H x = some (.dK kvs) ∧ DI kvs (f i) := by
  obtain ⟨ds, h1, h6, h7⟩ := h.ex
  have hx := List.getElem?_eq_getElem (l := ds) (i := i) (by omega)
  obtain ⟨kvs, k1, k2⟩ := h7 i _ hx
  exact ⟨_, _, kvs, h6, by rw [List.length_map]; exact h1, by rw [List.getElem?_map, hx]; rfl, k1, k2⟩
theorem TabH.dr {H : Hp} {a : Addr} {n : Nat} {d : Wb.Gm} (h : TabH H a n d) : DR H a n fun i s => vN (d i s) := ⟨h.ex⟩
theorem DR.tab {H : Hp} {a : Addr} {n : Nat} {d : Wb.Gm} (h : DR H a n fun i s => vN (d i s)) : TabH H a n d := ⟨h.ex⟩
end L2
/-! pictures trimmed and rings folded -/
namespace Wb
theorem flt_le {α : Type} {p q : α → Bool} : ∀ {l : List α}, (∀ x ∈ l, p x = true → q x = true) → (l.filter p).length ≤ (l.filter q).length
  | [], _ => Nat.le_refl _
  | x :: l, h => by
    have ih := flt_le (l := l) fun y hy => h y (List.mem_cons_of_mem _ hy)
    have hx := h x List.mem_cons_self
    cases hp : p x with
    | true => rw [List.filter_cons_of_pos hp, List.filter_cons_of_pos (hx hp), List.length_cons, List.length_cons]; omega
    | false =>
      rw [List.filter_cons_of_neg (by rw [hp]; decide)]
      cases hq : q x with
      | true => rw [List.filter_cons_of_pos hq, List.length_cons]; omega
      | false => rw [List.filter_cons_of_neg (by rw [hq]; decide)]; exact ih
theorem flt_lt {α : Type} {p q : α → Bool} : ∀ {l : List α} {a : α}, (∀ x ∈ l, p x = true → q x = true) → a ∈ l → p a = false → q a = true → (l.filter p).length < (l.filter q).length
  | [], a, _, ha, _, _ => (List.not_mem_nil ha).elim
  | x :: l, a, h, ha, hp, hq => by
    have hl := fun y hy => h y (List.mem_cons_of_mem x hy)
    rcases List.mem_cons.mp ha with e | e
    · subst e
      rw [List.filter_cons_of_neg (by rw [hp]; decide), List.filter_cons_of_pos hq, List.length_cons]
      exact Nat.lt_succ_of_le (flt_le hl)
    · have ih := flt_lt hl e hp hq
      have hx := h x List.mem_cons_self
      cases hp2 : p x with
      | true => rw [List.filter_cons_of_pos hp2, List.filter_cons_of_pos (hx hp2), List.length_cons, List.length_cons]; omega
      | false =>
        rw [List.filter_cons_of_neg (by rw [hp2]; decide)]
        cases hq2 : q x with
        | true => rw [List.filter_cons_of_pos hq2, List.length_cons]; omega
        | false => rw [List.filter_cons_of_neg (by rw [hq2]; decide)]; exact ih
theorem flt_one {p q : Nat → Bool} {a : Nat} : ∀ {l : List Nat}, l.Nodup → (∀ x ∈ l, p x = true → q x = true ∨ x = a) → (l.filter p).length ≤ (l.filter q).length + 1
  | [], _, _ => Nat.zero_le _
  | x :: l, hn, h => by
    have hl := fun y hy => h y (List.mem_cons_of_mem x hy)
    have hx := h x List.mem_cons_self
    obtain ⟨n1, n2⟩ := List.nodup_cons.mp hn
    cases hp : p x with
    | false =>
      rw [List.filter_cons_of_neg (by rw [hp]; decide)]
      have ih := flt_one n2 hl
      cases hq : q x with
      | true => rw [List.filter_cons_of_pos hq, List.length_cons]; omega
      | false => rw [List.filter_cons_of_neg (by rw [hq]; decide)]; exact ih
    | true =>
      rw [List.filter_cons_of_pos hp, List.length_cons]
      rcases hx hp with hq | e
      · rw [List.filter_cons_of_pos hq, List.length_cons]
        have ih := flt_one n2 hl
        omega
      · subst e
        have := flt_le (p := p) (q := q) (l := l) fun y hy hpy => (hl y hy hpy).elim id fun e => absurd hy (e ▸ n1)
        cases hq : q x with
        | true => rw [List.filter_cons_of_pos hq, List.length_cons]; omega
        | false => rw [List.filter_cons_of_neg (by rw [hq]; decide)]; omega
/-! ### one way left out -/
def cut (d : Gm) (r g : Nat) (s : Int) : Gm := fun x t => if (x = r ∧ t = s) ∨ (x = g ∧ t = -s) then none else d x t
theorem cut_sub {d : Gm} {r g x y : Nat} {s t : Int} (h : cut d r g s x t = some y) : ¬ ((x = r ∧ t = s) ∨ (x = g ∧ t = -s)) ∧ d x t = some y := by
  unfold cut at h
  by_cases c : (x = r ∧ t = s) ∨ (x = g ∧ t = -s)
  · rw [if_pos c] at h
    cases h
  · rw [if_neg c] at h
    exact ⟨c, h⟩
theorem cut_gr {L n : Nat} {d : Gm} {r g : Nat} {s : Int} (G : Gr L n d) (h : d r s = some g) : Gr L n (cut d r g s) := by
  refine ⟨fun x t y e => G.dom x t y (cut_sub e).2, fun x t y e => ?_⟩
  obtain ⟨c, e⟩ := cut_sub e
  unfold cut
  rw [if_neg, G.sym _ _ _ e]
  intro z
  apply c
  have e2 := G.sym _ _ _ e
  have h2 := G.sym _ _ _ h
  rcases z with ⟨z1, z2⟩ | ⟨z1, z2⟩
  · subst z1
    rw [z2, h] at e2
    cases e2
    exact .inr ⟨rfl, by omega⟩
  · subst z1
    rw [z2, h2] at e2
    cases e2
    exact .inl ⟨rfl, by omega⟩
theorem cut_some {d : Gm} {r g x : Nat} {s t : Int} (h : (cut d r g s x t).isSome = true) : (d x t).isSome = true := by
  cases e : cut d r g s x t with
  | none => rw [e] at h; cases h
  | some y => rw [(cut_sub e).2]; rfl
theorem cut_deg {L : Nat} {d : Gm} {r g : Nat} {s : Int} (x : Nat) : deg L (cut d r g s) x ≤ deg L d x := flt_le fun t _ h => cut_some h
theorem cut_zero {L n : Nat} {d : Gm} {r g : Nat} {s : Int} (G : Gr L n d) (h : d r s = some g) (h1 : deg L d r = 1) : deg L (cut d r g s) r = 0 := by
  have : deg L (cut d r g s) r < deg L d r := flt_lt (a := s) (fun t _ z => cut_some z) (G.dom _ _ _ h).2.2 (by
    have : cut d r g s r s = none := if_pos (.inl ⟨rfl, rfl⟩)
    rw [this]
    rfl) (by rw [h]; rfl)
  omega
/-- rooms but home with any way -/
def pot (L n : Nat) (d : Gm) : Nat := ((List.range n).filter fun r => decide (r ≠ 0) && decide (0 < deg L d r)).length
theorem cut_pot {L n : Nat} {d : Gm} {r g : Nat} {s : Int} (G : Gr L n d) (h : d r s = some g) (h1 : deg L d r = 1) (hr : 0 < r) : pot L n (cut d r g s) + 1 ≤ pot L n d := by
  refine flt_lt (a := r) (fun x _ z => ?_) (List.mem_range.mpr (G.dom _ _ _ h).1) ?_ ?_
  · rw [Bool.and_eq_true, decide_eq_true_eq, decide_eq_true_eq] at z ⊢
    exact ⟨z.1, Nat.lt_of_lt_of_le z.2 (cut_deg x)⟩
  · rw [cut_zero G h h1]
    simp
  · rw [h1]
    simp
    omega
theorem pot_start {L n : Nat} {d : Gm} (hn : 0 < n) : pot L n d + 1 ≤ n := by
  have := flt_lt (l := List.range n) (p := fun r => decide (r ≠ 0) && decide (0 < deg L d r)) (q := fun _ => true) (a := 0) (fun _ _ _ => rfl) (List.mem_range.mpr hn) (by simp) rfl
  rw [List.filter_eq_self.mpr fun _ _ => rfl, List.length_range] at this
  exact this
def NoEnd (L n : Nat) (d : Gm) : Prop := ∀ r, 0 < r → r < n → deg L d r ≠ 1
def TrimI (L n t j : Nat) (d : Gm) : Prop := ((∀ r, 0 < r → r < j → deg L d r ≠ 1) ∧ pot L n d + t + 1 ≤ n) ∨ pot L n d + t + 2 ≤ n ∨ NoEnd L n d
def TrimO (L n t : Nat) (d : Gm) : Prop := NoEnd L n d ∨ pot L n d + t + 1 ≤ n
theorem trim_first {L n : Nat} {d : Gm} (hn : 0 < n) : TrimO L n 0 d := .inr (by have := pot_start (L := L) (d := d) hn; omega)
theorem trim_start {L n t : Nat} {d : Gm} (h : TrimO L n t d) : TrimI L n t 1 d := h.elim (fun h => .inr (.inr h)) fun h => .inl ⟨fun r h1 h2 => by omega, h⟩
theorem trim_no {L n t j : Nat} {d : Gm} (h : TrimI L n t j d) (hj : deg L d j ≠ 1) : TrimI L n t (j + 1) d := by
  rcases h with ⟨h1, h2⟩ | h
  · refine .inl ⟨fun r r0 rj => ?_, h2⟩
    rcases Nat.lt_or_ge r j with z | z
    · exact h1 r r0 z
    · rwa [show r = j by omega]
  · exact .inr h
theorem trim_yes {L n t j g : Nat} {d : Gm} {s : Int} (h : TrimI L n t j d) (G : Gr L n d) (e : d j s = some g) (hj : deg L d j = 1) (j0 : 0 < j) : TrimI L n t (j + 1) (cut d j g s) := by
  have z := cut_pot G e hj j0
  rcases h with ⟨h1, h2⟩ | h | h
  · exact .inr (.inl (by omega))
  · exact .inr (.inl (by omega))
  · exact absurd hj (h j j0 (G.dom _ _ _ e).1)
theorem trim_round {L n t : Nat} {d : Gm} (h : TrimI L n t n d) : TrimO L n (t + 1) d := by
  rcases h with ⟨h1, h2⟩ | h | h
  · exact .inl h1
  · exact .inr (by omega)
  · exact .inl h
theorem trim_end {L n : Nat} {d : Gm} (h : TrimO L n n d) : NoEnd L n d := h.elim id fun h => by omega
/-! ### rings folded -/
abbrev Ways := List (Nat × Int × Nat)
structure WaysOk (L n : Nat) (ws : Ways) : Prop where
  dom : ∀ a s b, (a, s, b) ∈ ws → a < n ∧ b < n ∧ s ∈ Od.steps L
  rev : ∀ a s b, (a, s, b) ∈ ws → (b, -s, a) ∈ ws
structure HeadsOk (n : Nat) (h : List Nat) : Prop where
  len : h.length = n
  lt : ∀ x ∈ h, x < n
def at0 (h : List Nat) (a : Nat) : Nat := h.getD a 0
theorem HeadsOk.in {n a : Nat} {h : List Nat} (k : HeadsOk n h) (ha : a < n) : at0 h a ∈ h := by
  unfold at0
  rw [List.getD_eq_getElem?_getD, List.getElem?_eq_getElem (by rw [k.len]; exact ha)]
  exact List.getElem_mem _
def lab (n : Nat) (h : List Nat) : Nat := ((List.range n).filter fun x => decide (x ∈ h)).length
def merge (h : List Nat) (lo hi : Nat) : List Nat := h.map fun x => if x = hi then lo else x
theorem mem_merge {h : List Nat} {lo hi x : Nat} (k : x ∈ merge h lo hi) : (x = lo ∧ hi ∈ h) ∨ (x ∈ h ∧ x ≠ hi) := by
  obtain ⟨y, hy, e⟩ := List.mem_map.mp k
  by_cases c : y = hi
  · rw [if_pos c] at e
    exact .inl ⟨e.symm, c ▸ hy⟩
  · rw [if_neg c] at e
    subst e
    exact .inr ⟨hy, c⟩
theorem merge_ok {n : Nat} {h : List Nat} {lo hi : Nat} (k : HeadsOk n h) (hl : lo < n) : HeadsOk n (merge h lo hi) := by
  refine ⟨by unfold merge; rw [List.length_map]; exact k.len, fun x hx => ?_⟩
  rcases mem_merge hx with ⟨e, _⟩ | ⟨e, _⟩
  · omega
  · exact k.lt _ e
theorem lab_lt {n : Nat} {h : List Nat} {lo hi : Nat} (k : HeadsOk n h) (hl : lo ∈ h) (hh : hi ∈ h) (ne : lo ≠ hi) : lab n (merge h lo hi) + 1 ≤ lab n h := by
  refine flt_lt (a := hi) (fun x _ z => ?_) (List.mem_range.mpr (k.lt _ hh)) (decide_eq_false fun z => ?_) (decide_eq_true hh)
  · rw [decide_eq_true_eq] at z ⊢
    rcases mem_merge z with ⟨e, _⟩ | ⟨e, _⟩
    · rw [e]; exact hl
    · exact e
  · rcases mem_merge z with ⟨e, _⟩ | ⟨_, e⟩
    · exact ne e.symm
    · exact e rfl
theorem lab_le {n : Nat} {h : List Nat} {lo hi : Nat} (k : HeadsOk n h) : lab n (merge h lo hi) ≤ lab n h := by
  by_cases hh : hi ∈ h
  · have z1 : ((List.range n).filter fun x => decide (x ∈ merge h lo hi)).length ≤ ((List.range n).filter fun x => decide (x ∈ h) && decide (x ≠ hi)).length + 1 :=
      flt_one (a := lo) List.nodup_range fun x _ z => by
        rw [decide_eq_true_eq] at z
        rcases mem_merge z with ⟨e, _⟩ | ⟨e, e2⟩
        · exact .inr e
        · exact .inl (by rw [Bool.and_eq_true, decide_eq_true_eq, decide_eq_true_eq]; exact ⟨e, e2⟩)
    have z2 : ((List.range n).filter fun x => decide (x ∈ h) && decide (x ≠ hi)).length < ((List.range n).filter fun x => decide (x ∈ h)).length :=
      flt_lt (a := hi) (fun x _ z => by rw [Bool.and_eq_true] at z; exact z.1) (List.mem_range.mpr (k.lt _ hh)) (by simp) (decide_eq_true hh)
    unfold lab
    omega
  · refine flt_le fun x _ z => ?_
    rw [decide_eq_true_eq] at z ⊢
    rcases mem_merge z with ⟨_, e⟩ | ⟨e, _⟩
    · exact absurd e hh
    · exact e
theorem lab_pos {n : Nat} {h : List Nat} (k : HeadsOk n h) (hn : 0 < n) : 1 ≤ lab n h := by
  have h0 := k.in hn
  exact List.length_pos_of_mem (List.mem_filter.mpr ⟨List.mem_range.mpr (k.lt _ h0), decide_eq_true h0⟩)
theorem lab_top {n : Nat} {h : List Nat} : lab n h ≤ n := by
  have := List.length_filter_le (fun x => decide (x ∈ h)) (List.range n)
  rwa [List.length_range] at this
def Stab (ws : Ways) (h : List Nat) : Prop := ∀ a s b a' b', (a, s, b) ∈ ws → (a', s, b') ∈ ws → at0 h a = at0 h a' → at0 h b = at0 h b'
structure Dof (d : Gm) (ws : Ways) (h : List Nat) : Prop where
  to : ∀ a s b, (a, s, b) ∈ ws → d (at0 h a) s = some (at0 h b)
  fro : ∀ x s v, d x s = some v → ∃ a b, (a, s, b) ∈ ws ∧ at0 h a = x ∧ at0 h b = v
def Dom (L n : Nat) (d : Gm) : Prop := ∀ x s v, d x s = some v → x < n ∧ v < n ∧ s ∈ Od.steps L
def RI (n : Nat) (all ws : Ways) (h0 h : List Nat) (d : Gm) : Prop := (h = h0 ∧ Dof d ws h0) ∨ (lab n h + 1 ≤ lab n h0 ∧ ¬ Stab all h0)
def RO (n : Nat) (ws : Ways) (t : Nat) (h : List Nat) (d : Gm) : Prop := (Stab ws h ∧ Dof d ws h) ∨ lab n h + t ≤ n
def set1 (d : Gm) (x : Nat) (s : Int) (v : Nat) : Gm := fun y t => if y = x ∧ t = s then some v else d y t
theorem ri_start {n : Nat} {all : Ways} {h : List Nat} : RI n all [] h h fun _ _ => none := .inl ⟨rfl, fun a s b e => (List.not_mem_nil e).elim, fun x s v e => by cases e⟩
theorem ri_new {n a b : Nat} {s : Int} {all ws : Ways} {h0 h : List Nat} {d : Gm} (k : RI n all ws h0 h d) (e : d (at0 h a) s = none) : RI n all (ws ++ [(a, s, b)]) h0 h (set1 d (at0 h a) s (at0 h b)) := by
  rcases k with ⟨rfl, k1, k2⟩ | k
  · refine .inl ⟨rfl, fun a' s' b' m => ?_, fun x s' v m => ?_⟩
    · unfold set1
      rcases List.mem_append.mp m with m | m
      · rw [if_neg, k1 _ _ _ m]
        intro z
        have := k1 _ _ _ m
        rw [z.1, z.2] at this
        rw [e] at this
        cases this
      · cases List.mem_singleton.mp m
        rw [if_pos ⟨rfl, rfl⟩]
    · unfold set1 at m
      by_cases c : x = at0 h a ∧ s' = s
      · rw [if_pos c] at m
        cases m
        exact ⟨a, b, List.mem_append_right _ (by rw [c.2]; exact List.mem_singleton.mpr rfl), c.1.symm, rfl⟩
      · rw [if_neg c] at m
        obtain ⟨a', b', m1, m2⟩ := k2 _ _ _ m
        exact ⟨a', b', List.mem_append_left _ m1, m2⟩
  · exact .inr k
theorem ri_same {n a b : Nat} {s : Int} {all ws : Ways} {h0 h : List Nat} {d : Gm} (k : RI n all ws h0 h d) (e : d (at0 h a) s = some (at0 h b)) : RI n all (ws ++ [(a, s, b)]) h0 h d := by
  rcases k with ⟨rfl, k1, k2⟩ | k
  · refine .inl ⟨rfl, fun a' s' b' m => ?_, fun x s' v m => ?_⟩
    · rcases List.mem_append.mp m with m | m
      · exact k1 _ _ _ m
      · cases List.mem_singleton.mp m
        exact e
    · obtain ⟨a', b', m1, m2⟩ := k2 _ _ _ m
      exact ⟨a', b', List.mem_append_left _ m1, m2⟩
  · exact .inr k
theorem ri_merge {n a b v lo hi : Nat} {s : Int} {all ws rest : Ways} {h0 h : List Nat} {d : Gm} (k : RI n all ws h0 h d) (ho : HeadsOk n h) (hall : ∀ w ∈ ws, w ∈ all) (hm : (a, s, b) ∈ all) (ha : ∀ a s b, (a, s, b) ∈ all → a < n ∧ b < n) (e : d (at0 h a) s = some v) (ne : v ≠ at0 h b) (hlo : lo = min v (at0 h b)) (hhi : hi = max v (at0 h b)) (ws' : Ways) :
    RI n all ws' h0 (merge h lo hi) d := by
  rcases k with ⟨rfl, k1, k2⟩ | ⟨k1, k2⟩
  · obtain ⟨a', b', m1, m2, m3⟩ := k2 _ _ _ e
    have i1 : at0 h b ∈ h := ho.in (ha _ _ _ hm).2
    have i2 : v ∈ h := m3 ▸ ho.in (ha _ _ _ (hall _ m1)).2
    refine .inr ⟨lab_lt ho ?_ ?_ (by omega), fun z => ne ?_⟩
    · rw [hlo, Nat.min_def]; split <;> assumption
    · rw [hhi, Nat.max_def]; split <;> assumption
    · rw [← m3]
      exact z _ _ _ _ _ (hall _ m1) hm m2
  · exact .inr ⟨Nat.le_trans (Nat.succ_le_succ (lab_le ho)) k1, k2⟩
theorem ro_turn {n t : Nat} {ws : Ways} {h0 h : List Nat} {d0 d : Gm} (k : RO n ws t h0 d0) (r : RI n ws ws h0 h d) : RO n ws (t + 1) h d := by
  rcases r with ⟨rfl, k1⟩ | ⟨k1, k2⟩
  · refine .inl ⟨fun a s b a' b' m m' e => ?_, k1⟩
    have z1 := k1.to _ _ _ m
    have z2 := k1.to _ _ _ m'
    rw [e, z2] at z1
    exact (Option.some.inj z1).symm
  · rcases k with ⟨s, _⟩ | k
    · exact absurd s k2
    · exact .inr (by omega)
theorem ro_first {n : Nat} {ws : Ways} {h : List Nat} {d : Gm} : RO n ws 0 h d := .inr (by have := lab_top (n := n) (h := h); omega)
theorem ro_end {L n : Nat} {ws : Ways} {h : List Nat} {d : Gm} (k : RO n ws n h d) (ho : HeadsOk n h) (hw : WaysOk L n ws) (hn : 0 < n) : Gr L n d := by
  have hp := lab_pos ho hn
  rcases k with ⟨s, k⟩ | k
  · refine ⟨fun x s v e => ?_, fun x s v e => ?_⟩
    · obtain ⟨a, b, m, rfl, rfl⟩ := k.fro _ _ _ e
      obtain ⟨d1, d2, d3⟩ := hw.dom _ _ _ m
      exact ⟨ho.lt _ (ho.in d1), ho.lt _ (ho.in d2), d3⟩
    · obtain ⟨a, b, m, rfl, rfl⟩ := k.fro _ _ _ e
      exact k.to _ _ _ (hw.rev _ _ _ m)
  · omega
end Wb
/-! doors put into a list of dicts -/
namespace L2
open PySem PySem.Spec PyProof.Rows Evl
theorem dl_set {H0 H : Hp} {a : Addr} {n i : Nat} {d : Wb.Gm} (h : DL H0 H a n fun x s => vN (d x s)) (hi : i < n) (hs : ∀ s, (d i s).isSome = true → s ∈ Od.steps 4) :
    ∃ xs p kvs, H a = some (.lst xs) ∧ xs[i]? = some (.ref p) ∧ H p = some (.dK kvs) ∧ DI kvs (fun s => vN (d i s)) ∧ kvs.length < 100000 ∧ p ≠ a ∧ H0 p = none ∧
      ∀ H1 kvs' s0 (g : Nat), ExW p H H1 → H1 p = some (.dK kvs') → DI kvs' (fun t => if t = s0 then some (.int (g : Int)) else vN (d i t)) → DL H0 H1 a n fun x s => vN (if x = i ∧ s = s0 then some g else d x s) := by
  obtain ⟨xs, p, kvs, h1, h2, h3, h4, h5, h6, h7⟩ := h.at' hi
  refine ⟨xs, p, kvs, h1, h2, h3, h4, ?_, h5, h6, fun H1 kvs' s0 g e q1 q2 => (h7 H1 kvs' _ e q1 q2).congr fun x _ s => ?_⟩
  · have := h4.le (Od.steps_nodup 4) fun s z => hs s (by rw [← vN_some]; exact z)
    rw [Od.steps_len] at this
    omega
  · by_cases c1 : x = i
    · subst c1
      refine (congrFun (if_pos rfl) s).trans ?_
      by_cases c2 : s = s0
      · refine (if_pos c2).trans ?_
        have e2 : (if x = x ∧ s = s0 then some g else d x s) = some g := if_pos ⟨rfl, c2⟩
        rw [e2]
        rfl
      · refine (if_neg c2).trans ?_
        have e2 : (if x = x ∧ s = s0 then some g else d x s) = d x s := if_neg fun z => c2 z.2
        rw [e2]
    · refine (congrFun (if_neg c1) s).trans ?_
      have e2 : (if x = i ∧ s = s0 then some g else d x s) = d x s := if_neg fun z => c1 z.1
      rw [e2]
theorem dl_pop {H0 H : Hp} {a : Addr} {n i : Nat} {d : Wb.Gm} (h : DL H0 H a n fun x s => vN (d x s)) (hi : i < n) :
    ∃ xs p kvs, H a = some (.lst xs) ∧ xs[i]? = some (.ref p) ∧ H p = some (.dK kvs) ∧ DI kvs (fun s => vN (d i s)) ∧ p ≠ a ∧ H0 p = none ∧
      ∀ H1 kvs' s0, ExW p H H1 → H1 p = some (.dK kvs') → DI kvs' (fun t => if t = s0 then none else vN (d i t)) → DL H0 H1 a n fun x s => vN (if x = i ∧ s = s0 then none else d x s) := by
  obtain ⟨xs, p, kvs, h1, h2, h3, h4, h5, h6, h7⟩ := h.at' hi
  refine ⟨xs, p, kvs, h1, h2, h3, h4, h5, h6, fun H1 kvs' s0 e q1 q2 => (h7 H1 kvs' _ e q1 q2).congr fun x _ s => ?_⟩
  by_cases c1 : x = i
  · subst c1
    refine (congrFun (if_pos rfl) s).trans ?_
    by_cases c2 : s = s0
    · refine (if_pos c2).trans ?_
      have e2 : (if x = x ∧ s = s0 then none else d x s) = none := if_pos ⟨rfl, c2⟩
      rw [e2]
      rfl
    · refine (if_neg c2).trans ?_
      have e2 : (if x = x ∧ s = s0 then none else d x s) = d x s := if_neg fun z => c2 z.2
      rw [e2]
  · refine (congrFun (if_neg c1) s).trans ?_
    have e2 : (if x = i ∧ s = s0 then none else d x s) = d x s := if_neg fun z => c1 z.1
    rw [e2]
theorem di_deg {L n r : Nat} {d : Wb.Gm} {kvs : List (Key × V)} (h : DI kvs fun s => vN (d r s)) (G : Wb.Gr L n d) : kvs.length = Wb.deg L d r :=
  h.len ((Od.steps_nodup L).filter _) fun x => by
    rw [List.mem_filter, vN_some]
    exact ⟨fun z => z.2, fun z => ⟨by
      cases e : d r x with
      | none => rw [e] at z; cases z
      | some g => exact (G.dom _ _ _ e).2.2, z⟩⟩
/-- the one way of an idle end -/
theorem di_one {r : Nat} {d : Wb.Gm} {kvs : List (Key × V)} (h : DI kvs fun s => vN (d r s)) (h1 : kvs.length = 1) : ∃ s g, d r s = some g ∧ kvs.map (fun kv => kV kv.1) = [V.int s] := by
  obtain ⟨l, hn, hl, rfl⟩ := h.dm
  rw [dm_len] at h1
  obtain ⟨s, rfl⟩ := List.length_eq_one_iff.mp h1
  have hs := (hl s).mp (List.mem_singleton.mpr rfl)
  rw [vN_some] at hs
  cases e : d r s with
  | none => rw [e] at hs; cases hs
  | some g => exact ⟨s, g, e, rfl⟩
theorem vN_inj {a b : Option Nat} (h : vN a = vN b) : a = b := by
  cases a <;> cases b
  · rfl
  · cases h
  · cases h
  · have := Option.some.inj h
    have : ((_ : Nat) : Int) = ((_ : Nat) : Int) := V.int.inj this
    exact congrArg some (by omega)
/-- numbers of rooms -/
def nI (l : List Nat) : List Int := l.map fun (g : Nat) => (g : Int)
theorem nI_mem {l : List Nat} {g : Nat} : (g : Int) ∈ nI l ↔ g ∈ l := by
  unfold nI
  rw [List.mem_map]
  exact ⟨fun ⟨x, hx, e⟩ => (show x = g by omega) ▸ hx, fun h => ⟨g, h, rfl⟩⟩
theorem nI_idx {g : Nat} : ∀ {l : List Nat}, (nI l).idxOf (g : Int) = l.idxOf g
  | [] => rfl
  | x :: l => by
    show ((x : Int) :: nI l).idxOf (g : Int) = _
    rw [List.idxOf_cons, List.idxOf_cons, nI_idx (l := l)]
    have : ((x : Int) == (g : Int)) = (x == g) := by
      by_cases e : x = g
      · subst e
        rw [beq_self_eq_true, beq_self_eq_true]
      · rw [beq_false_of_ne (show ¬ (x : Int) = g by omega), beq_false_of_ne e]
    rw [this]
theorem nI_len {l : List Nat} : (nI l).length = l.length := by unfold nI; rw [List.length_map]
theorem nI_at {l : List Nat} {i g : Nat} (h : l[i]? = some g) : (nI l)[i]? = some (g : Int) := by unfold nI; rw [List.getElem?_map, h]; rfl
/-- what else changes -/
theorem dl_w {H0 H H1 : Hp} {a w : Addr} {n : Nat} {f : Nat → Int → Option V} (h : DL H0 H a n f) (e : ExW w H H1) (hw : H0 w ≠ none) : DL H0 H1 a n f := by
  obtain ⟨ds, h1, h2, h3, h4, h5, h6, h7⟩ := h.ex
  refine ⟨ds, h1, h2, h3, h4, h5, e _ _ h6 fun z => hw (z ▸ h5), fun i x hx => ?_⟩
  obtain ⟨kvs, k1, k2⟩ := h7 i x hx
  exact ⟨kvs, e _ _ k1 (fun z => hw (z ▸ h4 x (List.mem_of_getElem? hx))), k2⟩
/-- a new list changes -/
theorem dl_l {H0 H H1 : Hp} {a l : Addr} {n : Nat} {f : Nat → Int → Option V} {ns : List V} (h : DL H0 H a n f) (e : ExW l H H1) (hl : H l = some (.lst ns)) (ha : l ≠ a) : DL H0 H1 a n f := by
  obtain ⟨ds, h1, h2, h3, h4, h5, h6, h7⟩ := h.ex
  refine ⟨ds, h1, h2, h3, h4, h5, e _ _ h6 ha.symm, fun i x hx => ?_⟩
  obtain ⟨kvs, k1, k2⟩ := h7 i x hx
  exact ⟨kvs, e _ _ k1 (fun z => by rw [z, hl] at k1; cases k1), k2⟩
end L2
/-! items drawn out of a list -/
namespace L2
open PySem PySem.Spec PyProof.Rows Evl
section
variable {K : PySem.W.Frag} {σ : L2.St} {H : Hp} {Q : VK} {a : Addr} {xs : List V} {t : TA}
theorem r_pa (h : SqL K H a xs) (q : t σ H fun us H2 => rPopAt (.ref a) us H2 Q) : rApp K "list" rPopAt t σ (.ref a) H Q := ⟨.inl ⟨rfl, xs, h⟩, q⟩
theorem seq_ix {i : Int} {n : Nat} (h0 : 0 ≤ i) (h1 : i < n) : seqIndex? i n = some i.toNat := by
  unfold seqIndex?
  try simp only [h0, if_true, not_lt_of_ge]
  split <;> simp_all <;> omega
theorem r_popA {i : Int} {v : V} (h : H a = some (.lst xs)) (h0 : 0 ≤ i) (hz : xs.length < 100000) (hx : xs[i.toNat]? = some v) (q : ∀ H1, ExW a H H1 → H1 a = some (.lst (xs.eraseIdx i.toNat)) → Q v H1) : rPopAt (.ref a) [.int i] H Q := by
  have hi := (List.getElem?_eq_some_iff.mp hx).1
  exact ⟨a, xs, i, i.toNat, v, rfl, rfl, h, by omega, by omega, seq_ix h0 (by omega), hx, q _ ExW.upd upd_same⟩
end
end L2
namespace L2
open PySem PySem.Spec PyProof.Rows Evl
theorem dl_back {H0 H H1 : Hp} {a : Addr} {n : Nat} {f : Nat → Int → Option V} (h : DL H H1 a n f) (e : Ex H0 H) : DL H0 H1 a n f := by
  obtain ⟨ds, h1, h2, h3, h4, h5, h6, h7⟩ := h.ex
  exact ⟨ds, h1, h2, h3, fun x hx => fresh_back e (h4 x hx), fresh_back e h5, h6, h7⟩
theorem tx_dk {H H1 : Hp} {b : Addr} {kvs : List (Key × V)} (hb : H b = some (.dK kvs)) (e : ExW b H H1) : TX H H1 := fun q ys hq => by
  have ne : q ≠ b := fun z => by
    rw [z, hb] at hq
    rcases hq with hq | ⟨_, hq⟩ <;> cases hq
  rcases hq with hq | ⟨o, hq⟩
  · rw [hq, e _ _ hq ne]
  · rw [hq, e _ _ hq ne]
end L2
/-! walks in their order: keys, ends, shares by first and last steps -/
namespace Od
open L2
/-! ### the sequence of steps -/
def cd (x : Int) : Int := 2 * (x.natAbs : Int) + (if x < 0 then 1 else 0)
theorem cd_inj {x y : Int} (h : cd x = cd y) : x = y := by
  unfold cd at h
  split at h <;> split at h <;> omega
theorem steps_sorted : ∀ L : Nat, (steps L).Pairwise fun a b => cd a < cd b
  | 0 => List.Pairwise.nil
  | L + 1 => by
    rw [steps_succ, List.pairwise_append]
    refine ⟨steps_sorted L, ?_, fun a ha b hb => ?_⟩
    · refine List.Pairwise.cons (fun b hb => ?_) (List.pairwise_singleton _ _)
      rw [List.mem_singleton.mp hb]
      unfold cd
      rw [if_neg (by omega), if_pos (by omega)]
      omega
    · have h := mem_steps.mp ha
      have h2 : cd a ≤ 2 * (L : Int) + 1 := by
        unfold cd
        split <;> omega
      simp only [List.mem_cons, List.not_mem_nil, or_false] at hb
      rcases hb with rfl | rfl <;> (unfold cd at h2 ⊢; split <;> omega)
theorem bh_sorted (L : Nat) (p : Option Int) : (bh L p).Pairwise fun a b => cd a < cd b := (steps_sorted L).filter _
theorem idx_lt {l : List Int} (hs : l.Pairwise fun a b => cd a < cd b) {x y : Int} (hx : x ∈ l) (hy : y ∈ l) (h : cd x < cd y) : l.idxOf x < l.idxOf y := by
  have h1 := List.idxOf_lt_length_of_mem hx
  have h2 := List.idxOf_lt_length_of_mem hy
  have e1 : l[l.idxOf x] = x := List.getElem_idxOf h1
  have e2 : l[l.idxOf y] = y := List.getElem_idxOf h2
  rcases Nat.lt_trichotomy (l.idxOf x) (l.idxOf y) with k | k | k
  · exact k
  · have e3 : l[l.idxOf x] = l[l.idxOf y] := by congr 1
    rw [e1, e2] at e3
    subst e3
    omega
  · have := List.pairwise_iff_getElem.mp hs _ _ h2 h1 k
    rw [e1, e2] at this
    omega
theorem V_lex {L : Nat} : ∀ {w u : List Int} {p : Option Int}, G L p w → G L p u → w.length = u.length → HT.lexLt (w.map cd) (u.map cd) = decide (V L p w < V L p u)
  | [], [], _, _, _, _ => rfl
  | [], _ :: _, _, _, _, h => by cases h
  | _ :: _, [], _, _, _, h => by cases h
  | s :: w, t :: u, p, h1, h2, hl => by
    have hl' : w.length = u.length := by simpa using hl
    have a := V_lt h1.2
    have b := V_lt h2.2
    rw [tot_some (bh_steps h1.1)] at a
    rw [tot_some (bh_steps h2.1), ← hl'] at b
    rw [List.map_cons, List.map_cons, HT.lexLt_cons, V, V, ← hl']
    by_cases e : cd s = cd t
    · have e' := cd_inj e
      subst e'
      rw [if_pos rfl, V_lex h1.2 h2.2 hl']
      congr 1
      exact propext ⟨fun h => by omega, fun h => by omega⟩
    · rw [if_neg e]
      congr 1
      refine propext ⟨fun h => ?_, fun h => ?_⟩
      · have k := idx_lt (bh_sorted L p) h1.1 h2.1 h
        have := Nat.mul_le_mul_right ((2 * L - 1) ^ w.length) (Nat.succ_le_of_lt k)
        rw [Nat.succ_mul] at this
        omega
      · rcases Int.lt_trichotomy (cd s) (cd t) with z | z | z
        · exact z
        · exact absurd z e
        · have k := idx_lt (bh_sorted L p) h2.1 h1.1 z
          have := Nat.mul_le_mul_right ((2 * L - 1) ^ w.length) (Nat.succ_le_of_lt k)
          rw [Nat.succ_mul] at this
          omega
/-- what the keys of two walks say -/
theorem key_place {L : Nat} {w u : List Int} (h1 : G L none w) (h2 : G L none u) :
    (if (w.length : Int) = (u.length : Int) then (if w.map cd = u.map cd then false else HT.lexLt (w.map cd) (u.map cd)) else decide ((w.length : Int) < (u.length : Int))) = decide (place L w < place L u) := by
  by_cases e : w.length = u.length
  · rw [if_pos (by omega), V_lex h1 h2 e]
    unfold place
    rw [e]
    by_cases e2 : w.map cd = u.map cd
    · rw [if_pos e2]
      have e3 := V_lex h1 h2 e
      rw [e2] at e3
      have e4 : HT.lexLt (u.map cd) (u.map cd) = false := by
        rw [V_lex h2 h2 rfl]
        exact decide_eq_false (Nat.lt_irrefl _)
      rw [e4] at e3
      have := of_decide_eq_false e3.symm
      exact (decide_eq_false (by omega)).symm
    · rw [if_neg e2]
      congr 1
      exact propext ⟨fun h => by omega, fun h => by omega⟩
  · rw [if_neg (by omega)]
    congr 1
    refine propext ⟨fun h => ?_, fun h => ?_⟩
    · rcases Nat.lt_or_ge (place L w) (place L u) with k | k
      · exact k
      · have := place_len h2 h1 k
        omega
    · have := place_len h1 h2 (Nat.le_of_lt h)
      omega
/-! ### the length and the first step of a walk by its number -/
theorem len_of {L : Nat} {u : List Int} {n : Nat} (g : G L none u) (h1 : S L n ≤ place L u) (h2 : place L u < S L (n + 1)) : u.length = n := by
  have a := place_lt g
  have b := place_ge L u
  rcases Nat.lt_trichotomy u.length n with h | h | h
  · have := S_mono (L := L) (a := u.length + 1) (b := n) h
    omega
  · exact h
  · have := S_mono (L := L) (a := n + 1) (b := u.length) h
    omega
theorem head_of {L : Nat} {s : Int} {u : List Int} {k r : Nat} (g : G L none (s :: u)) (h : V L none (s :: u) = k * (2 * L - 1) ^ u.length + r) (hr : r < (2 * L - 1) ^ u.length) : (steps L)[k]? = some s := by
  have a := V_lt g.2
  rw [tot_some (bh_steps g.1)] at a
  rw [V] at h
  have e : (bh L none).idxOf s = k := by
    rcases Nat.lt_trichotomy ((bh L none).idxOf s) k with q | q | q
    · have := Nat.mul_le_mul_right ((2 * L - 1) ^ u.length) (Nat.succ_le_of_lt q)
      rw [Nat.succ_mul] at this
      omega
    · exact q
    · have := Nat.mul_le_mul_right ((2 * L - 1) ^ u.length) (Nat.succ_le_of_lt q)
      rw [Nat.succ_mul] at this
      omega
  have z := at_idx g.1
  rw [e, bh_none] at z
  exact z
/-! ### the first and the last walk of a length -/
theorem one_in {L : Nat} (h : 1 ≤ L) : (1 : Int) ∈ steps L := mem_steps.mpr ⟨by decide, by omega, by omega⟩
theorem low_in {L : Nat} (h : 1 ≤ L) : (-(L : Int)) ∈ steps L := mem_steps.mpr ⟨by omega, by omega, by omega⟩
theorem idx_zero {l : List Int} {x : Int} (hs : l.Pairwise fun a b => cd a < cd b) (hx : x ∈ l) (h : ∀ y ∈ l, cd x ≤ cd y) : l.idxOf x = 0 := by
  cases l with
  | nil => cases hx
  | cons y l =>
    by_cases e : y = x
    · subst e
      simp
    · have h1 := h y List.mem_cons_self
      rcases List.mem_cons.mp hx with hx | hx
      · exact absurd hx.symm e
      · have := (List.pairwise_cons.mp hs).1 x hx
        omega
theorem idx_last {l : List Int} {x : Int} (hs : l.Pairwise fun a b => cd a < cd b) (hx : x ∈ l) (h : ∀ y ∈ l, cd y ≤ cd x) : l.idxOf x + 1 = l.length := by
  have h1 := List.idxOf_lt_length_of_mem hx
  have e1 : l[l.idxOf x] = x := List.getElem_idxOf h1
  rcases Nat.lt_or_ge (l.idxOf x + 1) l.length with k | k
  · have := List.pairwise_iff_getElem.mp hs _ _ h1 k (Nat.lt_succ_self _)
    have h2 := h _ (List.getElem_mem k)
    rw [e1] at this
    omega
  · omega
theorem cd_one {L : Nat} {y : Int} (h : y ∈ steps L) : cd 1 ≤ cd y := by
  have := mem_steps.mp h
  unfold cd
  split <;> split <;> omega
theorem cd_low {L : Nat} (hL : 1 ≤ L) {y : Int} (h : y ∈ steps L) : cd y ≤ cd (-(L : Int)) := by
  have := mem_steps.mp h
  unfold cd
  split <;> split <;> omega
theorem ones {L : Nat} (hL : 1 ≤ L) : ∀ (n : Nat) (p : Option Int), p ≠ some (-1) → G L p (List.replicate n 1) ∧ V L p (List.replicate n 1) = 0
  | 0, p, _ => ⟨trivial, rfl⟩
  | n + 1, p, hp => by
    have ih := ones hL n (some 1) (by decide)
    have hm : (1 : Int) ∈ bh L p := mem_bh.mpr ⟨one_in hL, hp⟩
    rw [List.replicate_succ]
    refine ⟨⟨hm, ih.1⟩, ?_⟩
    rw [V, ih.2, idx_zero (bh_sorted L p) hm fun y hy => cd_one (bh_steps hy), Nat.zero_mul]
theorem lows {L : Nat} (hL : 1 ≤ L) : ∀ (n : Nat) (p : Option Int), p ≠ some (L : Int) → G L p (List.replicate n (-(L : Int))) ∧ V L p (List.replicate n (-(L : Int))) + 1 = tot L p n
  | 0, p, _ => ⟨trivial, rfl⟩
  | n + 1, p, hp => by
    have ih := lows hL n (some (-(L : Int))) (by
      intro e
      have := Option.some.inj e
      omega)
    have hm : (-(L : Int)) ∈ bh L p := mem_bh.mpr ⟨low_in hL, by rw [Int.neg_neg]; exact hp⟩
    have hi := idx_last (bh_sorted L p) hm fun y hy => cd_low hL (bh_steps hy)
    rw [List.replicate_succ]
    refine ⟨⟨hm, ih.1⟩, ?_⟩
    have e := ih.2
    rw [tot_some (low_in hL)] at e
    rw [V, Nat.add_assoc, e, List.length_replicate, tot, ← hi]
    exact (Nat.succ_mul ((bh L p).idxOf (-(L : Int))) ((2 * L - 1) ^ n)).symm
theorem place_ones {L : Nat} (hL : 1 ≤ L) (n : Nat) : G L none (List.replicate n 1) ∧ place L (List.replicate n 1) = S L n := by
  have h := ones hL n none (by simp)
  refine ⟨h.1, ?_⟩
  unfold place
  rw [h.2, List.length_replicate, Nat.add_zero]
theorem place_lows {L : Nat} (hL : 1 ≤ L) (n : Nat) : G L none (List.replicate n (-(L : Int))) ∧ place L (List.replicate n (-(L : Int))) + 1 = S L (n + 1) := by
  have h := lows hL n none (by simp)
  refine ⟨h.1, ?_⟩
  unfold place
  rw [List.length_replicate, Nat.add_assoc, h.2, S]
/-! ### with a first and a last step -/
/-- how many of n + 1 steps have the first one f and the last one s -/
def bt (L : Nat) (f : Int) : Nat → Int → Int
  | 0, s => if s = f then 1 else 0
  | n + 1, s => (((2 * L - 1) ^ n : Nat) : Int) - bt L f n (-s)
theorem bt_neg (L : Nat) (f : Int) : ∀ (n : Nat) (s : Int), bt L (-f) n (-s) = bt L f n s
  | 0, s => by
    unfold bt
    by_cases h : s = f
    · rw [if_pos h, if_pos (by omega)]
    · rw [if_neg h, if_neg (by omega)]
  | n + 1, s => by rw [bt, bt, bt_neg L f n (-s)]
theorem bt_symm (L : Nat) : ∀ (n : Nat) (f s : Int), bt L f n s = bt L s n f
  | 0, f, s => by
    unfold bt
    by_cases h : s = f
    · rw [if_pos h, if_pos h.symm]
    · rw [if_neg h, if_neg fun z => h z.symm]
  | n + 1, f, s => by
    rw [bt, bt, bt_symm L n f (-s)]
    have e := bt_neg L s n (-f)
    rw [Int.neg_neg] at e
    rw [e]
theorem bt_range {L : Nat} (hL : 1 ≤ L) (f : Int) : ∀ (n : Nat) (s : Int), 0 ≤ bt L f n s ∧ bt L f n s ≤ (((2 * L - 1) ^ n : Nat) : Int)
  | 0, s => by
    unfold bt
    split <;> simp
  | n + 1, s => by
    have ih := bt_range hL f n (-s)
    have e : (((2 * L - 1) ^ n : Nat) : Int) ≤ (((2 * L - 1) ^ (n + 1) : Nat) : Int) := by
      rw [Nat.pow_succ]
      have := Nat.le_mul_of_pos_right ((2 * L - 1) ^ n) (by omega : 0 < 2 * L - 1)
      omega
    rw [bt]
    omega
theorem sum_neg (g : Int → Int) : ∀ L : Nat, ((steps L).map fun s => g (-s)).sum = ((steps L).map g).sum
  | 0 => rfl
  | L + 1 => by
    rw [steps_succ, List.map_append, List.map_append, List.sum_append, List.sum_append, sum_neg g L]
    simp only [List.map_cons, List.map_nil, List.sum_cons, List.sum_nil, Int.neg_neg]
    omega
theorem sum_sub (g h : Int → Int) : ∀ l : List Int, (l.map fun s => g s - h s).sum = (l.map g).sum - (l.map h).sum
  | [] => rfl
  | x :: l => by
    simp only [List.map_cons, List.sum_cons]
    rw [sum_sub g h l]
    omega
theorem sum_const (c : Int) : ∀ l : List Int, (l.map fun _ => c).sum = (l.length : Int) * c
  | [] => by simp
  | x :: l => by
    simp only [List.map_cons, List.sum_cons, List.length_cons]
    rw [sum_const c l, show (((l.length + 1 : Nat)) : Int) = (l.length : Int) + 1 by omega, Int.add_mul, Int.one_mul, Int.add_comm]
theorem sum_mul (c : Int) (g : Int → Int) : ∀ l : List Int, (l.map fun s => g s * c).sum = (l.map g).sum * c
  | [] => by simp
  | x :: l => by
    simp only [List.map_cons, List.sum_cons]
    rw [sum_mul c g l, Int.add_mul]
theorem sum_pick (g : Int → Int) {x : Int} : ∀ {l : List Int}, l.Nodup → x ∈ l → (l.map fun s => g s * (if x = s then 1 else 0)).sum = g x
  | y :: l, hn, h => by
    simp only [List.map_cons, List.sum_cons]
    have hn' := List.nodup_cons.mp hn
    by_cases e : x = y
    · subst e
      have z : (l.map fun s => g s * (if x = s then 1 else 0)).sum = 0 := by
        rw [List.map_congr_left (g := fun _ => 0) fun s hs => by rw [if_neg (fun q => hn'.1 (by rw [q]; exact hs)), Int.mul_zero], sum_const, Int.mul_zero]
      rw [z, if_pos rfl]
      omega
    · rw [if_neg e, sum_pick g hn'.2 ((List.mem_cons.mp h).resolve_left e)]
      omega
theorem sum_bt {L : Nat} {f : Int} (hf : f ∈ steps L) : ∀ n, ((steps L).map (bt L f n)).sum = (((2 * L - 1) ^ n : Nat) : Int)
  | 0 => by
    have e := sum_pick (fun _ => 1) (steps_nodup L) hf
    have e2 : ((steps L).map (bt L f 0)) = ((steps L).map fun s => (fun _ => (1 : Int)) s * (if f = s then 1 else 0)) := by
      refine List.map_congr_left fun s _ => ?_
      show (if s = f then (1 : Int) else 0) = 1 * (if f = s then 1 else 0)
      by_cases q : s = f
      · rw [if_pos q, if_pos q.symm]; rfl
      · rw [if_neg q, if_neg fun z => q z.symm]; rfl
    rw [e2, e]
    rfl
  | n + 1 => by
    have hL : 1 ≤ L := by
      have := mem_steps.mp hf
      omega
    have e : ((steps L).map (bt L f (n + 1))) = (steps L).map fun s => (fun _ => (((2 * L - 1) ^ n : Nat) : Int)) s - (fun s => bt L f n (-s)) s := rfl
    rw [e, sum_sub, sum_const, sum_neg (bt L f n), sum_bt hf n, steps_len, Nat.pow_succ, Int.natCast_mul ((2 * L - 1) ^ n), show ((2 * L : Nat) : Int) = ((2 * L - 1 : Nat) : Int) + 1 by omega, Int.add_mul, Int.one_mul, Int.mul_comm (((2 * L - 1 : Nat)) : Int)]
    omega
theorem bt_join {L : Nat} {f l : Int} (hf : f ∈ steps L) (a : Nat) : ∀ (b : Nat) (l : Int), l ∈ steps L → ((steps L).map fun s => bt L f a s * bt L s b l).sum = bt L f (a + b) l
  | 0, l, hl => sum_pick (bt L f a) (steps_nodup L) hl
  | b + 1, l, hl => by
    have hl' : -l ∈ steps L := by
      have := mem_steps.mp hl
      exact mem_steps.mpr (by omega)
    have ih := bt_join (l := l) hf a b (-l) hl'
    have e : ((steps L).map fun s => bt L f a s * bt L s (b + 1) l) = (steps L).map fun s => (fun s => bt L f a s * (((2 * L - 1) ^ b : Nat) : Int)) s - (fun s => bt L f a s * bt L s b (-l)) s := by
      refine List.map_congr_left fun s _ => ?_
      show bt L f a s * ((((2 * L - 1) ^ b : Nat) : Int) - bt L s b (-l)) = _
      rw [Int.mul_sub]
    rw [e, sum_sub, ih, sum_mul, sum_bt hf a, ← Int.natCast_mul, ← Nat.pow_add]
    rfl
end Od
/-! members counted by rooms and last steps -/
namespace Wb
theorem sum_flt {α : Type} {b : α → Int} {p : α → Bool} : ∀ {m : List α}, (∀ x ∈ m, p x = false → b x = 0) → ((m.filter p).map b).sum = (m.map b).sum
  | [], _ => rfl
  | x :: m, h => by
    have ih := sum_flt (m := m) fun y hy => h y (List.mem_cons_of_mem _ hy)
    cases hp : p x with
    | true => rw [List.filter_cons_of_pos hp, List.map_cons, List.sum_cons, List.map_cons, List.sum_cons, ih]
    | false => rw [List.filter_cons_of_neg (by rw [hp]; decide), ih, List.map_cons, List.sum_cons, h x List.mem_cons_self hp]; omega
theorem perm_sumI {l m : List Int} (h : l.Perm m) : l.sum = m.sum := by
  induction h with
  | nil => rfl
  | cons x _ ih => rw [List.sum_cons, List.sum_cons, ih]
  | swap x y l => rw [List.sum_cons, List.sum_cons, List.sum_cons, List.sum_cons]; omega
  | trans _ _ a b => rw [a, b]
theorem nodup_perm {α : Type} [DecidableEq α] {l m : List α} (hl : l.Nodup) (hm : m.Nodup) (h : ∀ x, x ∈ l ↔ x ∈ m) : l.Perm m := by
  exact (List.perm_ext_iff_of_nodup hl hm).mpr h
/-- the same sum over two lists that both hold all that counts -/
theorem sum_two {α : Type} [DecidableEq α] {f : α → Int} {l m : List α} (hl : l.Nodup) (hm : m.Nodup) (h1 : ∀ x ∈ l, x ∉ m → f x = 0) (h2 : ∀ x ∈ m, x ∉ l → f x = 0) : (l.map f).sum = (m.map f).sum := by
  rw [← sum_flt (p := fun x => decide (x ∈ m)) (m := l) fun x hx hp => h1 x hx (by simpa using hp), ← sum_flt (p := fun x => decide (x ∈ l)) (m := m) fun x hx hp => h2 x hx (by simpa using hp)]
  refine perm_sumI ((nodup_perm (hl.filter _) (hm.filter _) fun x => ?_).map f)
  rw [List.mem_filter, List.mem_filter, decide_eq_true_eq, decide_eq_true_eq]
  exact ⟨fun z => ⟨z.2, z.1⟩, fun z => ⟨z.2, z.1⟩⟩
theorem sum_addI {α : Type} {f g : α → Int} : ∀ {l : List α}, (l.map fun x => f x + g x).sum = (l.map f).sum + (l.map g).sum
  | [] => rfl
  | x :: l => by rw [List.map_cons, List.sum_cons, sum_addI, List.map_cons, List.sum_cons, List.map_cons, List.sum_cons]; omega
abbrev Pl := Nat × Int
/-- how many straight walks lead from home to a room by a last step -/
def lst (L : Nat) (d : Gm) : Nat → Pl → Int
  | 0 => fun k => if k = (0, 0) then 1 else 0
  | n + 1 => fun k => (hw L d (n + 1)).1 k.1 (-k.2)
/-- what a list of places tells: all that counts -/
structure Tells (L n : Nat) (d : Gm) (k : Nat) (ps : List Pl) : Prop where
  nd : ps.Nodup
  all : ∀ x, x ∉ ps → lst L d k x = 0
  dom : ∀ x ∈ ps, x.1 < n ∧ (x.2 ∈ Od.steps L ∨ x.2 = 0)
theorem zero_no {L n : Nat} {d : Gm} (G : Gr L n d) (r : Nat) : d r 0 = none := by
  cases e : d r 0 with
  | none => rfl
  | some g =>
    have := Od.mem_steps.mp (G.dom _ _ _ e).2.2
    omega
theorem tells_sum {L n k : Nat} {d : Gm} {ps : List Pl} (G : Gr L n d) (T : Tells L n d k ps) (r : Nat) : (ps.map fun x => if x.1 = r then lst L d k x else 0).sum = (hw L d k).2 r := by
  have hnd : ((0 :: Od.steps L).map fun s => ((r, s) : Pl)).Nodup := by
    have h0 : (0 :: Od.steps L).Nodup := List.nodup_cons.mpr ⟨fun z => by have := Od.mem_steps.mp z; omega, Od.steps_nodup L⟩
    exact List.pairwise_map.mpr (List.Pairwise.imp (fun {a b} h z => h (Prod.mk.inj z).2) h0)
  rw [sum_two (m := (0 :: Od.steps L).map fun s => ((r, s) : Pl)) T.nd hnd (fun x hx hn => ?_) (fun x hx hn => ?_)]
  · rw [List.map_map, List.map_cons, List.sum_cons]
    have e0 : ((fun x : Pl => if x.1 = r then lst L d k x else 0) ∘ fun s => ((r, s) : Pl)) = fun s => lst L d k (r, s) := funext fun s => if_pos rfl
    rw [e0]
    cases k with
    | zero =>
      have z : ((Od.steps L).map fun s => lst L d 0 (r, s)).sum = 0 := by
        have : ((Od.steps L).map fun s => lst L d 0 (r, s)) = (Od.steps L).map fun _ => (0 : Int) := List.map_congr_left fun s hs => by
          have := Od.mem_steps.mp hs
          exact if_neg fun z => by have := (Prod.mk.inj z).2; omega
        rw [this]
        generalize Od.steps L = l
        induction l with
        | nil => rfl
        | cons x l ih => rw [List.map_cons, List.sum_cons, ih]; rfl
      rw [z]
      show (if ((r, 0) : Pl) = (0, 0) then (1 : Int) else 0) + 0 = if r = 0 then 1 else 0
      by_cases c : r = 0
      · rw [if_pos c, if_pos (by rw [c])]; rfl
      · rw [if_neg c, if_neg fun z => c (Prod.mk.inj z).1]; rfl
    | succ k =>
      have z0 : lst L d (k + 1) (r, 0) = 0 := by
        show (hw L d (k + 1)).1 r (-0) = 0
        exact hw_none (by rw [Int.neg_zero]; exact zero_no G r)
      try dsimp only
      rw [z0, hw_tot]
      show 0 + ((Od.steps L).map fun s => (hw L d (k + 1)).1 r (-s)).sum = _
      have := Od.sum_neg ((hw L d (k + 1)).1 r) L
      rw [Int.zero_add]
      exact this
  · by_cases c : x.1 = r
    · exfalso
      apply hn
      refine List.mem_map.mpr ⟨x.2, ?_, by rw [← c]⟩
      rcases (T.dom x hx).2 with h | h
      · exact List.mem_cons_of_mem _ h
      · rw [h]; exact List.mem_cons_self
    · exact if_neg c
  · rw [T.all x hn]
    split <;> rfl
def contrib (L : Nat) (d : Gm) (k : Nat) (x y : Pl) : Int := if d x.1 y.2 = some y.1 ∧ y.2 ≠ -x.2 then lst L d k x else 0
theorem sum_one {ps : List Pl} {f : Pl → Int} {a : Pl} (hn : ps.Nodup) (h0 : a ∉ ps → f a = 0) : (ps.map fun x => if x = a then f x else 0).sum = f a := by
  rw [sum_two (f := fun x => if x = a then f x else 0) (m := [a]) hn (List.nodup_cons.mpr ⟨List.not_mem_nil, List.nodup_nil⟩) (fun x _ h => if_neg fun z => h (List.mem_singleton.mpr z)) fun x hx h => ?_]
  · show (if a = a then f a else 0) + 0 = f a
    rw [if_pos rfl]; omega
  · have e := List.mem_singleton.mp hx
    subst e
    rw [if_pos rfl, h0 h]
theorem tells_next {L n k : Nat} {d : Gm} {ps : List Pl} (G : Gr L n d) (T : Tells L n d k ps) (y : Pl) : (ps.map fun x => contrib L d k x y).sum = lst L d (k + 1) y := by
  obtain ⟨g, s⟩ := y
  show _ = (hw L d (k + 1)).1 g (-s)
  cases e : d g (-s) with
  | none =>
    rw [hw_none e]
    have : (ps.map fun x => contrib L d k x (g, s)) = ps.map fun _ => (0 : Int) := List.map_congr_left fun x _ => by
      refine if_neg fun z => ?_
      have := G.sym _ _ _ z.1
      rw [e] at this
      cases this
    rw [this]
    generalize ps = l
    induction l with
    | nil => rfl
    | cons x l ih => rw [List.map_cons, List.sum_cons, ih]; rfl
  | some r =>
    rw [hw_some e, ← tells_sum G T r]
    have hs : s ≠ 0 := fun z => by
      rw [z, Int.neg_zero, zero_no G] at e
      cases e
    have hb : d r s = some g := by have := G.sym _ _ _ e; rwa [Int.neg_neg] at this
    have h1 : (ps.map fun x => if x.1 = r then lst L d k x else 0) = ps.map fun x => contrib L d k x (g, s) + if x = (r, -s) then lst L d k x else 0 := List.map_congr_left fun x _ => by
      unfold contrib
      by_cases c : x.1 = r
      · rw [if_pos c]
        by_cases c2 : x.2 = -s
        · rw [if_neg (fun z => z.2 (by rw [c2, Int.neg_neg])), if_pos (Prod.ext c c2)]
          omega
        · rw [if_pos ⟨by rw [c]; exact hb, fun z => c2 (by show x.2 = -s; have z : s = -x.2 := z; omega)⟩, if_neg fun z => c2 (by rw [z])]
          omega
      · rw [if_neg c, if_neg fun z => c ?_, if_neg fun z => c (by rw [z])]
        · rfl
        · have := G.sym _ _ _ z.1
          rw [e] at this
          exact (Option.some.inj this).symm
    rw [h1, sum_addI, sum_one T.nd (T.all _)]
    have h2 : lst L d k (r, -s) = (hw L d k).1 r (-(-s)) := by
      cases k with
      | zero => exact if_neg fun z => hs (by have := (Prod.mk.inj z).2; omega)
      | succ k => rfl
    rw [h2]
    omega
theorem tells_zero {L n : Nat} {d : Gm} (hn : 0 < n) : Tells L n d 0 [(0, 0)] := ⟨List.nodup_cons.mpr ⟨List.not_mem_nil, List.nodup_nil⟩, fun x h => if_neg fun z => h (List.mem_singleton.mpr z), fun x h => by rw [List.mem_singleton.mp h]; exact ⟨hn, .inr rfl⟩⟩
end Wb
/-! dicts with pairs of numbers for keys -/
namespace L2
open PySem PySem.Spec PyProof.Rows Evl
/-! ### {(a, b): x} -/
def tDispT (tk tv : TE) : TE := fun σ H Q => ∀ p, H p = none → tk σ (upd H p (.dT [])) fun x H1 => tv σ H1 fun y H2 => H2 p = some (.dT []) ∧ ∃ (k : List Key) (b : Addr), x = .ref b ∧ H2 b = some (.tup (k.map kV)) ∧ Q (.ref p) (upd H2 p (.dT [(k, y)]))
theorem pe_dispT {X : Cx} {k v : Expr} {tk tv : TE} {pos : Pos} (hu : X.A.units + 1 < cLine) (hk : PE X k tk) (hv : PE X v tv) : PE X (.Dict [some k] [v] pos) (tDispT tk tv) := by
  refine ⟨fun pins s σ H Q I q => ?_⟩
  have hn := I.hok.fresh (Nat.le_refl s.heap.objs.size)
  have I1 := I.laid (a := s.heap.objs.size) (o := .dT []) (h' := s.heap.push { cls := .type "dict", data := .dict #[] }) (t' := s.toks) (fun _ _ q => Heap.get?_push_of_some _ q) (Nat.le_refl _) (dt_empty s.heap I.big)
  have hz := zip_pairTrees [some k] [v] X.env pos rfl rfl
  have hl := pairTrees_length [some k] [v] X.env pos rfl rfl
  rw [arm_eval_Dict, hz, dictDisplay_pairs _ (by intro z; rw [z] at hl; exact absurd hl (by simp)) (by rw [hl]; simp)]
  refine wpAny_bind (wpAny_standAt (wpAny_bind (wpAny_subDictH (knd := tupleKind (mixKind X.prog X.w)) (Q := fun d s' => wpAny (model X.prog X.w) X.A (pure (Value.ref d)) _ X.xe s') ?_ (by rw [hl]; simp) ?_)))
  · exact Nat.lt_of_succ_lt hu
  · have q2 := q _ hn
    refine thn ((pps_cons hk hv (pps_nil (pos := pos))).run pins _ σ _ (fun ps H2 => match ps with
      | [(x, y)] => H2 s.heap.objs.size = some (.dT []) ∧ ∃ (k : List Key) (b : Addr), x = .ref b ∧ H2 b = some (.tup (k.map kV)) ∧ Q (.ref s.heap.objs.size) (upd H2 s.heap.objs.size (.dT [(k, y)]))
      | _ => False) I1 q2) fun ws s2 ⟨ps, H2, I2, rel, q3⟩ => ?_
    match ps, q3 with
    | [(x, y)], q3 =>
      obtain ⟨e, k, b, ex, eb, q4⟩ := q3
      cases rel with
      | @cons a c as cs r0 r1 =>
        cases r1
        obtain ⟨kv, vv⟩ := c
        obtain ⟨rx, ry⟩ := r0
        subst ex
        obtain rfl : kv = Value.ref b := rx
        obtain ⟨z, hd, xs, rel, dd⟩ := dt_of I2.hok e
        cases rel
        refine ⟨[(k, b, vv)], ⟨rfl, rfl, key_of I2.hok eb, trivial⟩, dd, fun h' tk dd' hs => wpAny_pure ?_⟩
        obtain ⟨o, es, ep, hq, h2, h3, h4, _, h5⟩ := dd'
        refine ⟨.ref _, _, d_write (ob := .dT [(k, y)]) I2 (by rw [e]; exact True.intro) hs ⟨o, hq⟩ ⟨by simp [sizeLine_eq], hd, [(k, b, vv)], ?_, o, es, ep, hq, h2, h3, h4, h5⟩, rfl, q4⟩
        refine .cons ⟨rfl, ?_, ry⟩ .nil
        rw [upd_ne (ne_of eb e (fun z => nomatch z))]
        exact eb
/-! ### what such a dict holds -/
abbrev Pl := Nat × Int
def ky (x : Pl) : List Key := [Sum.inl (x.1 : Int), Sum.inl x.2]
theorem ky_inj {x y : Pl} (h : ky x = ky y) : x = y := by
  obtain ⟨a, b⟩ := x
  obtain ⟨c, d⟩ := y
  unfold ky at h
  have h1 := (List.cons.inj h).1
  have h2 := (List.cons.inj (List.cons.inj h).2).1
  have h3 : (a : Int) = (c : Int) := Sum.inl.inj h1
  have h4 : b = d := Sum.inl.inj h2
  rw [h4, show a = c by omega]
def tm (ps : List Pl) (f : Pl → Int) : List (List Key × V) := ps.map fun x => (ky x, V.int (f x))
theorem tm_len (ps : List Pl) (f : Pl → Int) : (tm ps f).length = ps.length := by unfold tm; rw [List.length_map]
theorem tm_congr {ps : List Pl} {f g : Pl → Int} (h : ∀ x ∈ ps, f x = g x) : tm ps f = tm ps g := List.map_congr_left fun x hx => by rw [h x hx]
theorem valV_tm {f : Pl → Int} : ∀ {l : List Pl} {x : Pl}, x ∈ l → valV (tm l f) (ky x) = some (.int (f x))
  | y :: l, x, h => by
    show valV ((ky y, V.int (f y)) :: tm l f) (ky x) = _
    by_cases e : y = x
    · subst e
      exact valV_pos rfl
    · rw [valV_neg (fun z => e (ky_inj z))]
      rcases List.mem_cons.mp h with h | h
      · exact absurd h.symm e
      · exact valV_tm h
theorem valV_tm_no {f : Pl → Int} : ∀ {l : List Pl} {x : Pl}, x ∉ l → valV (tm l f) (ky x) = none
  | [], _, _ => rfl
  | y :: l, x, h => by
    show valV ((ky y, V.int (f y)) :: tm l f) (ky x) = _
    rw [valV_neg (fun z => h (by rw [ky_inj z]; exact List.mem_cons_self))]
    exact valV_tm_no fun z => h (List.mem_cons_of_mem _ z)
theorem putK_tm {f : Pl → Int} {l : List Pl} {x : Pl} (h : x ∈ l) (y : Int) : putK (tm l f) (ky x) (.int y) = tm l fun s => if s = x then y else f s := by
  have e : ((tm l f).any fun kv => decide (kv.1 = ky x)) = true := by rw [valV_any, valV_tm h]; rfl
  unfold putK
  rw [if_pos e]
  unfold tm
  rw [List.map_map]
  refine List.map_congr_left fun s _ => ?_
  show (if ky s = ky x then (ky s, V.int y) else (ky s, V.int (f s))) = _
  by_cases e2 : s = x
  · rw [if_pos (by rw [e2])]
    show _ = (ky s, V.int (if s = x then y else f s))
    rw [if_pos e2]
  · rw [if_neg (fun z => e2 (ky_inj z))]
    show _ = (ky s, V.int (if s = x then y else f s))
    rw [if_neg e2]
theorem putK_tm_new {f : Pl → Int} {l : List Pl} {x : Pl} (h : x ∉ l) (y : Int) : putK (tm l f) (ky x) (.int y) = tm (l ++ [x]) fun s => if s = x then y else f s := by
  rw [putK_new (.int y) (valV_tm_no h)]
  unfold tm
  rw [List.map_append]
  congr 1
  · refine List.map_congr_left fun s hs => ?_
    show (ky s, V.int (f s)) = (ky s, V.int (if s = x then y else f s))
    rw [if_neg (fun z : s = x => h (z ▸ hs))]
  · show _ = [(ky x, V.int (if x = x then y else f x))]
    rw [if_pos rfl]
section
variable {K : PySem.W.Frag} {σ : L2.St} {H : Hp} {Q : VK} {D : Ends} {tb : TS} {te ty tx : TE} {tt : TT} {vs : List Nat} {d b : Addr} {j j2 i0 : Nat} {ps : List Pl} {f : Pl → Int} {x : Pl}
theorem kyV (x : Pl) : (ky x).map kV = [V.int (x.1 : Int), V.int x.2] := rfl
theorem r_tget (h : Rd H d (.dT (tm ps f))) (hb : H b = some (.tup [V.int (x.1 : Int), V.int x.2])) (hx : x ∈ ps) (q : Q (.int (f x)) H) : rDGet (.ref d) (.ref b) H Q := ⟨d, _, rfl, .inr ⟨tm ps f, ky x, b, h, rfl, hb, (valV_tm hx).symm⟩, q⟩
theorem r_tg2 (h : Rd H d (.dT (tm ps f))) (q : ty σ H fun y H2 => tx σ H2 fun z H3 => rDG2b d y z H3 Q) : rDG2 ty tx σ (.ref d) H Q := ⟨d, rfl, .inr ⟨_, h⟩, q⟩
theorem r_tg2b {z : Int} (h : Rd H d (.dT (tm ps f))) (hb : H b = some (.tup [V.int (x.1 : Int), V.int x.2])) (q : Q (.int (if x ∈ ps then f x else z)) H) : rDG2b d (.ref b) (.int z) H Q := by
  refine ⟨valV (tm ps f) (ky x), .inr ⟨tm ps f, ky x, b, h, rfl, hb, rfl⟩, ?_⟩
  by_cases c : x ∈ ps
  · rw [if_pos c] at q
    rw [valV_tm c]
    exact q
  · rw [if_neg c] at q
    rw [valV_tm_no c]
    exact q
theorem r_tput {z : Int} {R : Hp → Prop} (h : H d = some (.dT (tm ps f))) (hb : H b = some (.tup [V.int (x.1 : Int), V.int x.2])) (hz : ps.length < 100000) (q : ∀ H1, ExW d H H1 → H1 d = some (.dT (tm (if x ∈ ps then ps else ps ++ [x]) fun s => if s = x then z else f s)) → R H1) : rDPut (.ref d) (.ref b) (.int z) H R := by
  refine ⟨d, _, rfl, .inr ⟨tm ps f, ky x, b, h, rfl, hb, sz_lt (by rw [tm_len]; exact hz), rfl⟩, q _ ExW.upd ?_⟩
  rw [upd_same]
  by_cases c : x ∈ ps
  · rw [if_pos c, putK_tm c]
  · rw [if_neg c, putK_tm_new c]
/-- for a, b in d, d locked -/
theorem r_lockT (hv : σ[i0]? = some (some (.ref d))) (hd : H d = some (.dT (tm ps f))) (Pv : Nat → L2.St → Hp → Prop) (h0 : ∀ od H1, ExW d H H1 → H1 d = some (.frz od (.dT (tm ps f))) → Pv 0 σ H1)
    (hs : ∀ od i x q σ' H' rt bk, ps[i]? = some x → Pv i σ' H' → H' d = some (.frz od (.dT (tm ps f))) → H' q = some (.tup [V.int (x.1 : Int), V.int x.2]) →
      tb ⟨fun σ2 H2 => Pv (i + 1) σ2 H2 ∧ H2 d = some (.frz od (.dT (tm ps f))), rt, bk, fun σ2 H2 => Pv (i + 1) σ2 H2 ∧ H2 d = some (.frz od (.dT (tm ps f)))⟩ ((σ'.set j (some (.int (x.1 : Int)))).set j2 (some (.int x.2))) H')
    (hq : ∀ od σ' H', Pv ps.length σ' H' → H' d = some (.frz od (.dT (tm ps f))) → D.nx σ' (upd H' d (.dT (tm ps f)))) :
    tLock (tFor (iKeys (tVar i0)) (gTup K 2 (gCons (gName j) (gCons (gName j2) gNil))) tb) D σ H := by
  refine ⟨d, _, hd, trivial, fun od => ?_⟩
  have fr : (upd H d (.frz od (.dT (tm ps f)))) d = some (.frz od (.dT (tm ps f))) := upd_same
  refine ⟨_, hv, d, od, rfl, .inr ⟨tm ps f, fr, ?_⟩⟩
  refine ⟨fun i m σ' H' => m = ps.length - i ∧ i ≤ ps.length ∧ Pv i σ' H' ∧ H' d = some (.frz od (.dT (tm ps f))), ⟨ps.length, by simp, Nat.zero_le _, h0 od _ ExW.upd fr, fr⟩, ?_⟩
  rintro i m σ' H' ⟨rfl, hi, p, fr'⟩
  rcases Nat.lt_or_ge i ps.length with lt | ge
  · have hx := List.getElem?_eq_getElem lt
    refine .inr ⟨⟨fr', by rw [tm_len]; exact lt⟩, fun σ2 H2 => Pv (i + 1) σ2 H2 ∧ H2 d = some (.frz od (.dT (tm ps f))), fun σ2 H2 p => ⟨ps.length - (i + 1), by omega, rfl, lt, p.1, p.2⟩, ?_⟩
    rintro y H6 ⟨rfl, k, v, q, hy, rfl, hq⟩
    unfold tm at hy
    rw [List.getElem?_map, hx] at hy
    cases hy
    refine r_tup2 (t_of hq) ?_
    exact hs od i _ q σ' H6 _ _ hx p fr' hq
  · have e2 : i = ps.length := by omega
    subst e2
    exact .inl ⟨⟨fr', by rw [tm_len]; exact Nat.le_refl _⟩, fr', hq od σ' H' p fr'⟩
/-- for x in d, d locked, its keys numbers -/
theorem r_lockK {ns : List Int} {f0 : Int → V} (hd : H d = some (.dK (dm ns f0))) (hte : ∀ od H1 (R : VK), ExW d H H1 → H1 d = some (.frz od (.dK (dm ns f0))) → R (.ref d) H1 → te σ H1 R) (Pv : Nat → L2.St → Hp → Prop) (h0 : ∀ od H1, ExW d H H1 → H1 d = some (.frz od (.dK (dm ns f0))) → Pv 0 σ H1)
    (hs : ∀ od i x σ' H' rt bk, ns[i]? = some x → Pv i σ' H' → H' d = some (.frz od (.dK (dm ns f0))) →
      tb ⟨fun σ2 H2 => Pv (i + 1) σ2 H2 ∧ H2 d = some (.frz od (.dK (dm ns f0))), rt, bk, fun σ2 H2 => Pv (i + 1) σ2 H2 ∧ H2 d = some (.frz od (.dK (dm ns f0)))⟩ (σ'.set j (some (.int x))) H')
    (hq : ∀ od σ' H', Pv ns.length σ' H' → H' d = some (.frz od (.dK (dm ns f0))) → D.nx σ' (upd H' d (.dK (dm ns f0)))) :
    tLock (tFor (iKeys te) (gName j) tb) D σ H := by
  refine ⟨d, _, hd, trivial, fun od => ?_⟩
  have fr : (upd H d (.frz od (.dK (dm ns f0)))) d = some (.frz od (.dK (dm ns f0))) := upd_same
  refine hte od _ _ ExW.upd fr ⟨d, od, rfl, .inl ⟨dm ns f0, fr, ?_⟩⟩
  refine ⟨fun i m σ' H' => m = ns.length - i ∧ i ≤ ns.length ∧ Pv i σ' H' ∧ H' d = some (.frz od (.dK (dm ns f0))), ⟨ns.length, by simp, Nat.zero_le _, h0 od _ ExW.upd fr, fr⟩, ?_⟩
  rintro i m σ' H' ⟨rfl, hi, p, fr'⟩
  rcases Nat.lt_or_ge i ns.length with lt | ge
  · have hx := List.getElem?_eq_getElem lt
    refine .inr ⟨⟨fr', by rw [dm_len]; exact lt⟩, fun σ2 H2 => Pv (i + 1) σ2 H2 ∧ H2 d = some (.frz od (.dK (dm ns f0))), fun σ2 H2 p => ⟨ns.length - (i + 1), by omega, rfl, lt, p.1, p.2⟩, ?_⟩
    rintro y H6 ⟨rfl, k, v, hy, rfl⟩
    unfold dm at hy
    rw [List.getElem?_map, hx] at hy
    cases hy
    exact hs od i _ σ' H6 _ _ hx p fr'
  · have e2 : i = ns.length := by omega
    subst e2
    exact .inl ⟨⟨fr', by rw [dm_len]; exact Nat.le_refl _⟩, fr', hq od σ' H' p fr'⟩
/-- [e for x in d if t], the keys pairs -/
theorem r_lcKT (hv : σ[i0]? = some (some (.ref d))) (hd : H d = some (.dT (tm ps f))) (p : Pl → Bool) (v : Pl → V) (hz : ps.length ≤ 50000) (hw : ∀ x, wipe ((wipe σ vs).set j (some x)) vs = wipe σ vs)
    (ht : ∀ x ∈ ps, ∀ H1 q, ExW d H H1 → Rd H1 d (.dT (tm ps f)) → H1 q = some (.tup [V.int (x.1 : Int), V.int x.2]) → ∀ Q' : Bool → Hp → Prop, Q' (p x) H1 → tt ((wipe σ vs).set j (some (.ref q))) H1 Q')
    (he : ∀ x ∈ ps, p x = true → ∀ H1 q, ExW d H H1 → Rd H1 d (.dT (tm ps f)) → H1 q = some (.tup [V.int (x.1 : Int), V.int x.2]) → ∀ Q' : VK, Q' (v x) H1 → te ((wipe σ vs).set j (some (.ref q))) H1 Q')
    (q : ∀ P H1, H P = none → Ex H H1 → H1 P = some (.lst ((ps.filter p).map v)) → Q (.ref P) H1) : tLockE (tLc (iKeys (tVar i0)) (gName j) tt te vs) σ H Q := by
  refine ⟨d, _, hd, trivial, fun od => ?_⟩
  have fr : (upd H d (.frz od (.dT (tm ps f)))) d = some (.frz od (.dT (tm ps f))) := upd_same
  have wx : ExW d H (upd H d (.frz od (.dT (tm ps f)))) := ExW.upd
  have hof : ∀ D, (upd H d (.frz od (.dT (tm ps f)))) D = none → D ≠ d ∧ H D = none := fun D hD => by
    have hDd : D ≠ d := fun e => by rw [e, upd_same] at hD; cases hD
    exact ⟨hDd, by rw [upd_ne hDd] at hD; exact hD⟩
  refine ⟨_, hv, d, od, rfl, .inr ⟨tm ps f, fr, fun D hD => ?_⟩⟩
  obtain ⟨hDd, hD0⟩ := hof D hD
  generalize upd H d (.frz od (.dT (tm ps f))) = H0 at hD fr wx
  refine ⟨fun i m H' => m = ps.length - i ∧ i ≤ ps.length ∧ Ex H0 H' ∧ H' D = some (.lst (((ps.take i).filter p).map v)), ⟨ps.length, by simp, Nat.zero_le _, Ex.new hD, upd_same⟩, ?_⟩
  rintro i m H' ⟨rfl, hi, e, h⟩
  have fr' := e _ _ fr
  rcases Nat.lt_or_ge i ps.length with lt | ge
  · have hx := List.getElem?_eq_getElem lt
    have hxm := List.mem_of_getElem? hx
    refine .inr ⟨⟨fr', by rw [tm_len]; exact lt⟩, fun H'' => Ex H0 H'' ∧ H'' D = some (.lst (((ps.take (i + 1)).filter p).map v)), fun H'' p => ⟨ps.length - (i + 1), by omega, rfl, lt, p⟩, ?_⟩
    rintro y H6 ⟨rfl, k, w, qa, hy, rfl, hqa⟩
    unfold tm at hy
    rw [List.getElem?_map, hx] at hy
    cases hy
    refine ⟨hw _, ht _ hxm H6 qa (wx.trans (.of e)) (.inr ⟨od, fr'⟩) hqa _ ?_⟩
    by_cases hp : p ps[i] = true
    · rw [hp, if_pos rfl]
      refine he _ hxm hp H6 qa (wx.trans (.of e)) (.inr ⟨od, fr'⟩) hqa _ ?_
      refine ⟨_, h, sz_lt ?_, Ex.mut e hD, ?_⟩
      · rw [List.length_map]
        have := List.length_filter_le p (ps.take i)
        rw [List.length_take] at this
        omega
      · rw [upd_same, take_snoc hx, List.filter_append, List.filter_cons_of_pos hp, List.filter_nil, List.map_append]
        rfl
    · rw [if_neg hp]
      refine ⟨e, ?_⟩
      rw [take_snoc hx, List.filter_append, List.filter_cons_of_neg hp, List.filter_nil, List.append_nil]
      exact h
  · have e2 : i = ps.length := by omega
    subst e2
    refine .inl ⟨⟨fr', by rw [tm_len]; exact Nat.le_refl _⟩, fr', ?_⟩
    rw [List.take_length] at h
    refine q D _ hD0 (fun b o hb => ?_) (by rw [upd_ne hDd]; exact h)
    by_cases eb : b = d
    · subst eb
      rw [upd_same, ← hb, hd]
    · rw [upd_ne eb]
      exact e _ _ (wx b o hb eb)
end
end L2
/-! [e for x, y, z in zip(xs, ys, zs)], xs.extend(ys) -/
namespace L2
open PySem PySem.Spec PyProof.Rows Evl
theorem upd_comm {H : Hp} {a b : Addr} {o u : HO} (h : a ≠ b) : upd (upd H a o) b u = upd (upd H b u) a o := by
  funext x
  by_cases e1 : x = a
  · subst e1
    rw [upd_ne h, upd_same, upd_same]
  · by_cases e2 : x = b
    · subst e2
      rw [upd_same, upd_ne e1, upd_same]
    · rw [upd_ne e2, upd_ne e1, upd_ne e1, upd_ne e2]
section
variable {K : PySem.W.Frag} {σ : L2.St} {H : Hp} {Q : VK} {a b c : Addr} {xs ys zs : List V} {vs : List Nat} {m n o : Nat} {tt : TT} {te : TE} {k1 k2 k3 : SK}
theorem r_cmZ3A {N : Nat} (hN : min (min xs.length ys.length) zs.length = N) (S : Nat → List V → Hp → Prop) (hz : N ≤ 100000) (hw : ∀ x y z, wipe ((((wipe σ vs).set m (some x)).set n (some y)).set o (some z)) vs = wipe σ vs)
    (hl : ∀ i us H', S i us H' → k1.Sq K H' a xs ∧ k2.Sq K H' b ys ∧ k3.Sq K H' c zs) (hx : ∀ i us H' H1, S i us H' → Ex H' H1 → S i us H1)
    (h0 : ∀ D, H D = none → ∀ u, S 0 [] (upd H D u))
    (he : ∀ i x y z H1 D acc, xs[i]? = some x → ys[i]? = some y → zs[i]? = some z → acc.length ≤ i → H1 D = some (.lst acc) → S i acc H1 → (∀ u, S i acc (upd H1 D u)) →
      tt ((((wipe σ vs).set m (some x)).set n (some y)).set o (some z)) H1 fun b H2 => if b = true then te ((((wipe σ vs).set m (some x)).set n (some y)).set o (some z)) H2 (fun y H3 => CmY S D i y H3) else CmP S D (i + 1) H2)
    (q : ∀ D H1 us, H D = none → H1 D = some (.lst us) → S N us H1 → (∀ u, S N us (upd H1 D u)) → Q (.ref D) H1) : rLc (ItZ3 k1 k2 k3 K a b c) (gTup K 3 (gCons (gName m) (gCons (gName n) (gCons (gName o) gNil)))) tt te vs σ Q H := fun D hD => by
  have at1 : ∀ {i : Nat} {us : List V} {H' : Hp}, (∀ u, S i us (upd H' D u)) → H' D = some (.lst us) → S i us H' := fun {i us H'} h e => by
    have z := h (.lst us)
    rw [upd_id e] at z
    exact z
  refine ⟨fun i d H' => d = N - i ∧ i ≤ N ∧ CmP S D i H', ⟨_, rfl, Nat.zero_le _, [], Nat.le_refl _, fun u => by rw [upd_upd]; exact h0 D hD u, upd_same⟩, ?_⟩
  rintro i d H' ⟨rfl, hi, us, h1, h2, h3⟩
  have hq := hl i us H' (at1 h2 h3)
  rcases Nat.lt_or_ge i N with lt | ge
  · have ex := List.getElem?_eq_getElem (show i < xs.length by omega)
    have ey := List.getElem?_eq_getElem (show i < ys.length by omega)
    have ez := List.getElem?_eq_getElem (show i < zs.length by omega)
    refine .inr ⟨⟨xs, ys, zs, _, _, _, hq, ex, ey, ez⟩, CmP S D (i + 1), fun H1 q1 => ⟨N - (i + 1), by omega, rfl, lt, q1⟩, ?_⟩
    rintro v H1 ⟨T, x, y, z, rfl, hT, rfl, e1, e2, e3⟩
    have ne : T ≠ D := fun z => by rw [z, h3] at hT; cases hT
    have s2 : ∀ u, S i us (upd (upd H' T (.tup [x, y, z])) D u) := fun u => by
      rw [upd_comm ne]
      exact hx _ _ _ _ (h2 u) (Ex.new (by rw [upd_ne ne]; exact hT))
    have d2 : upd H' T (.tup [x, y, z]) D = some (.lst us) := by rw [upd_ne ne.symm]; exact h3
    refine r_tup3 (t_of upd_same) ⟨hw x y z, ?_⟩
    exact he i x y z _ D us (e1 xs hq.1) (e2 ys hq.2.1) (e3 zs hq.2.2) h1 d2 (at1 s2 d2) s2
  · have e : i = N := by omega
    subst e
    exact .inl ⟨⟨xs, ys, zs, hq, hN⟩, q D H' us hD h3 (at1 h2 h3) h2⟩
theorem r_ext {t : TA} (h : SqL K H a xs) (q : t σ H fun us H2 => rExtend (.ref a) us H2 Q) : rApp K "list" rExtend t σ (.ref a) H Q := ⟨.inl ⟨rfl, xs, h⟩, q⟩
theorem r_extd (h : H a = some (.lst xs)) (hb : H b = some (.lst ys)) (hz : xs.length + ys.length ≤ 100000) (q : ∀ H1, ExW a H H1 → H1 a = some (.lst (xs ++ ys)) → Q .non H1) : rExtend (.ref a) [.ref b] H Q := ⟨a, b, xs, ys, rfl, rfl, h, hb, sz_of hz, q _ ExW.upd upd_same⟩
end
end L2
/-! rooms walked; the first ways; the cosets -/
namespace Wb
open L2
def go (d : Gm) : Nat → List Int → Option Nat
  | r, [] => some r
  | r, s :: w => match d r s with
    | some g => go d g w
    | none => none
theorem go_cons {d : Gm} {r g : Nat} {s : Int} {w : List Int} (h : d r s = some g) : go d r (s :: w) = go d g w := by rw [go, h]
theorem go_stop {d : Gm} {r : Nat} {s : Int} {w : List Int} (h : d r s = none) : go d r (s :: w) = none := by rw [go, h]
theorem go_app (d : Gm) : ∀ (u v : List Int) (r : Nat), go d r (u ++ v) = (go d r u).bind fun g => go d g v
  | [], v, r => rfl
  | s :: u, v, r => by
    cases h : d r s with
    | none => rw [List.cons_append, go_stop h, go_stop h]; rfl
    | some g => rw [List.cons_append, go_cons h, go_cons h]; exact go_app d u v g
theorem go_snoc (d : Gm) (u : List Int) (s : Int) (r : Nat) : go d r (u ++ [s]) = (go d r u).bind fun g => d g s := by
  rw [go_app]
  congr 1
  funext g
  cases h : d g s with
  | none => exact go_stop h
  | some x => exact go_cons h
theorem go_lt {L n : Nat} {d : Gm} (G : Gr L n d) : ∀ {w : List Int} {r g : Nat}, r < n → go d r w = some g → g < n
  | [], r, g, hr, h => by cases h; exact hr
  | s :: w, r, g, hr, h => by
    cases e : d r s with
    | none => rw [go_stop e] at h; cases h
    | some x => rw [go_cons e] at h; exact go_lt G (G.dom _ _ _ e).2.1 h
theorem go_bk {L n : Nat} {d : Gm} (G : Gr L n d) : ∀ {w : List Int} {r g : Nat}, go d r w = some g → go d g (Fg.bk w) = some r
  | [], r, g, h => by cases h; rfl
  | s :: w, r, g, h => by
    cases e : d r s with
    | none => rw [go_stop e] at h; cases h
    | some x =>
      rw [go_cons e] at h
      rw [show s :: w = [s] ++ w from rfl, Fg.bk_app, go_app, go_bk G h]
      show go d x [-s] = some r
      rw [go_cons (G.sym _ _ _ e)]
      rfl
theorem go_back {L n : Nat} {d : Gm} (G : Gr L n d) {w : List Int} {r g : Nat} : go d r w = some g ↔ go d g (Fg.bk w) = some r :=
  ⟨go_bk G, fun h => by have := go_bk G h; rwa [Fg.bk_bk] at this⟩
/-- as far as it can be gone -/
def gone (d : Gm) : Nat → List Int → Nat × Nat
  | r, [] => (r, 0)
  | r, s :: w => match d r s with
    | some g => ((gone d g w).1, (gone d g w).2 + 1)
    | none => (r, 0)
theorem gone_cons {d : Gm} {r g : Nat} {s : Int} {w : List Int} (h : d r s = some g) : gone d r (s :: w) = ((gone d g w).1, (gone d g w).2 + 1) := by rw [gone, h]
theorem gone_stop {d : Gm} {r : Nat} {s : Int} {w : List Int} (h : d r s = none) : gone d r (s :: w) = (r, 0) := by rw [gone, h]
theorem gone_of {d : Gm} : ∀ {u v : List Int} {r g : Nat}, go d r u = some g → (∀ s, v.head? = some s → d g s = none) → gone d r (u ++ v) = (g, u.length)
  | [], [], r, g, h, _ => by cases h; rfl
  | [], s :: v, r, g, h, k => by cases h; exact gone_stop (k s rfl)
  | s :: u, v, r, g, h, k => by
    cases e : d r s with
    | none => rw [go_stop e] at h; cases h
    | some x =>
      rw [go_cons e] at h
      rw [List.cons_append, gone_cons e, gone_of h k]
      rfl
theorem gone_ex (d : Gm) : ∀ (w : List Int) (r : Nat), ∃ u v, w = u ++ v ∧ go d r u = some (gone d r w).1 ∧ (gone d r w).2 = u.length ∧ ∀ s, v.head? = some s → d (gone d r w).1 s = none
  | [], r => ⟨[], [], rfl, rfl, rfl, fun s h => by cases h⟩
  | s :: w, r => by
    cases e : d r s with
    | none => rw [gone_stop e]; exact ⟨[], s :: w, rfl, rfl, rfl, fun t h => by cases h; exact e⟩
    | some x =>
      obtain ⟨u, v, h1, h2, h3, h4⟩ := gone_ex d w x
      rw [gone_cons e]
      refine ⟨s :: u, v, by rw [h1]; rfl, by rw [go_cons e]; exact h2, by rw [h3]; rfl, h4⟩
theorem go_gone {d : Gm} {r : Nat} {w : List Int} : go d r w = if (gone d r w).2 = w.length then some (gone d r w).1 else none := by
  obtain ⟨u, v, h1, h2, h3, h4⟩ := gone_ex d w r
  by_cases c : (gone d r w).2 = w.length
  · rw [if_pos c]
    have hv : v = [] := by
      have := congrArg List.length h1
      rw [List.length_append] at this
      exact List.length_eq_zero_iff.mp (by omega)
    subst hv
    rw [List.append_nil] at h1
    subst h1
    exact h2
  · rw [if_neg c]
    cases v with
    | nil =>
      rw [List.append_nil] at h1
      subst h1
      exact absurd h3 c
    | cons s v =>
      have e := go_app d u (s :: v) r
      rw [← h1, h2] at e
      exact e.trans (go_stop (h4 s rfl))
theorem gone_le (d : Gm) (r : Nat) (w : List Int) : (gone d r w).2 ≤ w.length := by
  obtain ⟨u, v, h1, h2, h3, h4⟩ := gone_ex d w r
  have := congrArg List.length h1
  rw [List.length_append] at this
  omega
theorem gone_lt {L n : Nat} {d : Gm} (G : Gr L n d) {w : List Int} {r : Nat} (hr : r < n) : (gone d r w).1 < n := by
  obtain ⟨u, v, h1, h2, h3, h4⟩ := gone_ex d w r
  exact go_lt G hr h2
theorem gone_take (d : Gm) (r : Nat) (w : List Int) : go d r (w.take (gone d r w).2) = some (gone d r w).1 := by
  obtain ⟨u, v, h1, h2, h3, h4⟩ := gone_ex d w r
  rw [h3]
  conv => lhs; rw [h1]
  rw [List.take_left']
  · exact h2
  · rfl
/-! ### all in the order of time -/
def tc (L r : Nat) (s : Int) : Nat := r * (2 * L) + (Od.steps L).idxOf s
theorem tc_inj {L r g : Nat} {s t : Int} (hs : s ∈ Od.steps L) (ht : t ∈ Od.steps L) (h : tc L r s = tc L g t) : r = g ∧ s = t := by
  unfold tc at h
  have a := List.idxOf_lt_length_of_mem hs
  have b := List.idxOf_lt_length_of_mem ht
  rw [Od.steps_len] at a b
  generalize 2 * L = m at h a b
  have e : r = g := by
    rcases Nat.lt_trichotomy r g with z | z | z
    · have := Nat.mul_le_mul_right m (show r + 1 ≤ g from z)
      rw [Nat.add_mul] at this
      omega
    · exact z
    · have := Nat.mul_le_mul_right m (show g + 1 ≤ r from z)
      rw [Nat.add_mul] at this
      omega
  subst e
  refine ⟨rfl, ?_⟩
  have e2 : (Od.steps L).idxOf s = (Od.steps L).idxOf t := by omega
  have i1 := Od.at_idx hs
  have i2 := Od.at_idx ht
  rw [e2, i2] at i1
  exact (Option.some.inj i1).symm
theorem tc_lex {L r g : Nat} {s t : Int} (hs : s ∈ Od.steps L) (ht : t ∈ Od.steps L) (h : tc L r s ≤ tc L g t) : r < g ∨ (r = g ∧ (Od.steps L).idxOf s ≤ (Od.steps L).idxOf t) := by
  unfold tc at h
  have a := List.idxOf_lt_length_of_mem hs
  have b := List.idxOf_lt_length_of_mem ht
  rw [Od.steps_len] at a b
  generalize 2 * L = m at h a b
  rcases Nat.lt_trichotomy r g with z | z | z
  · exact .inl z
  · subst z
    exact .inr ⟨rfl, by omega⟩
  · have := Nat.mul_le_mul_right m (show g + 1 ≤ r from z)
    rw [Nat.add_mul] at this
    omega
structure Tm (L : Nat) (d : Gm) (B : Nat) (fd : Fd) : Prop where
  a : ∀ r s g, d r s = some g → tc L r s < B → ∃ x, (g, x) ∈ fd ∧ ∀ r' s', x = some (r', s') → tc L r' s' ≤ tc L r s
  b : ∀ g r s, (g, some (r, s)) ∈ fd → tc L r s < B ∧ s ∈ Od.steps L
  c : fd.Pairwise fun y z => ∀ r s r' s', y.2 = some (r, s) → z.2 = some (r', s') → tc L r s < tc L r' s'
theorem tm_start (L : Nat) (d : Gm) : Tm L d 0 [(0, none)] := ⟨fun _ _ _ _ h => absurd h (Nat.not_lt_zero _), fun g r s h => (by
  have h := List.mem_singleton.mp h
  cases h), List.pairwise_singleton _ _⟩
theorem tm_adv {L n : Nat} {d : Gm} {B r : Nat} {s : Int} {fd : Fd} (G : Gr L n d) (T : Tm L d B fd) (hs : s ∈ Od.steps L) (hB : tc L r s = B) : Tm L d (B + 1) (adv d r fd s) := by
  have old : ∀ (r1 : Nat) (s1 : Int) (g1 : Nat) (m : Fd), d r1 s1 = some g1 → tc L r1 s1 < B → ∃ x, (g1, x) ∈ fd ++ m ∧ ∀ r' s', x = some (r', s') → tc L r' s' ≤ tc L r1 s1 := fun r1 s1 g1 m h1 h2 => by
    obtain ⟨x, k1, k2⟩ := T.a r1 s1 g1 h1 h2
    exact ⟨x, List.mem_append_left _ k1, k2⟩
  have same : ∀ r1 s1 g1, d r1 s1 = some g1 → tc L r1 s1 < B + 1 → ¬ tc L r1 s1 < B → r1 = r ∧ s1 = s := fun r1 s1 g1 h1 h2 h3 => tc_inj (G.dom _ _ _ h1).2.2 hs (by omega)
  unfold adv
  cases e : d r s with
  | none =>
    refine ⟨fun r1 s1 g1 h1 h2 => ?_, fun g r1 s1 h => ⟨by have := (T.b g r1 s1 h).1; omega, (T.b g r1 s1 h).2⟩, T.c⟩
    by_cases h3 : tc L r1 s1 < B
    · exact T.a r1 s1 g1 h1 h3
    · obtain ⟨rfl, rfl⟩ := same _ _ _ h1 h2 h3
      rw [e] at h1
      cases h1
  | some g =>
    show Tm L d (B + 1) (if g ∈ fd.map (·.1) then fd else fd ++ [(g, some (r, s))])
    split
    · rename_i hg
      refine ⟨fun r1 s1 g1 h1 h2 => ?_, fun g r1 s1 h => ⟨by have := (T.b g r1 s1 h).1; omega, (T.b g r1 s1 h).2⟩, T.c⟩
      by_cases h3 : tc L r1 s1 < B
      · exact T.a r1 s1 g1 h1 h3
      · obtain ⟨rfl, rfl⟩ := same _ _ _ h1 h2 h3
        rw [e] at h1
        cases h1
        obtain ⟨y, hy, ey⟩ := List.mem_map.mp hg
        obtain ⟨y1, y2⟩ := y
        dsimp only at ey
        subst ey
        refine ⟨y2, hy, fun r' s' e2 => ?_⟩
        subst e2
        have := (T.b _ _ _ hy).1
        omega
    · refine ⟨fun r1 s1 g1 h1 h2 => ?_, fun g1 r1 s1 h => ?_, ?_⟩
      · by_cases h3 : tc L r1 s1 < B
        · exact old r1 s1 g1 _ h1 h3
        · obtain ⟨rfl, rfl⟩ := same _ _ _ h1 h2 h3
          rw [e] at h1
          cases h1
          refine ⟨_, List.mem_append_right _ List.mem_cons_self, fun r' s' e2 => ?_⟩
          cases e2
          exact Nat.le_refl _
      · rcases List.mem_append.mp h with h | h
        · exact ⟨by have := (T.b g1 r1 s1 h).1; omega, (T.b g1 r1 s1 h).2⟩
        · rw [List.mem_singleton] at h
          cases h
          exact ⟨by omega, hs⟩
      · rw [List.pairwise_append]
        refine ⟨T.c, List.pairwise_singleton _ _, fun y hy z hz r1 s1 r2 s2 e1 e2 => ?_⟩
        rw [List.mem_singleton] at hz
        subst hz
        cases e2
        obtain ⟨y1, y2⟩ := y
        dsimp only at e1
        subst e1
        have := (T.b _ _ _ hy).1
        omega
theorem tm_look {L n : Nat} {d : Gm} {r : Nat} {fd : Fd} (G : Gr L n d) (T : Tm L d (r * (2 * L)) fd) : ∀ i, i ≤ (Od.steps L).length → Tm L d (r * (2 * L) + i) (look d r ((Od.steps L).take i) fd)
  | 0, _ => by rw [List.take_zero]; exact T
  | i + 1, h => by
    have hi := List.getElem?_eq_getElem (l := Od.steps L) (i := i) (by omega)
    rw [show (Od.steps L).take (i + 1) = (Od.steps L).take i ++ [(Od.steps L)[i]] by
      rw [List.take_succ, hi]; rfl, look_snoc]
    have z := tm_adv (r := r) (s := (Od.steps L)[i]) G (tm_look G T i (by omega)) (List.getElem_mem _) (by
      unfold tc
      rw [(Od.steps_nodup L).idxOf_getElem])
    exact z
theorem run_pre (d : Gm) (S : List Int) : ∀ (k p : Nat) (fd : Fd), ∃ m, run d S k p fd = fd ++ m
  | 0, _, fd => ⟨[], (List.append_nil _).symm⟩
  | k + 1, p, fd => by
    cases h : fd[p]? with
    | none => exact ⟨[], by rw [run, h, List.append_nil]⟩
    | some y =>
      obtain ⟨r, x⟩ := y
      obtain ⟨m, e⟩ := look_pre d r S fd
      obtain ⟨m2, e2⟩ := run_pre d S k (p + 1) (look d r S fd)
      exact ⟨m ++ m2, by rw [run_on h, e2, e, List.append_assoc]⟩
theorem tm_run {L n : Nat} {d : Gm} {F : Fd} (G : Gr L n d) (hF : F.map (·.1) = List.range n) : ∀ (k p : Nat) (fd : Fd), k = n + 1 - p → p ≤ n → run d (Od.steps L) k p fd = F → Tm L d (p * (2 * L)) fd → Tm L d (n * (2 * L)) F
  | 0, p, fd, hk, hp, hr, T => by omega
  | k + 1, p, fd, hk, hp, hr, T => by
    have lF : F.length = n := by have := congrArg List.length hF; rwa [List.length_map, List.length_range] at this
    obtain ⟨m, em⟩ := run_pre d (Od.steps L) (k + 1) p fd
    rw [hr] at em
    rcases Nat.lt_or_ge p n with lt | ge
    · have lp : p < fd.length := by
        rcases Nat.lt_or_ge p fd.length with z | z
        · exact z
        · rw [run_end z] at hr
          rw [hr] at z
          omega
      have hp2 := List.getElem?_eq_getElem lp
      obtain ⟨r, x, hx⟩ : ∃ r x, fd[p] = (r, x) := ⟨_, _, rfl⟩
      rw [hx] at hp2
      have er : r = p := by
        have h1 : F[p]? = some (r, x) := by rw [em, List.getElem?_append_left lp, hp2]
        have h2 := congrArg (fun l => l[p]?) hF
        simp only [List.getElem?_map] at h2
        rw [h1, List.getElem?_range lt] at h2
        exact Option.some.inj h2
      subst er
      rw [run_on hp2] at hr
      refine tm_run G hF k (r + 1) _ (by omega) lt hr ?_
      have z := tm_look G T (Od.steps L).length (Nat.le_refl _)
      rw [List.take_length, Od.steps_len] at z
      rw [Nat.succ_mul]
      exact z
    · have e : p = n := by omega
      subst e
      have : fd.length ≤ p := by
        have := congrArg List.length em
        rw [List.length_append] at this
        omega
      rw [run_end this] at hr
      subst hr
      exact T
theorem web_tm {L n : Nat} {d : Gm} (W : Web L n d) : Tm L d (n * (2 * L)) (bfs L n d 0) := tm_run W.gr W.ord (n + 1) 0 [(0, none)] (by omega) (Nat.zero_le _) rfl (by rw [Nat.zero_mul]; exact tm_start L d)
/-! ### the first ways -/
def fstep (ws : List (List Int)) (y : Nat × Option (Nat × Int)) : List (List Int) := ws ++ [match y.2 with
  | none => []
  | some (r, s) => ws.getD r [] ++ [s]]
def fwl (fd : Fd) : List (List Int) := fd.foldl fstep []
theorem fwl_snoc (fd : Fd) (y : Nat × Option (Nat × Int)) : fwl (fd ++ [y]) = fstep (fwl fd) y := by
  unfold fwl
  rw [List.foldl_append]
  rfl
theorem fwl_len (fd : Fd) : (fwl fd).length = fd.length := by
  refine Od.snoc_ind (C := fun fd => (fwl fd).length = fd.length) rfl (fun u x ih => ?_) fd
  rw [fwl_snoc]
  unfold fstep
  rw [List.length_append, List.length_append, ih]
  rfl
theorem fwl_pre (fd m : Fd) : ∃ k, fwl (fd ++ m) = fwl fd ++ k := by
  refine Od.snoc_ind (C := fun m => ∃ k, fwl (fd ++ m) = fwl fd ++ k) ⟨[], by rw [List.append_nil, List.append_nil]⟩ (fun u x ih => ?_) m
  obtain ⟨k, e⟩ := ih
  rw [← List.append_assoc, fwl_snoc, e]
  unfold fstep
  rw [List.append_assoc]
  exact ⟨_, rfl⟩
theorem getD_app {α : Type} {a b : List α} {i : Nat} {x : α} (h : i < a.length) : (a ++ b).getD i x = a.getD i x := by
  rw [List.getD_eq_getElem?_getD, List.getD_eq_getElem?_getD, List.getElem?_append_left h]
theorem fwl_at {fd : Fd} {i g r : Nat} {s : Int} (h : fd[i]? = some (g, some (r, s))) (hr : r < i) : (fwl fd)[i]? = some ((fwl fd).getD r [] ++ [s]) := by
  have hi := (List.getElem?_eq_some_iff.mp h).1
  have e : fd = (fd.take i ++ [(g, some (r, s))]) ++ fd.drop (i + 1) := by
    rw [← L2.take_snoc h, List.take_append_drop]
  obtain ⟨k, ek⟩ := fwl_pre (fd.take i ++ [(g, some (r, s))]) (fd.drop (i + 1))
  rw [← e, fwl_snoc] at ek
  have l1 : (fwl (fd.take i)).length = i := by rw [fwl_len, List.length_take]; omega
  unfold fstep at ek
  rw [ek, List.getElem?_append_left (by rw [List.length_append, l1]; simp), List.getElem?_append_right (by rw [l1]; exact Nat.le_refl _), l1, Nat.sub_self]
  rw [getD_app (by rw [List.length_append, l1]; simp; omega), getD_app (by omega)]
  rfl
theorem fwl_zero {fd : Fd} {g : Nat} (h : fd[0]? = some (g, none)) : (fwl fd)[0]? = some [] := by
  cases fd with
  | nil => cases h
  | cons y fd =>
    cases h
    obtain ⟨k, e⟩ := fwl_pre [(g, none)] fd
    rw [show (g, none) :: fd = [(g, none)] ++ fd from rfl, e]
    rfl
def fw (L n : Nat) (d : Gm) (g : Nat) : List Int := (fwl (bfs L n d 0)).getD g []
def fws (L n : Nat) (d : Gm) : List (List Int) := fwl (bfs L n d 0)
theorem web_len {L n : Nat} {d : Gm} (W : Web L n d) : (bfs L n d 0).length = n := by
  have := congrArg List.length W.ord
  rwa [List.length_map, List.length_range] at this
theorem fws_len {L n : Nat} {d : Gm} (W : Web L n d) : (fws L n d).length = n := by unfold fws; rw [fwl_len, web_len W]
theorem fws_at {L n : Nat} {d : Gm} (W : Web L n d) {g : Nat} (hg : g < n) : (fws L n d)[g]? = some (fw L n d g) := by
  unfold fw
  rw [List.getD_eq_getElem?_getD]
  have := List.getElem?_eq_getElem (l := fws L n d) (i := g) (by rw [fws_len W]; exact hg)
  unfold fws at this ⊢
  rw [this]
  rfl
/-- what stands at a room -/
theorem web_ent {L n : Nat} {d : Gm} (W : Web L n d) {g : Nat} (hg : g < n) : ∃ x, (bfs L n d 0)[g]? = some (g, x) := by
  have h := W.ord
  have l := web_len W
  have e := List.getElem?_eq_getElem (l := bfs L n d 0) (i := g) (by omega)
  have h2 := congrArg (fun l => l[g]?) h
  simp only [List.getElem?_map] at h2
  rw [e, List.getElem?_range hg] at h2
  refine ⟨(bfs L n d 0)[g].2, ?_⟩
  rw [e]
  have := Option.some.inj h2
  show some _ = some _
  congr 1
  exact Prod.ext this rfl
theorem web_idx {L n : Nat} {d : Gm} (W : Web L n d) {i g : Nat} {x : Option (Nat × Int)} (h : (bfs L n d 0)[i]? = some (g, x)) : i = g ∧ g < n := by
  have hi := (List.getElem?_eq_some_iff.mp h).1
  have l := web_len W
  have h2 := congrArg (fun l => l[i]?) W.ord
  simp only [List.getElem?_map] at h2
  rw [h, List.getElem?_range (by omega)] at h2
  have := Option.some.inj h2
  dsimp only at this
  omega
theorem web_par {L n : Nat} {d : Gm} (W : Web L n d) {g : Nat} (h0 : 0 < g) (hg : g < n) : ∃ r s, (bfs L n d 0)[g]? = some (g, some (r, s)) ∧ d r s = some g ∧ r < g ∧ fw L n d g = fw L n d r ++ [s] := by
  obtain ⟨x, hx⟩ := web_ent W hg
  obtain ⟨q, hq, R⟩ := bfs_all (home := 0) W.gr W.pos
  rcases R.par g g x hx with ⟨k, _⟩ | ⟨r, s, j, y, k1, k2, k3, k4⟩
  · omega
  · subst k1
    have := (web_idx W k4).1
    subst this
    refine ⟨j, s, hx, k2, k3, ?_⟩
    have e := fwl_at hx k3
    unfold fw
    rw [List.getD_eq_getElem?_getD, e]
    rfl
theorem fw_zero {L n : Nat} {d : Gm} (W : Web L n d) : fw L n d 0 = [] := by
  obtain ⟨q, hq, R⟩ := bfs_all (home := 0) W.gr W.pos
  unfold fw
  rw [List.getD_eq_getElem?_getD, fwl_zero R.hd]
  rfl
theorem fw_go {L n : Nat} {d : Gm} (W : Web L n d) : ∀ (g : Nat), g < n → go d 0 (fw L n d g) = some g ∧ Od.G L none (fw L n d g) ∧ (fw L n d g).length ≤ g := by
  intro g
  induction g using Nat.strongRecOn with
  | _ g ih =>
    intro hg
    rcases Nat.eq_zero_or_pos g with e | h0
    · subst e
      rw [fw_zero W]
      exact ⟨rfl, trivial, Nat.le_refl _⟩
    · obtain ⟨r, s, h1, h2, h3, h4⟩ := web_par W h0 hg
      obtain ⟨i1, i2, i3⟩ := ih r h3 (by omega)
      rw [h4]
      refine ⟨by rw [go_snoc, i1]; exact h2, Od.G_snoc.mpr ⟨i2, Od.mem_bh.mpr ⟨(W.gr.dom _ _ _ h2).2.2, fun z => ?_⟩⟩, by rw [List.length_append]; simp; omega⟩
      -- the last step ahead would be the way back
      rcases Nat.eq_zero_or_pos r with e | r0
      · subst e
        rw [fw_zero W] at z
        cases z
      · obtain ⟨r2, s2, k1, k2, k3, k4⟩ := web_par W r0 (by omega)
        rw [k4, Od.lst_snoc] at z
        have z := Option.some.inj z
        subst z
        have := W.gr.sym _ _ _ k2
        rw [Int.neg_neg, h2] at this
        have := Option.some.inj this
        omega
theorem idx_mono {L : Nat} {p : Option Int} {s t : Int} (hs : s ∈ Od.bh L p) (ht : t ∈ Od.bh L p) (h : (Od.steps L).idxOf s < (Od.steps L).idxOf t) : (Od.bh L p).idxOf s < (Od.bh L p).idxOf t := by
  obtain ⟨s1, s2⟩ := Od.mem_bh.mp hs
  obtain ⟨t1, t2⟩ := Od.mem_bh.mp ht
  unfold Od.bh
  rw [Od.idx_filter s1 (decide_eq_true s2), Od.idx_filter t1 (decide_eq_true t2)]
  have e := Od.at_idx s1
  have e2 : (Od.steps L).take ((Od.steps L).idxOf s + 1) = (Od.steps L).take ((Od.steps L).idxOf s) ++ [s] := L2.take_snoc e
  have e3 : (Od.steps L).take ((Od.steps L).idxOf t) = (Od.steps L).take ((Od.steps L).idxOf s + 1) ++ ((Od.steps L).take ((Od.steps L).idxOf t)).drop ((Od.steps L).idxOf s + 1) := by
    conv => lhs; rw [← List.take_append_drop ((Od.steps L).idxOf s + 1) ((Od.steps L).take ((Od.steps L).idxOf t))]
    rw [List.take_take, Nat.min_eq_left (by omega)]
  rw [e3, e2, List.filter_append, List.filter_append, List.length_append, List.length_append, List.filter_cons_of_pos (by simpa using s2)]
  simp
  omega
theorem place_lt_snoc {L : Nat} {u w : List Int} {s t : Int} (gu : Od.G L none (u ++ [s])) (gw : Od.G L none (w ++ [t])) (h : Od.place L u < Od.place L w) : Od.place L (u ++ [s]) < Od.place L (w ++ [t]) := by
  obtain ⟨u1, u2⟩ := Od.G_snoc.mp gu
  obtain ⟨w1, w2⟩ := Od.G_snoc.mp gw
  have hl := Od.place_len u1 w1 (Nat.le_of_lt h)
  rcases Nat.lt_or_ge u.length w.length with lt | ge
  · have a := Od.place_lt gu
    have b := Od.place_ge L (w ++ [t])
    rw [List.length_append] at a b
    have c := Od.S_mono (L := L) (a := u.length + [s].length + 1) (b := w.length + [t].length) (by simp; omega)
    omega
  · have el : u.length = w.length := by omega
    unfold Od.place at h ⊢
    rw [el] at h
    have hv : Od.V L none u < Od.V L none w := by omega
    rw [Od.V_snoc gu, Od.V_snoc gw, List.length_append, List.length_append, el]
    have un : u ≠ [] := fun z => by
      subst z
      have : w = [] := List.length_eq_zero_iff.mp el.symm
      subst this
      exact Nat.lt_irrefl _ hv
    have wn : w ≠ [] := fun z => by
      subst z
      exact un (List.length_eq_zero_iff.mp el)
    have b1 := List.idxOf_lt_length_of_mem u2
    have b2 := Od.bh_len u1
    have b3 := Od.bh_len w1
    rw [if_neg un] at b2
    rw [if_neg wn] at b3
    rw [b2] at b1
    rw [b2, b3]
    have := Nat.mul_le_mul_right (2 * L - 1) (show Od.V L none u + 1 ≤ Od.V L none w from hv)
    rw [Nat.add_mul] at this
    simp only [List.length_cons, List.length_nil]
    omega
theorem place_lt_last {L : Nat} {u : List Int} {s t : Int} (gs : Od.G L none (u ++ [s])) (gt : Od.G L none (u ++ [t])) (h : (Od.steps L).idxOf s < (Od.steps L).idxOf t) : Od.place L (u ++ [s]) < Od.place L (u ++ [t]) := by
  obtain ⟨u1, u2⟩ := Od.G_snoc.mp gs
  obtain ⟨w1, w2⟩ := Od.G_snoc.mp gt
  unfold Od.place
  rw [Od.V_snoc gs, Od.V_snoc gt, List.length_append, List.length_append]
  have := idx_mono u2 w2 h
  simp only [List.length_cons, List.length_nil]
  omega
theorem place_pos {L : Nat} {u : List Int} {s : Int} (g : Od.G L none (u ++ [s])) : Od.place L [] < Od.place L (u ++ [s]) := by
  rcases Nat.lt_or_ge (Od.place L []) (Od.place L (u ++ [s])) with lt | ge
  · exact lt
  · have := Od.place_len g (show Od.G L none [] from trivial) ge
    rw [List.length_append] at this
    simp at this
/-- the rooms stand in the order of their first ways -/
theorem fw_mono {L n : Nat} {d : Gm} (W : Web L n d) : ∀ (j i : Nat), i < j → j < n → Od.place L (fw L n d i) < Od.place L (fw L n d j) := by
  intro j
  induction j using Nat.strongRecOn with
  | _ j ih =>
    intro i hij hj
    obtain ⟨r, s, h1, h2, h3, h4⟩ := web_par W (by omega) hj
    have gj := (fw_go W j hj).2.1
    rw [h4] at gj ⊢
    rcases Nat.eq_zero_or_pos i with e | i0
    · subst e
      rw [fw_zero W]
      exact place_pos gj
    · obtain ⟨r2, s2, k1, k2, k3, k4⟩ := web_par W i0 (by omega)
      have gi := (fw_go W i (by omega)).2.1
      rw [k4] at gi ⊢
      have T := web_tm W
      have lt : tc L r2 s2 < tc L r s := by
        obtain ⟨hi, ei⟩ := List.getElem?_eq_some_iff.mp k1
        obtain ⟨hj2, ej⟩ := List.getElem?_eq_some_iff.mp h1
        have := List.pairwise_iff_getElem.mp T.c i j hi hj2 hij
        rw [ei, ej] at this
        exact this r2 s2 r s rfl rfl
      have m1 := (W.gr.dom _ _ _ h2).2.2
      have m2 := (W.gr.dom _ _ _ k2).2.2
      rcases tc_lex m2 m1 (Nat.le_of_lt lt) with z | ⟨z1, z2⟩
      · exact place_lt_snoc gi gj (ih r h3 r2 z (by omega))
      · subst z1
        refine place_lt_last gi gj ?_
        rcases Nat.lt_or_ge ((Od.steps L).idxOf s2) ((Od.steps L).idxOf s) with q | q
        · exact q
        · unfold tc at lt
          omega
/-- they are the least -/
theorem fw_least {L n : Nat} {d : Gm} (W : Web L n d) : ∀ (w : List Int) (g : Nat), Od.G L none w → go d 0 w = some g → Od.place L (fw L n d g) ≤ Od.place L w := by
  intro w
  refine Od.snoc_ind (C := fun w => ∀ g, Od.G L none w → go d 0 w = some g → Od.place L (fw L n d g) ≤ Od.place L w) (fun g _ h => ?_) (fun w s ih g hw h => ?_) w
  · cases h
    rw [fw_zero W]
    exact Nat.le_refl _
  · rw [go_snoc] at h
    cases e : go d 0 w with
    | none => rw [e] at h; cases h
    | some r' =>
      rw [e] at h
      have h : d r' s = some g := h
      obtain ⟨w1, w2⟩ := Od.G_snoc.mp hw
      have i1 := ih r' w1 e
      have dm := W.gr.dom _ _ _ h
      rcases Nat.eq_zero_or_pos g with e0 | g0
      · subst e0
        rw [fw_zero W]
        exact Nat.le_of_lt (place_pos hw)
      · obtain ⟨r, t, h1, h2, h3, h4⟩ := web_par W g0 dm.2.1
        have gg := (fw_go W g dm.2.1).2.1
        rw [h4] at gg ⊢
        have T := web_tm W
        have lt : tc L r' s < n * (2 * L) := by
          unfold tc
          have a := List.idxOf_lt_length_of_mem dm.2.2
          rw [Od.steps_len] at a
          have := Nat.mul_le_mul_right (2 * L) (show r' + 1 ≤ n from dm.1)
          rw [Nat.add_mul] at this
          omega
        obtain ⟨x, hx, kx⟩ := T.a r' s g h lt
        obtain ⟨i, hi⟩ := List.mem_iff_getElem?.mp hx
        have := (web_idx W hi).1
        subst this
        rw [h1] at hi
        cases hi
        have le := kx r t rfl
        have r'n := dm.1
        rcases tc_lex (W.gr.dom _ _ _ h2).2.2 dm.2.2 le with z | ⟨z1, z2⟩
        · have := fw_mono W r' r z r'n
          exact Nat.le_of_lt (place_lt_snoc gg hw (by omega))
        · subst z1
          rcases Nat.lt_or_ge (Od.place L (fw L n d r)) (Od.place L w) with q | q
          · exact Nat.le_of_lt (place_lt_snoc gg hw q)
          · have ew := Od.place_inj (fw_go W r r'n).2.1 w1 (by omega)
            rw [← ew] at hw ⊢
            rcases Nat.lt_or_ge ((Od.steps L).idxOf t) ((Od.steps L).idxOf s) with q2 | q2
            · exact Nat.le_of_lt (place_lt_last gg hw q2)
            · have m1 := (W.gr.dom _ _ _ h2).2.2
              have e3 : (Od.steps L).idxOf t = (Od.steps L).idxOf s := by omega
              have a1 := Od.at_idx m1
              have a2 := Od.at_idx dm.2.2
              rw [e3, a2] at a1
              rw [Option.some.inj a1]
              exact Nat.le_refl _
end Wb
/-! cosets; pictures seen from another home -/
namespace Wb
open L2
theorem place_le_app {L : Nat} {u w : List Int} : ∀ (v : List Int), Od.G L none (u ++ v) → Od.G L none (w ++ v) → Od.place L u ≤ Od.place L w → Od.place L (u ++ v) ≤ Od.place L (w ++ v) := by
  intro v
  refine Od.snoc_ind (C := fun v => Od.G L none (u ++ v) → Od.G L none (w ++ v) → Od.place L u ≤ Od.place L w → Od.place L (u ++ v) ≤ Od.place L (w ++ v)) (fun _ _ h => by rw [List.append_nil, List.append_nil]; exact h) (fun v s ih gu gw h => ?_) v
  rw [← List.append_assoc] at gu gw ⊢
  rw [← List.append_assoc]
  have g1 := (Od.G_snoc.mp gu).1
  have g2 := (Od.G_snoc.mp gw).1
  have h2 := ih g1 g2 h
  rcases Nat.lt_or_ge (Od.place L (u ++ v)) (Od.place L (w ++ v)) with q | q
  · exact Nat.le_of_lt (place_lt_snoc gu gw q)
  · rw [Od.place_inj g1 g2 (by omega)]
    exact Nat.le_refl _
theorem gl_snoc (u : List Int) (x : Int) : (u ++ [x]).getLast? = some x := by simp
/-- whether a walk belongs -/
def bel (d : Gm) (w : List Int) : Bool := decide (go d 0 (Fg.rd w) = some 0)
/-- what two walks have in common at their ends -/
theorem same_end : ∀ (u w : List Int), Fg.Str u → Fg.Str w → ∃ a b t, u = a ++ t ∧ w = b ++ t ∧ Fg.rd (u ++ Fg.bk w) = a ++ Fg.bk b ∧ (a = [] ∨ b = [] ∨ a.getLast? ≠ b.getLast?) := by
  intro u
  refine Od.snoc_ind (C := fun u => ∀ w, Fg.Str u → Fg.Str w → ∃ a b t, u = a ++ t ∧ w = b ++ t ∧ Fg.rd (u ++ Fg.bk w) = a ++ Fg.bk b ∧ (a = [] ∨ b = [] ∨ a.getLast? ≠ b.getLast?)) (fun w _ hw => ?_) (fun u x ih w hu hw => ?_) u
  · exact ⟨[], w, [], rfl, (List.append_nil _).symm, by rw [List.nil_append]; exact Fg.rd_str (Fg.str_bk hw), .inl rfl⟩
  · rcases List.eq_nil_or_concat w with e | ⟨w', y, e⟩
    · subst e
      refine ⟨u ++ [x], [], [], (List.append_nil _).symm, rfl, ?_, .inr (.inl rfl)⟩
      rw [show Fg.bk [] = [] from rfl, List.append_nil]
      exact Fg.rd_str hu
    · rw [List.concat_eq_append] at e
      subst e
      by_cases exy : x = y
      · subst exy
        obtain ⟨a, b, t, h1, h2, h3, h4⟩ := ih w' (Fg.str_init hu).1 (Fg.str_init hw).1
        refine ⟨a, b, t ++ [x], by rw [h1, List.append_assoc], by rw [h2, List.append_assoc], ?_, h4⟩
        rw [← h3, Fg.bk_app]
        show Fg.rd (u ++ [x] ++ ([-x] ++ Fg.bk w')) = _
        refine Fg.rd_eq ?_
        have := Fg.eqv_cut u (Fg.bk w') x
        rw [show u ++ [x] ++ ([-x] ++ Fg.bk w') = u ++ [x, -x] ++ Fg.bk w' by simp]
        exact this
      · refine ⟨u ++ [x], w' ++ [y], [], (List.append_nil _).symm, (List.append_nil _).symm, ?_, .inr (.inr fun z => ?_)⟩
        · refine Fg.rd_str (Fg.str_app hu (Fg.str_bk hw) fun p q hp hq => ?_)
          rw [gl_snoc] at hp
          cases hp
          rw [Fg.bk_app] at hq
          have hq : some (-y) = some q := hq
          cases hq
          exact fun z => exy (by omega)
        · rw [gl_snoc, gl_snoc] at z
          cases z
          exact exy rfl
theorem bel_pair {L n : Nat} {d : Gm} (G : Gr L n d) {u w : List Int} (hu : Fg.Str u) (hw : Fg.Str w) :
    go d 0 (Fg.rd (u ++ Fg.bk w)) = some 0 ↔ ((gone d 0 u).1 = (gone d 0 w).1 ∧ u.drop (gone d 0 u).2 = w.drop (gone d 0 w).2) := by
  obtain ⟨a, b, t, h1, h2, h3, h4⟩ := same_end u w hu hw
  rw [h3, go_app]
  have key : ∀ (p q v : List Int) (r : Nat), u = p ++ v → w = q ++ v → go d 0 p = some r → go d 0 q = some r → ∃ x, go d 0 a = some x ∧ go d x (Fg.bk b) = some 0 := fun p q v r e1 e2 g1 g2 => by
    -- v is no longer than what is common
    have hv : ∃ v1, t = v1 ++ v := by
      have c1 := List.append_eq_append_iff.mp (e1.symm.trans h1)
      rcases c1 with ⟨z, z1, z2⟩ | ⟨z, z1, z2⟩
      · -- a = p ++ z, v = z ++ t
        have : q ++ (z ++ t) = b ++ t := by rw [← z2, ← e2, h2]
        rw [← List.append_assoc] at this
        have eb := List.append_cancel_right this
        cases z using Od.snoc_ind with
        | h0 => exact ⟨[], by rw [z2]; rfl⟩
        | h1 z y _ =>
          exfalso
          rcases h4 with k | k | k
          · rw [k] at z1
            have := congrArg List.length z1
            simp at this
          · rw [k] at eb
            have := congrArg List.length eb
            simp at this
          · apply k
            rw [z1, ← eb, ← List.append_assoc, ← List.append_assoc, gl_snoc, gl_snoc]
      · exact ⟨z, z2⟩
    obtain ⟨v1, ev⟩ := hv
    have ep : p = a ++ v1 := List.append_cancel_right (by rw [List.append_assoc, ← ev, ← e1, h1])
    have eq2 : q = b ++ v1 := List.append_cancel_right (by rw [List.append_assoc, ← ev, ← e2, h2])
    rw [ep, go_app] at g1
    rw [eq2, go_app] at g2
    cases ga : go d 0 a with
    | none => rw [ga] at g1; cases g1
    | some x =>
      rw [ga] at g1
      cases gb : go d 0 b with
      | none => rw [gb] at g2; cases g2
      | some y =>
        rw [gb] at g2
        have k1 := go_bk G (show go d x v1 = some r from g1)
        have k2 := go_bk G (show go d y v1 = some r from g2)
        rw [k1] at k2
        cases k2
        exact ⟨x, rfl, go_bk G gb⟩
  constructor
  · intro h
    cases ga : go d 0 a with
    | none => rw [ga] at h; cases h
    | some x =>
      rw [ga] at h
      have gb : go d 0 b = some x := (go_back G).mpr (show go d x (Fg.bk b) = some 0 from h)
      -- both go on alike
      obtain ⟨c, v, k1, k2, k3, k4⟩ := gone_ex d t x
      have eu : gone d 0 u = ((gone d x t).1, a.length + c.length) := by
        rw [h1, k1, ← List.append_assoc]
        rw [gone_of (g := (gone d x t).1) (by rw [go_app, ga]; exact k2) k4, List.length_append]
        rw [← k1]
      have ew : gone d 0 w = ((gone d x t).1, b.length + c.length) := by
        rw [h2, k1, ← List.append_assoc]
        rw [gone_of (g := (gone d x t).1) (by rw [go_app, gb]; exact k2) k4, List.length_append]
        rw [← k1]
      rw [eu, ew]
      refine ⟨rfl, ?_⟩
      show u.drop (a.length + c.length) = w.drop (b.length + c.length)
      rw [h1, h2, ← List.drop_drop, ← List.drop_drop, List.drop_left', List.drop_left'] <;> rfl
  · rintro ⟨e1, e2⟩
    have g1 := gone_take d 0 u
    have g2 := gone_take d 0 w
    rw [e1] at g1
    obtain ⟨x, k1, k2⟩ := key (u.take (gone d 0 u).2) (w.take (gone d 0 w).2) (u.drop (gone d 0 u).2) (gone d 0 w).1 (List.take_append_drop _ _).symm (by rw [e2, List.take_append_drop]) g1 g2
    rw [k1]
    exact k2
/-- the least walk of a coset -/
def cw (L n : Nat) (d : Gm) (w : List Int) : List Int := fw L n d (gone d 0 w).1 ++ w.drop (gone d 0 w).2
theorem cw_G {L n : Nat} {d : Gm} (W : Web L n d) {w : List Int} (hw : Od.G L none w) : Od.G L none (cw L n d w) ∧ gone d 0 (cw L n d w) = ((gone d 0 w).1, (fw L n d (gone d 0 w).1).length) ∧ (cw L n d w).length ≤ w.length := by
  obtain ⟨u, v, h1, h2, h3, h4⟩ := gone_ex d w 0
  have hr := gone_lt W.gr (w := w) W.pos
  obtain ⟨f1, f2, f3⟩ := fw_go W _ hr
  have dv : w.drop (gone d 0 w).2 = v := by rw [h3]; conv => lhs; rw [h1]
                                            rw [List.drop_left']; rfl
  have e : cw L n d w = fw L n d (gone d 0 w).1 ++ v := by unfold cw; rw [dv]
  rw [e]
  have gu : Od.G L none u := by
    have := Od.G_take hw u.length
    rw [h1, List.take_left'] at this
    · exact this
    · rfl
  refine ⟨?_, gone_of f1 h4, ?_⟩
  · -- the step behind leads on, not back
    cases v with
    | nil => rw [List.append_nil]; exact f2
    | cons s v =>
      refine Od.G_of (L := L) ?_ ?_
      · intro x hx
        rcases List.mem_append.mp hx with z | z
        · exact (Od.of_G f2).1 x z
        · exact (Od.of_G hw).1 x (by rw [h1]; exact List.mem_append_right _ z)
      · refine Fg.str_app (Od.of_G f2).2 (by have := Fg.str_drop u.length (Od.of_G hw).2; rw [h1, List.drop_left'] at this; exact this; rfl) fun p q hp hq => ?_
        cases hq
        intro z
        -- the last step of the first way has its way back
        obtain ⟨f, ef⟩ : ∃ f, fw L n d (gone d 0 w).1 = f ++ [p] := by
          rcases List.eq_nil_or_concat (fw L n d (gone d 0 w).1) with k | ⟨f, y, k⟩
          · rw [k] at hp; cases hp
          · rw [List.concat_eq_append] at k
            rw [k, gl_snoc] at hp
            cases hp
            exact ⟨f, k⟩
        rw [ef, go_snoc] at f1
        cases k : go d 0 f with
        | none => rw [k] at f1; cases f1
        | some y =>
          rw [k] at f1
          have b := W.gr.sym _ _ _ (show d y p = some _ from f1)
          have := h4 s rfl
          rw [z, b] at this
          cases this
  · have l1 := fw_least W u _ gu h2
    have l2 := Od.place_len f2 gu l1
    rw [List.length_append]
    have := congrArg List.length h1
    rw [List.length_append] at this
    omega
theorem cw_bel {L n : Nat} {d : Gm} (W : Web L n d) {w : List Int} (hw : Od.G L none w) : go d 0 (Fg.rd (cw L n d w ++ Fg.bk w)) = some 0 := by
  obtain ⟨g, e, _⟩ := cw_G W hw
  rw [bel_pair W.gr (Od.of_G g).2 (Od.of_G hw).2, e]
  refine ⟨rfl, ?_⟩
  show (cw L n d w).drop (fw L n d (gone d 0 w).1).length = _
  unfold cw
  rw [List.drop_left']
  rfl
theorem cw_least {L n : Nat} {d : Gm} (W : Web L n d) {w u : List Int} (hw : Od.G L none w) (hu : Od.G L none u) (h : go d 0 (Fg.rd (u ++ Fg.bk w)) = some 0) : Od.place L (cw L n d w) ≤ Od.place L u := by
  rw [bel_pair W.gr (Od.of_G hu).2 (Od.of_G hw).2] at h
  obtain ⟨g, e, _⟩ := cw_G W hw
  have h1 := gone_take d 0 u
  have g1 := Od.G_take hu (gone d 0 u).2
  have l1 := fw_least W _ _ g1 h1
  rw [h.1] at l1
  have eu : u = u.take (gone d 0 u).2 ++ w.drop (gone d 0 w).2 := by rw [← h.2, List.take_append_drop]
  unfold cw at g ⊢
  rw [eu] at hu
  conv => rhs; rw [eu]
  exact place_le_app _ g hu l1
theorem cw_same {L n : Nat} {d : Gm} (W : Web L n d) {u w : List Int} (hu : Od.G L none u) (hw : Od.G L none w) : cw L n d u = cw L n d w ↔ go d 0 (Fg.rd (u ++ Fg.bk w)) = some 0 := by
  rw [bel_pair W.gr (Od.of_G hu).2 (Od.of_G hw).2]
  constructor
  · intro h
    obtain ⟨_, e1, _⟩ := cw_G W hu
    obtain ⟨_, e2, _⟩ := cw_G W hw
    rw [h, e2] at e1
    have z := congrArg Prod.fst e1
    dsimp only at z
    refine ⟨z.symm, ?_⟩
    unfold cw at h
    rw [z] at h
    exact List.append_cancel_left h
  · rintro ⟨h1, h2⟩
    unfold cw
    rw [h1, h2]
end Wb
/-! pictures seen from another home, trimmed -/
namespace Wb
open L2
def sw (h x : Nat) : Nat := if x = 0 then h else if x = h then 0 else x
theorem sw_sw (h x : Nat) : sw h (sw h x) = x := by
  unfold sw
  by_cases e : x = 0
  · rw [if_pos e]
    by_cases e2 : h = 0
    · rw [if_pos e2]; omega
    · rw [if_neg e2, if_pos rfl]; exact e.symm
  · rw [if_neg e]
    by_cases e2 : x = h
    · rw [if_pos e2, if_pos rfl]; exact e2.symm
    · rw [if_neg e2, if_neg e, if_neg e2]
theorem sw_inj {h x y : Nat} (e : sw h x = sw h y) : x = y := by rw [← sw_sw h x, e, sw_sw]
theorem sw_lt {h x n : Nat} (hh : h < n) (hx : x < n) : sw h x < n := by
  unfold sw
  by_cases e : x = 0
  · rw [if_pos e]; exact hh
  · rw [if_neg e]
    by_cases e2 : x = h
    · rw [if_pos e2]; omega
    · rw [if_neg e2]; exact hx
def swd (h : Nat) (d : Gm) : Gm := fun r s => (d (sw h r) s).map (sw h)
theorem swd_some {h r g : Nat} {s : Int} {d : Gm} : swd h d r s = some g ↔ d (sw h r) s = some (sw h g) := by
  unfold swd
  cases e : d (sw h r) s with
  | none => exact ⟨fun z => (nomatch z), fun z => (nomatch z)⟩
  | some x =>
    refine ⟨fun z => ?_, fun z => ?_⟩
    · cases z; rw [sw_sw]
    · cases z; show some (sw h (sw h g)) = _; rw [sw_sw]
theorem swd_gr {L n h : Nat} {d : Gm} (G : Gr L n d) (hh : h < n) : Gr L n (swd h d) := by
  refine ⟨fun r s g e => ?_, fun r s g e => ?_⟩
  · obtain ⟨a, b, c⟩ := G.dom _ _ _ (swd_some.mp e)
    exact ⟨by have := sw_lt hh a; rwa [sw_sw] at this, by have := sw_lt hh b; rwa [sw_sw] at this, c⟩
  · exact swd_some.mpr (G.sym _ _ _ (swd_some.mp e))
theorem swd_deg {L h r : Nat} {d : Gm} : deg L (swd h d) r = deg L d (sw h r) := by
  unfold deg
  congr 1
  refine List.filter_congr fun s _ => ?_
  unfold swd
  cases d (sw h r) s <;> rfl
theorem idx_map {φ : Nat → Nat} (inj : ∀ x y, φ x = φ y → x = y) (g : Nat) : ∀ l : List Nat, (l.map φ).idxOf (φ g) = l.idxOf g
  | [] => rfl
  | a :: l => by
    rw [List.map_cons]
    have cn : ∀ {x y : Nat} {l : List Nat}, x ≠ y → (x :: l).idxOf y = l.idxOf y + 1 := fun {x y l} e => by
      rw [List.idxOf_cons, beq_false_of_ne e]
      rfl
    by_cases e : a = g
    · subst e
      rw [List.idxOf_cons_self, List.idxOf_cons_self]
    · rw [cn e, cn fun z => e (inj _ _ z), idx_map inj g l]
theorem bfs_sw {L n h : Nat} {d : Gm} : bfs L n d h = ren (sw h) (bfs L n (swd h d) 0) := by
  have I : Sim (swd h d) d (sw h) fun _ => True := by
    refine ⟨fun a b _ _ e => sw_inj e, fun r s _ => ?_, fun _ _ _ _ _ => trivial⟩
    unfold swd
    cases d (sw h r) s with
    | none => rfl
    | some x => show some x = some (sw h (sw h x)); rw [sw_sw]
  have a := run_ren I (Od.steps L) (n + 1) 0 (fd := [(0, none)]) fun _ _ => trivial
  have b : ren (sw h) [(0, none)] = [(h, none)] := by
    show [(sw h 0, none)] = _
    unfold sw
    rw [if_pos rfl]
  rw [b] at a
  exact a
theorem web_of_bfs_h {L n h : Nat} {d' : Gm} (l1 : 1 ≤ L) (l4 : L ≤ 4) (hh : h < n) (G : Gr L n d') (leaf : ∀ r, r ≠ h → r < n → deg L d' r ≠ 1) :
    ∃ d : Gm, Web L (bfs L n d' h).length d ∧ ∀ r, r < (bfs L n d' h).length → ∀ s, d r s = (d' (((bfs L n d' h).map (·.1)).getD r 0) s).map ((bfs L n d' h).map (·.1)).idxOf := by
  obtain ⟨d, W, hd⟩ := web_of_bfs l1 l4 (by omega) (swd_gr G hh) fun r r0 rn => by
    rw [swd_deg]
    refine leaf _ (fun z => ?_) (sw_lt hh rn)
    have e0 : sw h 0 = h := if_pos rfl
    have := sw_inj (z.trans e0.symm)
    omega
  have ek : (bfs L n d' h).map (·.1) = ((bfs L n (swd h d') 0).map (·.1)).map (sw h) := by rw [bfs_sw, ren_keys]
  have el : (bfs L n d' h).length = (bfs L n (swd h d') 0).length := by rw [bfs_sw]; unfold ren; rw [List.length_map]
  rw [el, ek]
  refine ⟨d, W, fun r hr s => ?_⟩
  rw [hd r hr s]
  have eg : (((bfs L n (swd h d') 0).map (·.1)).map (sw h)).getD r 0 = sw h (((bfs L n (swd h d') 0).map (·.1)).getD r 0) := by
    have lr : r < ((bfs L n (swd h d') 0).map (·.1)).length := by rw [List.length_map]; exact hr
    rw [List.getD_eq_getElem?_getD, List.getD_eq_getElem?_getD, List.getElem?_map, List.getElem?_eq_getElem lr]
    rfl
  rw [eg]
  obtain ⟨ks, hks⟩ : ∃ ks, (bfs L n (swd h d') 0).map (·.1) = ks := ⟨_, rfl⟩
  rw [hks]
  unfold swd
  cases d' (sw h (ks.getD r 0)) s with
  | none => rfl
  | some g =>
    show some (ks.idxOf (sw h g)) = some ((ks.map (sw h)).idxOf g)
    congr 1
    have := idx_map (φ := sw h) (fun _ _ => sw_inj) (sw h g) ks
    rw [sw_sw] at this
    exact this.symm
/-! ### idle ends but home -/
def potH (L n h : Nat) (d : Gm) : Nat := ((List.range n).filter fun r => decide (r ≠ h) && decide (0 < deg L d r)).length
def NoEndH (L n h : Nat) (d : Gm) : Prop := ∀ r, r ≠ h → r < n → deg L d r ≠ 1
theorem one_ne {L n r g : Nat} {d : Gm} {s : Int} (G : Gr L n d) (h : d r s = some g) (h1 : deg L d r = 1) : g ≠ r := fun z => by
  subst z
  have b := G.sym _ _ _ h
  have m1 := (G.dom _ _ _ h).2.2
  have m2 := (G.dom _ _ _ b).2.2
  unfold deg at h1
  have hs := Od.mem_steps.mp m1
  match e : (Od.steps L).filter fun s => (d g s).isSome, h1 with
  | [x], _ =>
    have i1 : s ∈ (Od.steps L).filter fun s => (d g s).isSome := List.mem_filter.mpr ⟨m1, by rw [h]; rfl⟩
    have i2 : -s ∈ (Od.steps L).filter fun s => (d g s).isSome := List.mem_filter.mpr ⟨m2, by rw [b]; rfl⟩
    rw [e, List.mem_singleton] at i1 i2
    omega
theorem deg_zero {L n r : Nat} {d : Gm} (G : Gr L n d) (h : deg L d r = 0) (s : Int) : d r s = none := by
  cases e : d r s with
  | none => rfl
  | some g =>
    unfold deg at h
    have := List.length_eq_zero_iff.mp h
    have i1 : s ∈ (Od.steps L).filter fun s => (d r s).isSome := List.mem_filter.mpr ⟨(G.dom _ _ _ e).2.2, by rw [e]; rfl⟩
    rw [this] at i1
    cases i1
/-- within a round: so many of the idle rooms are done -/
structure RdH (L n h : Nat) (d0 d : Gm) (idle : List Nat) (j : Nat) : Prop where
  gr : Gr L n d
  le : ∀ r, deg L d r ≤ deg L d0 r
  done : ∀ i r, i < j → idle[i]? = some r → deg L d r = 0
theorem rdH_next {L n h : Nat} {d0 d d1 : Gm} {idle : List Nat} {j r : Nat} (R : RdH L n h d0 d idle j) (hr : idle[j]? = some r) (G : Gr L n d1) (le : ∀ x, deg L d1 x ≤ deg L d x) (z : deg L d1 r = 0) : RdH L n h d0 d1 idle (j + 1) := by
  refine ⟨G, fun x => Nat.le_trans (le x) (R.le x), fun i x hi hx => ?_⟩
  rcases Nat.lt_or_ge i j with q | q
  · have := R.done i x q hx
    have := le x
    omega
  · have : i = j := by omega
    subst this
    rw [hr] at hx
    cases hx
    exact z
theorem rdH_end {L n h : Nat} {d0 d : Gm} {idle : List Nat} (R : RdH L n h d0 d idle idle.length) (hi : ∀ r, r ∈ idle → r ≠ h ∧ r < n ∧ deg L d0 r = 1) (ne : idle ≠ []) : potH L n h d + 1 ≤ potH L n h d0 := by
  cases idle with
  | nil => exact absurd rfl ne
  | cons r l =>
    obtain ⟨a, b, c⟩ := hi r List.mem_cons_self
    have z := R.done 0 r (by simp) rfl
    refine flt_lt (a := r) (fun x _ q => ?_) (List.mem_range.mpr b) ?_ ?_
    · rw [Bool.and_eq_true, decide_eq_true_eq, decide_eq_true_eq] at q ⊢
      exact ⟨q.1, Nat.lt_of_lt_of_le q.2 (R.le x)⟩
    · rw [z]
      simp
    · rw [c]
      simpa using a
theorem potH_start {L n h : Nat} {d : Gm} (hh : h < n) : potH L n h d + 1 ≤ n := by
  have := flt_lt (l := List.range n) (p := fun r => decide (r ≠ h) && decide (0 < deg L d r)) (q := fun _ => true) (a := h) (fun _ _ _ => rfl) (List.mem_range.mpr hh) (by simp) rfl
  rw [List.filter_eq_self.mpr fun _ _ => rfl, List.length_range] at this
  exact this
end Wb
/-! two doors laid at once; dicts emptied -/
namespace L2
open PySem PySem.Spec PyProof.Rows Evl
/-- only new dicts change -/
def ExD (H0 H H1 : Hp) : Prop := ∀ p o, H p = some o → (H0 p ≠ none ∨ ∀ kvs, o ≠ .dK kvs) → H1 p = some o
theorem ExD.refl (H0 H : Hp) : ExD H0 H H := fun _ _ h _ => h
theorem ExD.of {H0 H H1 : Hp} (e : Ex H H1) : ExD H0 H H1 := fun p o h _ => e p o h
theorem ExD.trans {H0 H H1 H2 : Hp} (a : ExD H0 H H1) (b : ExD H0 H1 H2) : ExD H0 H H2 := fun p o h c => b p o (a p o h c) c
theorem ExD.w {H0 H H1 : Hp} {x : Addr} {kvs : List (Key × V)} (e : ExW x H H1) (hx : H x = some (.dK kvs)) (h0 : H0 x = none) : ExD H0 H H1 := fun p o h c => e p o h fun z => by
  subst z
  rw [hx] at h
  cases h
  rcases c with c | c
  · exact c h0
  · exact c kvs rfl
theorem ExD.mut {H0 H Hx H3 H4 : Hp} {b : Addr} (e : ExD H0 H H3) (w : ExW b H3 H4) (ex : ExD H0 H Hx) (hb : Hx b = none) : ExD H0 H H4 := fun p o h c => w p o (e p o h c) fun z => by
  subst z
  have := ex _ _ h c
  rw [hb] at this
  cases this
theorem ExD.lst {H0 H H1 : Hp} (e : ExD H0 H H1) {a : Addr} {xs : List V} (h : H a = some (.lst xs)) : H1 a = some (.lst xs) := e _ _ h (.inr fun _ z => nomatch z)
theorem ExD.old {H0 H H1 : Hp} (e : ExD H0 H H1) (h : Ex H0 H) : Ex H0 H1 := fun p o q => e p o (h p o q) (.inl fun z => by rw [z] at q; cases q)
theorem ExD.tx {H0 H H1 : Hp} (e : ExD H0 H H1) : TX H H1 := fun a xs h => by
  rcases h with h | ⟨o, h⟩
  · rw [h, e _ _ h (.inr fun _ z => nomatch z)]
  · rw [h, e _ _ h (.inr fun _ z => nomatch z)]
theorem ExD.drs {w : Addr} {H0 H H1 : Hp} {n : Nat} (e : ExD H0 H H1) (s : DrS w H0 n H) (hw : H0 w ≠ none) : DrS w H0 n H1 := by
  refine ⟨fun p o h ne => e p o (s.ex p o h ne) (.inl fun z => by rw [z] at h; cases h), ?_⟩
  obtain ⟨a, b, c, h1, h2⟩ := s.well.ex
  exact ⟨a, b, c, e _ _ h1 (.inl hw), h2⟩
theorem dl_two {H0 H : Hp} {a : Addr} {n i g : Nat} {d : Wb.Gm} {s : Int} (h : DL H0 H a n fun x s => vN (d x s)) (hi : i < n) (hg : g < n) (hs : s ∈ Od.steps 4) (h4 : ∀ x t y, d x t = some y → t ∈ Od.steps 4) :
    ∃ xs p q kvs, H a = some (.lst xs) ∧ xs[i]? = some (.ref p) ∧ xs[g]? = some (.ref q) ∧ H p = some (.dK kvs) ∧ DI kvs (fun t => vN (d i t)) ∧ kvs.length < 100000 ∧
      ∀ H1 kv1, ExW p H H1 → H1 p = some (.dK kv1) → DI kv1 (fun t => if t = s then some (.int (g : Int)) else vN (d i t)) →
        ∃ kv2 f2, H1 q = some (.dK kv2) ∧ DI kv2 f2 ∧ kv2.length < 100000 ∧
          ∀ H2 kv3, ExW q H1 H2 → H2 q = some (.dK kv3) → DI kv3 (fun t => if t = -s then some (.int (i : Int)) else f2 t) → ExD H0 H H2 ∧ DL H0 H2 a n fun x t => vN (Wb.set1 (Wb.set1 d i s g) g (-s) i x t) := by
  obtain ⟨xs, p, kvs, b1, b2, b3, b4, b5, b6, b7, b8⟩ := dl_set h hi fun t ht => by
    cases e : d i t with
    | none => rw [e] at ht; cases ht
    | some v => exact h4 _ _ _ e
  obtain ⟨xs', q, kvq, c1, c2, c3, _⟩ := dl_set h hg fun t ht => by
    cases e : d g t with
    | none => rw [e] at ht; cases ht
    | some v => exact h4 _ _ _ e
  have ex := c1.symm.trans b1
  cases ex
  refine ⟨xs, p, q, kvs, b1, b2, c2, b3, b4, b5, fun H1 kv1 e1 k1 d1 => ?_⟩
  have T1 := b8 H1 kv1 s g e1 k1 d1
  obtain ⟨xs2, q2, kv2, a1, a2, a3, a4, a5, a6, a7, a8⟩ := dl_set T1 hg fun t ht => by
    by_cases z : g = i ∧ t = s
    · rw [z.2]; exact hs
    · rw [if_neg z] at ht
      cases e : d g t with
      | none => rw [e] at ht; cases ht
      | some v => exact h4 _ _ _ e
  have ea := e1 _ _ b1 b6.symm
  have ex := a1.symm.trans ea
  cases ex
  have eq2 := a2.symm.trans c2
  cases eq2
  refine ⟨kv2, _, a3, a4, a5, fun H2 kv3 e2 k2 d2 => ⟨(ExD.w e1 b3 b7).trans (ExD.w e2 a3 a7), ?_⟩⟩
  exact a8 H2 kv3 (-s) i e2 k2 d2
theorem dl_ne {H0 H : Hp} {a p q : Addr} {n i g : Nat} {f : Nat → Int → Option V} {xs : List V} (h : DL H0 H a n f) (ha : H a = some (.lst xs)) (hp : xs[i]? = some (.ref p)) (hq : xs[g]? = some (.ref q)) (ne : i ≠ g) : p ≠ q := by
  obtain ⟨ds, h1, h2, h3, h4, h5, h6, h7⟩ := h.ex
  rw [ha] at h6
  cases h6
  rw [List.getElem?_map] at hp hq
  cases e1 : ds[i]? with
  | none => rw [e1] at hp; cases hp
  | some x =>
    cases e2 : ds[g]? with
    | none => rw [e2] at hq; cases hq
    | some y =>
      rw [e1] at hp
      rw [e2] at hq
      cases hp
      cases hq
      intro z
      subst z
      exact ne ((List.getElem?_inj (List.getElem?_eq_some_iff.mp e1).1 h2).mp (e1.trans e2.symm))
/-- the dict at a place, if the list and its address are known -/
theorem dl_set0 {H0 H : Hp} {a p : Addr} {n i : Nat} {f : Nat → Int → Option V} {xs : List V} (h : DL H0 H a n f) (ha : H a = some (.lst xs)) (hp : xs[i]? = some (.ref p)) (hi : i < n) :
    H0 p = none ∧ ∃ kvs, H p = some (.dK kvs) ∧ DI kvs (f i) ∧ ∀ H1 kvs' g, ExW p H H1 → H1 p = some (.dK kvs') → DI kvs' g → ExD H0 H H1 ∧ DL H0 H1 a n (fun j => if j = i then g else f j) := by
  obtain ⟨ys, q, kvs, b1, b2, b3, b4, b5, b6, b7⟩ := h.at' hi
  rw [ha] at b1
  cases b1
  rw [hp] at b2
  cases b2
  exact ⟨b6, kvs, b3, b4, fun H1 kvs' g e1 k1 d1 => ⟨ExD.w e1 b3 b6, b7 H1 kvs' g e1 k1 d1⟩⟩
theorem dl_il {H0 H : Hp} {a il : Addr} {n : Nat} {f : Nat → Int → Option V} {ns : List Int} (dl : DL H0 H a n f) (k : H il = some (.lst (ns.map V.int))) (hn : 0 < n) : il ≠ a := fun z => by
  obtain ⟨ds, h1, _, _, _, _, h6, _⟩ := dl.ex
  rw [← z, k] at h6
  have k1 := HO.lst.inj (Option.some.inj h6)
  cases ds with
  | nil => simp at h1; omega
  | cons y ds => cases ns with
    | nil => cases k1
    | cons x l => cases k1
theorem dl_push {H0 H1 H2 H3 : Hp} {a p : Addr} {n : Nat} {f : Nat → Int → Option V} {xs : List V} (h : DL H0 H1 a n f) (hp0 : H0 p = none) (hp1 : H1 p = none) (e : Ex H1 H2) (k2 : H2 p = some (.dK [])) (ha : H1 a = some (.lst xs)) (w : ExW a H2 H3) (k3 : H3 a = some (.lst (xs ++ [.ref p]))) (hf : ∀ s, f n s = none) : DL H0 H3 a (n + 1) f := by
  obtain ⟨ds, h1, h2, h3, h4, h5, h6, h7⟩ := h.ex
  rw [ha] at h6
  cases h6
  have npa : p ≠ a := fun z => by rw [z, ha] at hp1; cases hp1
  have npd : p ∉ ds := fun z => by
    obtain ⟨i, hi⟩ := List.mem_iff_getElem?.mp z
    obtain ⟨kvs, k, _⟩ := h7 i p hi
    rw [hp1] at k
    cases k
  refine ⟨ds ++ [p], by rw [List.length_append, h1]; rfl, ?_, fun z => ?_, fun x hx => ?_, h5, by rw [k3, List.map_append]; rfl, fun i x hx => ?_⟩
  · rw [List.nodup_append]
    refine ⟨h2, by simp, fun x hx y hy => ?_⟩
    rw [List.mem_singleton.mp hy]
    exact fun z => npd (z ▸ hx)
  · rcases List.mem_append.mp z with z | z
    · exact h3 z
    · exact npa (List.mem_singleton.mp z).symm
  · rcases List.mem_append.mp hx with hx | hx
    · exact h4 x hx
    · rw [List.mem_singleton.mp hx]; exact hp0
  · rcases Nat.lt_or_ge i ds.length with lt | ge
    · rw [List.getElem?_append_left lt] at hx
      obtain ⟨kvs, k, di⟩ := h7 i x hx
      exact ⟨kvs, w _ _ (e _ _ k) (fun z => h3 (by rw [← z]; exact List.mem_of_getElem? hx)), di⟩
    · rw [List.getElem?_append_right ge] at hx
      have e0 : i - ds.length = 0 := by
        have := (List.getElem?_eq_some_iff.mp hx).1
        simp at this
        omega
      rw [e0] at hx
      cases hx
      have ei : i = n := by omega
      subst ei
      exact ⟨[], w _ _ k2 npa, DI.nil.congr fun s => (hf s).symm⟩
theorem dl_zero {H0 H : Hp} {a : Addr} {f : Nat → Int → Option V} (h0 : H0 a = none) (h : H a = some (.lst [])) : DL H0 H a 0 f := ⟨[], rfl, List.nodup_nil, fun z => (nomatch z), fun x z => (nomatch z), h0, h, fun i x hx => by simp at hx⟩
theorem r_dclear {K : PySem.W.Frag} {H : Hp} {Q : VK} {d : Addr} {kvs : List (Key × V)} (h : H d = some (.dK kvs)) (q : ∀ H1, ExW d H H1 → H1 d = some (.dK []) → Q .non H1) : rApp0 K "dict" rDClear (.ref d) H Q := ⟨.inr (.inr (.inl ⟨rfl, .inl ⟨kvs, h⟩⟩)), d, kvs, rfl, rfl, h, q _ ExW.upd upd_same⟩
end L2
namespace L2
open PySem PySem.Spec PyProof.Rows Evl
theorem valV_at {kvs : List (Key × V)} (hn : (kvs.map (·.1)).Nodup) {i : Nat} {kv : Key × V} (h : kvs[i]? = some kv) : valV kvs kv.1 = some kv.2 := by
  induction kvs generalizing i with
  | nil => cases h
  | cons p r ih =>
    rw [List.map_cons, List.nodup_cons] at hn
    cases i with
    | zero =>
      cases h
      exact valV_pos rfl
    | succ i =>
      have h : r[i]? = some kv := h
      rw [valV_neg fun z => hn.1 (z ▸ List.mem_map.mpr ⟨kv, List.mem_of_getElem? h, rfl⟩)]
      exact ih hn.2 h
/-- rooms reached, each with its first way -/
structure FwH (K : PySem.W.Frag) (H : Hp) (kvs : List (Key × V)) (fd : Wb.Fd) : Prop where
  len : kvs.length = fd.length
  at' : ∀ (i : Nat) kv y, kvs[i]? = some kv → fd[i]? = some y → kv.1 = Sum.inl (y.1 : Int) ∧ WkV K H kv.2 ((Wb.fwl fd).getD i [])
theorem FwH.mono {K : PySem.W.Frag} {H H1 : Hp} {kvs : List (Key × V)} {fd : Wb.Fd} (h : FwH K H kvs fd) (e : TX H H1) : FwH K H1 kvs fd :=
  ⟨h.len, fun i kv y h1 h2 => ⟨(h.at' i kv y h1 h2).1, (h.at' i kv y h1 h2).2.tx e⟩⟩
theorem FwH.keys {K : PySem.W.Frag} {H : Hp} {kvs : List (Key × V)} {fd : Wb.Fd} (h : FwH K H kvs fd) : kvs.map (·.1) = (fd.map (·.1)).map fun (g : Nat) => (Sum.inl (g : Int) : Key) := by
  refine List.ext_getElem? fun i => ?_
  rw [List.getElem?_map, List.getElem?_map, List.getElem?_map]
  rcases Nat.lt_or_ge i kvs.length with lt | ge
  · have a := List.getElem?_eq_getElem lt
    have b := List.getElem?_eq_getElem (l := fd) (i := i) (h.len ▸ lt)
    rw [a, b]
    exact congrArg some (h.at' i _ _ a b).1
  · rw [List.getElem?_eq_none ge, List.getElem?_eq_none (h.len ▸ ge)]
    rfl
theorem FwH.mem {K : PySem.W.Frag} {H : Hp} {kvs : List (Key × V)} {fd : Wb.Fd} (h : FwH K H kvs fd) (g : Nat) : (valV kvs (Sum.inl (g : Int))).isSome = decide (g ∈ fd.map (·.1)) := by
  have iff : (Sum.inl (g : Int) : Key) ∈ kvs.map (·.1) ↔ g ∈ fd.map (·.1) := by
    rw [h.keys]
    refine ⟨fun z => ?_, fun z => List.mem_map_of_mem z⟩
    obtain ⟨x, hx, e⟩ := List.mem_map.mp z
    have := Sum.inl.inj e
    have : x = g := by omega
    rw [← this]
    exact hx
  cases e : valV kvs (Sum.inl (g : Int)) with
  | none => exact (decide_eq_false fun z => valV_not e (iff.mpr z)).symm
  | some v => exact (decide_eq_true (iff.mp (valV_in e))).symm
theorem nodup_keys {l : List Nat} (h : l.Nodup) : (l.map fun (g : Nat) => (Sum.inl (g : Int) : Key)).Nodup := by
  refine List.Pairwise.map _ (fun a b hab z => hab ?_) h
  have := Sum.inl.inj z
  omega
theorem FwH.get {K : PySem.W.Frag} {H : Hp} {kvs : List (Key × V)} {fd : Wb.Fd} (h : FwH K H kvs fd) (hn : (fd.map (·.1)).Nodup) {i g : Nat} {x : Option (Nat × Int)} (hi : fd[i]? = some (g, x)) : ∃ v, valV kvs (Sum.inl (g : Int)) = some v ∧ WkV K H v ((Wb.fwl fd).getD i []) := by
  have lt := (List.getElem?_eq_some_iff.mp hi).1
  have a := List.getElem?_eq_getElem (l := kvs) (i := i) (h.len.symm ▸ lt)
  obtain ⟨k1, k2⟩ := h.at' i _ _ a hi
  have nd : (kvs.map (·.1)).Nodup := by rw [h.keys]; exact nodup_keys hn
  have z := valV_at nd a
  rw [k1] at z
  exact ⟨_, z, k2⟩
theorem FwH.snoc {K : PySem.W.Frag} {H : Hp} {kvs : List (Key × V)} {fd : Wb.Fd} {g r : Nat} {s : Int} {x : V} (h : FwH K H kvs fd) (hx : WkV K H x ((Wb.fwl fd).getD r [] ++ [s])) : FwH K H (kvs ++ [(Sum.inl (g : Int), x)]) (fd ++ [(g, some (r, s))]) := by
  refine ⟨by rw [List.length_append, List.length_append, h.len]; rfl, fun i kv y h1 h2 => ?_⟩
  rw [Wb.fwl_snoc]
  unfold Wb.fstep
  have lf := Wb.fwl_len fd
  rcases Nat.lt_or_ge i kvs.length with lt | ge
  · rw [List.getElem?_append_left lt] at h1
    have lt2 := h.len ▸ lt
    rw [List.getElem?_append_left lt2] at h2
    rw [Wb.getD_app (by omega)]
    exact h.at' i kv y h1 h2
  · rw [List.getElem?_append_right ge] at h1
    rw [List.getElem?_append_right (h.len ▸ ge)] at h2
    have e : i - kvs.length = 0 := by
      have := (List.getElem?_eq_some_iff.mp h1).1
      simp at this
      omega
    rw [e] at h1
    rw [← h.len, e] at h2
    cases h1
    cases h2
    refine ⟨rfl, ?_⟩
    have ei : i = (Wb.fwl fd).length := by have := h.len; omega
    rw [List.getD_eq_getElem?_getD, ei, List.getElem?_append_right (Nat.le_refl _), Nat.sub_self]
    exact hx
/-- what stands at a room reached -/
theorem RchH.get {K : PySem.W.Frag} {H : Hp} {kvs : List (Key × V)} {fd : Wb.Fd} (h : RchH K H kvs fd) (hn : (fd.map (·.1)).Nodup) {i g r : Nat} {s : Int} (hi : fd[i]? = some (g, some (r, s))) : ∃ v, valV kvs (Sum.inl (g : Int)) = some v ∧ WkV K H v [(r : Int), s] := by
  have lt := (List.getElem?_eq_some_iff.mp hi).1
  have a := List.getElem?_eq_getElem (l := kvs) (i := i) (h.len.symm ▸ lt)
  obtain ⟨k1, k2⟩ := h.at' i _ _ a hi
  have nd : (kvs.map (·.1)).Nodup := by rw [h.keys]; exact nodup_keys hn
  have z := valV_at nd a
  rw [k1] at z
  exact ⟨_, z, k2⟩
end L2
namespace Wb
theorem fwl_bd (fd : Fd) : ∀ w ∈ fwl fd, w.length ≤ fd.length := by
  refine Od.snoc_ind (C := fun fd => ∀ w ∈ fwl fd, w.length ≤ fd.length) (fun w hw => by cases hw) (fun u x ih w hw => ?_) fd
  rw [fwl_snoc] at hw
  unfold fstep at hw
  rw [List.length_append]
  rcases List.mem_append.mp hw with hw | hw
  · have := ih w hw
    omega
  · rw [List.mem_singleton] at hw
    subst hw
    cases x.2 with
    | none => exact Nat.zero_le _
    | some z =>
      obtain ⟨r, s⟩ := z
      show ((fwl u).getD r [] ++ [s]).length ≤ _
      rw [List.length_append, List.getD_eq_getElem?_getD]
      cases e : (fwl u)[r]? with
      | none => simp
      | some y =>
        have := ih y (List.mem_of_getElem? e)
        simp
        omega
theorem fwl_bdD (fd : Fd) (i : Nat) : ((fwl fd).getD i []).length ≤ fd.length := by
  rw [List.getD_eq_getElem?_getD]
  cases e : (fwl fd)[i]? with
  | none => exact Nat.zero_le _
  | some y => exact fwl_bd fd y (List.mem_of_getElem? e)
end Wb
namespace Lw
open PySem PySem.Spec PyProof.Rows L2 Evl

/-! ### the text -/
def topS (i : Nat) : Stmt := PySem.Challenge.pw_walkclubs_k13_trees_and_bases.main.body.getD i (.Pass ⟨0, 0, 0, 0⟩)
abbrev s_is_integer : Stmt := topS 5
abbrev N_is_integer : List Str := ["value"]
abbrev P_is_integer : List Str := ["value"]
theorem sc_is_integer : FnScope N_is_integer P_is_integer (defScope s_is_integer) := ⟨rfl, rfl, rfl, by decide +kernel, rfl, by decide +kernel, by decide +kernel⟩
abbrev s_steps_of : Stmt := topS 9
abbrev N_steps_of : List Str := ["letters", "letter", "step"]
abbrev P_steps_of : List Str := ["letters"]
theorem sc_steps_of : FnScope N_steps_of P_steps_of (defScope s_steps_of) := ⟨rfl, rfl, rfl, by decide +kernel, rfl, by decide +kernel, by decide +kernel⟩
abbrev s_turned_back : Stmt := topS 10
abbrev N_turned_back : List Str := ["walk", "step"]
abbrev P_turned_back : List Str := ["walk"]
theorem sc_turned_back : FnScope N_turned_back P_turned_back (defScope s_turned_back) := ⟨rfl, rfl, rfl, by decide +kernel, rfl, by decide +kernel, by decide +kernel⟩
abbrev s_step_table : Stmt := topS 14
abbrev N_step_table : List Str := ["rows", "table", "room", "row", "letter", "after", "_"]
abbrev P_step_table : List Str := ["rows"]
theorem sc_step_table : FnScope N_step_table P_step_table (defScope s_step_table) := ⟨rfl, rfl, rfl, by decide +kernel, rfl, by decide +kernel, by decide +kernel⟩
abbrev s_ways_of : Stmt := topS 19
abbrev N_ways_of : List Str := ["web", "room", "row", "letter", "after"]
abbrev P_ways_of : List Str := ["web"]
theorem sc_ways_of : FnScope N_ways_of P_ways_of (defScope s_ways_of) := ⟨rfl, rfl, rfl, by decide +kernel, rfl, by decide +kernel, by decide +kernel⟩
abbrev s__law_well : Stmt := topS 27
abbrev N__law_well : List Str := ["_law_script", "_law_k", "_law_cell", "_law_total", "_law_at", "_law_other"]
abbrev P__law_well : List Str := ["_law_script", "_law_k"]
theorem sc__law_well : FnScope N__law_well P__law_well (defScope s__law_well) := ⟨rfl, rfl, rfl, by decide +kernel, rfl, by decide +kernel, by decide +kernel⟩
abbrev s__law_take : Stmt := topS 28
abbrev N__law_take : List Str := ["_law_well_here", "_law_many", "_law_found", "_law_mixed"]
abbrev P__law_take : List Str := ["_law_well_here", "_law_many"]
theorem sc__law_take : FnScope N__law_take P__law_take (defScope s__law_take) := ⟨rfl, rfl, rfl, by decide +kernel, rfl, by decide +kernel, by decide +kernel⟩
abbrev s__law_straight : Stmt := topS 29
abbrev N__law_straight : List Str := ["_law_walk", "_law_found", "_law_step"]
abbrev P__law_straight : List Str := ["_law_walk"]
theorem sc__law_straight : FnScope N__law_straight P__law_straight (defScope s__law_straight) := ⟨rfl, rfl, rfl, by decide +kernel, rfl, by decide +kernel, by decide +kernel⟩
abbrev s__law_steps : Stmt := topS 30
abbrev N__law_steps : List Str := ["_law_letters", "_law_found", "_law_letter"]
abbrev P__law_steps : List Str := ["_law_letters"]
theorem sc__law_steps : FnScope N__law_steps P__law_steps (defScope s__law_steps) := ⟨rfl, rfl, rfl, by decide +kernel, rfl, by decide +kernel, by decide +kernel⟩
abbrev s__law_laid : Stmt := topS 31
abbrev N__law_laid : List Str := ["_law_doors_here", "_law_room", "_law_step", "_law_goal", "_law_here", "_law_there"]
abbrev P__law_laid : List Str := ["_law_doors_here", "_law_room", "_law_step", "_law_goal"]
theorem sc__law_laid : FnScope N__law_laid P__law_laid (defScope s__law_laid) := ⟨rfl, rfl, rfl, by decide +kernel, rfl, by decide +kernel, by decide +kernel⟩
abbrev s__law_back : Stmt := topS 36
abbrev N__law_back : List Str := ["_law_walk", "_law_step"]
abbrev P__law_back : List Str := ["_law_walk"]
theorem sc__law_back : FnScope N__law_back P__law_back (defScope s__law_back) := ⟨rfl, rfl, rfl, by decide +kernel, rfl, by decide +kernel, by decide +kernel⟩
abbrev s__law_ways : Stmt := topS 37
abbrev N__law_ways : List Str := ["_law_web_here", "_law_found", "_law_room", "_law_row", "_law_at", "_law_goal"]
abbrev P__law_ways : List Str := ["_law_web_here"]
theorem sc__law_ways : FnScope N__law_ways P__law_ways (defScope s__law_ways) := ⟨rfl, rfl, rfl, by decide +kernel, rfl, by decide +kernel, by decide +kernel⟩
abbrev s_is_letters : Stmt := topS 6
abbrev N_is_letters : List Str := ["value"]
abbrev P_is_letters : List Str := ["value"]
theorem sc_is_letters : FnScope N_is_letters P_is_letters (defScope s_is_letters) := ⟨rfl, rfl, rfl, by decide +kernel, rfl, by decide +kernel, by decide +kernel⟩
abbrev s_is_row : Stmt := topS 12
abbrev N_is_row : List Str := ["letters", "count", "value", "after"]
abbrev P_is_row : List Str := ["letters", "count", "value"]
theorem sc_is_row : FnScope N_is_row P_is_row (defScope s_is_row) := ⟨rfl, rfl, rfl, by decide +kernel, rfl, by decide +kernel, by decide +kernel⟩
abbrev s_first_reached : Stmt := topS 15
abbrev N_first_reached : List Str := ["letters", "table", "home", "reached", "found", "steps", "place", "room", "step", "after"]
abbrev P_first_reached : List Str := ["letters", "table", "home"]
theorem sc_first_reached : FnScope N_first_reached P_first_reached (defScope s_first_reached) := ⟨rfl, rfl, rfl, by decide +kernel, rfl, by decide +kernel, by decide +kernel⟩
abbrev s__law_named : Stmt := topS 32
abbrev N__law_named : List Str := ["_law_letters", "_law_doors_here", "_law_home", "_law_turn", "_law_idle", "_law_room", "_law_here", "_law_step", "_law_there", "_law_order", "_law_at", "_law_goals", "_law_goal", "_law_rows"]
abbrev P__law_named : List Str := ["_law_letters", "_law_doors_here", "_law_home"]
theorem sc__law_named : FnScope N__law_named P__law_named (defScope s__law_named) := ⟨rfl, rfl, rfl, by decide +kernel, rfl, by decide +kernel, by decide +kernel⟩
abbrev s__law_doors : Stmt := topS 34
abbrev N__law_doors : List Str := ["_law_web_here", "_law_found", "_law_room", "_law_row", "_law_at", "_law_goal"]
abbrev P__law_doors : List Str := ["_law_web_here"]
theorem sc__law_doors : FnScope N__law_doors P__law_doors (defScope s__law_doors) := ⟨rfl, rfl, rfl, by decide +kernel, rfl, by decide +kernel, by decide +kernel⟩
abbrev s_has_web_form : Stmt := topS 13
abbrev N_has_web_form : List Str := ["value", "letters", "rows", "row"]
abbrev P_has_web_form : List Str := ["value"]
theorem sc_has_web_form : FnScope N_has_web_form P_has_web_form (defScope s_has_web_form) := ⟨rfl, rfl, rfl, by decide +kernel, rfl, by decide +kernel, by decide +kernel⟩
abbrev s_first_ways : Stmt := topS 16
abbrev N_first_ways : List Str := ["letters", "table", "ways", "reached", "room", "before", "step"]
abbrev P_first_ways : List Str := ["letters", "table"]
theorem sc_first_ways : FnScope N_first_ways P_first_ways (defScope s_first_ways) := ⟨rfl, rfl, rfl, by decide +kernel, rfl, by decide +kernel, by decide +kernel⟩
abbrev s_tree_ways : Stmt := topS 21
abbrev N_tree_ways : List Str := ["letters", "table", "reached", "ways", "room", "before", "step"]
abbrev P_tree_ways : List Str := ["letters", "table"]
theorem sc_tree_ways : FnScope N_tree_ways P_tree_ways (defScope s_tree_ways) := ⟨rfl, rfl, rfl, by decide +kernel, rfl, by decide +kernel, by decide +kernel⟩
abbrev s__law_web : Stmt := topS 33
abbrev N__law_web : List Str := ["_law_well_here", "_law_letters", "_law_most", "_law_many", "_law_doors_here", "_law_home", "_law_room", "_law_letter", "_law_goals", "_law_few", "_law_goal", "_law_turn", "_law_gaps", "_law_step"]
abbrev P__law_web : List Str := ["_law_well_here", "_law_letters", "_law_most"]
theorem sc__law_web : FnScope N__law_web P__law_web (defScope s__law_web) := ⟨rfl, rfl, rfl, by decide +kernel, rfl, by decide +kernel, by decide +kernel⟩
abbrev s__law_firsts : Stmt := topS 35
abbrev N__law_firsts : List Str := ["_law_web_here", "_law_doors_here", "_law_found", "_law_order", "_law_at", "_law_here", "_law_step"]
abbrev P__law_firsts : List Str := ["_law_web_here"]
theorem sc__law_firsts : FnScope N__law_firsts P__law_firsts (defScope s__law_firsts) := ⟨rfl, rfl, rfl, by decide +kernel, rfl, by decide +kernel, by decide +kernel⟩
abbrev s_right_table : Stmt := topS 17
abbrev N_right_table : List Str := ["value", "letters", "rows", "table", "steps"]
abbrev P_right_table : List Str := ["value"]
theorem sc_right_table : FnScope N_right_table P_right_table (defScope s_right_table) := ⟨rfl, rfl, rfl, by decide +kernel, rfl, by decide +kernel, by decide +kernel⟩
abbrev s_other_ways : Stmt := topS 22
abbrev N_other_ways : List Str := ["web", "table", "barred", "way"]
abbrev P_other_ways : List Str := ["web", "table"]
theorem sc_other_ways : FnScope N_other_ways P_other_ways (defScope s_other_ways) := ⟨rfl, rfl, rfl, by decide +kernel, rfl, by decide +kernel, by decide +kernel⟩
abbrev s__law_tree : Stmt := topS 38
abbrev N__law_tree : List Str := ["_law_web_here", "_law_firsts_here", "_law_found", "_law_room", "_law_letter", "_law_goal"]
abbrev P__law_tree : List Str := ["_law_web_here"]
theorem sc__law_tree : FnScope N__law_tree P__law_tree (defScope s__law_tree) := ⟨rfl, rfl, rfl, by decide +kernel, rfl, by decide +kernel, by decide +kernel⟩
abbrev s_checked_table : Stmt := topS 18
abbrev N_checked_table : List Str := ["web", "table"]
abbrev P_checked_table : List Str := ["web"]
theorem sc_checked_table : FnScope N_checked_table P_checked_table (defScope s_checked_table) := ⟨rfl, rfl, rfl, by decide +kernel, rfl, by decide +kernel, by decide +kernel⟩
abbrev s_basis_walks : Stmt := topS 23
abbrev N_basis_walks : List Str := ["web", "table", "firsts", "room", "letter", "after"]
abbrev P_basis_walks : List Str := ["web", "table"]
theorem sc_basis_walks : FnScope N_basis_walks P_basis_walks (defScope s_basis_walks) := ⟨rfl, rfl, rfl, by decide +kernel, rfl, by decide +kernel, by decide +kernel⟩
abbrev s__law_others : Stmt := topS 39
abbrev N__law_others : List Str := ["_law_web_here", "_law_known", "_law_way"]
abbrev P__law_others : List Str := ["_law_web_here"]
theorem sc__law_others : FnScope N__law_others P__law_others (defScope s__law_others) := ⟨rfl, rfl, rfl, by decide +kernel, rfl, by decide +kernel, by decide +kernel⟩
abbrev s_tree : Stmt := topS 24
abbrev N_tree : List Str := ["web", "table"]
abbrev P_tree : List Str := ["web"]
theorem sc_tree : FnScope N_tree P_tree (defScope s_tree) := ⟨rfl, rfl, rfl, by decide +kernel, rfl, by decide +kernel, by decide +kernel⟩
abbrev s_basis : Stmt := topS 25
abbrev N_basis : List Str := ["web"]
abbrev P_basis : List Str := ["web"]
theorem sc_basis : FnScope N_basis P_basis (defScope s_basis) := ⟨rfl, rfl, rfl, by decide +kernel, rfl, by decide +kernel, by decide +kernel⟩
abbrev s__law_basis : Stmt := topS 40
abbrev N__law_basis : List Str := ["_law_web_here", "_law_firsts_here", "_law_a", "_law_s", "_law_b"]
abbrev P__law_basis : List Str := ["_law_web_here"]
theorem sc__law_basis : FnScope N__law_basis P__law_basis (defScope s__law_basis) := ⟨rfl, rfl, rfl, by decide +kernel, rfl, by decide +kernel, by decide +kernel⟩
abbrev s__law_right : Stmt := topS 41
abbrev N__law_right : List Str := ["_law_web_here", "_law_first", "_law_others_here", "_law_told", "_law_some"]
abbrev P__law_right : List Str := ["_law_web_here"]
theorem sc__law_right : FnScope N__law_right P__law_right (defScope s__law_right) := ⟨rfl, rfl, rfl, by decide +kernel, rfl, by decide +kernel, by decide +kernel⟩
abbrev s_law : Stmt := topS 42
abbrev N_law : List Str := ["_law_script", "_law_k", "_law_well_here", "_law_letters", "_law_web_here", "_law_other"]
abbrev P_law : List Str := ["_law_script"]
theorem sc_law : FnScope N_law P_law (defScope s_law) := ⟨rfl, rfl, rfl, by decide +kernel, rfl, by decide +kernel, by decide +kernel⟩
/-- where the defs stand -/
structure Ad where
  a_is_integer : Addr
  f_is_integer : FuncData
  a_steps_of : Addr
  f_steps_of : FuncData
  a_turned_back : Addr
  f_turned_back : FuncData
  a_step_table : Addr
  f_step_table : FuncData
  a_ways_of : Addr
  f_ways_of : FuncData
  a__law_well : Addr
  f__law_well : FuncData
  a__law_take : Addr
  f__law_take : FuncData
  a__law_straight : Addr
  f__law_straight : FuncData
  a__law_steps : Addr
  f__law_steps : FuncData
  a__law_laid : Addr
  f__law_laid : FuncData
  a__law_back : Addr
  f__law_back : FuncData
  a__law_ways : Addr
  f__law_ways : FuncData
  a_is_letters : Addr
  f_is_letters : FuncData
  a_is_row : Addr
  f_is_row : FuncData
  a_first_reached : Addr
  f_first_reached : FuncData
  a__law_named : Addr
  f__law_named : FuncData
  a__law_doors : Addr
  f__law_doors : FuncData
  a_has_web_form : Addr
  f_has_web_form : FuncData
  a_first_ways : Addr
  f_first_ways : FuncData
  a_tree_ways : Addr
  f_tree_ways : FuncData
  a__law_web : Addr
  f__law_web : FuncData
  a__law_firsts : Addr
  f__law_firsts : FuncData
  a_right_table : Addr
  f_right_table : FuncData
  a_other_ways : Addr
  f_other_ways : FuncData
  a__law_tree : Addr
  f__law_tree : FuncData
  a_checked_table : Addr
  f_checked_table : FuncData
  a_basis_walks : Addr
  f_basis_walks : FuncData
  a__law_others : Addr
  f__law_others : FuncData
  a_tree : Addr
  f_tree : FuncData
  a_basis : Addr
  f_basis : FuncData
  a__law_basis : Addr
  f__law_basis : FuncData
  a__law_right : Addr
  f__law_right : FuncData
  a_law : Addr
  f_law : FuncData
structure Tx (K : PySem.W.Frag) (mg : Str → Option Value) (A : Ad) : Prop where
  g_is_integer : mg "is_integer" = some (.ref A.a_is_integer)
  F_is_integer : Fun K "is_integer" "is_integer" s_is_integer A.a_is_integer A.f_is_integer
  b_is_integer : Binds K A.f_is_integer P_is_integer []
  g_steps_of : mg "steps_of" = some (.ref A.a_steps_of)
  F_steps_of : Fun K "steps_of" "steps_of" s_steps_of A.a_steps_of A.f_steps_of
  b_steps_of : Binds K A.f_steps_of P_steps_of []
  g_turned_back : mg "turned_back" = some (.ref A.a_turned_back)
  F_turned_back : Fun K "turned_back" "turned_back" s_turned_back A.a_turned_back A.f_turned_back
  b_turned_back : Binds K A.f_turned_back P_turned_back []
  g_step_table : mg "step_table" = some (.ref A.a_step_table)
  F_step_table : Fun K "step_table" "step_table" s_step_table A.a_step_table A.f_step_table
  b_step_table : Binds K A.f_step_table P_step_table []
  g_ways_of : mg "ways_of" = some (.ref A.a_ways_of)
  F_ways_of : Fun K "ways_of" "ways_of" s_ways_of A.a_ways_of A.f_ways_of
  b_ways_of : Binds K A.f_ways_of P_ways_of []
  g__law_well : mg "_law_well" = some (.ref A.a__law_well)
  F__law_well : Fun K "_law_well" "_law_well" s__law_well A.a__law_well A.f__law_well
  b__law_well : Binds K A.f__law_well P__law_well []
  g__law_take : mg "_law_take" = some (.ref A.a__law_take)
  F__law_take : Fun K "_law_take" "_law_take" s__law_take A.a__law_take A.f__law_take
  b__law_take : Binds K A.f__law_take P__law_take []
  g__law_straight : mg "_law_straight" = some (.ref A.a__law_straight)
  F__law_straight : Fun K "_law_straight" "_law_straight" s__law_straight A.a__law_straight A.f__law_straight
  b__law_straight : Binds K A.f__law_straight P__law_straight []
  g__law_steps : mg "_law_steps" = some (.ref A.a__law_steps)
  F__law_steps : Fun K "_law_steps" "_law_steps" s__law_steps A.a__law_steps A.f__law_steps
  b__law_steps : Binds K A.f__law_steps P__law_steps []
  g__law_laid : mg "_law_laid" = some (.ref A.a__law_laid)
  F__law_laid : Fun K "_law_laid" "_law_laid" s__law_laid A.a__law_laid A.f__law_laid
  b__law_laid : Binds K A.f__law_laid P__law_laid []
  g__law_back : mg "_law_back" = some (.ref A.a__law_back)
  F__law_back : Fun K "_law_back" "_law_back" s__law_back A.a__law_back A.f__law_back
  b__law_back : Binds K A.f__law_back P__law_back []
  g__law_ways : mg "_law_ways" = some (.ref A.a__law_ways)
  F__law_ways : Fun K "_law_ways" "_law_ways" s__law_ways A.a__law_ways A.f__law_ways
  b__law_ways : Binds K A.f__law_ways P__law_ways []
  g_is_letters : mg "is_letters" = some (.ref A.a_is_letters)
  F_is_letters : Fun K "is_letters" "is_letters" s_is_letters A.a_is_letters A.f_is_letters
  b_is_letters : Binds K A.f_is_letters P_is_letters []
  g_is_row : mg "is_row" = some (.ref A.a_is_row)
  F_is_row : Fun K "is_row" "is_row" s_is_row A.a_is_row A.f_is_row
  b_is_row : Binds K A.f_is_row P_is_row []
  g_first_reached : mg "first_reached" = some (.ref A.a_first_reached)
  F_first_reached : FunD K "first_reached" "first_reached" (defArgs s_first_reached) (defBody s_first_reached) (defScope s_first_reached) [V.int 0] [] A.a_first_reached A.f_first_reached
  b0_first_reached : ∃ ds, Vals [V.int 0] ds ∧ Binds K A.f_first_reached P_first_reached ds
  b1_first_reached : ∃ ds, Vals [] ds ∧ Binds K A.f_first_reached P_first_reached ds
  g__law_named : mg "_law_named" = some (.ref A.a__law_named)
  F__law_named : Fun K "_law_named" "_law_named" s__law_named A.a__law_named A.f__law_named
  b__law_named : Binds K A.f__law_named P__law_named []
  g__law_doors : mg "_law_doors" = some (.ref A.a__law_doors)
  F__law_doors : Fun K "_law_doors" "_law_doors" s__law_doors A.a__law_doors A.f__law_doors
  b__law_doors : Binds K A.f__law_doors P__law_doors []
  g_has_web_form : mg "has_web_form" = some (.ref A.a_has_web_form)
  F_has_web_form : Fun K "has_web_form" "has_web_form" s_has_web_form A.a_has_web_form A.f_has_web_form
  b_has_web_form : Binds K A.f_has_web_form P_has_web_form []
  g_first_ways : mg "first_ways" = some (.ref A.a_first_ways)
  F_first_ways : Fun K "first_ways" "first_ways" s_first_ways A.a_first_ways A.f_first_ways
  b_first_ways : Binds K A.f_first_ways P_first_ways []
  g_tree_ways : mg "tree_ways" = some (.ref A.a_tree_ways)
  F_tree_ways : Fun K "tree_ways" "tree_ways" s_tree_ways A.a_tree_ways A.f_tree_ways
  b_tree_ways : Binds K A.f_tree_ways P_tree_ways []
  g__law_web : mg "_law_web" = some (.ref A.a__law_web)
  F__law_web : Fun K "_law_web" "_law_web" s__law_web A.a__law_web A.f__law_web
  b__law_web : Binds K A.f__law_web P__law_web []
  g__law_firsts : mg "_law_firsts" = some (.ref A.a__law_firsts)
  F__law_firsts : Fun K "_law_firsts" "_law_firsts" s__law_firsts A.a__law_firsts A.f__law_firsts
  b__law_firsts : Binds K A.f__law_firsts P__law_firsts []
  g_right_table : mg "right_table" = some (.ref A.a_right_table)
  F_right_table : Fun K "right_table" "right_table" s_right_table A.a_right_table A.f_right_table
  b_right_table : Binds K A.f_right_table P_right_table []
  g_other_ways : mg "other_ways" = some (.ref A.a_other_ways)
  F_other_ways : Fun K "other_ways" "other_ways" s_other_ways A.a_other_ways A.f_other_ways
  b_other_ways : Binds K A.f_other_ways P_other_ways []
  g__law_tree : mg "_law_tree" = some (.ref A.a__law_tree)
  F__law_tree : Fun K "_law_tree" "_law_tree" s__law_tree A.a__law_tree A.f__law_tree
  b__law_tree : Binds K A.f__law_tree P__law_tree []
  g_checked_table : mg "checked_table" = some (.ref A.a_checked_table)
  F_checked_table : Fun K "checked_table" "checked_table" s_checked_table A.a_checked_table A.f_checked_table
  b_checked_table : Binds K A.f_checked_table P_checked_table []
  g_basis_walks : mg "basis_walks" = some (.ref A.a_basis_walks)
  F_basis_walks : Fun K "basis_walks" "basis_walks" s_basis_walks A.a_basis_walks A.f_basis_walks
  b_basis_walks : Binds K A.f_basis_walks P_basis_walks []
  g__law_others : mg "_law_others" = some (.ref A.a__law_others)
  F__law_others : Fun K "_law_others" "_law_others" s__law_others A.a__law_others A.f__law_others
  b__law_others : Binds K A.f__law_others P__law_others []
  g_tree : mg "tree" = some (.ref A.a_tree)
  F_tree : Fun K "tree" "tree" s_tree A.a_tree A.f_tree
  b_tree : Binds K A.f_tree P_tree []
  g_basis : mg "basis" = some (.ref A.a_basis)
  F_basis : Fun K "basis" "basis" s_basis A.a_basis A.f_basis
  b_basis : Binds K A.f_basis P_basis []
  g__law_basis : mg "_law_basis" = some (.ref A.a__law_basis)
  F__law_basis : Fun K "_law_basis" "_law_basis" s__law_basis A.a__law_basis A.f__law_basis
  b__law_basis : Binds K A.f__law_basis P__law_basis []
  g__law_right : mg "_law_right" = some (.ref A.a__law_right)
  F__law_right : Fun K "_law_right" "_law_right" s__law_right A.a__law_right A.f__law_right
  b__law_right : Binds K A.f__law_right P__law_right []
  g_law : mg "law" = some (.ref A.a_law)
  F_law : Fun K "law" "law" s_law A.a_law A.f_law
  b_law : Binds K A.f_law P_law []
  n_all : mg "all" = none
  n_any : mg "any" = none
  n_bool : mg "bool" = none
  n_enumerate : mg "enumerate" = none
  n_int : mg "int" = none
  n_isinstance : mg "isinstance" = none
  n_len : mg "len" = none
  n_list : mg "list" = none
  n_max : mg "max" = none
  n_min : mg "min" = none
  n_range : mg "range" = none
  n_repr : mg "repr" = none
  n_sorted : mg "sorted" = none
  n_tuple : mg "tuple" = none
  c_MOST_LETTERS : ∃ t, mg "MOST_LETTERS" = some (.int 4 t)
theorem kb_basis_web {K : PySem.W.Frag} {f : Addr} {fd : FuncData} (F : Fun K "basis" "basis" s_basis f fd) : KBinds K fd P_basis ["web"] (fun us ws => match us, ws with | [], [w0] => [w0] | _, _ => []) (fun us ws => match us, ws with | [], [w0] => [w0] | _, _ => []) := by
  obtain ⟨oc, od, kV, doc, pm, an, cdv, ct, osl, rfl, lk, hcd⟩ := F.ex
  refine ⟨fun s us ws _ hl => ?_, fun {vs us zs ws} r1 r2 => ?_⟩
  · match us, ws, hl with | [], [w0], _ => exact .of_eq rfl
  · cases r1 with
    | nil =>
      cases r2 with
      | nil => exact .nil
      | cons h0 t0 =>
        cases t0 with
        | nil => exact (.cons h0 .nil)
        | cons _ _ => exact .nil
    | cons _ _ =>
      cases r2 <;> exact .nil
theorem kb_tree_web {K : PySem.W.Frag} {f : Addr} {fd : FuncData} (F : Fun K "tree" "tree" s_tree f fd) : KBinds K fd P_tree ["web"] (fun us ws => match us, ws with | [], [w0] => [w0] | _, _ => []) (fun us ws => match us, ws with | [], [w0] => [w0] | _, _ => []) := by
  obtain ⟨oc, od, kV, doc, pm, an, cdv, ct, osl, rfl, lk, hcd⟩ := F.ex
  refine ⟨fun s us ws _ hl => ?_, fun {vs us zs ws} r1 r2 => ?_⟩
  · match us, ws, hl with | [], [w0], _ => exact .of_eq rfl
  · cases r1 with
    | nil =>
      cases r2 with
      | nil => exact .nil
      | cons h0 t0 =>
        cases t0 with
        | nil => exact (.cons h0 .nil)
        | cons _ _ => exact .nil
    | cons _ _ =>
      cases r2 <;> exact .nil

local macro_rules | `(tactic| walk_at "go") => `(tactic| repeat (first
  | with_reducible refine st_seq ?_ | with_reducible refine st_set ?_ | with_reducible refine st_asg ?_ | with_reducible refine st_ret ?_ | with_reducible refine st_drop ?_ | with_reducible refine st_if ?_
  | with_reducible refine st_c ?_ | ((with_reducible refine' st_v ?h ?_); (case h => exact rfl)) | with_reducible refine st_n ?_ | with_reducible refine st_cons ?_ | with_reducible refine st_op ?_ | with_reducible refine st_un ?_
  | with_reducible refine st_cb ?_ | with_reducible refine st_test ?_ | with_reducible refine st_call ?_ | with_reducible refine st_callK ?_ | with_reducible refine st_sl ?_ | with_reducible refine st_par ?_ | with_reducible refine st_par3 ?_ | with_reducible refine st_tru ?_
  | with_reducible refine st_and ?_ | with_reducible refine st_or ?_ | with_reducible refine st_not ?_ | with_reducible refine st_B ?_ | with_reducible refine st_andV ?_ | with_reducible refine st_orV ?_ | with_reducible refine st_notV ?_ | with_reducible refine st_ifE ?_
  | with_reducible refine st_part ?_ | with_reducible refine st_nop ?_ | with_reducible refine st_sub ?_ | with_reducible refine st_chain ?_ | with_reducible refine st_bl ?_ | with_reducible refine st_in ?_ | with_reducible refine r_truB ?_
  | with_reducible refine st_nameG ?_ | with_reducible refine if_T ?_ | with_reducible refine if_F ?_ | with_reducible refine if_nT ?_ | with_reducible refine if_nF ?_
  | with_reducible refine r_add ?_ | with_reducible refine r_0 ?_ | with_reducible refine r_neg ?_ | with_reducible refine r_intI ?_ | with_reducible refine r_intB ?_ | with_reducible refine r_abs ?_ | with_reducible refine r_max2 ?_ | with_reducible refine r_min2 ?_ | with_reducible refine r_eqI ?_ | with_reducible refine r_neI ?_
  | with_reducible refine st_nxt ?_ | with_reducible refine st_cnt ?_ | with_reducible refine st_brk ?_ | with_reducible refine st_retn ?_
  | with_reducible refine st_lstN ?_ | with_reducible refine st_tupN ?_
  | with_reducible refine st_for ?_ | with_reducible refine st_lc ?_ | with_reducible refine st_lc2 ?_ | with_reducible refine st_rng1 ?_ | with_reducible refine st_rng2 ?_ | with_reducible refine st_rng3 ?_ | with_reducible refine st_itL ?_ | with_reducible refine st_itT ?_ | with_reducible refine st_rev ?_ | with_reducible refine st_enumE ?_ | with_reducible refine st_zip3 ?_ | with_reducible refine st_lvals ?_ | with_reducible refine st_fld ?_ | with_reducible refine st_sfld ?_ | with_reducible refine st_meth ?_ | with_reducible refine st_make ?_ | with_reducible refine st_rg1 ?_ | with_reducible refine st_enumS ?_ | with_reducible refine st_dg1 ?_ | with_reducible refine st_dg2 ?_ | with_reducible refine st_dpop ?_ | with_reducible refine st_dset ?_ | with_reducible refine st_dc ?_ | with_reducible refine st_keys ?_ | with_reducible refine st_dget ?_ | with_reducible refine st_din ?_ | with_reducible refine st_dnin ?_ | with_reducible refine st_dput ?_ | with_reducible refine st_dnew ?_ | with_reducible refine st_lstRg ?_ | with_reducible refine st_rg2 ?_ | with_reducible refine r_twoI ?_ | with_reducible refine st_bm ?_ | with_reducible refine st_bm0 ?_
  | ((with_reducible refine' st_aug ?h ?_); (case h => exact rfl)) | with_reducible refine r_augI ?_ | with_reducible refine r_eqB ?_
  | dsimp only))
section
variable {P : Program} {w : World} {K : PySem.W.Frag} {mg : Str → Option Value} {base : Heap} {A : Ad}

def sp_is_integer (K : PySem.W.Frag) : Sp := fun vs H Q _ => ∃ i, vs = [.int i] ∧ Q (.bl true) H
theorem ok_is_integer (T : Tx K mg A) : FnOk P w K mg base CX0 1 A.a_is_integer A.f_is_integer P_is_integer (sp_is_integer K) := by
  refine T.F_is_integer.ok sc_is_integer (fun vs H Q E h => ?_) (fun cdv A' outer s H vs Q E hr h => ?_)
  · obtain ⟨i, rfl, _⟩ := h
    rfl
  · obtain ⟨i, rfl, q⟩ := h
    refine ⟨_, (pss_one (ps_ret (pe_and (pe_callB (isi_K K) (by rfl) T.n_isinstance (by decide +kernel) (pa_cons (pv 0) (pa_cons (pe_bltn (v := .ty "int") (by rfl) T.n_int (by decide +kernel) rfl) pa_nil))) (pe_one (pe_not (pe_callB (isi_K K) (by rfl) T.n_isinstance (by decide +kernel) (pa_cons (pv 0) (pa_cons (pe_bltn (v := .ty "bool") (by rfl) T.n_bool (by decide +kernel) rfl) pa_nil)))))))), ?_⟩
    refine ⟨_, rfl, .int i, .ty "int", _, _, true, rfl, .ty _, .base (.int i), kit_ty (by decide +kernel), true, rfl, iteT ?_⟩
    exact ⟨_, rfl, .int i, .ty "bool", _, _, false, rfl, .ty _, .base (.int i), kit_ty (by decide +kernel), false, rfl, q⟩
def sp_is_letters (K : PySem.W.Frag) : Sp := fun vs H Q _ => ∃ l, vs = [.int l] ∧ 1 ≤ l ∧ l ≤ 4 ∧ Q (.bl true) H
theorem ok_is_letters (T : Tx K mg A) : FnOk P w K mg base CX0 2 A.a_is_letters A.f_is_letters P_is_letters (sp_is_letters K) := by
  refine T.F_is_letters.ok sc_is_letters (fun vs H Q E h => ?_) (fun cdv A' outer s H vs Q E hr h => ?_)
  · obtain ⟨l, rfl, _⟩ := h
    rfl
  · obtain ⟨l, rfl, h1, h4, q⟩ := h
    refine ⟨_, (pss_one (ps_ret (pe_and (pe_call (ok_is_integer T) (hr.mono (by decide)) (by rfl) T.g_is_integer T.F_is_integer.kp T.b_is_integer .nil pass0 (pa_cons (pv 0) pa_nil)) (pe_one (pe_chain op_le op_le pe_int (pv 0) (pe_glob (v := .int 4) (by rfl) T.c_MOST_LETTERS.choose_spec ⟨_, rfl⟩)))))), ?_⟩
    walk_at "go"
    refine ⟨l, rfl, true, rfl, ?_⟩
    walk_at "go"
    refine if_t h1 ?_
    walk_at "go"
    rw [decide_eq_true h4]
    exact q
def sp_steps_of (K : PySem.W.Frag) : Sp := fun vs H Q _ => ∃ L : Nat, vs = [.int L] ∧ L ≤ 4 ∧ ∀ p H1, H p = none → Ex H H1 → H1 p = some (.lst ((Od.steps L).map V.int)) → Q (.ref p) H1
theorem ok_steps_of (T : Tx K mg A) : FnOk P w K mg base CX0 1 A.a_steps_of A.f_steps_of P_steps_of (sp_steps_of K) := by
  refine T.F_steps_of.ok sc_steps_of (fun vs H Q E h => ?_) (fun cdv A' outer s H vs Q E hr h => ?_)
  · obtain ⟨L, rfl, _⟩ := h
    rfl
  · obtain ⟨L, rfl, h4, q⟩ := h
    refine ⟨_, (pss_one (ps_ret (pe_lc2 (own := [("letter", 1), ("step", 2)]) (vs1 := [2]) rfl sc_steps_of.nd (pi_range2 (by rfl) T.n_range (pa_cons pe_int (pa_cons (pe_op (op_addK K) (pv 0) pe_int) pa_nil))) (blkOk_by (own := [("letter", 1), ("step", 2)]) (N := N_steps_of) (sc := defScope s_steps_of) (by decide +kernel)) (by decide) (fun _ _ _ _ _ => (pg_name (i := 1) sc_steps_of.nd rfl (Or.inl rfl))) (fun _ _ _ _ _ => pts_nil) (fun _ _ _ _ _ => (pi_tupK K (pe_tup (pa_cons (pv 1) (pa_cons (pe_un un_neg (pv 1)) pa_nil))))) (fun _ _ _ _ _ => (pg_name (i := 2) sc_steps_of.nd rfl (Or.inl rfl))) (fun _ _ _ _ _ => pts_nil) (fun _ _ _ _ _ => (pv 2))))), ?_⟩
    walk_at "go"
    have fl : ∀ i, (flat (fun i => [V.int (1 + (i : Int)), V.int (-(1 + (i : Int)))]) i) = (Od.steps i).map V.int := fun i => by
      unfold flat Od.steps
      rw [List.map_flatMap]
      congr 1
      funext k
      show [V.int (1 + (k : Int)), V.int (-(1 + (k : Int)))] = [V.int ((k : Int) + 1), V.int (-((k : Int) + 1))]
      rw [Int.add_comm]
    refine r_rng2 (by omega) (r_lc2R (K := K) (m := ((L : Int) + 1 - 1).toNat) (lo := 1) (fun i => [V.int (1 + (i : Int)), V.int (-(1 + (i : Int)))]) (fun i hi => by rw [fl, List.length_map, Od.steps_len]; omega) (fun i _ => by simp) (fun _ => rfl) (fun _ _ => rfl) (fun i H1 R hi e k => ?_) (fun i y H1 Q' hi hy e k => ?_) fun p H1 hp e h => ?_)
    · walk_at "go"
      refine r_newT (by simp) fun a H2 _ e2 h2 => ?_
      exact r_itT (t_of h2) (k a H2 e2 (t_of h2))
    · walk_at "go"
      exact k H1 (Ex.refl H1)
    · rw [fl] at h
      have e2 : ((L : Int) + 1 - 1).toNat = L := by omega
      rw [e2] at h
      exact q p H1 hp e h
def sp_is_row (K : PySem.W.Frag) : Sp := fun vs H Q _ => ∃ (L n : Nat) (a : Addr) (ns : List Int), vs = [.int L, .int n, .ref a] ∧ IT K H a ns ∧ ns.length = L ∧ L ≤ 1000 ∧ (∀ x ∈ ns, -1 ≤ x ∧ x < n) ∧ ∀ H1, Ex H H1 → Q (.bl true) H1
theorem ok_is_row (T : Tx K mg A) : FnOk P w K mg base CX0 2 A.a_is_row A.f_is_row P_is_row (sp_is_row K) := by
  refine T.F_is_row.ok sc_is_row (fun vs H Q E h => ?_) (fun cdv A' outer s H vs Q E hr h => ?_)
  · obtain ⟨L, n, a, ns, rfl, _⟩ := h
    rfl
  · obtain ⟨L, n, a, ns, rfl, ht, hz, hL, hs, q⟩ := h
    refine ⟨_, (pss_cons (ps_if (PW.pt (pw_or (pt_not (pt_truK K (pe_callB (isi_K K) (by rfl) T.n_isinstance (by decide +kernel) (pa_cons (pv 2) (pa_cons (pe_bltn (v := .ty "tuple") (by rfl) T.n_tuple (by decide +kernel) rfl) pa_nil))))) (pw_or1 (pt_cmpR (op_neK K hr.units) (pe_callB (len_K K) (by rfl) T.n_len (by decide +kernel) (pa_cons (pv 2) pa_nil)) (pv 0) (nomark _))))) (pss_one (ps_ret pe_bl)) pss_nil)
      (pss_one (ps_ret (pe_callB (all_K K rfl) (by rfl) T.n_all (by decide +kernel) (pa_cons (pe_lc (own := [("after", 3)]) rfl sc_is_row.nd (pi_tupK K (pv 2)) (blkOk_by (own := [("after", 3)]) (N := N_is_row) (sc := defScope s_is_row) (by decide +kernel)) (fun _ _ _ _ _ => (pg_name (i := 3) sc_is_row.nd rfl (Or.inl rfl))) (fun _ _ _ _ _ => pts_nil) (fun _ _ _ _ _ => (pe_and (pe_call (ok_is_integer T) (hr.mono (by decide)) (by rfl) T.g_is_integer T.F_is_integer.kp T.b_is_integer .nil pass0 (pa_cons (pv 3) pa_nil)) (pe_one (pe_chain op_le op_lt (pe_un un_neg pe_int) (pv 3) (pv 1)))))) pa_nil))))), ?_⟩
    walk_at "go"
    refine r_isiT ht (b := true) (kit_ty (by decide +kernel)) ?_
    refine r_truB ?_
    walk_at "go"
    refine r_lenT ht ?_
    rw [List.length_map, hz]
    walk_at "go"
    rw [decide_eq_true (rfl : (L : Int) = L)]
    walk_at "go"
    refine r_itT ht (r_cmT (ys := (ns.map fun _ => true).map V.bl) ht (by simp) (by simp; omega) (fun _ => rfl) (fun i x y H1 hx hy e1 Q' k => ?_) fun D H1 hD e1 h1 => ?_)
    · rw [List.getElem?_map] at hx
      rw [List.getElem?_map, List.getElem?_map] at hy
      cases hn : ns[i]? with
      | none => rw [hn] at hx; cases hx
      | some z =>
        rw [hn] at hx hy
        cases hx
        cases hy
        have hz := hs z (List.mem_of_getElem? hn)
        walk_at "go"
        refine ⟨z, rfl, ?_⟩
        walk_at "go"
        rw [decide_eq_true (by omega : (-1 : Int) ≤ z)]
        walk_at "go"
        rw [decide_eq_true (by omega : z < (n : Int))]
        exact k H1 (Ex.refl H1)
    · walk_at "go"
      refine r_all (l_of h1) ?_
      have e : ((ns.map fun _ => true).all id) = true := by simp
      rw [e]
      exact q H1 e1
theorem row_ok {L n : Nat} {d : Wb.Gm} (G : Wb.Gr L n d) (r : Nat) : (Wb.row L d r).length = L ∧ ∀ x ∈ Wb.row L d r, -1 ≤ x ∧ x < n := by
  refine ⟨by unfold Wb.row; rw [List.length_map, List.length_range], fun x hx => ?_⟩
  unfold Wb.row at hx
  obtain ⟨l, _, e⟩ := List.mem_map.mp hx
  cases hd : d r ((l : Int) + 1) with
  | none =>
      rw [hd] at e
      have e' : (-1 : Int) = x := e
      omega
  | some g =>
    rw [hd] at e
    have := (G.dom _ _ _ hd).2.1
    have e' : (g : Int) = x := e
    omega
def sp_has_web_form (K : PySem.W.Frag) : Sp := fun vs H Q _ => ∃ (L n : Nat) (d : Wb.Gm) (a : Addr), vs = [.ref a] ∧ WebH K H a L n d ∧ Wb.Web L n d ∧ n ≤ 1000 ∧ ∀ H1, Ex H H1 → Q (.bl true) H1
theorem ok_has_web_form (T : Tx K mg A) : FnOk P w K mg base CX0 3 A.a_has_web_form A.f_has_web_form P_has_web_form (sp_has_web_form K) := by
  refine T.F_has_web_form.ok sc_has_web_form (fun vs H Q E h => ?_) (fun cdv A' outer s H vs Q E hr h => ?_)
  · obtain ⟨L, n, d, a, rfl, _⟩ := h
    rfl
  · obtain ⟨L, n, d, a, rfl, ⟨r, xs, ha, hr', wa⟩, W, hn, q⟩ := h
    refine ⟨_, (pss_cons (ps_if (PW.pt (pw_or (pt_not (pt_truK K (pe_callB (isi_K K) (by rfl) T.n_isinstance (by decide +kernel) (pa_cons (pv 0) (pa_cons (pe_bltn (v := .ty "tuple") (by rfl) T.n_tuple (by decide +kernel) rfl) pa_nil))))) (pw_or1 (pt_cmpR (op_neK K hr.units) (pe_callB (len_K K) (by rfl) T.n_len (by decide +kernel) (pa_cons (pv 0) pa_nil)) pe_int (nomark _))))) (pss_one (ps_ret pe_bl)) pss_nil)
      (pss_cons (ps_asg (pv 0) (pg_tupK K (by rfl) (pgs_cons (pg_name (i := 1) sc_has_web_form.nd rfl (Or.inr rfl)) (pgs_cons (pg_name (i := 2) sc_has_web_form.nd rfl (Or.inr rfl)) pgs_nil))))
      (pss_cons (ps_if (PW.pt (pw_or (pt_not (pt_truK K (pe_call (ok_is_letters T) (hr.mono (by decide)) (by rfl) T.g_is_letters T.F_is_letters.kp T.b_is_letters .nil pass0 (pa_cons (pv 1) pa_nil)))) (pw_or1 (pt_not (pt_truK K (pe_callB (isi_K K) (by rfl) T.n_isinstance (by decide +kernel) (pa_cons (pv 2) (pa_cons (pe_bltn (v := .ty "tuple") (by rfl) T.n_tuple (by decide +kernel) rfl) pa_nil)))))))) (pss_one (ps_ret pe_bl)) pss_nil)
      (pss_one (ps_ret (pe_and (pe_cmpR op_gt (pe_callB (len_K K) (by rfl) T.n_len (by decide +kernel) (pa_cons (pv 2) pa_nil)) pe_int (nomark _)) (pe_one (pe_callB (all_K K rfl) (by rfl) T.n_all (by decide +kernel) (pa_cons (pe_lc (own := [("row", 3)]) rfl sc_has_web_form.nd (pi_tupK K (pv 2)) (blkOk_by (own := [("row", 3)]) (N := N_has_web_form) (sc := defScope s_has_web_form) (by decide +kernel)) (fun _ _ _ _ _ => (pg_name (i := 3) sc_has_web_form.nd rfl (Or.inl rfl))) (fun _ _ _ _ _ => pts_nil) (fun _ _ _ _ _ => (pe_call (ok_is_row T) (hr.mono (by decide)) (by rfl) T.g_is_row T.F_is_row.kp T.b_is_row .nil pass0 (pa_cons (pv 1) (pa_cons (pe_callB (len_K K) (by rfl) T.n_len (by decide +kernel) (pa_cons (pv 2) pa_nil)) (pa_cons (pv 3) pa_nil)))))) pa_nil))))))))), ?_⟩
    have l1 := W.l1
    have l4 := W.l4
    have zx : xs.length = n := by rw [wa.len]; unfold Wb.rows; rw [List.length_map, List.length_range]
    walk_at "go"
    refine r_isiT ha (b := true) (kit_ty (by decide +kernel)) ?_
    refine r_truB ?_
    walk_at "go"
    refine r_lenT ha ?_
    walk_at "go"
    rw [decide_eq_true (by simp : (([V.int (L : Int), V.ref r].length : Nat) : Int) = 2)]
    walk_at "go"
    refine r_tup2 ha ?_
    walk_at "go"
    refine ⟨L, rfl, by omega, by omega, ?_⟩
    refine r_truB ?_
    walk_at "go"
    refine r_isiT hr' (b := true) (kit_ty (by decide +kernel)) ?_
    refine r_truB ?_
    walk_at "go"
    refine r_lenT hr' ?_
    rw [zx]
    have hp := W.pos
    walk_at "go"
    rw [decide_eq_true (by omega : (n : Int) > 0)]
    walk_at "go"
    refine r_itT hr' (r_cmT (ys := (xs.map fun _ => true).map V.bl) hr' (by simp) (by simp; omega) (fun _ => rfl) (fun i x y H1 hx hy e1 Q' k => ?_) fun D H1 hD e1 h1 => ?_)
    · obtain ⟨w, hw, p, rfl, wk⟩ := wa.get hx
      rw [List.getElem?_map, List.getElem?_map, hx] at hy
      cases hy
      have hi := (List.getElem?_eq_some_iff.mp hw).1
      have ew : w = Wb.row L d i := by
        unfold Wb.rows at hw hi
        rw [List.length_map, List.length_range] at hi
        rw [List.getElem?_map, List.getElem?_range hi] at hw
        exact (Option.some.inj hw).symm
      subst ew
      obtain ⟨k1, k2⟩ := row_ok W.gr i
      walk_at "go"
      refine r_lenT (ex_t e1 hr') ?_
      rw [zx]
      walk_at "go"
      exact ⟨L, n, p, _, rfl, ex_t e1 wk, k1, by omega, k2, k⟩
    · walk_at "go"
      refine r_all (l_of h1) ?_
      have e : ((xs.map fun _ => true).all id) = true := by simp
      rw [e]
      exact q H1 e1
end
end Lw
namespace Lw
open PySem PySem.Spec PyProof.Rows L2 Evl

local macro_rules | `(tactic| walk_at "go") => `(tactic| repeat (first
  | with_reducible refine st_seq ?_ | with_reducible refine st_set ?_ | with_reducible refine st_asg ?_ | with_reducible refine st_ret ?_ | with_reducible refine st_drop ?_ | with_reducible refine st_if ?_
  | with_reducible refine st_c ?_ | ((with_reducible refine' st_v ?h ?_); (case h => exact rfl)) | with_reducible refine st_n ?_ | with_reducible refine st_cons ?_ | with_reducible refine st_op ?_ | with_reducible refine st_un ?_
  | with_reducible refine st_cb ?_ | with_reducible refine st_test ?_ | with_reducible refine st_call ?_ | with_reducible refine st_callK ?_ | with_reducible refine st_sl ?_ | with_reducible refine st_par ?_ | with_reducible refine st_par3 ?_ | with_reducible refine st_tru ?_
  | with_reducible refine st_and ?_ | with_reducible refine st_or ?_ | with_reducible refine st_not ?_ | with_reducible refine st_B ?_ | with_reducible refine st_andV ?_ | with_reducible refine st_orV ?_ | with_reducible refine st_notV ?_ | with_reducible refine st_ifE ?_
  | with_reducible refine st_part ?_ | with_reducible refine st_nop ?_ | with_reducible refine st_sub ?_ | with_reducible refine st_chain ?_ | with_reducible refine st_bl ?_ | with_reducible refine st_in ?_ | with_reducible refine r_truB ?_
  | with_reducible refine st_nameG ?_ | with_reducible refine if_T ?_ | with_reducible refine if_F ?_ | with_reducible refine if_nT ?_ | with_reducible refine if_nF ?_
  | with_reducible refine r_add ?_ | with_reducible refine r_0 ?_ | with_reducible refine r_neg ?_ | with_reducible refine r_intI ?_ | with_reducible refine r_intB ?_ | with_reducible refine r_abs ?_ | with_reducible refine r_max2 ?_ | with_reducible refine r_min2 ?_ | with_reducible refine r_eqI ?_ | with_reducible refine r_neI ?_
  | with_reducible refine st_nxt ?_ | with_reducible refine st_cnt ?_ | with_reducible refine st_brk ?_ | with_reducible refine st_retn ?_
  | with_reducible refine st_lstN ?_ | with_reducible refine st_tupN ?_
  | with_reducible refine st_for ?_ | with_reducible refine st_lc ?_ | with_reducible refine st_lc2 ?_ | with_reducible refine st_rng1 ?_ | with_reducible refine st_rng2 ?_ | with_reducible refine st_rng3 ?_ | with_reducible refine st_itL ?_ | with_reducible refine st_itT ?_ | with_reducible refine st_rev ?_ | with_reducible refine st_enumE ?_ | with_reducible refine st_zip3 ?_ | with_reducible refine st_lvals ?_ | with_reducible refine st_fld ?_ | with_reducible refine st_sfld ?_ | with_reducible refine st_meth ?_ | with_reducible refine st_make ?_ | with_reducible refine st_rg1 ?_ | with_reducible refine st_enumS ?_ | with_reducible refine st_dg1 ?_ | with_reducible refine st_dg2 ?_ | with_reducible refine st_dpop ?_ | with_reducible refine st_dset ?_ | with_reducible refine st_dc ?_ | with_reducible refine st_keys ?_ | with_reducible refine st_dget ?_ | with_reducible refine st_din ?_ | with_reducible refine st_dnin ?_ | with_reducible refine st_dput ?_ | with_reducible refine st_dnew ?_ | with_reducible refine st_lstRg ?_ | with_reducible refine st_rg2 ?_ | with_reducible refine r_twoI ?_ | with_reducible refine st_bm ?_ | with_reducible refine st_bm0 ?_
  | ((with_reducible refine' st_aug ?h ?_); (case h => exact rfl)) | with_reducible refine r_augI ?_ | with_reducible refine r_eqB ?_
  | dsimp only))
section
variable {P : Program} {w : World} {K : PySem.W.Frag} {mg : Str → Option Value} {base : Heap} {A : Ad}

theorem dl_opt {H0 H : Hp} {a : Addr} {n L : Nat} {d : Wb.Gm} {i j : Nat} (G : Wb.Gr L n d) (h : DL H0 H a n fun x s => vN (Wb.laid d i j x s)) {x : Nat} (hx : x < n) :
    ∃ xs p kvs, H a = some (.lst xs) ∧ xs[x]? = some (.ref p) ∧ H p = some (.dK kvs) ∧ DI kvs (fun s => vN (Wb.laid d i j x s)) ∧ kvs.length ≤ 2 * L ∧ p ≠ a ∧ H0 p = none ∧
      ∀ H1 kvs' g, ExW p H H1 → H1 p = some (.dK kvs') → DI kvs' g → DL H0 H1 a n (fun j' => if j' = x then g else fun s => vN (Wb.laid d i j j' s)) := by
  obtain ⟨xs, p, kvs, h1, h2, h3, h4, h5, h6, h7⟩ := h.at' hx
  refine ⟨xs, p, kvs, h1, h2, h3, h4, ?_, h5, h6, h7⟩
  have := h4.le (Od.steps_nodup L) fun s hs => by
    have k2 := Wb.laid_sub (vN_some.symm.trans hs)
    cases e : d x s with
    | none => rw [e] at k2; cases k2
    | some g => exact (G.dom _ _ _ e).2.2
  rw [Od.steps_len] at this
  exact this
theorem laid_st {L n : Nat} {d : Wb.Gm} {i j x : Nat} {s : Int} (G : Wb.Gr L n d) (h : (vN (Wb.laid d i j x s)).isSome = true) : s ∈ Od.steps L := by
  have k2 := Wb.laid_sub (vN_some.symm.trans h)
  cases e : d x s with
  | none => rw [e] at k2; cases k2
  | some g => exact (G.dom _ _ _ e).2.2
def sp_step_table (K : PySem.W.Frag) : Sp := fun vs H Q _ => ∃ (L n : Nat) (d : Wb.Gm) (r : Addr) (xs : List V), vs = [.ref r] ∧ SqT K H r xs ∧ WkA K H xs (Wb.rows L n d) ∧ Wb.Gr L n d ∧ L ≤ 4 ∧ n ≤ 1000 ∧ ∀ p H1, Ex H H1 → TabH H1 p n d → Q (.ref p) H1
theorem ok_step_table (T : Tx K mg A) : FnOk P w K mg base CX0 1 A.a_step_table A.f_step_table P_step_table (sp_step_table K) := by
  refine T.F_step_table.ok sc_step_table (fun vs H Q E h => ?_) (fun cdv A' outer s H vs Q E hr h => ?_)
  · obtain ⟨L, n, d, r, xs, rfl, _⟩ := h
    rfl
  · obtain ⟨L, n, d, r, xs, rfl, hr0, wa, G, l4, hn, q⟩ := h
    refine ⟨_, (pss_cons (ps_setLc (i := 1) (own := [("_", 6)]) rfl sc_step_table.nd rfl rfl (sw_true rfl rfl rfl (by decide +kernel)) (pi_tupK K (pv 0)) (blkOk_by (own := [("_", 6)]) (N := N_step_table) (sc := defScope s_step_table) (by decide +kernel)) (fun _ _ _ _ _ => (pg_name (i := 6) sc_step_table.nd rfl (Or.inl rfl))) (fun _ _ _ _ _ => pts_nil) (fun _ _ _ _ _ => pe_dnewK))
      (pss_cons (ps_for PassesOwn.never rfl (pi_enumE K skT (by rfl) T.n_enumerate (pa_cons (pv 0) pa_nil)) (pg_tupK K (by rfl) (pgs_cons (pg_name (i := 2) sc_step_table.nd rfl (Or.inl rfl)) (pgs_cons (pg_name (i := 3) sc_step_table.nd rfl (Or.inl rfl)) pgs_nil))) (pss_one (ps_for PassesOwn.never rfl (pi_enumS K skT (by rfl) T.n_enumerate (pa_cons (pv 3) pa_nil) pe_int) (pg_tupK K (by rfl) (pgs_cons (pg_name (i := 4) sc_step_table.nd rfl (Or.inl rfl)) (pgs_cons (pg_name (i := 5) sc_step_table.nd rfl (Or.inl rfl)) pgs_nil))) (pss_one (ps_if (pt_cmpR op_ge (pv 5) pe_int (nomark _)) (pss_cons (ps_if (pt_cmp (pc_din (hu_of hr) (pe_un un_neg (pv 4)) (pe_ix (ix_K K) (pv 1) (pv 5) (fun _ _ => rfl))) (by rfl)) (pss_one (ps_ret pe_non)) pss_nil)
      (pss_cons (ps_dput (hu_of hr) (pe_ix (ix_K K) (pv 1) (pv 2) (fun _ _ => rfl)) (pv 4) (pv 5) (by rfl))
      (pss_one (ps_dput (hu_of hr) (pe_ix (ix_K K) (pv 1) (pv 5) (fun _ _ => rfl)) (pe_un un_neg (pv 4)) (pv 2) (by rfl))))) pss_nil)))))
      (pss_one (ps_ret (pv 1))))), ?_⟩
    have zx : xs.length = n := by rw [wa.len, Wb.rows_len]
    walk_at "go"
    refine r_itT hr0 (dl_T hr0 (by omega) (fun _ => rfl) fun p H1 hp e1 T0 => ?_)
    rw [zx] at T0
    have T1 : DL H H1 p n fun x s => vN (Wb.laid d 0 0 x s) := T0.congr fun i _ s => by rw [Wb.laid_start G]; rfl
    clear T0
    walk_at "go"
    refine r_enumE (k := skT) (xs := xs) (ex_t e1 hr0) (r_forE (k := skT) (xs := xs) (fun i σ' H' => ∃ v2 v3 v4 v5, Ex H H' ∧ (DL H H' p n fun x s => vN (Wb.laid d i 0 x s)) ∧ σ' = [some (.ref r), some (.ref p), v2, v3, v4, v5, none]) ⟨none, none, none, none, e1, T1, rfl⟩ (fun i σ' H' _ z => ?_) (fun i x σ' H' H2 hx z e2 => ?_) (fun σ' H' z => ?_))
    · obtain ⟨_, _, _, _, e, _⟩ := z
      exact ex_t e hr0
    · obtain ⟨v2, v3, v4, v5, e, T2, rfl⟩ := z
      have hi : i < n := by rw [← zx]; exact (List.getElem?_eq_some_iff.mp hx).1
      obtain ⟨w, hw, pr, rfl, wr⟩ := wa.get hx
      rw [Wb.rows_at hi] at hw
      cases hw
      have e := e.trans e2
      have T3 := T2.mono e2
      clear T2 e2
      have wr2 := ex_t e wr
      walk_at "go"
      refine r_enumS (k := skT) (xs := (Wb.row L d i).map V.int) (by decide) (by decide) wr2 (r_forE (k := skT) (xs := (Wb.row L d i).map V.int) (fun j σ' H' => ∃ v4 v5, Ex H H' ∧ (DL H H' p n fun x s => vN (Wb.laid d i j x s)) ∧ σ' = [some (.ref r), some (.ref p), some (.int (0 + (i : Int))), some (.ref pr), v4, v5, none]) ⟨v4, v5, e, T3, rfl⟩ (fun j σ' H' _ z => ?_) (fun j x σ' H' H3 hx z e3 => ?_) (fun σ' H' z => ?_))
      · obtain ⟨_, _, e, _⟩ := z
        exact ex_t e wr
      · obtain ⟨v4, v5, e, T4, rfl⟩ := z
        have hj : j < L := by
          have := (List.getElem?_eq_some_iff.mp hx).1
          rwa [List.length_map, Wb.row_len] at this
        rw [List.getElem?_map, Wb.row_at hj] at hx
        have e := e.trans e3
        have T5 := T4.mono e3
        clear T4 e3
        cases hd : d i ((j : Int) + 1) with
        | none =>
          rw [hd] at hx
          cases hx
          walk_at "go"
          rw [decide_eq_false (by decide : ¬ (-1 : Int) ≥ 0)]
          walk_at "go"
          exact ⟨_, _, e, T5.congr fun x _ s => by rw [Wb.laid_none G hd], rfl⟩
        | some g =>
          rw [hd] at hx
          cases hx
          have hg := (G.dom _ _ _ hd).2.1
          walk_at "go"
          rw [decide_eq_true (by omega : (g : Int) ≥ 0)]
          walk_at "go"
          obtain ⟨ys, pg, kvs, a1, a2, a3, a4, a5, a6, a7, a8⟩ := dl_opt G T5 hg
          refine r_ixL (l_of a1) (atI_at (by omega) (by rw [show ((g : Nat) : Int).toNat = g by omega]; exact a2)) ?_
          refine r_dinI (.inl a3) a4 ?_
          rw [show -((1 : Int) + (j : Int)) = -((j : Int) + 1) by omega, Wb.laid_new G hd]
          rw [show (vN none).isSome = false from rfl]
          walk_at "go"
          obtain ⟨ys2, pi, kv2, b1, b2, b3, b4, b5, b6, b7, b8⟩ := dl_opt G T5 hi
          refine r_ixL (l_of b1) (atI_at (i := (0 : Int) + (i : Int)) (by omega) (by rw [show ((0 : Int) + (i : Int)).toNat = i by omega]; exact b2)) ?_
          walk_at "go"
          refine r_dputI b3 b4 (by omega) fun H4 kv3 e4 k4 d4 => ?_
          have ex4 := DL.ex0 e e4 b7
          have T6 := b8 H4 kv3 _ e4 k4 d4
          obtain ⟨ys3, pg2, kv4, c1, c2, c3, c4, c6, c7, c8⟩ := T6.at' hg
          have c5 : kv4.length ≤ 2 * L := by
            have z := c4.le (Od.steps_nodup L) fun x hx => by
              by_cases hgi : g = i
              · rw [if_pos hgi] at hx
                by_cases hx2 : x = 1 + (j : Int)
                · exact Od.mem_steps.mpr (by omega)
                · rw [if_neg hx2] at hx
                  exact laid_st G hx
              · rw [if_neg hgi] at hx
                exact laid_st G hx
            rw [Od.steps_len] at z
            exact z
          walk_at "go"
          refine r_ixL (l_of c1) (atI_at (by omega) (by rw [show ((g : Nat) : Int).toNat = g by omega]; exact c2)) ?_
          walk_at "go"
          refine r_dputI c3 c4 (by omega) fun H5 kv5 e5 k5 d5 => ?_
          have ex5 := DL.ex0 ex4 e5 c7
          have T7 := c8 H5 kv5 _ e5 k5 d5
          walk_at "go"
          refine ⟨_, _, ex5, T7.congr fun x _ s => ?_, rfl⟩
          have tail : ∀ (x : Nat) (s : Int), (if x = i then (fun t => if t = (1 : Int) + (j : Int) then some (V.int (g : Int)) else vN (Wb.laid d i j i t)) else fun t => vN (Wb.laid d i j x t)) s = vN (if x = i ∧ s = (j : Int) + 1 then some g else Wb.laid d i j x s) := fun x s => by
            by_cases c1 : x = i
            · subst c1
              rw [if_pos rfl]
              by_cases c2 : s = (1 : Int) + (j : Int)
              · rw [if_pos c2, if_pos ⟨rfl, by omega⟩]
                rfl
              · rw [if_neg c2, if_neg (fun z => c2 (by omega))]
            · rw [if_neg c1, if_neg (fun z => c1 z.1)]
          rw [Wb.laid_some G hd]
          by_cases c1 : x = g
          · refine (congrFun (if_pos c1) s).trans ?_
            by_cases c2 : s = -((1 : Int) + (j : Int))
            · have rhs : (if x = g ∧ s = -((j : Int) + 1) then some i else if x = i ∧ s = (j : Int) + 1 then some g else Wb.laid d i j x s) = some i := if_pos ⟨c1, by omega⟩
              rw [rhs]
              refine (if_pos c2).trans ?_
              rw [Int.zero_add]
              rfl
            · have rhs : (if x = g ∧ s = -((j : Int) + 1) then some i else if x = i ∧ s = (j : Int) + 1 then some g else Wb.laid d i j x s) = if x = i ∧ s = (j : Int) + 1 then some g else Wb.laid d i j x s := if_neg fun z => c2 (by have := z.2; omega)
              rw [rhs]
              refine (if_neg c2).trans ?_
              rw [← c1]
              have := tail x s
              rw [c1] at this ⊢
              exact this
          · have rhs : (if x = g ∧ s = -((j : Int) + 1) then some i else if x = i ∧ s = (j : Int) + 1 then some g else Wb.laid d i j x s) = if x = i ∧ s = (j : Int) + 1 then some g else Wb.laid d i j x s := if_neg fun z => c1 z.1
            rw [rhs]
            exact (congrFun (if_neg c1) s).trans (tail x s)
      · obtain ⟨v4, v5, e, T4, rfl⟩ := z
        rw [List.length_map, Wb.row_len] at T4
        walk_at "go"
        exact ⟨_, _, _, _, e, T4.congr fun x _ s => by rw [Wb.laid_row G], rfl⟩
    · obtain ⟨v2, v3, v4, v5, e, T2, rfl⟩ := z
      rw [zx] at T2
      walk_at "go"
      exact q p H' e (TabH.of T2 fun i _ s => by rw [Wb.laid_all G])
def sp_first_reached (K : PySem.W.Frag) : Sp := fun vs H Q _ => ∃ (L n home : Nat) (d : Wb.Gm) (p : Addr), vs = [.int L, .ref p, .int home] ∧ L ≤ 4 ∧ Wb.Gr L n d ∧ TabH H p n d ∧ home < n ∧ n ≤ 1000 ∧ ∀ a kvs H1, H a = none → Ex H H1 → H1 a = some (.dK kvs) → RchH K H1 kvs (Wb.bfs L n d home) → Q (.ref a) H1
def natI (l : List Nat) : List V := l.map fun (g : Nat) => V.int (g : Int)
theorem ok_first_reached (T : Tx K mg A) : FnOk P w K mg base CX0 2 A.a_first_reached A.f_first_reached P_first_reached (sp_first_reached K) := by
  refine T.F_first_reached.okN sc_first_reached (fun vs H Q E h => ?_) (fun cdv A' outer s H vs Q E hr h => ?_)
  · obtain ⟨L, n, home, d, p, rfl, _⟩ := h
    rfl
  · obtain ⟨L, n, home, d, p, rfl, l4, G, tab, hh, hn, q⟩ := h
    refine ⟨_, (pss_cons (ps_set (i := 3) sc_first_reached.nd rfl (Or.inl rfl) (pe_disp (pps_cons (pv 2) pe_non pps_nil) rfl rfl (by simp) (by decide)))
      (pss_cons (ps_set (i := 4) sc_first_reached.nd rfl (Or.inl rfl) (pe_lst (pa_cons (pv 2) pa_nil)))
      (pss_cons (ps_set (i := 5) sc_first_reached.nd rfl (Or.inl rfl) (pe_call (ok_steps_of T) (hr.mono (by decide)) (by rfl) T.g_steps_of T.F_steps_of.kp T.b_steps_of .nil pass0 (pa_cons (pv 0) pa_nil)))
      (pss_cons (ps_set (i := 6) sc_first_reached.nd rfl (Or.inl rfl) pe_int)
      (pss_cons (ps_while PassesOwn.never (pt_cmpR op_lt (pv 6) (pe_callB (len_K K) (by rfl) T.n_len (by decide +kernel) (pa_cons (pv 4) pa_nil)) (nomark _)) (pss_cons (ps_set (i := 7) sc_first_reached.nd rfl (Or.inl rfl) (pe_ix (ix_K K) (pv 4) (pv 6) (fun _ _ => rfl)))
      (pss_cons (ps_for PassesOwn.never rfl (pi_listK K (pv 5)) (pg_name (i := 8) sc_first_reached.nd rfl (Or.inl rfl)) (pss_cons (ps_set (i := 9) sc_first_reached.nd rfl (Or.inl rfl) (pe_dget1 (hu_of hr) (pe_ix (ix_K K) (pv 1) (pv 7) (fun _ _ => rfl)) (pv 8) ⟨rfl, rfl, rfl, rfl⟩))
      (pss_one (ps_if (PW.pt (pw_and (pt_cmpR op_notN (pv 9) pe_non (nomark _)) (pw_and1 (pt_cmp (pc_dnotin (hu_of hr) (pv 9) (pv 3)) (by rfl))))) (pss_cons (ps_dput (hu_of hr) (pv 3) (pv 9) (pe_tup (pa_cons (pv 7) (pa_cons (pv 8) pa_nil))) (by rfl))
      (pss_one (ps_expr (pe_bmU K PySem.F.plainAttrs_list PySem.F.slot_list_append PySem.F.type_list_append mt_append (pv 4) (pa_cons (pv 9) pa_nil))))) pss_nil))))
      (pss_one (ps_aug (i := 6) sc_first_reached.nd rfl (Or.inl rfl) pe_int ip_add)))))
      (pss_one (ps_ret (pv 3)))))))), ?_⟩
    have zs := Od.steps_len L
    walk_at "go"
    refine fun a hp => ?_
    show tVar 2 _ _ _
    walk_at "go"
    refine ⟨upd_same, [(Sum.inl (home : Int), .non)], rfl, by simp, ?_⟩
    rw [upd_upd]
    have e1 : Ex H (upd H a (.dK (mergeK [] [(Sum.inl (home : Int), .non)]))) := Ex.new hp
    have k1 : (upd H a (.dK (mergeK [] [(Sum.inl (home : Int), .non)]))) a = some (.dK [(Sum.inl (home : Int), .non)]) := upd_same
    generalize upd H a (.dK (mergeK [] [(Sum.inl (home : Int), .non)])) = H1 at e1 k1
    have rch1 : RchH K H1 [(Sum.inl (home : Int), .non)] [(home, none)] := ⟨rfl, fun i kv y h1 h2 => by
      cases i with
      | zero => cases h1; cases h2; exact ⟨rfl, rfl⟩
      | succ i => simp at h1⟩
    walk_at "go"
    refine r_newL (by simp) fun b H2 hb e2 k2 => ?_
    have nba : b ≠ a := fun z => by rw [z, k1] at hb; cases hb
    have hb0 : H b = none := fresh_back e1 hb
    have k1 := e2 _ _ k1
    have rch2 := rch1.mono (.of e2)
    have e := e1.trans e2
    clear e1 e2 rch1 hb
    walk_at "go"
    refine ⟨L, rfl, l4, fun c H3 hc e3 k3 => ?_⟩
    have nca : c ≠ a := fun z => by rw [z, k1] at hc; cases hc
    have ncb : c ≠ b := fun z => by rw [z, k2] at hc; cases hc
    have k1 := e3 _ _ k1
    have k2 := e3 _ _ k2
    have rch3 := rch2.mono (.of e3)
    have e := e.trans e3
    clear e3 rch2 hc
    walk_at "go"
    refine st_while (fun m σ' H' => ∃ (fd : Wb.Fd) (kvs : List (Key × V)) (pl : Nat) (v7 v8 v9 : Option V), m = n + 1 - pl ∧ pl ≤ fd.length ∧ Wb.Ok n fd ∧ Wb.run d (Od.steps L) (n + 1 - pl) pl fd = Wb.bfs L n d home ∧ Ex H H' ∧ H' a = some (.dK kvs) ∧ RchH K H' kvs fd ∧ H' b = some (.lst (natI (fd.map (·.1)))) ∧ H' c = some (.lst ((Od.steps L).map V.int)) ∧
      σ' = [some (.int L), some (.ref p), some (.int home), some (.ref a), some (.ref b), some (.ref c), some (.int pl), v7, v8, v9]) (n + 1) ⟨[(home, none)], _, 0, none, none, none, rfl, Nat.zero_le _, (Wb.rn_start (d := d) (L := L) hh).ok, rfl, e, k1, rch3, k2, k3, rfl⟩ fun m σ' H' z => ?_
    obtain ⟨fd, kvs, pl, v7, v8, v9, rfl, zpl, ok, hrun, e, k1, rch, k2, k3, rfl⟩ := z
    have zfd := ok.len
    walk_at "go"
    refine r_lenL (l_of k2) ?_
    have zl : (natI (fd.map (·.1))).length = fd.length := by unfold natI; rw [List.length_map, List.length_map]
    rw [zl]
    walk_at "go"
    refine if_2 (fun h0 => ?_) fun h0 => ?_
    · have hpl : pl < fd.length := by omega
      have hg := List.getElem?_eq_getElem hpl
      obtain ⟨r, x, hfx⟩ : ∃ r x, fd[pl] = (r, x) := ⟨_, _, rfl⟩
      rw [hfx] at hg
      have hr : r < n := ok.lt r (List.mem_map.mpr ⟨_, List.mem_of_getElem? hg, rfl⟩)
      refine ⟨_, fun _ _ h => h, ?_⟩
      walk_at "go"
      refine r_ixL (l_of k2) (atI_at (by omega) (x := .int (r : Int)) (by rw [Int.toNat_natCast]; unfold natI; rw [List.getElem?_map, List.getElem?_map, hg]; rfl)) ?_
      walk_at "go"
      refine r_itL (l_of k3) (r_forL (xs := (Od.steps L).map V.int) (fun i σ' H' => ∃ (kvs : List (Key × V)) (v8 v9 : Option V), Wb.Ok n (Wb.look d r ((Od.steps L).take i) fd) ∧ Ex H H' ∧ H' a = some (.dK kvs) ∧ RchH K H' kvs (Wb.look d r ((Od.steps L).take i) fd) ∧ H' b = some (.lst (natI ((Wb.look d r ((Od.steps L).take i) fd).map (·.1)))) ∧ H' c = some (.lst ((Od.steps L).map V.int)) ∧
        σ' = [some (.int L), some (.ref p), some (.int home), some (.ref a), some (.ref b), some (.ref c), some (.int pl), some (.int r), v8, v9]) ⟨kvs, v8, v9, by rw [List.take_zero]; exact ok, e, k1, by rw [List.take_zero]; exact rch, by rw [List.take_zero]; exact k2, k3, rfl⟩ (fun i σ' H' _ z => ?_) (fun i y σ' H' hy z => ?_) fun σ' H' z => ?_)
      · obtain ⟨_, _, _, _, _, _, _, _, k3, _⟩ := z
        exact l_of k3
      · obtain ⟨kvs, v8, v9, ok, e, k1, rch, k2, k3, rfl⟩ := z
        rw [List.getElem?_map] at hy
        cases hs : (Od.steps L)[i]? with
        | none => rw [hs] at hy; cases hy
        | some s0 =>
          rw [hs] at hy
          cases hy
          rw [take_snoc hs, Wb.look_snoc]
          generalize Wb.look d r ((Od.steps L).take i) fd = fd2 at ok rch k2
          have zf2 := ok.len
          obtain ⟨xs, t, kt, a1, a2, a3, a4, a5⟩ := (tab.mono e).at' hr
          walk_at "go"
          refine r_ixL (l_of a1) (atI_at (by omega) (by rw [Int.toNat_natCast]; exact a3)) ?_
          refine r_dg1 (.inl a4) ?_
          walk_at "go"
          refine r_dg1b (.inl a4) a5 ?_
          have okn := Wb.adv_ok (r := r) (s := s0) G ok
          cases hd : d r s0 with
          | none =>
            have ea : Wb.adv d r fd2 s0 = fd2 := by unfold Wb.adv; rw [hd]
            rw [ea]
            rw [show (vN none).getD V.non = V.non from rfl]
            walk_at "go"
            refine ⟨rfl, ?_⟩
            rw [decide_eq_true (rfl : V.non = V.non)]
            walk_at "go"
            exact ⟨kvs, _, _, ok, e, k1, rch, k2, k3, rfl⟩
          | some g =>
            rw [show (vN (some g)).getD V.non = V.int (g : Int) from rfl]
            walk_at "go"
            refine ⟨rfl, ?_⟩
            rw [decide_eq_false (show ¬ V.int (g : Int) = V.non from fun z => nomatch z)]
            walk_at "go"
            refine r_dninV (.inl k1) ?_
            rw [rch.mem g]
            walk_at "go"
            by_cases hm : g ∈ fd2.map (·.1)
            · have ea : Wb.adv d r fd2 s0 = fd2 := by unfold Wb.adv; rw [hd]; exact if_pos hm
              rw [ea, decide_eq_true hm]
              walk_at "go"
              exact ⟨kvs, _, _, ok, e, k1, rch, k2, k3, rfl⟩
            · have ea : Wb.adv d r fd2 s0 = fd2 ++ [(g, some (r, s0))] := by unfold Wb.adv; rw [hd]; exact if_neg hm
              rw [ea] at okn ⊢
              rw [decide_eq_false hm]
              walk_at "go"
              refine r_newT (by simp) fun t2 H4 ht2 e4 t4 => ?_
              have zk : kvs.length ≤ n := by rw [rch.len]; exact zf2
              walk_at "go"
              refine r_dput (e4 _ _ k1) (by omega) fun H5 e5 k5 => ?_
              have hno : valV kvs (Sum.inl (g : Int)) = none := by
                have := rch.mem g
                rw [decide_eq_false hm] at this
                cases ev : valV kvs (Sum.inl (g : Int)) with
                | none => rfl
                | some v => rw [ev] at this; cases this
              rw [putK_new _ hno] at k5
              have tx5 : TX H4 H5 := fun q ys hq => by
                have ne : q ≠ a := fun z => by
                  rw [z, e4 _ _ k1] at hq
                  rcases hq with hq | ⟨_, hq⟩ <;> cases hq
                rcases hq with hq | ⟨o, hq⟩
                · rw [hq, e5 _ _ hq ne]
                · rw [hq, e5 _ _ hq ne]
              have e5' : Ex H H5 := fun q o ho => e5 q o (e4 q o (e q o ho)) (ne_of_none ho hp)
              have r5 := (rch.mono ((TX.of e4).trans tx5)).snoc (g := g) (r := r) (s := s0) ⟨t2, rfl, tx_t tx5 (t_of t4)⟩
              have k2b := e5 _ _ (e4 _ _ k2) nba
              have k3b := e5 _ _ (e4 _ _ k3) nca
              walk_at "go"
              refine r_app (l_of k2b) ?_
              walk_at "go"
              have zn : (natI (fd2.map (·.1))).length = fd2.length := by unfold natI; rw [List.length_map, List.length_map]
              refine r_appd k2b (by omega) fun H6 e6 k6 => ?_
              have tx6 : TX H5 H6 := TX.w2 k2b e6
              walk_at "go"
              refine ⟨_, _, _, okn, fun q o ho => e6 q o (e5' q o ho) (ne_of_none ho hb0), e6 _ _ k5 nba.symm, r5.mono tx6, ?_, e6 _ _ k3b ncb, rfl⟩
              rw [k6]
              unfold natI
              rw [List.map_append, List.map_append]
              rfl
      · obtain ⟨kvs, v8, v9, ok, e, k1, rch, k2, k3, rfl⟩ := z
        rw [List.length_map, List.take_length] at ok rch k2
        obtain ⟨m, em⟩ := Wb.look_pre d r (Od.steps L) fd
        walk_at "go"
        rw [show (pl : Int) + 1 = ((pl + 1 : Nat) : Int) by omega]
        refine ⟨n + 1 - (pl + 1), by omega, _, kvs, pl + 1, _, _, _, rfl, ?_, ok, ?_, e, k1, rch, k2, k3, rfl⟩
        · rw [em, List.length_append]
          omega
        · rw [← hrun, show n + 1 - pl = (n + 1 - (pl + 1)) + 1 by omega, Wb.run_on hg]
    · have e2 : Wb.bfs L n d home = fd := by rw [← hrun]; exact Wb.run_end (by omega)
      walk_at "go"
      exact q a kvs H' hp e k1 (e2 ▸ rch)
end
end Lw
/-! [e for .. in enumerate(xs) for .. in ys if t] -/
namespace L2
open PySem PySem.Spec PyProof.Rows Evl
/-- the items so far, S of them and of the heap, whatever stands at the new list -/
def C2 (S : List V → Hp → Prop) (D : Addr) (H' : Hp) : Prop := ∃ ys : List V, ys.length < 100000 ∧ (∀ o, S ys (upd H' D o)) ∧ H' D = some (.lst ys)
def C2Y (S : List V → Hp → Prop) (D : Addr) (y : V) (H' : Hp) : Prop := ∃ acc, H' D = some (.lst acc) ∧ acc.length < sizeLine ∧ C2 S D (upd H' D (.lst (acc ++ [y])))
theorem c2_yes {S : List V → Hp → Prop} {D : Addr} {y : V} {H' : Hp} {acc : List V} (h : H' D = some (.lst acc)) (hz : acc.length + 1 < 100000) (s : ∀ o, S (acc ++ [y]) (upd H' D o)) : C2Y S D y H' :=
  ⟨acc, h, sz_lt (by omega), acc ++ [y], by rw [List.length_append]; simpa using hz, fun o => by rw [upd_upd]; exact s o, upd_same⟩
theorem c2_no {S : List V → Hp → Prop} {D : Addr} {H' : Hp} {acc : List V} (h : H' D = some (.lst acc)) (hz : acc.length < 100000) (s : ∀ o, S acc (upd H' D o)) : C2 S D H' := ⟨acc, hz, s, h⟩
theorem c2_at {S : List V → Hp → Prop} {D : Addr} {H' : Hp} {ys : List V} (h : ∀ o, S ys (upd H' D o)) (e : H' D = some (.lst ys)) : S ys H' := by
  have z := h (.lst ys)
  rw [upd_id e] at z
  exact z
section
variable {K : PySem.W.Frag} {σ : L2.St} {H : Hp} {Q : VK} {vs vs1 : List Nat} {wi1 : TI} {te : TE} {k : SK} {k0 : Int} {a : Addr} {xs : List V} {m n : Nat} {tt1 : TT} {g1 : TG}
/-- the outer one: for m, n in enumerate(xs) -/
theorem r_lc2E (S : Nat → List V → Hp → Prop) (hw : ∀ x y, wipe (((wipe σ vs).set m (some x)).set n (some y)) vs = wipe σ vs)
    (hl : ∀ i us H', S i us H' → k.Sq K H' a xs) (hx : ∀ i us H' H1, S i us H' → Ex H' H1 → S i us H1) (h0 : ∀ D, H D = none → ∀ o, S 0 [] (upd H D o))
    (he : ∀ i x H1 D, xs[i]? = some x → C2 (S i) D H1 → wi1 (((wipe σ vs).set m (some (.int (k0 + (i : Int))))).set n (some x)) H1 fun J1 H4 => ∃ W1 : Nat → Nat → Hp → Prop, (∃ m, W1 0 m H4) ∧ ∀ j k H, W1 j k H →
      (J1.stop j H ∧ C2 (S (i + 1)) D H) ∨ (J1.go j H ∧ ∃ Nx1 : Hp → Prop, (∀ H', Nx1 H' → ∃ k', k' < k ∧ W1 (j + 1) k' H') ∧ ∀ y H', J1.yld j H y H' → g1 y (wipe (((wipe σ vs).set m (some (.int (k0 + (i : Int))))).set n (some x)) vs1) H' fun σ3 H5 => wipe σ3 vs1 = wipe (((wipe σ vs).set m (some (.int (k0 + (i : Int))))).set n (some x)) vs1 ∧ tt1 σ3 H5 fun b H6 =>
        if b = true then te σ3 H6 fun y H7 => ∃ acc, H7 D = some (.lst acc) ∧ acc.length < sizeLine ∧ Nx1 (upd H7 D (.lst (acc ++ [y]))) else Nx1 H6))
    (q : ∀ D H1 us, H D = none → H1 D = some (.lst us) → S xs.length us H1 → (∀ o, S xs.length us (upd H1 D o)) → Q (.ref D) H1) : rLc2 (ItE k K k0 a) (gTup K 2 (gCons (gName m) (gCons (gName n) gNil))) tYes wi1 g1 tt1 te vs vs1 σ Q H := fun D hD => by
  refine ⟨fun i d H' => d = xs.length - i ∧ i ≤ xs.length ∧ C2 (S i) D H', ⟨_, rfl, Nat.zero_le _, [], by simp, fun o => by rw [upd_upd]; exact h0 D hD o, upd_same⟩, ?_⟩
  rintro i d H' ⟨rfl, hi, us, z1, z2, z3⟩
  have hq := hl i us H' (c2_at z2 z3)
  rcases Nat.lt_or_ge i xs.length with lt | ge
  · have hx' := List.getElem?_eq_getElem lt
    refine .inr ⟨⟨xs, _, hq, hx'⟩, C2 (S (i + 1)) D, fun H1 p => ⟨xs.length - (i + 1), by omega, rfl, lt, p⟩, ?_⟩
    rintro v H1 ⟨T, x, rfl, hT, rfl, e⟩
    have ne : T ≠ D := fun z => by rw [z, z3] at hT; cases hT
    refine r_tup2 (t_of upd_same) ⟨hw _ _, t_yes (if_T ?_)⟩
    refine he i x _ D (e xs hq) ⟨us, z1, fun u => ?_, by rw [upd_ne ne.symm]; exact z3⟩
    rw [upd_comm ne]
    exact hx _ _ _ _ (z2 u) (Ex.new (by rw [upd_ne ne]; exact hT))
  · have e : i = xs.length := by omega
    subst e
    exact .inl ⟨⟨xs, hq, rfl⟩, q D H' us hD z3 (c2_at z2 z3) z2⟩
/-- the inner one: for j in a list -/
theorem in_lst {J1 : It} {b D : Addr} {ys : List V} {j : Nat} {H4 : Hp} {Z : Hp → Prop} (T : Nat → List V → Hp → Prop) (hJ : J1 = Itl K b) (hw1 : ∀ y, wipe ((wipe σ vs1).set j (some y)) vs1 = wipe σ vs1)
    (hl : ∀ i us H', T i us H' → SqL K H' b ys) (h0 : C2 (T 0) D H4)
    (he : ∀ i y H1 acc, ys[i]? = some y → acc.length < 100000 → H1 D = some (.lst acc) → T i acc H1 → (∀ o, T i acc (upd H1 D o)) →
      tt1 ((wipe σ vs1).set j (some y)) H1 fun c H2 => if c = true then te ((wipe σ vs1).set j (some y)) H2 (fun y H3 => C2Y (T (i + 1)) D y H3) else C2 (T (i + 1)) D H2)
    (hd : ∀ H', C2 (T ys.length) D H' → Z H') : ∃ W1 : Nat → Nat → Hp → Prop, (∃ m, W1 0 m H4) ∧ ∀ j' k H, W1 j' k H →
      (J1.stop j' H ∧ Z H) ∨ (J1.go j' H ∧ ∃ Nx1 : Hp → Prop, (∀ H', Nx1 H' → ∃ k', k' < k ∧ W1 (j' + 1) k' H') ∧ ∀ y H', J1.yld j' H y H' → gName j y (wipe σ vs1) H' fun σ3 H5 => wipe σ3 vs1 = wipe σ vs1 ∧ tt1 σ3 H5 fun b H6 =>
        if b = true then te σ3 H6 fun y H7 => ∃ acc, H7 D = some (.lst acc) ∧ acc.length < sizeLine ∧ Nx1 (upd H7 D (.lst (acc ++ [y]))) else Nx1 H6) := by
  subst hJ
  refine ⟨fun i d H' => d = ys.length - i ∧ i ≤ ys.length ∧ C2 (T i) D H', ⟨_, rfl, Nat.zero_le _, h0⟩, ?_⟩
  rintro i d H' ⟨rfl, hi, us, z1, z2, z3⟩
  have hq := hl i us H' (c2_at z2 z3)
  rcases Nat.lt_or_ge i ys.length with lt | ge
  · have hx' := List.getElem?_eq_getElem lt
    refine .inr ⟨⟨ys, _, hq, hx'⟩, C2 (T (i + 1)) D, fun H1 p => ⟨ys.length - (i + 1), by omega, rfl, lt, p⟩, ?_⟩
    rintro y H1 ⟨rfl, hy⟩
    exact ⟨hw1 _, he i y _ us (hy _ hq) z1 z3 (c2_at z2 z3) z2⟩
  · have e : i = ys.length := by omega
    subst e
    exact .inl ⟨⟨ys, hq, Nat.le_refl _⟩, hd H' ⟨us, z1, z2, z3⟩⟩
/-- the inner one: for j, l in enumerate(ys, k0) -/
theorem in_enu {J1 : It} {b D : Addr} {ys : List V} {j l : Nat} {H4 : Hp} {Z : Hp → Prop} (T : Nat → List V → Hp → Prop) (hJ : J1 = ItE k K k0 b) (hw1 : ∀ x y, wipe (((wipe σ vs1).set j (some x)).set l (some y)) vs1 = wipe σ vs1)
    (hl : ∀ i us H', T i us H' → k.Sq K H' b ys) (hx : ∀ i us H' H1, T i us H' → Ex H' H1 → T i us H1) (h0 : C2 (T 0) D H4)
    (he : ∀ i y H1 acc, ys[i]? = some y → acc.length < 100000 → H1 D = some (.lst acc) → T i acc H1 → (∀ o, T i acc (upd H1 D o)) →
      tt1 (((wipe σ vs1).set j (some (.int (k0 + (i : Int))))).set l (some y)) H1 fun c H2 => if c = true then te (((wipe σ vs1).set j (some (.int (k0 + (i : Int))))).set l (some y)) H2 (fun y H3 => C2Y (T (i + 1)) D y H3) else C2 (T (i + 1)) D H2)
    (hd : ∀ H', C2 (T ys.length) D H' → Z H') : ∃ W1 : Nat → Nat → Hp → Prop, (∃ m, W1 0 m H4) ∧ ∀ j' k H, W1 j' k H →
      (J1.stop j' H ∧ Z H) ∨ (J1.go j' H ∧ ∃ Nx1 : Hp → Prop, (∀ H', Nx1 H' → ∃ k', k' < k ∧ W1 (j' + 1) k' H') ∧ ∀ y H', J1.yld j' H y H' → gTup K 2 (gCons (gName j) (gCons (gName l) gNil)) y (wipe σ vs1) H' fun σ3 H5 => wipe σ3 vs1 = wipe σ vs1 ∧ tt1 σ3 H5 fun b H6 =>
        if b = true then te σ3 H6 fun y H7 => ∃ acc, H7 D = some (.lst acc) ∧ acc.length < sizeLine ∧ Nx1 (upd H7 D (.lst (acc ++ [y]))) else Nx1 H6) := by
  subst hJ
  refine ⟨fun i d H' => d = ys.length - i ∧ i ≤ ys.length ∧ C2 (T i) D H', ⟨_, rfl, Nat.zero_le _, h0⟩, ?_⟩
  rintro i d H' ⟨rfl, hi, us, z1, z2, z3⟩
  have hq := hl i us H' (c2_at z2 z3)
  rcases Nat.lt_or_ge i ys.length with lt | ge
  · have hx' := List.getElem?_eq_getElem lt
    refine .inr ⟨⟨ys, _, hq, hx'⟩, C2 (T (i + 1)) D, fun H1 p => ⟨ys.length - (i + 1), by omega, rfl, lt, p⟩, ?_⟩
    rintro v H1 ⟨X, y, rfl, hX, rfl, e⟩
    have ne : X ≠ D := fun z => by rw [z, z3] at hX; cases hX
    have s2 : ∀ u, T i us (upd (upd H' X (.tup [.int (k0 + (i : Int)), y])) D u) := fun u => by
      rw [upd_comm ne]
      exact hx _ _ _ _ (z2 u) (Ex.new (by rw [upd_ne ne]; exact hX))
    have d2 : upd H' X (.tup [.int (k0 + (i : Int)), y]) D = some (.lst us) := by rw [upd_ne ne.symm]; exact z3
    refine r_tup2 (t_of upd_same) ⟨hw1 _ _, ?_⟩
    exact he i y _ us (e ys hq) z1 d2 (c2_at s2 d2) s2
  · have e : i = ys.length := by omega
    subst e
    exact .inl ⟨⟨ys, hq, rfl⟩, hd H' ⟨us, z1, z2, z3⟩⟩
end
end L2
/-! repr of any data; four targets; walks reduced where they are gone -/
namespace L2
open PySem PySem.Spec PyProof.Rows Evl
/-- what repr tells of a value -/
inductive Rp (K : PySem.W.Frag) (H : Hp) : V → Str → Prop
  | dat {a : Addr} {d : PyData} : Dp K H (.ref a) d → Shows d → Rp K H (.ref a) d.shown
  | int {i : Int} : i.natAbs.log2 < 1920 → Rp K H (.int i) (toString i)
  | non : Rp K H .non "None"
  | bl (b : Bool) : Rp K H (.bl b) (if b then "True" else "False")
def rReprV (K : PySem.W.Frag) : List V → Hp → VK → Prop := fun xs H Q => ∃ v t, xs = [v] ∧ Rp K H v t ∧ Q (.str t) H
theorem repr_V {X : Cx} (K : PySem.W.Frag) (g : Quiet X.A) {k : Nat} (hr : Room k X.A) (h : X.K = K := by rfl) : CallR X (.builtin "repr") (rReprV K) := by
  intro pins s σ H xs us Q I r h'
  obtain ⟨v, t, rfl, hd, q⟩ := h'
  obtain ⟨u, rfl, ru⟩ : ∃ u, us = [u] ∧ RelV v u := by
    cases r with
    | cons r0 rr =>
      cases rr
      exact ⟨_, rfl, r0⟩
  cases hd with
  | dat hd sd => exact repr_K K g hr h pins s σ H _ _ Q I r ⟨_, _, rfl, hd, sd, q⟩
  | int hz =>
    obtain ⟨t, rfl⟩ := ru
    exact PySem.P.repr_of_int hz ⟨.str _, H, I.tok _, ⟨_, rfl⟩, q⟩
  | non =>
    cases ru
    exact PySem.P.repr_of_none ⟨.str _, H, I.tok _, ⟨_, rfl⟩, q⟩
  | bl b =>
    cases ru
    exact PySem.P.repr_of_bool ⟨.str _, H, I.tok _, ⟨_, rfl⟩, q⟩
section
variable {K : PySem.W.Frag} {H : Hp} {Q : VK} {σ : L2.St} {v : V} {d : PyData}
theorem r_reprV {t : Str} (h : Rp K H v t) (q : Q (.str t) H) : rReprV K [v] H Q := ⟨v, t, rfl, h, q⟩
theorem rp_int {i : Int} (h : i.natAbs < 2 ^ 1900) : Rp K H (.int i) (toString i) := .int (Nat.lt_of_lt_of_le (PySem.Flt.log2_lt_of (by decide) h) (by decide))
theorem shows_t {ns : List Int} (sm : Sml ns) (hz : ns.length ≤ 100000) : Shows (.tuple (ns.map .int)) := by
  refine Shows.of ?_ ?_ ?_ ?_ ?_
  · show PyData.showableAll (ns.map .int) = true
    exact sml_can sm
  · show PyData.hasDictAll (ns.map .int) = false
    exact ints_plain ns
  · simp only [PyData.depth]
    rw [depth_ints]
    omega
  · show PyData.leavesShortAll 13 (ns.map .int) = true
    exact sml_short sm
  · show PyData.bulkAll (ns.map .int) ≤ 2 ^ 20
    rw [ints_bulk]
    omega
theorem rp_t {a : Addr} {ns : List Int} (h : IT K H a ns) (sm : Sml ns) (hz : ns.length ≤ 100000) : Rp K H (.ref a) (PyData.tuple (ns.map .int)).shown := .dat (dp_t h) (shows_t sm hz)
theorem r_neN (q : Q (.bl false) H) : rNeU K .non .non H Q := .inl ⟨rfl, by
  have e : decide ((V.non) = V.non) = true := by simp
  rw [e]
  exact q⟩
theorem r_eqN (q : Q (.bl true) H) : rEqU K .non .non H Q := .inl ⟨rfl, by
  have e : decide ((V.non) = V.non) = true := by simp
  rw [e]
  exact q⟩
theorem r_tup4 {i j l m : Nat} {x y z w : V} {a : Addr} {R : L2.St → Hp → Prop} (h : SqT K H a [x, y, z, w]) (q : R ((((σ.set i (some x)).set j (some y)).set l (some z)).set m (some w)) H) : gTup K 4 (gCons (gName i) (gCons (gName j) (gCons (gName l) (gCons (gName m) gNil)))) (.ref a) σ H R :=
  ⟨a, _, rfl, h, rfl, x, [y, z, w], rfl, y, [z, w], rfl, z, [w], rfl, w, [], rfl, rfl, q⟩
theorem r_isiB {b c : Bool} {n : String} (hb : PySem.W.kitOne K (.type "bool") (.type n) = some c) (q : Q (.bl c) H) : rIsi K [.bl b, .ty n] H Q := ⟨_, _, _, _, c, rfl, .ty _, .base (.bl b), hb, q⟩
end
end L2
namespace Wb
theorem go_rd {L n : Nat} {d : Gm} (G : Gr L n d) {r g : Nat} : ∀ (w : List Int), go d r w = some g → go d r (Fg.rd w) = some g := by
  intro w
  refine Od.snoc_ind (C := fun w => ∀ g, go d r w = some g → go d r (Fg.rd w) = some g) (fun g h => h) (fun u x ih g h => ?_) w g
  rw [go_snoc] at h
  cases e : go d r u with
  | none => rw [e] at h; cases h
  | some y =>
    rw [e] at h
    have h : d y x = some g := h
    have i1 := ih y e
    rw [Fg.rd_snoc]
    rcases List.eq_nil_or_concat (Fg.rd u) with k | ⟨v, z, k⟩
    · rw [k] at i1 ⊢
      show go d r [x] = some g
      cases i1
      rw [go_cons h]
      rfl
    · rw [List.concat_eq_append] at k
      rw [k] at i1 ⊢
      rw [List.reverse_append]
      show go d r (if z = -x then v.reverse else x :: z :: v.reverse).reverse = some g
      by_cases c : z = -x
      · rw [if_pos c, List.reverse_reverse]
        rw [go_snoc] at i1
        cases e2 : go d r v with
        | none => rw [e2] at i1; cases i1
        | some t =>
          rw [e2] at i1
          have i1 : d t z = some y := i1
          have b := G.sym _ _ _ i1
          rw [c, Int.neg_neg, h] at b
          exact b.symm
      · rw [if_neg c, List.reverse_cons, List.reverse_cons, List.reverse_reverse, go_snoc, i1]
        exact h
end Wb
namespace L2
open PySem PySem.Spec PyProof.Rows Evl
theorem TabH.w {H H1 : Hp} {w p : Addr} {k n : Nat} {d : Wb.Gm} (h : TabH H p n d) (hw : Well H w k) (e : ExW w H H1) : TabH H1 p n d := by
  obtain ⟨a, b, c, h1, _⟩ := hw.ex
  obtain ⟨ds, q1, q2, q3⟩ := h.ex
  refine ⟨ds, q1, e _ _ q2 fun z => ?_, fun i x hx => ?_⟩
  · rw [z, h1] at q2
    have q2 := HO.lst.inj (Option.some.inj q2)
    cases ds with
    | nil => cases q2
    | cons y l => cases q2
  · obtain ⟨kvs, z1, z2⟩ := q3 i x hx
    exact ⟨kvs, e _ _ z1 (fun z => by rw [z, h1] at z1; cases z1), z2⟩
theorem DrS.tab {H H1 : Hp} {w p : Addr} {k m n : Nat} {d : Wb.Gm} (s : DrS w H k H1) (h0 : Well H w m) (h : TabH H p n d) : TabH H1 p n d := h.w h0 s.ex
theorem cut_last1 (ns : List Int) : ∃ us, cutV (ns.map V.int) none (some (-1)) = us.map V.int ∧ us = ns.dropLast := by
  rcases List.eq_nil_or_concat ns with e | ⟨u, x, e⟩
  · subst e; exact ⟨[], rfl, rfl⟩
  · rw [List.concat_eq_append] at e
    subst e
    refine ⟨u, ?_, by rw [List.dropLast_concat]⟩
    rw [List.map_append]
    exact cut_init _ _
end L2
namespace Wb
open L2
theorem cw_loop {L n : Nat} {d : Gm} (W : Web L n d) {u v : List Int} (hu : Stp L u) (hv : Stp L v) (h : go d 0 u = some 0) (gr : go d 0 (Fg.rd u) = some 0) : cw L n d (Fg.rd (u ++ v)) = cw L n d (Fg.rd v) := by
  have s1 : Stp (L : Int) (Fg.rd (u ++ v)) := fun x hx => by
    rcases List.mem_append.mp (Fg.mem_rd hx) with z | z
    · exact hu x z
    · exact hv x z
  have s2 : Stp (L : Int) (Fg.rd v) := fun x hx => hv x (Fg.mem_rd hx)
  rw [cw_same W (Od.G_of s1 (Fg.str_rd _)) (Od.G_of s2 (Fg.str_rd _))]
  have e : Fg.rd (Fg.rd (u ++ v) ++ Fg.bk (Fg.rd v)) = Fg.rd u := by
    rw [← Fg.rd_bk, Fg.rd_app]
    refine Fg.rd_eq ?_
    rw [List.append_assoc]
    have := (Fg.Eqv.refl u).app (Fg.eqv_bk v)
    rwa [List.append_nil] at this
  rw [e]; exact gr
theorem cw_pair {L n : Nat} {d : Gm} (W : Web L n d) {u v : List Int} (hu : Stp L u) (hv : Stp L v) : decide (cw L n d (Fg.rd u) = cw L n d (Fg.rd v)) = decide (go d 0 (Fg.rd (u ++ Fg.bk v)) = some 0) := by
  have s1 : Stp (L : Int) (Fg.rd u) := fun x hx => hu x (Fg.mem_rd hx)
  have s2 : Stp (L : Int) (Fg.rd v) := fun x hx => hv x (Fg.mem_rd hx)
  refine decide_eq_decide.mpr ?_
  rw [cw_same W (Od.G_of s1 (Fg.str_rd _)) (Od.G_of s2 (Fg.str_rd _)), ← Fg.rd_bk, Fg.rd_app]
theorem cw_cw {L n : Nat} {d : Gm} (W : Web L n d) {u : List Int} (hu : Od.G L none u) : Fg.rd (cw L n d u) = cw L n d u ∧ cw L n d (cw L n d u) = cw L n d u := by
  obtain ⟨g, _, _⟩ := cw_G W hu
  exact ⟨Fg.rd_str (Od.of_G g).2, (cw_same W g hu).mpr (cw_bel W hu)⟩
theorem cw_nil {L n : Nat} {d : Gm} (W : Web L n d) : cw L n d [] = [] := by
  unfold cw; show fw L n d 0 ++ [] = []; rw [fw_zero W]; rfl
end Wb
/-! the ways of a web; those of its tree; what the others tell -/
namespace Wb
/-- (room, letter less 1, room) -/
abbrev W3 := Nat × Nat × Nat
def tri (x : W3) : List Int := [(x.1 : Int), (x.2.1 : Int) + 1, (x.2.2 : Int)]
theorem tri_inj {x y : W3} (h : tri x = tri y) : x = y := by
  obtain ⟨a, l, b⟩ := x
  obtain ⟨a2, l2, b2⟩ := y
  unfold tri at h
  simp only [List.cons.injEq, and_true] at h
  obtain ⟨h1, h2, h3⟩ := h
  have e1 : a = a2 := by omega
  have e2 : l = l2 := by omega
  have e3 : b = b2 := by omega
  rw [e1, e2, e3]
def wayL (L : Nat) (d : Gm) (a : Nat) : List W3 := (List.range L).filterMap fun (l : Nat) => (d a ((l : Int) + 1)).map fun b => (a, l, b)
def ways3 (L n : Nat) (d : Gm) : List W3 := (List.range n).flatMap (wayL L d)
theorem mem_wayL {L n : Nat} {d : Gm} (G : Gr L n d) {a : Nat} {x : W3} : x ∈ wayL L d a ↔ x.1 = a ∧ d x.1 ((x.2.1 : Int) + 1) = some x.2.2 := by
  unfold wayL
  rw [List.mem_filterMap]
  constructor
  · rintro ⟨l, hl, h⟩
    obtain ⟨b, h1, rfl⟩ := Option.map_eq_some_iff.mp h
    exact ⟨rfl, h1⟩
  · rintro ⟨h1, h2⟩
    obtain ⟨a', l, b⟩ := x
    subst h1
    have m : ((l : Int) + 1) ≠ 0 ∧ -(L : Int) ≤ (l : Int) + 1 ∧ (l : Int) + 1 ≤ L := Od.mem_steps.mp (G.dom _ _ _ h2).2.2
    have hl : l < L := by omega
    exact ⟨l, List.mem_range.mpr hl, by rw [show d a' ((l : Int) + 1) = some b from h2]; rfl⟩
theorem mem_ways {L n : Nat} {d : Gm} (G : Gr L n d) {x : W3} : x ∈ ways3 L n d ↔ d x.1 ((x.2.1 : Int) + 1) = some x.2.2 := by
  unfold ways3
  rw [List.mem_flatMap]
  constructor
  · rintro ⟨a, _, h⟩
    exact ((mem_wayL G).mp h).2
  · intro h
    exact ⟨x.1, List.mem_range.mpr (G.dom _ _ _ h).1, (mem_wayL G).mpr ⟨rfl, h⟩⟩
theorem ways_bd {L n : Nat} {d : Gm} (G : Gr L n d) {x : W3} (h : x ∈ ways3 L n d) : x.1 < n ∧ x.2.1 < L ∧ x.2.2 < n := by
  have := G.dom _ _ _ ((mem_ways G).mp h)
  have m := Od.mem_steps.mp this.2.2
  omega
def key (x : W3) : Nat := (x.1 * 4096 + (x.2.1 + 1)) * 4096 + x.2.2
theorem ways_lt {L n : Nat} {d : Gm} (G : Gr L n d) (l4 : L ≤ 4) (hn : n ≤ 1000) : (ways3 L n d).Pairwise fun x y => key x < key y := by
  unfold ways3
  rw [List.pairwise_flatMap]
  refine ⟨fun a ha => ?_, ?_⟩
  · unfold wayL
    rw [List.pairwise_filterMap]
    refine List.Pairwise.imp ?_ (List.pairwise_lt_range (n := L))
    intro l l2 lt x hx y hy
    obtain ⟨b, h1, rfl⟩ := Option.map_eq_some_iff.mp hx
    obtain ⟨b2, h2, rfl⟩ := Option.map_eq_some_iff.mp hy
    have := (G.dom _ _ _ h1).2.1
    have := (G.dom _ _ _ h2).2.1
    unfold key
    simp only
    omega
  · refine List.Pairwise.imp ?_ (List.pairwise_lt_range (n := n))
    intro a a2 lt x hx y hy
    obtain ⟨e1, h1⟩ := (mem_wayL G).mp hx
    obtain ⟨e2, h2⟩ := (mem_wayL G).mp hy
    have b1 := G.dom _ _ _ h1
    have b2 := G.dom _ _ _ h2
    have m1 := Od.mem_steps.mp b1.2.2
    have m2 := Od.mem_steps.mp b2.2.2
    unfold key
    omega
theorem key_inj {x y : W3} (h1 : x.2.1 < 4 ∧ x.2.2 < 1000) (h2 : y.2.1 < 4 ∧ y.2.2 < 1000) (h : key x = key y) : x = y := by
  obtain ⟨a, l, b⟩ := x
  obtain ⟨a2, l2, b2⟩ := y
  unfold key at h
  simp only at h h1 h2
  have e1 : a = a2 := by omega
  have e2 : l = l2 := by omega
  have e3 : b = b2 := by omega
  rw [e1, e2, e3]
theorem sorted_same {α : Type} (key : α → Nat) : ∀ (xs ys : List α), (xs.Pairwise fun x y => key x < key y) → (ys.Pairwise fun x y => key x < key y) → (∀ z, z ∈ xs ↔ z ∈ ys) → xs = ys
  | [], [], _, _, _ => rfl
  | [], y :: ys, _, _, h => by have := (h y).mpr List.mem_cons_self; cases this
  | x :: xs, [], _, _, h => by have := (h x).mp List.mem_cons_self; cases this
  | x :: xs, y :: ys, hx, hy, h => by
    rw [List.pairwise_cons] at hx hy
    have e : x = y := by
      rcases List.mem_cons.mp ((h x).mp List.mem_cons_self) with e | m
      · exact e
      · rcases List.mem_cons.mp ((h y).mpr List.mem_cons_self) with e | m2
        · exact e.symm
        · have := hx.1 y m2
          have := hy.1 x m
          omega
    subst e
    rw [sorted_same key xs ys hx.2 hy.2 fun z => ?_]
    constructor
    · intro hz
      rcases List.mem_cons.mp ((h z).mp (List.mem_cons_of_mem _ hz)) with e | m
      · subst e
        exact absurd (hx.1 z hz) (Nat.lt_irrefl _)
      · exact m
    · intro hz
      rcases List.mem_cons.mp ((h z).mpr (List.mem_cons_of_mem _ hz)) with e | m
      · subst e
        exact absurd (hy.1 z hz) (Nat.lt_irrefl _)
      · exact m
/-! ### the tree -/
def isT (L n : Nat) (d : Gm) (x : W3) : Bool := decide (fw L n d x.2.2 = fw L n d x.1 ++ [(x.2.1 : Int) + 1]) || decide (fw L n d x.1 = fw L n d x.2.2 ++ [-((x.2.1 : Int) + 1)])
def treeT (L n : Nat) (d : Gm) : List W3 := (ways3 L n d).filter (isT L n d)
def restT (L n : Nat) (d : Gm) : List W3 := (ways3 L n d).filter fun x => !isT L n d x
def tw (L n : Nat) (d : Gm) (g : Nat) : W3 := match (bfs L n d 0)[g]? with
  | some (_, some (r, s)) => if 0 < s then (r, (s - 1).toNat, g) else (g, (-s - 1).toNat, r)
  | _ => (0, 0, 0)
theorem tw_eq {L n : Nat} {d : Gm} {g r : Nat} {s : Int} (h : (bfs L n d 0)[g]? = some (g, some (r, s))) : tw L n d g = if 0 < s then (r, (s - 1).toNat, g) else (g, (-s - 1).toNat, r) := by
  unfold tw
  rw [h]
theorem fw_inj {L n : Nat} {d : Gm} (W : Web L n d) {a b : Nat} (ha : a < n) (hb : b < n) (h : fw L n d a = fw L n d b) : a = b := by
  have h1 := (fw_go W a ha).1
  rw [h, (fw_go W b hb).1] at h1
  exact (Option.some.inj h1).symm
theorem tw_mem {L n : Nat} {d : Gm} (W : Web L n d) {g : Nat} (h0 : 0 < g) (hg : g < n) : tw L n d g ∈ treeT L n d := by
  obtain ⟨r, s, h1, h2, h3, h4⟩ := web_par W h0 hg
  have m := Od.mem_steps.mp (W.gr.dom _ _ _ h2).2.2
  rw [tw_eq h1]
  unfold treeT
  rw [List.mem_filter, mem_ways W.gr]
  by_cases c : 0 < s
  · rw [if_pos c]
    have e : (((s - 1).toNat : Nat) : Int) + 1 = s := by omega
    refine ⟨by show d r _ = some g; rw [e]; exact h2, ?_⟩
    unfold isT
    simp only
    rw [e, decide_eq_true h4]
    rfl
  · rw [if_neg c]
    have e : (((-s - 1).toNat : Nat) : Int) + 1 = -s := by omega
    refine ⟨by show d g _ = some r; rw [e]; exact W.gr.sym _ _ _ h2, ?_⟩
    unfold isT
    simp only
    rw [e, Int.neg_neg, decide_eq_true h4, Bool.or_true]
theorem tw_inj {L n : Nat} {d : Gm} (W : Web L n d) {g k : Nat} (h0 : 0 < g) (hg : g < n) (k0 : 0 < k) (hk : k < n) (h : tw L n d g = tw L n d k) : g = k := by
  obtain ⟨r, s, h1, h2, h3, h4⟩ := web_par W h0 hg
  obtain ⟨r2, s2, k1, k2, k3, k4⟩ := web_par W k0 hk
  rw [tw_eq h1, tw_eq k1] at h
  by_cases c : 0 < s <;> by_cases c2 : 0 < s2
  · rw [if_pos c, if_pos c2] at h
    exact (Prod.mk.inj (Prod.mk.inj h).2).2
  · rw [if_pos c, if_neg c2] at h
    have e1 := (Prod.mk.inj h).1
    have e2 := (Prod.mk.inj (Prod.mk.inj h).2).2
    omega
  · rw [if_neg c, if_pos c2] at h
    have e1 := (Prod.mk.inj h).1
    have e2 := (Prod.mk.inj (Prod.mk.inj h).2).2
    omega
  · rw [if_neg c, if_neg c2] at h
    exact (Prod.mk.inj h).1
theorem tw_all {L n : Nat} {d : Gm} (W : Web L n d) {x : W3} (hx : x ∈ treeT L n d) : ∃ g, 0 < g ∧ g < n ∧ tw L n d g = x := by
  unfold treeT at hx
  rw [List.mem_filter] at hx
  obtain ⟨hw, ht⟩ := hx
  have bd := ways_bd W.gr hw
  obtain ⟨a, l, b⟩ := x
  unfold isT at ht
  simp only at ht bd
  rw [Bool.or_eq_true, decide_eq_true_iff, decide_eq_true_iff] at ht
  have last : ∀ {u v : List Int} {s t : Int}, u ++ [s] = v ++ [t] → u = v ∧ s = t := fun h => by
    obtain ⟨h1, h2⟩ := List.append_inj' h rfl
    exact ⟨h1, (List.cons.inj h2).1⟩
  rcases ht with h | h
  · have b0 : 0 < b := by
      rcases Nat.eq_zero_or_pos b with z | z
      · rw [z, fw_zero W] at h
        have := congrArg List.length h
        rw [List.length_append] at this
        simp at this
      · exact z
    obtain ⟨r, s, h1, h2, h3, h4⟩ := web_par W b0 bd.2.2
    rw [h4] at h
    obtain ⟨e1, e2⟩ := last h
    have e3 := fw_inj W (by omega) bd.1 e1
    refine ⟨b, b0, bd.2.2, ?_⟩
    rw [tw_eq h1, if_pos (by omega), e3, e2, show ((l : Int) + 1 - 1).toNat = l by omega]
  · have a0 : 0 < a := by
      rcases Nat.eq_zero_or_pos a with z | z
      · rw [z, fw_zero W] at h
        have := congrArg List.length h
        rw [List.length_append] at this
        simp at this
      · exact z
    obtain ⟨r, s, h1, h2, h3, h4⟩ := web_par W a0 bd.1
    rw [h4] at h
    obtain ⟨e1, e2⟩ := last h
    have e3 := fw_inj W (by omega) bd.2.2 e1
    refine ⟨a, a0, bd.1, ?_⟩
    rw [tw_eq h1, if_neg (by omega), e3, e2, show (-(-((l : Int) + 1)) - 1).toNat = l by omega]
/-- the tree, as the rooms tell it -/
def treeU (L n : Nat) (d : Gm) : List W3 := (List.range (n - 1)).map fun i => tw L n d (1 + i)
theorem treeU_nodup {L n : Nat} {d : Gm} (W : Web L n d) : (treeU L n d).Nodup := by
  unfold treeU
  rw [List.Nodup, List.pairwise_map]
  have nd : (List.range (n - 1)).Nodup := List.nodup_range
  refine (List.Pairwise.and_mem.mp nd).imp fun {i j} ⟨hi, hj, ne⟩ e => ?_
  have hi := List.mem_range.mp hi
  have hj := List.mem_range.mp hj
  have := tw_inj W (by omega) (by omega) (by omega) (by omega) e
  omega
theorem mem_treeU {L n : Nat} {d : Gm} (W : Web L n d) {x : W3} : x ∈ treeU L n d ↔ x ∈ treeT L n d := by
  unfold treeU
  rw [List.mem_map]
  constructor
  · rintro ⟨i, hi, rfl⟩
    have := List.mem_range.mp hi
    exact tw_mem W (by omega) (by omega)
  · intro h
    obtain ⟨g, h1, h2, h3⟩ := tw_all W h
    exact ⟨g - 1, List.mem_range.mpr (by omega), by rw [show 1 + (g - 1) = g by omega]; exact h3⟩
theorem tree_same {L n : Nat} {d : Gm} (W : Web L n d) (hn : n ≤ 1000) {us : List W3} (hp : us.Perm (treeU L n d)) (hs : us.Pairwise fun x y => key x ≤ key y) : us = treeT L n d := by
  have l4 := W.l4
  have mem : ∀ z, z ∈ us ↔ z ∈ treeT L n d := fun z => by rw [hp.mem_iff, mem_treeU W]
  have nd : us.Nodup := (hp.nodup_iff).mpr (treeU_nodup W)
  have bd : ∀ z ∈ us, z.2.1 < 4 ∧ z.2.2 < 1000 := fun z hz => by
    have := ways_bd W.gr (List.mem_filter.mp ((mem z).mp hz)).1
    omega
  refine sorted_same key us (treeT L n d) ?_ ((ways_lt W.gr l4 hn).filter _) mem
  have both := List.Pairwise.and hs nd
  refine (List.Pairwise.and_mem.mp both).imp fun {x y} ⟨hx, hy, h, ne⟩ => ?_
  rcases Nat.lt_or_ge (key x) (key y) with lt | ge
  · exact lt
  · exact absurd (key_inj (bd x hx) (bd y hy) (Nat.le_antisymm h ge)) ne
theorem treeT_len {L n : Nat} {d : Gm} (W : Web L n d) : (treeT L n d).length = n - 1 := by
  have l4 := W.l4
  have h : (treeU L n d).length = n - 1 := by unfold treeU; rw [List.length_map, List.length_range]
  rw [← h]
  have nd2 : (treeT L n d).Nodup := by
    unfold treeT
    refine List.Pairwise.filter _ ?_
    unfold ways3
    rw [List.pairwise_flatMap]
    refine ⟨fun a ha => ?_, ?_⟩
    · unfold wayL
      rw [List.pairwise_filterMap]
      refine List.Pairwise.imp ?_ (List.pairwise_lt_range (n := L))
      intro l l2 lt x hx y hy e
      obtain ⟨b, h1, rfl⟩ := Option.map_eq_some_iff.mp hx
      obtain ⟨b2, h2, rfl⟩ := Option.map_eq_some_iff.mp hy
      have := (Prod.mk.inj (Prod.mk.inj e).2).1
      omega
    · refine List.Pairwise.imp ?_ (List.pairwise_lt_range (n := n))
      intro a a2 lt x hx y hy e
      obtain ⟨e1, h1⟩ := (mem_wayL W.gr).mp hx
      obtain ⟨e2, h2⟩ := (mem_wayL W.gr).mp hy
      rw [e] at e1
      omega
  have p1 := (treeU_nodup W)
  exact Nat.le_antisymm (List.Nodup.length_le_of_subset nd2 fun z hz => (mem_treeU W).mpr hz) (List.Nodup.length_le_of_subset p1 fun z hz => (mem_treeU W).mp hz)
/-! ### what the others tell -/
def word (L n : Nat) (d : Gm) (x : W3) : List Int := fw L n d x.1 ++ [(x.2.1 : Int) + 1] ++ Fg.bk (fw L n d x.2.2)
def basisW (L n : Nat) (d : Gm) : List (List Int) := (restT L n d).map (word L n d)
theorem last_par {L n : Nat} {d : Gm} (W : Web L n d) {a : Nat} {s : Int} (ha : a < n) (h : (fw L n d a).getLast? = some s) : ∃ r, r < n ∧ d r s = some a ∧ fw L n d a = fw L n d r ++ [s] := by
  have a0 : 0 < a := by
    rcases Nat.eq_zero_or_pos a with z | z
    · rw [z, fw_zero W] at h
      cases h
    · exact z
  obtain ⟨r, t, h1, h2, h3, h4⟩ := web_par W a0 ha
  rw [h4, List.getLast?_append] at h
  have e : t = s := by simpa using h
  subst e
  exact ⟨r, by omega, h2, h4⟩
theorem word_str {L n : Nat} {d : Gm} (W : Web L n d) {x : W3} (hx : x ∈ restT L n d) : Fg.Str (word L n d x) := by
  unfold restT at hx
  rw [List.mem_filter] at hx
  obtain ⟨hw, ht⟩ := hx
  have bd := ways_bd W.gr hw
  have hd := (mem_ways W.gr).mp hw
  unfold isT at ht
  rw [Bool.not_eq_true', Bool.or_eq_false_iff, decide_eq_false_iff_not, decide_eq_false_iff_not] at ht
  obtain ⟨t1, t2⟩ := ht
  unfold word
  obtain ⟨a, l, b⟩ := x
  simp only at bd hd t1 t2 ⊢
  have sa := (Od.of_G (fw_go W a bd.1).2.1).2
  have sb := (Od.of_G (fw_go W b bd.2.2).2.1).2
  refine Fg.str_app (Fg.str_snoc sa fun z => ?_) (Fg.str_bk sb) fun x y hx hy => ?_
  · obtain ⟨r, h1, h2, h3⟩ := last_par W bd.1 z
    have e := W.gr.sym _ _ _ h2
    rw [Int.neg_neg, hd] at e
    cases e
    exact t2 h3
  · rw [List.getLast?_append] at hx
    have ex : x = (l : Int) + 1 := by simpa using hx.symm
    intro ey
    have hl : (fw L n d b).getLast? = some ((l : Int) + 1) := by
      unfold Fg.bk at hy
      rw [List.head?_reverse, List.getLast?_map] at hy
      obtain ⟨z, h1, h2⟩ := Option.map_eq_some_iff.mp hy
      rw [h1]
      congr 1
      omega
    obtain ⟨r, h1, h2, h3⟩ := last_par W bd.2.2 hl
    have e := W.gr.sym _ _ _ h2
    have e2 := W.gr.sym _ _ _ hd
    rw [e] at e2
    cases e2
    exact t1 h3
theorem wayL_succ (j : Nat) (d : Gm) (a : Nat) : wayL (j + 1) d a = wayL j d a ++ (match d a ((j : Int) + 1) with | some b => [(a, j, b)] | none => []) := by
  unfold wayL
  rw [List.range_succ, List.filterMap_append]
  congr 1
  cases h : d a ((j : Int) + 1) with
  | none => rw [List.filterMap_cons_none (by rw [h]; rfl)]; rfl
  | some b => rw [List.filterMap_cons_some (by rw [h]; rfl)]; rfl
theorem wayL_len (j : Nat) (d : Gm) (a : Nat) : (wayL j d a).length ≤ j := by
  unfold wayL
  exact Nat.le_trans (List.length_filterMap_le _ _) (by rw [List.length_range]; exact Nat.le_refl _)
theorem ways_take (L : Nat) (d : Gm) (i : Nat) : (List.range (i + 1)).flatMap (wayL L d) = (List.range i).flatMap (wayL L d) ++ wayL L d i := by
  rw [List.range_succ, List.flatMap_append]
  simp
theorem ways_len (L : Nat) (d : Gm) : ∀ i, ((List.range i).flatMap (wayL L d)).length ≤ i * L
  | 0 => by simp
  | i + 1 => by
    rw [ways_take, List.length_append, Nat.succ_mul]
    have := ways_len L d i
    have := wayL_len L d i
    omega
end Wb
/-! {t: v for ..} with tuples for keys; ways as triples; sorted triples -/
namespace L2
open PySem PySem.Spec PyProof.Rows Evl
/-- a dict with tuples for keys takes one more -/
theorem set_T {X : Cx} {pins : List (Addr × Obj)} {σ : L2.St} {H : Hp} {s : Shared} {E : Value → Shared → Prop} {Q : Unit → Shared → Prop} {D b : Addr} {kvs : List (List Key × V)} {k : List Key} {z : V} {r : Value} (hu : X.A.units + 1 < cLine) (I : Inv X pins σ H s)
    (hD : H D = some (.dT kvs)) (hb : H b = some (.tup (k.map kV))) (hz : kvs.length < sizeLine) (rz : RelV z r) (h : ∀ s', Inv X pins σ (upd H D (.dT (putK kvs k z))) s' → Q () s') : wpAny (model X.prog X.w) X.A (dictSet D (.ref b) r) Q E s := by
  obtain ⟨z1, nm, xs, rel, dd⟩ := dt_of I.hok hD
  have fits : xs.length ≤ sizeLine := Paired.length rel ▸ z1
  have fits2 : (putK kvs k z).length ≤ sizeLine := Nat.le_trans (length_putK kvs k z) hz
  refine wpAny_dictSet_heap (hsz := fits) (knd := tupleKind (mixKind X.prog X.w)) (Nat.lt_of_succ_lt hu) (key_of I.hok hb) dd fun h1 d1 same => h _ ?_
  have ⟨o, es, ep, q1, q2, q3, q4, _, q5⟩ := d1
  refine d_write I (by rw [hD]; exact True.intro) same ⟨o, q1⟩ ⟨fits2, nm, _, (rel.put k hb rz).keeps fun c ys ec => ?_, o, es, ep, q1, q2, q3, q4, q5⟩
  exact (upd_ne (ne_of ec hD nofun)).trans ec
/-- how a turn of such a block ends -/
def EndT (D : Addr) (tk tv : TE) (Nx : Hp → Prop) : Bool → L2.St → Hp → Prop := fun b σ H =>
  if b = true then tk σ H fun y H1 => tv σ H1 fun z H2 => ∃ kvs k a, y = .ref a ∧ H2 a = some (.tup (k.map kV)) ∧ H2 D = some (.dT kvs) ∧ kvs.length < sizeLine ∧ Nx (upd H2 D (.dT (putK kvs k z))) else Nx H
def tDcT (wi : TI) (g : TG) (tt : TT) (tk tv : TE) (vs : List Nat) : TE := fun σ H Q => wi σ H fun J H1 => ∀ D, H1 D = none → ∃ W : Nat → Nat → Hp → Prop, (∃ m, W 0 m (upd H1 D (.dT []))) ∧ ∀ i m H', W i m H' →
  (J.stop i H' ∧ Q (.ref D) H') ∨ (J.go i H' ∧ ∀ x H2, J.yld i H' x H2 → g x (wipe σ vs) H2 fun σ2 H3 => wipe σ2 vs = wipe σ vs ∧ tt σ2 H3 fun b H4 => EndT D tk tv (fun H5 => ∃ m', m' < m ∧ W (i + 1) m' H5) b σ2 H4)
theorem pe_dcT {X : Cx} {kx vx tg iter : Expr} {ifs : List Expr} {scope : Scope} {own : List (Str × Nat)} {pos : Pos} {wi : TI} {g : TG} {tt : TT} {tk tv : TE} (hu : X.A.units + 1 < cLine) (hc : X.calm = true) (hN : X.N.Nodup) (hi : PI X tg iter wi) (ok : BlkOk X.N X.env.scope scope own)
    (hg : ∀ (s : Shared) (H : Hp) (C : Addr) (cl : List (Str × Addr)) (fp : List Addr), PG (X.blk s H scope (compEnvC scope cl C X.env) fp) tg g) (ht : ∀ (s : Shared) (H : Hp) (C : Addr) (cl : List (Str × Addr)) (fp : List Addr), PTs (X.blk s H scope (compEnvC scope cl C X.env) fp) ifs tt)
    (hk : ∀ (s : Shared) (H : Hp) (C : Addr) (cl : List (Str × Addr)) (fp : List Addr), PE (X.blk s H scope (compEnvC scope cl C X.env) fp) kx tk)
    (he : ∀ (s : Shared) (H : Hp) (C : Addr) (cl : List (Str × Addr)) (fp : List Addr), PE (X.blk s H scope (compEnvC scope cl C X.env) fp) vx tv) (hs : ∀ x, foldedSetIterable iter X.env x = pure x := by intro _; rfl) :
    PE X (.DictComp kx vx [⟨tg, iter, ifs, 0⟩] scope pos) (tDcT wi g tt tk tv (own.map (·.2))) := by
  refine ⟨fun pins s σ H Q I h => ?_⟩
  rw [arm_eval_DictComp]
  have cells : ∀ y ∈ scope.names, y.2 = .free → ∃ c, X.env.cells.lookup y.1 = some c := fun y hy e => I.ok.has _ (ok.free y hy e)
  refine wpAny_comprehension_free (use := none) rfl hs (closure_ok cells) ok.kind (fun y hy e => by rw [ok.uniq y hy, e]) (thn (hi.run pins s σ H _ I h) fun _ _ walked => thn walked fun _ s1 at1 => ?_)
  obtain ⟨it, fp, tn, J, H1, rfl, I1, T, here1, free1, q⟩ := at1
  refine wpAny_newObj_type (newEnv_comp ?_)
  -- the dict stands at the heap's end
  obtain ⟨D, hD⟩ : ∃ D, s1.heap.objs.size = D := ⟨_, rfl⟩
  rw [hD]
  obtain ⟨W, ⟨m0, w0⟩, turn⟩ := q D (I1.hok.fresh (Nat.le_of_eq hD))
  obtain ⟨s2, hs2⟩ : ∃ s2 : Shared, ({ s1 with heap := s1.heap.push { cls := .type "dict", data := .dict #[] } } : Shared) = s2 := ⟨_, rfl⟩
  have heap2 : s2.heap = s1.heap.push { cls := .type "dict", data := .dict #[] } := hs2 ▸ rfl
  have I2 : Inv X pins σ (upd H1 D (.dT [])) s2 := by
    rw [← hs2]
    exact I1.laid (t' := s1.toks) (fun b o e => Heap.get?_push_of_some _ e) (Nat.le_of_eq hD) (hD ▸ dt_empty s1.heap I1.big)
  have foot : ∀ b ∈ fp, FpOk X pins (upd H1 D (.dT [])) b ∧ b < s2.heap.objs.size := fun b hb => by
    obtain ⟨o, e, _⟩ := T.obj _ _ here1 b hb
    have lt := Heap.lt_size e
    have ne : b ≠ D := hD ▸ Nat.ne_of_lt lt
    exact ⟨⟨(upd_ne ne).trans (free1 b hb).1, (free1 b hb).2⟩, by rw [heap2, Heap.size_push]; exact Nat.lt_succ_of_lt lt⟩
  have here2 : tn 0 s2.heap := T.keep _ _ _ here1 fun b _ o e => heap2 ▸ Heap.get?_push_of_some _ e
  have J3 := block_start I2 ok hN foot
  have pg := hg s2 (upd H1 D (.dT [])) s2.heap.objs.size (cellsFrom (s2.heap.objs.size + 1) scope.names (cloFrom X.env.cells scope.names [])) fp
  have pt := ht s2 (upd H1 D (.dT [])) s2.heap.objs.size (cellsFrom (s2.heap.objs.size + 1) scope.names (cloFrom X.env.cells scope.names [])) fp
  have pk := hk s2 (upd H1 D (.dT [])) s2.heap.objs.size (cellsFrom (s2.heap.objs.size + 1) scope.names (cloFrom X.env.cells scope.names [])) fp
  have pv := he s2 (upd H1 D (.dT [])) s2.heap.objs.size (cellsFrom (s2.heap.objs.size + 1) scope.names (cloFrom X.env.cells scope.names [])) fp
  rw [hs2]
  show codeAny _ _ (.compStart (.DictComp kx vx [⟨tg, iter, ifs, 0⟩] scope pos) 0 (.ref it) (.ref D) (compEnvC scope (cellsFrom (s2.heap.objs.size + 1) scope.names (cloFrom X.env.cells scope.names [])) s2.heap.objs.size X.env)) (compPost (model X.prog X.w) X.A X.xe none _ (.ref D) s2.heap.objs.size) { s2 with heap := pushCells (s2.heap.push { cls := .type "dict", data := .dict #[] }) scope.names }
  obtain ⟨ce, hce⟩ : ∃ ce, compEnvC scope (cellsFrom (s2.heap.objs.size + 1) scope.names (cloFrom X.env.cells scope.names [])) s2.heap.objs.size X.env = ce := ⟨_, rfl⟩
  have loc : ce.locals = s2.heap.objs.size := hce ▸ rfl
  rw [hce] at J3 pg pt pk pv
  rw [hce]
  obtain ⟨H2, hH2⟩ : ∃ H2, upd H1 D (.dT []) = H2 := ⟨_, rfl⟩
  rw [hH2] at I2 J3 pg pt pk pv w0 foot
  obtain ⟨s3, hs3⟩ : ∃ s3 : Shared, ({ s2 with heap := pushCells (s2.heap.push { cls := .type "dict", data := .dict #[] }) scope.names } : Shared) = s3 := ⟨_, rfl⟩
  rw [hs3] at J3
  rw [hs3]
  have here3 : tn 0 s3.heap := T.keep _ _ _ here2 fun b _ o e => hs3 ▸ pushCells_keeps _ _ _ _ (Heap.get?_push_of_some _ e)
  -- what holds ahead of each turn
  let At : Nat → Shared → Prop := fun n s' => ∃ i H', Inv (X.blk s2 H2 scope ce fp) [] (wipe σ (own.map (·.2))) H' s' ∧ tn i s'.heap ∧ (∀ b ∈ fp, H' b = none) ∧ W i n H'
  have still : ∀ {σ' : L2.St} {H' : Hp} {s' : Shared}, Inv (X.blk s2 H2 scope ce fp) [] σ' H' s' → (∀ b ∈ fp, H' b = none) → ∀ b ∈ fp, FpOk (X.blk s2 H2 scope ce fp) [] H' b := fun I' none' b hb =>
    ⟨none' b hb, (I'.ok.exf b hb).1, I'.ok.exfs b hb, .inl hb, fun x c e => (I'.ok.exf b hb).2 x c e, fun p hp => absurd (show p ∈ ([] : List (Addr × Obj)) ++ [] from hp) (by simp)⟩
  refine codeAny_compStart_dict (?_ : codeAny (model X.prog X.w) X.A (.compLoop (.DictComp kx vx [⟨tg, iter, ifs, 0⟩] scope pos) 0 (.ref it) (.ref D) ce) _ s3) (T.self X.A 0 _ _ _ here3 ?_)
  all_goals
    refine compLoop_anyD At ?_ m0 ⟨0, H2, J3, here3, fun b hb => (foot b hb).1.1, w0⟩
    rintro n s4 ⟨i, H4, I4, here4, none4, w4⟩
    rcases turn i n H4 w4 with ⟨over, done⟩ | ⟨more, step⟩
    · refine thnF (T.done (X.blk s2 H2 scope ce fp) rfl rfl rfl hc i [] s4 _ H4 (fun _ _ => False) I4 (still I4 none4) here4 over) fun r s5 ⟨er, I5⟩ => ?_
      subst er
      -- out of the block
      have I6 : Inv X pins σ H4 s5 := I2.call' (ch := fp) I5.os I5.base I5.hok I5.bare fun b hb => ⟨(foot b hb).1.2.2.2.1, (foot b hb).1.2.1, (foot b hb).1.2.2.2.2.1, (foot b hb).1.2.2.2.2.2⟩
      have gone : H4 s2.heap.objs.size = none := loc ▸ (show H4 ce.locals = none from I5.free)
      obtain ⟨m, ns, _⟩ := I5.loc
      have ns : s5.heap.Ns ce.locals m := ns
      rw [loc] at ns
      refine ⟨m, ns, fun h2 but => ?_⟩
      obtain ⟨g0, g1, g2, g3, g4, g5⟩ := I2.fpOk (Nat.le_refl _) gone
      exact ⟨.ref D, H4, I6.turned (t' := s5.toks) (fun b o hb e => (but.2 b hb).trans e) g0 g1 g3 g4 g5, rfl, done⟩
    · refine thnF (T.item (X.blk s2 H2 scope ce fp) rfl rfl rfl hc i [] s4 _ H4 (fun _ _ => False) I4 (still I4 none4) here4 more) fun r s5 ⟨u, er, at5⟩ => ?_
      subst er
      refine thnF at5 fun _ s6 ⟨x, H6, I6, rx, yx, here6, none6⟩ => ?_
      have pinned := I6.pinned (still I6 none6) (T.obj _ _ here6)
      refine thnF (pg.run _ s6 _ H6 x u _ pinned rx (step x H6 yx)) fun _ s7 ⟨σ7, H7, I7, wiped, q7⟩ => ?_
      refine thnF (pt.run _ s7 σ7 H7 _ I7 q7) fun b s8 ⟨H8, I8, q8⟩ => ?_
      have next : ∀ {s' : Shared} {H' : Hp}, Inv (X.blk s2 H2 scope ce fp) ([] ++ pinsAt fp s6.heap) σ7 H' s' → (∃ m', m' < n ∧ W (i + 1) m' H') → ∃ m, m < n ∧ At m s' := fun {s' H'} I' nx => by
        obtain ⟨m', lt, w'⟩ := nx
        have stays : ∀ b ∈ fp, ∀ o, s6.heap.get? b = some o → s'.heap.get? b = some o ∧ H' b = none := fun b hb o e =>
          have p := I'.pin (b, o) (List.mem_append_right _ (List.mem_append_right _ (mem_pinsAt hb e)))
          ⟨p.1, p.2.1⟩
        refine ⟨m', lt, i + 1, H', (I'.unpinned (pins := [])).weak (by rw [← wiped, wipe_length]) fun j v e => ?_, T.keep _ _ _ here6 fun b hb o e => (stays b hb o e).1, fun b hb => ?_, w'⟩
        · rw [← wiped] at e
          exact (wipe_some e).1
        · obtain ⟨o, e, _⟩ := T.obj _ _ here6 b hb
          exact (stays b hb o e).2
      unfold EndT at q8
      cases b with
      | false => exact next I8 (by simpa using q8)
      | true =>
        rw [if_pos rfl] at q8 ⊢
        refine thnF (pk.run _ s8 σ7 H8 _ I8 q8) fun ku s9 ⟨y, H9, I9, ry, q9⟩ => ?_
        refine thnF (pv.run _ s9 σ7 H9 _ I9 q9) fun zu s10 ⟨z, H10, I10, rz, kvs, k, a, ey, ha, hDT, fits, nx⟩ => ?_
        subst ey
        obtain rfl : ku = Value.ref a := ry
        exact set_T (X := X.blk s2 H2 scope ce fp) hu I10 hDT ha fits rz fun s11 I11 => next I11 nx
/-! ### tuples of ints that stand in the heap -/
structure TpA (H : Hp) (xs : List V) (ws : List (List Int)) : Prop where
  len : xs.length = ws.length
  at' : ∀ (i : Nat) x w, xs[i]? = some x → ws[i]? = some w → ∃ a, x = .ref a ∧ H a = some (.tup (w.map V.int))
theorem TpA.nil {H : Hp} : TpA H [] [] := ⟨rfl, fun i x w h => by simp at h⟩
theorem TpA.tx {H H1 : Hp} {xs : List V} {ws : List (List Int)} (h : TpA H xs ws) (e : TX H H1) : TpA H1 xs ws := ⟨h.len, fun i x w h1 h2 => by
  obtain ⟨a, q1, q2⟩ := h.at' i x w h1 h2
  exact ⟨a, q1, (e a _ (.inl q2)).trans q2⟩⟩
theorem TpA.ex {H H1 : Hp} {xs : List V} {ws : List (List Int)} (h : TpA H xs ws) (e : Ex H H1) : TpA H1 xs ws := h.tx (.of e)
theorem TpA.wk {K : PySem.W.Frag} {H : Hp} {xs : List V} {ws : List (List Int)} (h : TpA H xs ws) : WkA K H xs ws := ⟨h.len, fun i x w h1 h2 => by
  obtain ⟨a, q1, q2⟩ := h.at' i x w h1 h2
  exact ⟨a, q1, t_of q2⟩⟩
theorem TpA.snoc {H : Hp} {xs : List V} {ws : List (List Int)} {a : Addr} {w : List Int} (h : TpA H xs ws) (hx : H a = some (.tup (w.map V.int))) : TpA H (xs ++ [.ref a]) (ws ++ [w]) := by
  refine ⟨by rw [List.length_append, List.length_append, h.len]; rfl, fun i y u h1 h2 => ?_⟩
  rcases Nat.lt_or_ge i xs.length with lt | ge
  · rw [List.getElem?_append_left lt] at h1
    rw [List.getElem?_append_left (h.len ▸ lt)] at h2
    exact h.at' i y u h1 h2
  · rw [List.getElem?_append_right ge] at h1
    rw [List.getElem?_append_right (h.len ▸ ge), ← h.len] at h2
    cases z : i - xs.length with
    | zero =>
      rw [z] at h1 h2
      cases h1
      cases h2
      exact ⟨a, rfl, hx⟩
    | succ k => rw [z] at h1; simp at h1
theorem TpA.app {H : Hp} {xs ys : List V} {ws us : List (List Int)} (h : TpA H xs ws) (k : TpA H ys us) : TpA H (xs ++ ys) (ws ++ us) := by
  refine ⟨by rw [List.length_append, List.length_append, h.len, k.len], fun i y w h1 h2 => ?_⟩
  rcases Nat.lt_or_ge i xs.length with lt | ge
  · rw [List.getElem?_append_left lt] at h1
    rw [List.getElem?_append_left (h.len ▸ lt)] at h2
    exact h.at' i y w h1 h2
  · rw [List.getElem?_append_right ge] at h1
    rw [List.getElem?_append_right (h.len ▸ ge), ← h.len] at h2
    exact k.at' _ y w h1 h2
theorem TpA.get {H : Hp} {xs : List V} {ws : List (List Int)} (h : TpA H xs ws) {i : Nat} {x : V} (hx : xs[i]? = some x) : ∃ w a, ws[i]? = some w ∧ x = .ref a ∧ H a = some (.tup (w.map V.int)) := by
  have hi := (List.getElem?_eq_some_iff.mp hx).1
  rw [h.len] at hi
  obtain ⟨a, q⟩ := h.at' i x _ hx (List.getElem?_eq_getElem hi)
  exact ⟨_, a, List.getElem?_eq_getElem hi, q⟩
theorem TpA.tail {H : Hp} {x : V} {xs : List V} {w : List Int} {ws : List (List Int)} (h : TpA H (x :: xs) (w :: ws)) : (∃ a, x = .ref a ∧ H a = some (.tup (w.map V.int))) ∧ TpA H xs ws :=
  ⟨h.at' 0 x w rfl rfl, by simpa using h.len, fun i y u h1 h2 => h.at' (i + 1) y u h1 h2⟩
theorem TpA.cons {H : Hp} {x : V} {xs : List V} {w : List Int} {ws : List (List Int)} (hx : ∃ a, x = .ref a ∧ H a = some (.tup (w.map V.int))) (h : TpA H xs ws) : TpA H (x :: xs) (w :: ws) := by
  refine ⟨by rw [List.length_cons, List.length_cons, h.len], fun i y u h1 h2 => ?_⟩
  cases i with
  | zero => cases h1; cases h2; exact hx
  | succ i => exact h.at' i y u h1 h2
/-- the same tuples in another sequence -/
theorem TpA.perm {H : Hp} {xs ys : List V} (p : ys.Perm xs) : ∀ {ws : List (List Int)}, TpA H ys ws → ∃ us, us.Perm ws ∧ TpA H xs us := by
  induction p with
  | nil => intro ws h; exact ⟨ws, List.Perm.refl _, h⟩
  | cons x p ih =>
    intro ws h
    cases ws with
    | nil => have := h.len; simp at this
    | cons w ws =>
      obtain ⟨h1, h2⟩ := h.tail
      obtain ⟨us, q1, q2⟩ := ih h2
      exact ⟨w :: us, q1.cons w, .cons h1 q2⟩
  | swap x y l =>
    intro ws h
    cases ws with
    | nil => have := h.len; simp at this
    | cons w ws =>
      obtain ⟨h1, h2⟩ := h.tail
      cases ws with
      | nil => have := h2.len; simp at this
      | cons w2 ws =>
        obtain ⟨h3, h4⟩ := h2.tail
        exact ⟨w2 :: w :: ws, List.Perm.swap _ _ _, .cons h3 (.cons h1 h4)⟩
  | trans p1 p2 i1 i2 =>
    intro ws h
    obtain ⟨us, q1, q2⟩ := i1 h
    obtain ⟨ts, q3, q4⟩ := i2 q2
    exact ⟨ts, q3.trans q1, q4⟩
/-- what is sorted of ways -/
def untri (ns : List Int) : Wb.W3 := match ns with
  | [a, s, b] => (a.toNat, (s - 1).toNat, b.toNat)
  | _ => (0, 0, 0)
theorem untri_tri (x : Wb.W3) : untri (Wb.tri x) = x := by
  obtain ⟨a, l, b⟩ := x
  unfold untri Wb.tri
  simp only [Int.toNat_natCast]
  rw [show ((l : Int) + 1 - 1).toNat = l by omega]
theorem map_untri (us : List Wb.W3) : (us.map Wb.tri).map untri = us := by
  rw [List.map_map]
  conv => rhs; rw [← List.map_id us]
  exact List.map_congr_left fun x _ => untri_tri x
theorem tri_bd {x : Wb.W3} (h : x.1 < 1000 ∧ x.2.1 < 4 ∧ x.2.2 < 1000) : TS.Bd 4096 (Wb.tri x) := fun m hm => by
  have e : m = (x.1 : Int) ∨ m = (x.2.1 : Int) + 1 ∨ m = (x.2.2 : Int) := by
    unfold Wb.tri at hm
    simpa using hm
  omega
theorem tri_code (x : Wb.W3) : TS.code 4096 (Wb.tri x) = (Wb.key x : Int) := by
  unfold Wb.tri Wb.key
  simp only [TS.code, List.length_cons, List.length_nil]
  omega
theorem tri_sorted {K : PySem.W.Frag} {H : Hp} {xs ys : List V} {us : List Wb.W3} (h : TpA H xs (us.map Wb.tri)) (p : ys.Perm xs) (hs : ys.Pairwise fun x y => ∀ n m, TupI K H x n → TupI K H y m → TS.code 4096 n ≤ TS.code 4096 m) :
    ∃ ts : List Wb.W3, ts.Perm us ∧ (ts.Pairwise fun x y => Wb.key x ≤ Wb.key y) ∧ TpA H ys (ts.map Wb.tri) := by
  obtain ⟨ws, q1, q2⟩ := TpA.perm p.symm h
  have e : (ws.map untri).map Wb.tri = ws := by
    rw [List.map_map]
    conv => rhs; rw [← List.map_id ws]
    refine List.map_congr_left fun w hw => ?_
    obtain ⟨x, _, rfl⟩ := List.mem_map.mp (q1.mem_iff.mp hw)
    show Wb.tri (untri (Wb.tri x)) = Wb.tri x
    rw [untri_tri]
  refine ⟨ws.map untri, ?_, ?_, by rw [e]; exact q2⟩
  · have := q1.map untri
    rwa [map_untri] at this
  · rw [List.pairwise_iff_getElem] at hs ⊢
    intro i j hi hj lt
    have li : i < ws.length := by rwa [List.length_map] at hi
    have lj : j < ws.length := by rwa [List.length_map] at hj
    have yi : i < ys.length := q2.len ▸ li
    have yj : j < ys.length := q2.len ▸ lj
    obtain ⟨a, ea, ha⟩ := q2.at' i _ _ (List.getElem?_eq_getElem yi) (List.getElem?_eq_getElem li)
    obtain ⟨b, eb, hb⟩ := q2.at' j _ _ (List.getElem?_eq_getElem yj) (List.getElem?_eq_getElem lj)
    have key : ∀ k (lk : k < ws.length), Wb.tri ((ws.map untri)[k]'(by rw [List.length_map]; exact lk)) = ws[k] := fun k lk => by
      have : ((ws.map untri).map Wb.tri)[k]? = ws[k]? := by rw [e]
      rw [List.getElem?_map, List.getElem?_eq_getElem (by rw [List.length_map]; exact lk), List.getElem?_eq_getElem lk] at this
      exact Option.some.inj this
    have := hs i j yi yj lt _ _ ⟨a, ea, t_of ha⟩ ⟨b, eb, t_of hb⟩
    rw [← key i li, ← key j lj, tri_code, tri_code] at this
    exact Int.ofNat_le.mp this
section
variable {K : PySem.W.Frag} {σ : L2.St} {H : Hp} {Q : VK} {a : Addr} {xs : List V} {vs : List Nat} {j m n o : Nat} {wi : TI} {g : TG} {tt : TT} {tk tv te : TE} {ws : List (List Int)}
def rDcT (J : It) (g : TG) (tt : TT) (tk tv : TE) (vs : List Nat) (σ : L2.St) (Q : VK) (H1 : Hp) : Prop := ∀ D, H1 D = none → ∃ W : Nat → Nat → Hp → Prop, (∃ m, W 0 m (upd H1 D (.dT []))) ∧ ∀ i m H', W i m H' →
  (J.stop i H' ∧ Q (.ref D) H') ∨ (J.go i H' ∧ ∀ x H2, J.yld i H' x H2 → g x (wipe σ vs) H2 fun σ2 H3 => wipe σ2 vs = wipe σ vs ∧ tt σ2 H3 fun b H4 => EndT D tk tv (fun H5 => ∃ m', m' < m ∧ W (i + 1) m' H5) b σ2 H4)
theorem st_dcT (h : wi σ H fun J H1 => rDcT J g tt tk tv vs σ Q H1) : tDcT wi g tt tk tv vs σ H Q := h
def tkey (w : List Int) : List Key := w.map Sum.inl
theorem tkey_inj {u w : List Int} (h : tkey u = tkey w) : u = w := (List.map_inj_right fun _ _ z => Sum.inl.inj z).mp h
theorem tkey_V (w : List Int) : (tkey w).map kV = w.map V.int := by unfold tkey; rw [List.map_map]; rfl
/-- {t: True for t in tuples} -/
theorem r_dcT (hl : H a = some (.lst xs)) (ht : TpA H xs ws) (hz : xs.length ≤ 50000) (hw : ∀ x, wipe ((wipe σ vs).set j (some x)) vs = wipe σ vs) (hj : ∀ x, ((wipe σ vs).set j (some x))[j]? = some (some x))
    (q : ∀ p H1 kvs, H p = none → Ex H H1 → H1 p = some (.dT kvs) → (∀ w : List Int, (valV kvs (tkey w)).isSome = decide (w ∈ ws)) → Q (.ref p) H1) : rDcT (Itl K a) (gName j) tYes (tVar j) (tC (.bl true)) vs σ Q H := fun D hD => by
  refine ⟨fun i d H' => d = xs.length - i ∧ i ≤ xs.length ∧ Ex H H' ∧ ∃ kvs, H' D = some (.dT kvs) ∧ kvs.length ≤ i ∧ ∀ w : List Int, (valV kvs (tkey w)).isSome = decide (w ∈ ws.take i), ⟨_, rfl, Nat.zero_le _, Ex.new hD, [], upd_same, Nat.le_refl _, fun w => rfl⟩, ?_⟩
  rintro i d H' ⟨rfl, hi, e, kvs, h1, h2, h3⟩
  have hl' : SqL K H' a xs := l_of (e _ _ hl)
  rcases Nat.lt_or_ge i xs.length with lt | ge
  · have hx := List.getElem?_eq_getElem lt
    obtain ⟨w, b, hw1, hb, hb2⟩ := ht.get hx
    refine .inr ⟨⟨_, _, hl', hx⟩, ?_⟩
    rintro y H6 ⟨rfl, hy⟩
    have hy' := hy _ hl'
    rw [hx] at hy'
    cases hy'
    refine ⟨hw _, t_yes ?_⟩
    unfold EndT
    rw [if_pos rfl]
    refine ⟨_, hj _, ?_⟩
    refine ⟨kvs, tkey w, b, hb, by rw [tkey_V]; exact e _ _ hb2, h1, sz_lt (by omega), _, by omega, rfl, lt, Ex.mut e hD, _, upd_same, ?_, fun u => ?_⟩
    · exact Nat.le_trans (length_putK kvs _ _) (by omega)
    · rw [valV_put, L2.take_snoc hw1]
      by_cases c : u = w
      · subst c
        rw [if_pos rfl]
        simp
      · rw [if_neg fun z => c (tkey_inj z), h3 u]
        refine decide_eq_decide.mpr ?_
        rw [List.mem_append]
        constructor
        · exact .inl
        · rintro (z | z)
          · exact z
          · exact absurd (List.mem_singleton.mp z) c
  · have e2 : i = xs.length := by omega
    subst e2
    refine .inl ⟨⟨_, hl', Nat.le_refl _⟩, q D H' kvs hD e h1 fun w => ?_⟩
    rw [h3 w, ht.len, List.take_length]
theorem r_tnin {d b : Addr} {kvs : List (List Key × V)} {w : List Int} (h : Rd H d (.dT kvs)) (hb : H b = some (.tup (w.map V.int))) (q : Q (.bl (!(valV kvs (tkey w)).isSome)) H) : rDIn true (.ref d) (.ref b) H Q :=
  ⟨d, _, rfl, .inr ⟨kvs, tkey w, b, h, rfl, by rw [tkey_V]; exact hb, rfl⟩, q⟩
/-- a tuple in a list of tuples -/
theorem r_ninW {ws0 : List Int} (wx : IT K H m ws0) (hl : SqL K H a xs) (wa : WkA K H xs ws) (q : Q (.bl (!decide (ws0 ∈ ws))) H) : rNotInD K (.ref m) (.ref a) H Q := by
  refine ⟨_, _, dp_t wx, dp_wl hl wa, shaped_t _, shaped_dWs _, ?_⟩
  have e : ((dWs ws).any fun z => PyData.eqv z (.tuple (ws0.map .int))) = decide (ws0 ∈ ws) := by
    unfold dWs
    rw [List.any_map, List.any_eq]
    refine decide_eq_decide.mpr ⟨?_, ?_⟩
    · rintro ⟨x, hx, h⟩
      have h : PyData.eqv (.tuple (x.map .int)) (.tuple (ws0.map .int)) = true := h
      rw [eqv_tints] at h
      exact of_decide_eq_true h ▸ hx
    · intro h
      refine ⟨ws0, h, ?_⟩
      show PyData.eqv (.tuple (ws0.map .int)) (.tuple (ws0.map .int)) = true
      rw [eqv_tints]
      exact decide_eq_true rfl
  rw [e]
  exact q
/-- [e for u, v, w in a list of threes if t] -/
theorem r_cmL3 (S : Nat → List V → Hp → Prop) (hz : xs.length ≤ 100000) (hw : ∀ x y z, wipe ((((wipe σ vs).set m (some x)).set n (some y)).set o (some z)) vs = wipe σ vs) (hl : ∀ i ys H', S i ys H' → SqL K H' a xs)
    (h0 : ∀ D, H D = none → ∀ o, S 0 [] (upd H D o))
    (he : ∀ i x H1 D acc, xs[i]? = some x → acc.length ≤ i → H1 D = some (.lst acc) → S i acc H1 → (∀ o, S i acc (upd H1 D o)) → ∃ p u v z, x = .ref p ∧ SqT K H1 p [u, v, z] ∧
      tt ((((wipe σ vs).set m (some u)).set n (some v)).set o (some z)) H1 fun b H2 => if b = true then te ((((wipe σ vs).set m (some u)).set n (some v)).set o (some z)) H2 (fun y H3 => CmY S D i y H3) else CmP S D (i + 1) H2)
    (q : ∀ D H1 ys, H D = none → H1 D = some (.lst ys) → S xs.length ys H1 → (∀ o, S xs.length ys (upd H1 D o)) → Q (.ref D) H1) : rLc (Itl K a) (gTup K 3 (gCons (gName m) (gCons (gName n) (gCons (gName o) gNil)))) tt te vs σ Q H := fun D hD => by
  have at1 : ∀ {i : Nat} {ys : List V} {H' : Hp}, (∀ o, S i ys (upd H' D o)) → H' D = some (.lst ys) → S i ys H' := fun {i ys H'} h e => by
    have z := h (.lst ys)
    rw [upd_id e] at z
    exact z
  refine lc_list (K := K) (a := a) (xs := xs) (fun i H' => CmP S D i H') ⟨[], Nat.le_refl _, fun o => by rw [upd_upd]; exact h0 D hD o, upd_same⟩ (fun i H' _ p => ?_) (fun i x H' hx p => ?_) (fun H' p => ?_)
  · obtain ⟨ys, h1, h2, h3⟩ := p
    exact hl i ys H' (at1 h2 h3)
  · obtain ⟨ys, h1, h2, h3⟩ := p
    obtain ⟨p, u, v, z, rfl, hp, k⟩ := he i x H' D ys hx h1 h3 (at1 h2 h3) h2
    exact r_tup3 hp ⟨hw u v z, k⟩
  · obtain ⟨ys, h1, h2, h3⟩ := p
    exact q D H' ys hD h3 (at1 h2 h3) h2
end
theorem op_ninD {X : Cx} (K : PySem.W.Frag) {k : Nat} (hr : Room k X.A) (h : X.K = K := by rfl) : OpR X (compareOp .NotIn) (rNotInD K) := h ▸ op_notInD (by have := hr.un; omega)
theorem op_inDK {X : Cx} (K : PySem.W.Frag) {k : Nat} (hr : Room k X.A) (h : X.K = K := by rfl) : OpR X (compareOp .In) (rInD K) := h ▸ op_inD (by have := hr.un; omega)
section
variable {K : PySem.W.Frag} {σ : L2.St} {H : Hp} {Q : VK} {a : Addr} {xs : List V} {vs : List Nat} {m n : Nat} {tt : TT} {te : TE} {k : SK} {k0 : Int}
/-- [e for u, v in enumerate(xs) if t] -/
theorem r_cmEA (S : Nat → List V → Hp → Prop) (hz : xs.length ≤ 100000) (hw : ∀ x y, wipe (((wipe σ vs).set m (some x)).set n (some y)) vs = wipe σ vs) (hl : ∀ i us H', S i us H' → k.Sq K H' a xs) (hx : ∀ i us H' H1, S i us H' → Ex H' H1 → S i us H1)
    (h0 : ∀ D, H D = none → ∀ u, S 0 [] (upd H D u))
    (he : ∀ i x H1 D acc, xs[i]? = some x → acc.length ≤ i → H1 D = some (.lst acc) → S i acc H1 → (∀ u, S i acc (upd H1 D u)) →
      tt (((wipe σ vs).set m (some (.int (k0 + (i : Int))))).set n (some x)) H1 fun b H2 => if b = true then te (((wipe σ vs).set m (some (.int (k0 + (i : Int))))).set n (some x)) H2 (fun y H3 => CmY S D i y H3) else CmP S D (i + 1) H2)
    (q : ∀ D H1 us, H D = none → H1 D = some (.lst us) → S xs.length us H1 → (∀ u, S xs.length us (upd H1 D u)) → Q (.ref D) H1) : rLc (ItE k K k0 a) (gTup K 2 (gCons (gName m) (gCons (gName n) gNil))) tt te vs σ Q H := fun D hD => by
  have at1 : ∀ {i : Nat} {us : List V} {H' : Hp}, (∀ u, S i us (upd H' D u)) → H' D = some (.lst us) → S i us H' := fun {i us H'} h e => by
    have z := h (.lst us)
    rw [upd_id e] at z
    exact z
  refine ⟨fun i d H' => d = xs.length - i ∧ i ≤ xs.length ∧ CmP S D i H', ⟨_, rfl, Nat.zero_le _, [], Nat.le_refl _, fun u => by rw [upd_upd]; exact h0 D hD u, upd_same⟩, ?_⟩
  rintro i d H' ⟨rfl, hi, us, h1, h2, h3⟩
  have hq := hl i us H' (at1 h2 h3)
  rcases Nat.lt_or_ge i xs.length with lt | ge
  · have ex := List.getElem?_eq_getElem lt
    refine .inr ⟨⟨xs, _, hq, ex⟩, CmP S D (i + 1), fun H1 q1 => ⟨xs.length - (i + 1), by omega, rfl, lt, q1⟩, ?_⟩
    rintro v H1 ⟨T, x, rfl, hT, rfl, e1⟩
    have ne : T ≠ D := fun z => by rw [z, h3] at hT; cases hT
    have s2 : ∀ u, S i us (upd (upd H' T (.tup [.int (k0 + (i : Int)), x])) D u) := fun u => by
      rw [upd_comm ne]
      exact hx _ _ _ _ (h2 u) (Ex.new (by rw [upd_ne ne]; exact hT))
    have d2 : upd H' T (.tup [.int (k0 + (i : Int)), x]) D = some (.lst us) := by rw [upd_ne ne.symm]; exact h3
    refine r_tup2 (t_of upd_same) ⟨hw _ x, ?_⟩
    exact he i x _ D us (e1 xs hq) h1 d2 (at1 s2 d2) s2
  · have e2 : i = xs.length := by omega
    subst e2
    exact .inl ⟨⟨xs, hq, rfl⟩, q D H' us hD h3 (at1 h2 h3) h2⟩
end
theorem shows_wl {n : Nat} {ws : List (List Int)} (sm : ∀ w ∈ ws, Sml w) (hz : ∀ w ∈ ws, w.length ≤ n) (hb : ws.length * (n + 1) ≤ 1000000) : Shows (.list (dWs ws)) := by
  have bk := wks_bulk hz
  refine Shows.of ?_ ?_ ?_ ?_ ?_
  · show PyData.showableAll (dWs ws) = true
    exact wks_can sm
  · show PyData.hasDictAll (dWs ws) = false
    exact wks_plain ws
  · have d := dWs_depth ws
    simp only [PyData.depth]
    omega
  · show PyData.leavesShortAll 13 (dWs ws) = true
    exact wks_short sm
  · simp only [PyData.bulk]
    omega
theorem r_rvs {K : PySem.W.Frag} {H : Hp} {Q : VK} {a : Addr} {xs : List V} (h : H a = some (.lst xs)) (q : ∀ H1, ExW a H H1 → H1 a = some (.lst xs.reverse) → Q .non H1) : rApp0 K "list" rReverse (.ref a) H Q := ⟨.inl ⟨rfl, xs, l_of h⟩, a, xs, rfl, rfl, h, q _ ExW.upd upd_same⟩
theorem tri_sml {L n : Nat} {d : Wb.Gm} (G : Wb.Gr L n d) (l4 : L ≤ 4) (hn : n ≤ 1000) {p : Wb.W3 → Bool} : ∀ w ∈ ((Wb.ways3 L n d).filter p).map Wb.tri, Sml w ∧ w.length ≤ 3 := fun w hw => by
  obtain ⟨y, hy, rfl⟩ := List.mem_map.mp hw
  have bd := Wb.ways_bd G (List.mem_filter.mp hy).1
  refine ⟨fun x hx => ?_, Nat.le_refl _⟩
  have e : x = (y.1 : Int) ∨ x = (y.2.1 : Int) + 1 ∨ x = (y.2.2 : Int) := by
    unfold Wb.tri at hx
    simpa using hx
  omega
theorem ways_len4 {L n : Nat} {d : Wb.Gm} (l4 : L ≤ 4) : (Wb.ways3 L n d).length ≤ n * 4 := Nat.le_trans (Wb.ways_len L d n) (Nat.mul_le_mul_left n l4)
theorem basis_sml {L n : Nat} {d : Wb.Gm} (W : Wb.Web L n d) : ∀ w ∈ Wb.basisW L n d, Stp (L : Int) w ∧ w.length ≤ 2 * n := fun w hw => by
  obtain ⟨y, hy, rfl⟩ := List.mem_map.mp hw
  have hw := (List.mem_filter.mp hy).1
  have bd := Wb.ways_bd W.gr hw
  have ga := Wb.fw_go W y.1 bd.1
  have gb := Wb.fw_go W y.2.2 bd.2.2
  have sa := (Od.of_G ga.2.1).1
  have sb := (Od.of_G gb.2.1).1
  have ma := ga.2.2
  have mb := gb.2.2
  unfold Wb.word
  refine ⟨fun x hx => ?_, ?_⟩
  · rcases List.mem_append.mp hx with hx | hx
    · rcases List.mem_append.mp hx with hx | hx
      · exact sa x hx
      · have : x = (y.2.1 : Int) + 1 := by simpa using hx
        omega
    · rw [bk_rev] at hx
      obtain ⟨z, hz, rfl⟩ := List.mem_map.mp hx
      have := sb z (List.mem_reverse.mp hz)
      omega
  · rw [List.length_append, List.length_append, Fg.bk_len]
    simp
    omega
end L2
namespace Lw
open PySem PySem.Spec PyProof.Rows L2 Evl

local macro_rules | `(tactic| walk_at "go") => `(tactic| repeat (first
  | with_reducible refine st_seq ?_ | with_reducible refine st_set ?_ | with_reducible refine st_asg ?_ | with_reducible refine st_ret ?_ | with_reducible refine st_drop ?_ | with_reducible refine st_if ?_
  | with_reducible refine st_c ?_ | ((with_reducible refine' st_v ?h ?_); (case h => exact rfl)) | with_reducible refine st_n ?_ | with_reducible refine st_cons ?_ | with_reducible refine st_op ?_ | with_reducible refine st_un ?_
  | with_reducible refine st_cb ?_ | with_reducible refine st_test ?_ | with_reducible refine st_call ?_ | with_reducible refine st_callK ?_ | with_reducible refine st_sl ?_ | with_reducible refine st_par ?_ | with_reducible refine st_par3 ?_ | with_reducible refine st_tru ?_
  | with_reducible refine st_and ?_ | with_reducible refine st_or ?_ | with_reducible refine st_not ?_ | with_reducible refine st_B ?_ | with_reducible refine st_andV ?_ | with_reducible refine st_orV ?_ | with_reducible refine st_notV ?_ | with_reducible refine st_ifE ?_
  | with_reducible refine st_part ?_ | with_reducible refine st_nop ?_ | with_reducible refine st_sub ?_ | with_reducible refine st_chain ?_ | with_reducible refine st_bl ?_ | with_reducible refine st_in ?_ | with_reducible refine r_truB ?_
  | with_reducible refine st_nameG ?_ | with_reducible refine if_T ?_ | with_reducible refine if_F ?_ | with_reducible refine if_nT ?_ | with_reducible refine if_nF ?_
  | with_reducible refine r_add ?_ | with_reducible refine r_0 ?_ | with_reducible refine r_neg ?_ | with_reducible refine r_intI ?_ | with_reducible refine r_intB ?_ | with_reducible refine r_abs ?_ | with_reducible refine r_max2 ?_ | with_reducible refine r_min2 ?_ | with_reducible refine r_eqI ?_ | with_reducible refine r_neI ?_
  | with_reducible refine st_nxt ?_ | with_reducible refine st_cnt ?_ | with_reducible refine st_brk ?_ | with_reducible refine st_retn ?_
  | with_reducible refine st_lstN ?_ | with_reducible refine st_tupN ?_
  | with_reducible refine st_for ?_ | with_reducible refine st_lc ?_ | with_reducible refine st_lc2 ?_ | with_reducible refine st_rng1 ?_ | with_reducible refine st_rng2 ?_ | with_reducible refine st_rng3 ?_ | with_reducible refine st_itL ?_ | with_reducible refine st_itT ?_ | with_reducible refine st_rev ?_ | with_reducible refine st_enumE ?_ | with_reducible refine st_zip3 ?_ | with_reducible refine st_lvals ?_ | with_reducible refine st_fld ?_ | with_reducible refine st_sfld ?_ | with_reducible refine st_meth ?_ | with_reducible refine st_make ?_ | with_reducible refine st_rg1 ?_ | with_reducible refine st_enumS ?_ | with_reducible refine st_dg1 ?_ | with_reducible refine st_dg2 ?_ | with_reducible refine st_dpop ?_ | with_reducible refine st_dset ?_ | with_reducible refine st_dc ?_ | with_reducible refine st_keys ?_ | with_reducible refine st_dget ?_ | with_reducible refine st_din ?_ | with_reducible refine st_dnin ?_ | with_reducible refine st_dput ?_ | with_reducible refine st_dnew ?_ | with_reducible refine st_lstRg ?_ | with_reducible refine st_rg2 ?_ | with_reducible refine r_twoI ?_ | with_reducible refine st_bm ?_ | with_reducible refine st_bm0 ?_
  | ((with_reducible refine' st_aug ?h ?_); (case h => exact rfl)) | with_reducible refine r_augI ?_ | with_reducible refine r_eqB ?_
  | dsimp only))
section
variable {P : Program} {w : World} {K : PySem.W.Frag} {mg : Str → Option Value} {base : Heap} {A : Ad}

def sp_turned_back (K : PySem.W.Frag) : Sp := fun vs H Q _ => ∃ a ns, vs = [.ref a] ∧ IT K H a ns ∧ ns.length ≤ 5000 ∧ ∀ p H1, Ex H H1 → IT K H1 p (Fg.bk ns) → Q (.ref p) H1
theorem ok_turned_back (T : Tx K mg A) : FnOk P w K mg base CX0 1 A.a_turned_back A.f_turned_back P_turned_back (sp_turned_back K) := by
  refine T.F_turned_back.ok sc_turned_back (fun vs H Q E h => ?_) (fun cdv A' outer s H vs Q E hr h => ?_)
  · obtain ⟨a, ns, rfl, _⟩ := h
    rfl
  · obtain ⟨a, ns, rfl, ht, hz, q⟩ := h
    refine ⟨_, (pss_one (ps_ret (pe_callTy (tuple_K K) (by rfl) T.n_tuple (by decide +kernel) (pa_cons (pe_lc (own := [("step", 1)]) rfl sc_turned_back.nd (pi_tupK K (pe_revK K (pv 0))) (blkOk_by (own := [("step", 1)]) (N := N_turned_back) (sc := defScope s_turned_back) (by decide +kernel)) (fun _ _ _ _ _ => (pg_name (i := 1) sc_turned_back.nd rfl (Or.inl rfl))) (fun _ _ _ _ _ => pts_nil) (fun _ _ _ _ _ => (pe_un un_neg (pv 1)))) pa_nil)))), ?_⟩
    refine st_ret (st_cb (st_cons (cm_tup (ys := (Fg.bk ns).map V.int) (xs := (ns.map V.int).reverse) (fun R r => st_revT (he_var rfl) ht fun b H1 _ e1 h1 => r b H1 e1 (t_of h1)) (by simp [Fg.bk_len]) (by simp [Fg.bk_len]; omega) (fun _ => rfl) (fun k x y H1 hx hy e1 Q' k' => ?_) fun D H1 _ e1 h1 => ?_)))
    · obtain ⟨z, rfl, rfl⟩ := bk_get hx hy
      exact ⟨_, rfl, z, rfl, k' H1 (Ex.refl H1)⟩
    · exact r_tuL (l_of h1) fun l H3 _ e3 h3 => q l H3 (e1.trans e3) h3
def sp_first_ways (K : PySem.W.Frag) : Sp := fun vs H Q _ => ∃ (L n : Nat) (d : Wb.Gm) (p : Addr), vs = [.int (L : Int), .ref p] ∧ TabH H p n d ∧ Wb.Web L n d ∧ n ≤ 1000 ∧ ∀ a xs H1, Ex H H1 → H a = none → H1 a = some (.lst xs) → WkA K H1 xs (Wb.fws L n d) → Q (.ref a) H1
theorem ok_first_ways (T : Tx K mg A) : FnOk P w K mg base CX0 3 A.a_first_ways A.f_first_ways P_first_ways (sp_first_ways K) := by
  refine T.F_first_ways.ok sc_first_ways (fun vs H Q E h => ?_) (fun cdv A' outer s H vs Q E hr h => ?_)
  · obtain ⟨L, n, d, p, rfl, _⟩ := h
    rfl
  · obtain ⟨L, n, d, p, rfl, tab, W, hn, q⟩ := h
    have hp0 := W.pos
    have l4 := W.l4
    refine ⟨_, (pss_cons (ps_set (i := 2) sc_first_ways.nd rfl (Or.inl rfl) (pe_lst (pa_cons (pe_tup pa_nil) pa_nil)))
      (pss_cons (ps_set (i := 3) sc_first_ways.nd rfl (Or.inl rfl) (pe_call (ok_first_reached T) (hr.mono (by decide)) (by rfl) T.g_first_reached T.F_first_reached.kp T.b0_first_reached.choose_spec.2 T.b0_first_reached.choose_spec.1 pass0 (pa_cons (pv 0) (pa_cons (pv 1) pa_nil))))
      (pss_cons (ps_for PassesOwn.never rfl (pi_range2 (by rfl) T.n_range (pa_cons pe_int (pa_cons (pe_callB (len_K K) (by rfl) T.n_len (by decide +kernel) (pa_cons (pv 1) pa_nil)) pa_nil))) (pg_name (i := 4) sc_first_ways.nd rfl (Or.inl rfl)) (pss_cons (ps_asg (pe_dget (hu_of hr) (pv 3) (pv 4) (fun _ _ => rfl)) (pg_tupK K (by rfl) (pgs_cons (pg_name (i := 5) sc_first_ways.nd rfl (Or.inl rfl)) (pgs_cons (pg_name (i := 6) sc_first_ways.nd rfl (Or.inl rfl)) pgs_nil))))
      (pss_one (ps_expr (pe_bmU K PySem.F.plainAttrs_list PySem.F.slot_list_append PySem.F.type_list_append mt_append (pv 2) (pa_cons (pe_op (op_addK K) (pe_ix (ix_K K) (pv 2) (pv 5) (fun _ _ => rfl)) (pe_tup (pa_cons (pv 6) pa_nil))) pa_nil))))))
      (pss_one (ps_ret (pv 2)))))), ?_⟩
    walk_at "go"
    refine r_newT (by simp) fun t H1 ht e1 k1 => ?_
    walk_at "go"
    refine r_newL (by simp) fun c H2 hc e2 k2 => ?_
    have hc0 : H c = none := fresh_back e1 hc
    walk_at "go"
    refine ⟨L, n, 0, d, p, rfl, l4, W.gr, tab.mono (e1.trans e2), hp0, hn, fun b kvs H3 hb e3 k3 rch => ?_⟩
    have e13 := (e1.trans e2).trans e3
    have kc := e3 _ _ k2
    have nbc : b ≠ c := fun z => by rw [z, k2] at hb; cases hb
    have w0 : WkA K H3 [V.ref t] [[]] := ⟨rfl, fun i x w h1 h2 => by
      cases i with
      | zero => cases h1; cases h2; exact ⟨t, rfl, t_of (e3 _ _ (e2 _ _ k1))⟩
      | succ i => simp at h1⟩
    have f0 : (Wb.fws L n d).take 1 = [[]] := by
      have h := Wb.fws_at W hp0
      rw [Wb.fw_zero W] at h
      have := L2.take_snoc h
      rw [List.take_zero] at this
      exact this
    obtain ⟨ds, zd, hpd, _⟩ := tab.ex
    walk_at "go"
    refine r_lenL (l_of (e13 _ _ hpd)) ?_
    rw [List.length_map, zd]
    walk_at "go"
    refine r_rng2 ⟨by omega, by omega, by omega, by omega⟩ ?_
    rw [show ((n : Int) - 1).toNat = n - 1 by omega]
    refine r_forR (lo := 1) (m := n - 1) (fun i σ' H' => ∃ (xs : List V) (v4 v5 v6 : Option V), Ex H H' ∧ H' c = some (.lst xs) ∧ WkA K H' xs ((Wb.fws L n d).take (1 + i)) ∧ H' b = some (.dK kvs) ∧ RchH K H' kvs (Wb.bfs L n d 0) ∧ σ' = [some (.int (L : Int)), some (.ref p), some (.ref c), some (.ref b), v4, v5, v6]) ⟨_, none, none, none, e13, kc, by rw [show 1 + 0 = 1 from rfl, f0]; exact w0, k3, rch, rfl⟩ (fun i σ' H' hi z => ?_) (fun σ' H' z => ?_)
    · obtain ⟨xs, v4, v5, v6, e, kc, wa, kb, rch, rfl⟩ := z
      obtain ⟨r, s0, h1, h2, h3, h4⟩ := Wb.web_par W (g := 1 + i) (by omega) (by omega)
      have ok := Wb.bfs_ok W.gr hp0
      obtain ⟨v, hv, wv⟩ := rch.get ok.nodup h1
      obtain ⟨pv', rfl, hpv⟩ := wv
      have fl := Wb.fws_len W
      have zx : xs.length = 1 + i := by rw [wa.len, List.length_take]; omega
      have hrn : r < n := by omega
      have hfr : ((Wb.fws L n d).take (1 + i))[r]? = some (Wb.fw L n d r) := by
        rw [List.getElem?_take_of_lt h3]
        exact Wb.fws_at W hrn
      have hxr := List.getElem?_eq_getElem (l := xs) (i := r) (by omega)
      obtain ⟨pr, epr, hpr⟩ := wa.at' r _ _ hxr hfr
      rw [epr] at hxr
      have lr := (Wb.fw_go W r hrn).2.2
      walk_at "go"
      refine r_dget (x := 1 + (i : Int)) (.inl kb) (by rw [show (1 : Int) + (i : Int) = ((1 + i : Nat) : Int) by omega]; exact hv) ?_
      refine r_tup2 hpv ?_
      walk_at "go"
      refine r_app (l_of kc) ?_
      walk_at "go"
      refine r_ixL (l_of kc) (atI_at (by omega) (by rw [Int.toNat_natCast]; exact hxr)) ?_
      walk_at "go"
      refine r_newT (by simp) fun t2 H4 ht2 e4 k4 => ?_
      walk_at "go"
      refine r_catT (ex_t e4 hpr) (ys := [V.int s0]) (t_of k4) (by rw [List.length_map, List.length_singleton]; omega) fun t3 H5 e5 k5 => ?_
      have e45 := e4.trans e5
      walk_at "go"
      refine r_appd (e45 _ _ kc) (by omega) fun H6 e6 k6 => ?_
      have tx := TX.w2 (e45 _ _ kc) e6
      walk_at "go"
      refine ⟨_, _, _, _, fun q o h => e6 q o (e45 q o (e q o h)) (ne_of_none h hc0), k6, ?_, e6 _ _ (e45 _ _ kb) nbc, rch.mono ((TX.of e45).trans tx), rfl⟩
      have hf := Wb.fws_at W (g := 1 + i) (by omega)
      rw [h4] at hf
      rw [← Nat.add_assoc, L2.take_snoc hf]
      refine ((wa.ex e45).tx tx).snoc ⟨t3, rfl, tx_t tx ?_⟩
      show SqT K H5 t3 ((Wb.fw L n d r ++ [s0]).map V.int)
      rw [List.map_append]
      exact k5
    · obtain ⟨xs, v4, v5, v6, e, kc, wa, kb, rch, rfl⟩ := z
      rw [show 1 + (n - 1) = n by omega, List.take_of_length_le (by rw [Wb.fws_len W]; exact Nat.le_refl _)] at wa
      walk_at "go"
      exact q c xs H' e hc0 kc wa
def sp_ways_of (K : PySem.W.Frag) : Sp := fun vs H Q _ => ∃ (L n : Nat) (d : Wb.Gm) (a : Addr), vs = [.ref a] ∧ WebH K H a L n d ∧ Wb.Gr L n d ∧ L ≤ 4 ∧ n ≤ 1000 ∧ ∀ p xs H1, Ex H H1 → H p = none → H1 p = some (.lst xs) → TpA H1 xs ((Wb.ways3 L n d).map Wb.tri) → Q (.ref p) H1
theorem ok_ways_of (T : Tx K mg A) : FnOk P w K mg base CX0 1 A.a_ways_of A.f_ways_of P_ways_of (sp_ways_of K) := by
  refine T.F_ways_of.ok sc_ways_of (fun vs H Q E h => ?_) (fun cdv A' outer s H vs Q E hr h => ?_)
  · obtain ⟨L, n, d, a, rfl, _⟩ := h
    rfl
  · obtain ⟨L, n, d, a, rfl, hW, G, l4, hn, q⟩ := h
    obtain ⟨r, xs, ha, hr0, wa⟩ := hW.ex
    refine ⟨_, (pss_one (ps_ret (pe_lc2 (own := [("room", 1), ("row", 2), ("letter", 3), ("after", 4)]) (vs1 := [3, 4]) rfl sc_ways_of.nd (pi_enumE K skT (by rfl) T.n_enumerate (pa_cons (pe_ix (ix_K K) (pv 0) pe_int (fun _ _ => rfl)) pa_nil)) (blkOk_by (own := [("room", 1), ("row", 2), ("letter", 3), ("after", 4)]) (N := N_ways_of) (sc := defScope s_ways_of) (by decide +kernel)) (by decide) (fun _ _ _ _ _ => (pg_tupK (n := 2) K (by rfl) (pgs_cons (pg_name (i := 1) sc_ways_of.nd rfl (Or.inl rfl)) (pgs_cons (pg_name (i := 2) sc_ways_of.nd rfl (Or.inl rfl)) pgs_nil)) (by kernel_rfl) (by kernel_rfl))) (fun _ _ _ _ _ => pts_nil) (fun _ _ _ _ _ => (pi_enumS K skT (by rfl) T.n_enumerate (pa_cons (pv 2) pa_nil) pe_int)) (fun _ _ _ _ _ => (pg_tupK (n := 2) K (by rfl) (pgs_cons (pg_name (i := 3) sc_ways_of.nd rfl (Or.inl rfl)) (pgs_cons (pg_name (i := 4) sc_ways_of.nd rfl (Or.inl rfl)) pgs_nil)) (by kernel_rfl) (by kernel_rfl))) (fun _ _ _ _ _ => (pts_one (pt_cmpR op_ge (pv 4) pe_int (nomark _)))) (fun _ _ _ _ _ => (pe_tup (pa_cons (pv 1) (pa_cons (pv 3) (pa_cons (pv 4) pa_nil)))))))), ?_⟩
    have zx : xs.length = n := by rw [wa.len, Wb.rows_len]
    have bd : ∀ i, i ≤ n → ((List.range i).flatMap (Wb.wayL L d)).length ≤ 4000 := fun i hi => by
      have := Wb.ways_len L d i
      have h2 : i * L ≤ 1000 * 4 := Nat.mul_le_mul (by omega) (by omega)
      omega
    walk_at "go"
    refine r_ixT ha rfl ?_
    walk_at "go"
    refine r_enumE (k := skT) (xs := xs) hr0 ?_
    refine r_lc2E (k := skT) (xs := xs) (fun i us H' => Ex H H' ∧ TpA H' us (((List.range i).flatMap (Wb.wayL L d)).map Wb.tri)) (fun _ _ => rfl) (fun i us H' z => ex_t z.1 hr0) (fun i us H' H2 z e => ⟨z.1.trans e, z.2.ex e⟩) (fun D hD o => ⟨Ex.new hD, TpA.nil⟩) (fun i x H2 D hx c2 => ?_) fun D H2 us hD k2 z _ => ?_
    · have hi : i < n := by rw [← zx]; exact (List.getElem?_eq_some_iff.mp hx).1
      obtain ⟨w, hw, pr, rfl, wr⟩ := wa.get hx
      rw [Wb.rows_at hi] at hw
      cases hw
      obtain ⟨us, z1, z2, z3⟩ := c2
      obtain ⟨e2, w2⟩ := c2_at (S := fun us H' => Ex H H' ∧ TpA H' us (((List.range i).flatMap (Wb.wayL L d)).map Wb.tri)) z2 z3
      have hD1 : H D = none := ex_none fun o => (z2 o).1
      walk_at "go"
      refine r_enumS (k := skT) (xs := (Wb.row L d i).map V.int) (by decide) (by decide) (ex_t e2 wr) ?_
      refine in_enu (K := K) (k := skT) (k0 := 1) (b := pr) (ys := (Wb.row L d i).map V.int) (fun j us H' => Ex H H' ∧ TpA H' us (((List.range i).flatMap (Wb.wayL L d) ++ Wb.wayL j d i).map Wb.tri)) rfl (fun _ _ => rfl) (fun j us H' z => ex_t z.1 wr) (fun j us H' H3 z e => ⟨z.1.trans e, z.2.ex e⟩) ⟨us, z1, fun o => ⟨(z2 o).1, ?_⟩, z3⟩ (fun j y H4 acc hy hz hacc T Tall => ?_) fun H' z => ?_
      · have := (z2 o).2
        show TpA _ us ((_ ++ []).map Wb.tri)
        rw [List.append_nil]
        exact this
      · have hj : j < L := by
          have := (List.getElem?_eq_some_iff.mp hy).1
          rwa [List.length_map, Wb.row_len] at this
        rw [List.getElem?_map, Wb.row_at hj] at hy
        obtain ⟨e4, w4⟩ := T
        have b1 := bd i (by omega)
        have zl := w4.len
        have wl := Wb.wayL_len j d i
        rw [List.length_map, List.length_append] at zl
        cases hd : d i ((j : Int) + 1) with
        | none =>
          rw [hd] at hy
          cases hy
          walk_at "go"
          rw [decide_eq_false (by decide : ¬ (-1 : Int) ≥ 0)]
          walk_at "go"
          refine c2_no hacc (by omega) fun o => ?_
          obtain ⟨t1, t2⟩ := Tall o
          refine ⟨t1, ?_⟩
          rw [Wb.wayL_succ, hd]
          show TpA _ acc ((_ ++ (_ ++ [])).map Wb.tri)
          rw [List.append_nil]
          exact t2
        | some g =>
          rw [hd] at hy
          cases hy
          walk_at "go"
          rw [decide_eq_true (by omega : (g : Int) ≥ 0)]
          walk_at "go"
          refine r_newT (by simp) fun t2 H5 ht2 e5 k5 => ?_
          refine c2_yes (e5 _ _ hacc) (by omega) fun o => ⟨ex_put (e4.trans e5) hD1, ?_⟩
          have tx : TX H5 (upd H5 D o) := TX.upd (e5 _ _ hacc)
          rw [Wb.wayL_succ, hd, ← List.append_assoc, List.map_append]
          refine ((w4.ex e5).tx tx).snoc ((tx t2 _ (.inl k5)).trans (k5.trans ?_))
          show some (HO.tup [.int (0 + (i : Int)), .int (1 + (j : Int)), .int (g : Int)]) = some (HO.tup [.int (i : Int), .int ((j : Int) + 1), .int (g : Int)])
          rw [Int.zero_add, Int.add_comm 1]
      · obtain ⟨us, z1, z2, z3⟩ := z
        refine ⟨us, z1, fun o => ⟨(z2 o).1, ?_⟩, z3⟩
        have := (z2 o).2
        rw [List.length_map, Wb.row_len] at this
        rw [Wb.ways_take]
        exact this
    · obtain ⟨e2, w2⟩ := z
      rw [zx] at w2
      walk_at "go"
      exact q D us H2 e2 hD k2 w2
def sp_tree_ways (K : PySem.W.Frag) : Sp := fun vs H Q _ => ∃ (L n : Nat) (d : Wb.Gm) (p : Addr), vs = [.int (L : Int), .ref p] ∧ TabH H p n d ∧ Wb.Web L n d ∧ n ≤ 64 ∧ ∀ a xs H1, Ex H H1 → H a = none → H1 a = some (.lst xs) → TpA H1 xs ((Wb.treeT L n d).map Wb.tri) → Q (.ref a) H1
theorem ok_tree_ways (T : Tx K mg A) : FnOk P w K mg base CX0 3 A.a_tree_ways A.f_tree_ways P_tree_ways (sp_tree_ways K) := by
  refine T.F_tree_ways.ok sc_tree_ways (fun vs H Q E h => ?_) (fun cdv A' outer s H vs Q E hr h => ?_)
  · obtain ⟨L, n, d, p, rfl, _⟩ := h
    rfl
  · obtain ⟨L, n, d, p, rfl, tab, W, hn, q⟩ := h
    have hp0 := W.pos
    have l4 := W.l4
    have ok := Wb.bfs_ok W.gr hp0
    refine ⟨_, (pss_cons (ps_set (i := 2) sc_tree_ways.nd rfl (Or.inl rfl) (pe_call (ok_first_reached T) (hr.mono (by decide)) (by rfl) T.g_first_reached T.F_first_reached.kp T.b0_first_reached.choose_spec.2 T.b0_first_reached.choose_spec.1 pass0 (pa_cons (pv 0) (pa_cons (pv 1) pa_nil))))
      (pss_cons (ps_set (i := 3) sc_tree_ways.nd rfl (Or.inl rfl) (pe_lst pa_nil))
      (pss_cons (ps_for PassesOwn.never rfl (pi_range2 (by rfl) T.n_range (pa_cons pe_int (pa_cons (pe_callB (len_K K) (by rfl) T.n_len (by decide +kernel) (pa_cons (pv 1) pa_nil)) pa_nil))) (pg_name (i := 4) sc_tree_ways.nd rfl (Or.inl rfl)) (pss_cons (ps_asg (pe_dget (hu_of hr) (pv 2) (pv 4) (fun _ _ => rfl)) (pg_tupK K (by rfl) (pgs_cons (pg_name (i := 5) sc_tree_ways.nd rfl (Or.inl rfl)) (pgs_cons (pg_name (i := 6) sc_tree_ways.nd rfl (Or.inl rfl)) pgs_nil))))
      (pss_one (ps_expr (pe_bmU K PySem.F.plainAttrs_list PySem.F.slot_list_append PySem.F.type_list_append mt_append (pv 3) (pa_cons (pe_ifExp (pt_cmpR op_gt (pv 6) pe_int (nomark _)) (pe_tup (pa_cons (pv 5) (pa_cons (pv 6) (pa_cons (pv 4) pa_nil)))) (pe_tup (pa_cons (pv 4) (pa_cons (pe_un un_neg (pv 6)) (pa_cons (pv 5) pa_nil))))) pa_nil))))))
      (pss_one (ps_ret (pe_callB (cr_sortT (d := 3) (B := 4096) (by decide)) (by rfl) T.n_sorted (by decide +kernel) (pa_cons (pv 3) pa_nil))))))), ?_⟩
    walk_at "go"
    refine ⟨L, n, 0, d, p, rfl, l4, W.gr, tab, hp0, by omega, fun b kvs H1 hb e1 k1 rch => ?_⟩
    walk_at "go"
    refine r_newL (by simp) fun c H2 hc e2 k2 => ?_
    have e12 := e1.trans e2
    have kb2 := e2 _ _ k1
    have nbc : b ≠ c := fun z => by rw [z, hc] at k1; cases k1
    have hc0 : H c = none := fresh_back e1 hc
    obtain ⟨ds, zd, hpd, _⟩ := tab.ex
    walk_at "go"
    refine r_lenL (l_of (e12 _ _ hpd)) ?_
    rw [List.length_map, zd]
    walk_at "go"
    refine r_rng2 ⟨by omega, by omega, by omega, by omega⟩ ?_
    rw [show ((n : Int) - 1).toNat = n - 1 by omega]
    refine r_forR (lo := 1) (m := n - 1) (fun i σ' H' => ∃ (xs : List V) (v4 v5 v6 : Option V), Ex H H' ∧ H' c = some (.lst xs) ∧ TpA H' xs ((((List.range i).map fun i => Wb.tw L n d (1 + i))).map Wb.tri) ∧ H' b = some (.dK kvs) ∧ RchH K H' kvs (Wb.bfs L n d 0) ∧ σ' = [some (.int (L : Int)), some (.ref p), some (.ref b), some (.ref c), v4, v5, v6]) ⟨[], none, none, none, e12, k2, TpA.nil, kb2, rch.mono (.of e2), rfl⟩ (fun i σ' H' hi z => ?_) (fun σ' H' z => ?_)
    · obtain ⟨xs, v4, v5, v6, e, kc, wa, kb, rch, rfl⟩ := z
      obtain ⟨r, s0, h1, h2, h3, h4⟩ := Wb.web_par W (g := 1 + i) (by omega) (by omega)
      obtain ⟨v, hv, pv', rfl, hpv⟩ := rch.get ok.nodup h1
      have zl := wa.len
      rw [List.length_map, List.length_map, List.length_range] at zl
      have ht := Wb.tw_eq h1
      have m := Od.mem_steps.mp (W.gr.dom _ _ _ h2).2.2
      have fin : ∀ (t : Addr) (H4 : Hp), Ex H' H4 → H4 t = some (.tup ((Wb.tri (Wb.tw L n d (1 + i))).map V.int)) → rAppend (.ref c) [.ref t] H4 (fun _ H5 => ∃ (xs : List V) (v4 v5 v6 : Option V), Ex H H5 ∧ H5 c = some (.lst xs) ∧ TpA H5 xs ((((List.range (i + 1)).map fun i => Wb.tw L n d (1 + i))).map Wb.tri) ∧ H5 b = some (.dK kvs) ∧ RchH K H5 kvs (Wb.bfs L n d 0) ∧ [some (V.int (L : Int)), some (.ref p), some (.ref b), some (.ref c), some (.int (1 + (i : Int))), some (.int (r : Int)), some (.int s0)] = [some (.int (L : Int)), some (.ref p), some (.ref b), some (.ref c), v4, v5, v6]) := fun t H4 e4 kt => by
        refine r_appd (e4 _ _ kc) (by omega) fun H5 e5 k5 => ?_
        have tx : TX H4 H5 := TX.w2 (e4 _ _ kc) e5
        refine ⟨_, _, _, _, fun b o hb => e5 b o ((e.trans e4) b o hb) (ne_of_none hb hc0), k5, ?_, e5 _ _ (e4 _ _ kb) nbc, (rch.mono (.of e4)).mono tx, rfl⟩
        rw [List.range_succ, List.map_append, List.map_append]
        exact ((wa.ex e4).tx tx).snoc ((tx t _ (.inl kt)).trans kt)
      walk_at "go"
      refine r_dget (x := 1 + (i : Int)) (.inl kb) (by rw [show (1 : Int) + (i : Int) = ((1 + i : Nat) : Int) by omega]; exact hv) ?_
      refine r_tup2 hpv ?_
      walk_at "go"
      refine r_app (l_of kc) ?_
      by_cases c0 : 0 < s0
      · walk_at "go"
        rw [decide_eq_true (show s0 > 0 from c0)]
        walk_at "go"
        refine r_newT (by simp) fun t H4 ht4 e4 k4 => ?_
        refine fin t H4 e4 (k4.trans ?_)
        rw [ht, if_pos c0]
        show some (HO.tup [.int (r : Int), .int s0, .int (1 + (i : Int))]) = some (HO.tup [.int (r : Int), .int (((s0 - 1).toNat : Int) + 1), .int ((1 + i : Nat) : Int)])
        rw [show (((s0 - 1).toNat : Nat) : Int) + 1 = s0 by omega, show ((1 + i : Nat) : Int) = 1 + (i : Int) by omega]
      · walk_at "go"
        rw [decide_eq_false (show ¬ s0 > 0 from c0)]
        walk_at "go"
        refine r_newT (by simp) fun t H4 ht4 e4 k4 => ?_
        refine fin t H4 e4 (k4.trans ?_)
        rw [ht, if_neg c0]
        show some (HO.tup [.int (1 + (i : Int)), .int (-s0), .int (r : Int)]) = some (HO.tup [.int ((1 + i : Nat) : Int), .int (((-s0 - 1).toNat : Int) + 1), .int (r : Int)])
        rw [show (((-s0 - 1).toNat : Nat) : Int) + 1 = -s0 by omega, show ((1 + i : Nat) : Int) = 1 + (i : Int) by omega]
    · obtain ⟨xs, v4, v5, v6, e, kc, wa, kb, rch, rfl⟩ := z
      have zl := wa.len
      rw [List.length_map, List.length_map, List.length_range] at zl
      have wa : TpA H' xs ((Wb.treeU L n d).map Wb.tri) := wa
      walk_at "go"
      refine ⟨c, xs, rfl, l_of kc, by omega, fun x hx => ?_, fun ys p1 perm sorted hp1 => ?_⟩
      · obtain ⟨i, hi⟩ := List.mem_iff_getElem?.mp hx
        obtain ⟨w, b1, h1, rfl, h3⟩ := wa.get hi
        have hw := List.mem_of_getElem? h1
        obtain ⟨y, hy, rfl⟩ := List.mem_map.mp hw
        have bd := Wb.ways_bd W.gr (List.mem_filter.mp ((Wb.mem_treeU W).mp hy)).1
        exact ⟨_, ⟨b1, rfl, t_of h3⟩, rfl, tri_bd (by omega)⟩
      · obtain ⟨ts, q1, q2, q3⟩ := tri_sorted wa perm sorted
        have := Wb.tree_same W (by omega) q1 q2
        rw [this] at q3
        exact q p1 ys _ (Ex.mut e (fresh_back e hp1)) (fresh_back e hp1) upd_same (q3.ex (Ex.new hp1))
end
end Lw
namespace Lw
open PySem PySem.Spec PyProof.Rows L2 Evl

local macro_rules | `(tactic| walk_at "go") => `(tactic| repeat (first
  | with_reducible refine st_seq ?_ | with_reducible refine st_set ?_ | with_reducible refine st_asg ?_ | with_reducible refine st_ret ?_ | with_reducible refine st_drop ?_ | with_reducible refine st_if ?_
  | with_reducible refine st_c ?_ | ((with_reducible refine' st_v ?h ?_); (case h => exact rfl)) | with_reducible refine st_n ?_ | with_reducible refine st_cons ?_ | with_reducible refine st_op ?_ | with_reducible refine st_un ?_
  | with_reducible refine st_cb ?_ | with_reducible refine st_test ?_ | with_reducible refine st_call ?_ | with_reducible refine st_callK ?_ | with_reducible refine st_sl ?_ | with_reducible refine st_par ?_ | with_reducible refine st_par3 ?_ | with_reducible refine st_tru ?_
  | with_reducible refine st_and ?_ | with_reducible refine st_or ?_ | with_reducible refine st_not ?_ | with_reducible refine st_B ?_ | with_reducible refine st_andV ?_ | with_reducible refine st_orV ?_ | with_reducible refine st_notV ?_ | with_reducible refine st_ifE ?_
  | with_reducible refine st_part ?_ | with_reducible refine st_nop ?_ | with_reducible refine st_sub ?_ | with_reducible refine st_chain ?_ | with_reducible refine st_bl ?_ | with_reducible refine st_in ?_ | with_reducible refine r_truB ?_
  | with_reducible refine st_nameG ?_ | with_reducible refine if_T ?_ | with_reducible refine if_F ?_ | with_reducible refine if_nT ?_ | with_reducible refine if_nF ?_
  | with_reducible refine r_add ?_ | with_reducible refine r_0 ?_ | with_reducible refine r_neg ?_ | with_reducible refine r_intI ?_ | with_reducible refine r_intB ?_ | with_reducible refine r_abs ?_ | with_reducible refine r_max2 ?_ | with_reducible refine r_min2 ?_ | with_reducible refine r_eqI ?_ | with_reducible refine r_neI ?_
  | with_reducible refine st_nxt ?_ | with_reducible refine st_cnt ?_ | with_reducible refine st_brk ?_ | with_reducible refine st_retn ?_
  | with_reducible refine st_lstN ?_ | with_reducible refine st_tupN ?_
  | with_reducible refine st_for ?_ | with_reducible refine st_lc ?_ | with_reducible refine st_lc2 ?_ | with_reducible refine st_rng1 ?_ | with_reducible refine st_rng2 ?_ | with_reducible refine st_rng3 ?_ | with_reducible refine st_itL ?_ | with_reducible refine st_itT ?_ | with_reducible refine st_rev ?_ | with_reducible refine st_enumE ?_ | with_reducible refine st_zip3 ?_ | with_reducible refine st_lvals ?_ | with_reducible refine st_fld ?_ | with_reducible refine st_sfld ?_ | with_reducible refine st_meth ?_ | with_reducible refine st_make ?_ | with_reducible refine st_rg1 ?_ | with_reducible refine st_enumS ?_ | with_reducible refine st_dg1 ?_ | with_reducible refine st_dg2 ?_ | with_reducible refine st_dpop ?_ | with_reducible refine st_dset ?_ | with_reducible refine st_dc ?_ | with_reducible refine st_keys ?_ | with_reducible refine st_dget ?_ | with_reducible refine st_din ?_ | with_reducible refine st_dnin ?_ | with_reducible refine st_dput ?_ | with_reducible refine st_dnew ?_ | with_reducible refine st_lstRg ?_ | with_reducible refine st_rg2 ?_ | with_reducible refine r_twoI ?_ | with_reducible refine st_bm ?_ | with_reducible refine st_bm0 ?_
  | ((with_reducible refine' st_aug ?h ?_); (case h => exact rfl)) | with_reducible refine r_augI ?_ | with_reducible refine r_eqB ?_
  | dsimp only))
section
variable {P : Program} {w : World} {K : PySem.W.Frag} {mg : Str → Option Value} {base : Heap} {A : Ad}

theorem kv_len {L n : Nat} {d : Wb.Gm} {kvs : List (Key × V)} {i : Nat} (G : Wb.Gr L n d) (h : DI kvs fun s => vN (d i s)) : kvs.length = Wb.deg L d i := by
  unfold Wb.deg
  refine h.len ((Od.steps_nodup L).filter _) fun x => ?_
  rw [List.mem_filter, vN_some]
  refine ⟨fun z => z.2, fun z => ⟨?_, z⟩⟩
  cases e : d i x with
  | none => rw [e] at z; cases z
  | some g => exact (G.dom _ _ _ e).2.2
theorem r_any {K : PySem.W.Frag} {H : Hp} {Q : VK} {a : Addr} {bs : List Bool} (h : SqL K H a (bs.map V.bl)) (q : Q (.bl (bs.any id)) H) : rAny K [.ref a] H Q := ⟨a, bs, rfl, h, q⟩
def sp_right_table (K : PySem.W.Frag) : Sp := fun vs H Q _ => ∃ (L n : Nat) (d : Wb.Gm) (a : Addr), vs = [.ref a] ∧ WebH K H a L n d ∧ Wb.Web L n d ∧ n ≤ 1000 ∧ ∀ p H1, Ex H H1 → TabH H1 p n d → Q (.ref p) H1
theorem ok_right_table (T : Tx K mg A) : FnOk P w K mg base CX0 4 A.a_right_table A.f_right_table P_right_table (sp_right_table K) := by
  refine T.F_right_table.ok sc_right_table (fun vs H Q E h => ?_) (fun cdv A' outer s H vs Q E hr h => ?_)
  · obtain ⟨L, n, d, a, rfl, _⟩ := h
    rfl
  · obtain ⟨L, n, d, a, rfl, hw, W, hn, q⟩ := h
    refine ⟨_, (pss_cons (ps_if (pt_not (pt_truK K (pe_call (ok_has_web_form T) (hr.mono (by decide)) (by rfl) T.g_has_web_form T.F_has_web_form.kp T.b_has_web_form .nil pass0 (pa_cons (pv 0) pa_nil)))) (pss_one (ps_ret pe_non)) pss_nil)
      (pss_cons (ps_asg (pv 0) (pg_tupK K (by rfl) (pgs_cons (pg_name (i := 1) sc_right_table.nd rfl (Or.inl rfl)) (pgs_cons (pg_name (i := 2) sc_right_table.nd rfl (Or.inl rfl)) pgs_nil))))
      (pss_cons (ps_set (i := 3) sc_right_table.nd rfl (Or.inl rfl) (pe_call (ok_step_table T) (hr.mono (by decide)) (by rfl) T.g_step_table T.F_step_table.kp T.b_step_table .nil pass0 (pa_cons (pv 2) pa_nil)))
      (pss_cons (ps_if (PW.pt (pw_or (pt_cmpR op_isN (pv 3) pe_non (nomark _)) (pw_or1 (pt_truK K (pe_callB (any_K K rfl) (by rfl) T.n_any (by decide +kernel) (pa_cons (pe_lc (own := [("steps", 4)]) rfl sc_right_table.nd (pi_listK K (pe_slice (sl_K K) (pv 3) (po_some pe_int) po_none)) (blkOk_by (own := [("steps", 4)]) (N := N_right_table) (sc := defScope s_right_table) (by decide +kernel)) (fun _ _ _ _ _ => (pg_name (i := 4) sc_right_table.nd rfl (Or.inl rfl))) (fun _ _ _ _ _ => pts_nil) (fun _ _ _ _ _ => (pe_cmpR op_lt (pe_callB len_D (by rfl) T.n_len (by decide +kernel) (pa_cons (pv 4) pa_nil)) pe_int (nomark _)))) pa_nil)))))) (pss_one (ps_ret pe_non)) pss_nil)
      (pss_one (ps_ret (pe_ifExp (pt_cmpR (op_eqK K hr.units) (pe_callTy (list_D rfl) (by rfl) T.n_list (by decide +kernel) (pa_cons (pe_call (ok_first_reached T) (hr.mono (by decide)) (by rfl) T.g_first_reached T.F_first_reached.kp T.b0_first_reached.choose_spec.2 T.b0_first_reached.choose_spec.1 pass0 (pa_cons (pv 1) (pa_cons (pv 3) pa_nil))) pa_nil)) (pe_listRg rfl (by rfl) T.n_list (prg_1 (by rfl) T.n_range (pe_callB (len_K K) (by rfl) T.n_len (by decide +kernel) (pa_cons (pv 2) pa_nil)))) (nomark _)) (pv 3) pe_non))))))), ?_⟩
    have G := W.gr
    have l4 := W.l4
    have hp0 := W.pos
    walk_at "go"
    refine ⟨L, n, d, a, rfl, hw, W, hn, fun H1 e1 => ?_⟩
    refine r_truB ?_
    obtain ⟨r, xs, ha, hr0, wa⟩ := (hw.mono e1).ex
    have zx : xs.length = n := by rw [wa.len, Wb.rows_len]
    walk_at "go"
    refine r_tup2 ha ?_
    walk_at "go"
    refine ⟨L, n, d, r, xs, rfl, hr0, wa, G, l4, hn, fun p H2 e2 tab => ?_⟩
    have hr1 := ex_t e2 hr0
    have e := e1.trans e2
    clear e1 e2 ha wa hr0 hw
    walk_at "go"
    refine ⟨rfl, ?_⟩
    rw [decide_eq_false (show ¬ V.ref p = V.non from fun z => nomatch z)]
    walk_at "go"
    obtain ⟨ds, zd, hp, hds⟩ := tab.ex
    refine r_slL (l_of hp) fun p2 H3 hp2 e3 h3 => ?_
    have ec : cutV (ds.map V.ref) (some 1) none = (ds.drop 1).map V.ref := by
      unfold cutV
      rw [HT.sIx_none, sIx_int (by decide : (0 : Int) ≤ 1), List.length_map, zd, Nat.min_eq_left (by omega : (1 : Int).toNat ≤ n), List.take_of_length_le (by rw [List.length_drop, List.length_map, zd]; exact Nat.le_refl _), List.map_drop]
      rfl
    rw [ec] at h3
    walk_at "go"
    refine r_itL (l_of h3) (r_cmL (ys := ((ds.drop 1).map fun _ => false).map V.bl) (l_of h3) (by simp) (by simp; omega) (fun _ => rfl) (fun i x y H4 hx hy e4 Q' k => ?_) fun p4 H4 hp4 e4 h4 => ?_)
    · rw [List.getElem?_map] at hx
      rw [List.getElem?_map, List.getElem?_map] at hy
      cases hi : (ds.drop 1)[i]? with
      | none => rw [hi] at hx; cases hx
      | some z =>
        rw [hi] at hx hy
        cases hx
        cases hy
        rw [List.getElem?_drop] at hi
        have li := (List.getElem?_eq_some_iff.mp hi).1
        obtain ⟨kvs, k1, k2⟩ := hds _ _ hi
        have two := W.two (1 + i) (by omega) (by omega)
        have ek := kv_len G k2
        walk_at "go"
        refine r_lenD (e4 _ _ (e3 _ _ k1)) ?_
        walk_at "go"
        rw [decide_eq_false (by omega : ¬ ((kvs.length : Nat) : Int) < 2)]
        exact k H4 (Ex.refl H4)
    walk_at "go"
    refine r_any (l_of h4) ?_
    have ea : ((ds.drop 1).map fun _ => false).any id = false := by
      rw [List.any_map]
      exact List.any_eq_false.mpr fun x _ => by simp
    rw [ea]
    have e' := (e.trans e3).trans e4
    have tab2 := (tab.mono e3).mono e4
    have hr2 := ex_t e4 (ex_t e3 hr1)
    clear e e3 e4 h3 h4 hp hds hr1 tab ds zd ec ea
    walk_at "go"
    refine ⟨L, n, 0, d, p, rfl, l4, G, tab2, W.pos, hn, fun b kvs H5 hb e5 k5 rch => ?_⟩
    walk_at "go"
    refine r_lstD k5 fun b2 H6 hb2 e6 k6 => ?_
    have el : (kvs.map fun kv => kV kv.1) = ((List.range n).map fun (g : Nat) => (g : Int)).map V.int := by
      have z := rch.keys
      rw [W.ord] at z
      have z2 := congrArg (fun l => l.map kV) z
      simp only [List.map_map] at z2 ⊢
      exact z2
    rw [el] at k6
    walk_at "go"
    refine r_lenT (ex_t e6 (ex_t e5 hr2)) ?_
    rw [zx]
    walk_at "go"
    refine r_lstRg (by decide) (by omega) (by decide) (by omega) fun b3 H7 hb3 e7 k7 => ?_
    have er : rgI 0 (n : Int) = (List.range n).map fun (g : Nat) => (g : Int) := by
      unfold rgI
      rw [show ((n : Int) - 0).toNat = n by omega]
      refine List.map_congr_left fun g _ => ?_
      omega
    rw [er] at k7
    walk_at "go"
    refine r_eqL (l_of (e7 _ _ k6)) (l_of k7) ?_
    rw [decide_eq_true (rfl : ((List.range n).map fun (g : Nat) => (g : Int)) = _)]
    walk_at "go"
    exact q p H7 (((e'.trans e5).trans e6).trans e7) (((tab2.mono e5).mono e6).mono e7)
def sp_checked_table (K : PySem.W.Frag) : Sp := sp_right_table K
theorem ok_checked_table (T : Tx K mg A) : FnOk P w K mg base CX0 5 A.a_checked_table A.f_checked_table P_checked_table (sp_checked_table K) := by
  refine T.F_checked_table.ok sc_checked_table (fun vs H Q E h => ?_) (fun cdv A' outer s H vs Q E hr h => ?_)
  · obtain ⟨L, n, d, a, rfl, _⟩ := h
    rfl
  · obtain ⟨L, n, d, a, rfl, hw, W, hn, q⟩ := h
    refine ⟨_, (pss_cons (ps_set (i := 1) sc_checked_table.nd rfl (Or.inl rfl) (pe_call (ok_right_table T) (hr.mono (by decide)) (by rfl) T.g_right_table T.F_right_table.kp T.b_right_table .nil pass0 (pa_cons (pv 0) pa_nil)))
      (pss_cons (ps_if (pt_cmpR op_isN (pv 1) pe_non (nomark _)) (pss_one ps_never) pss_nil)
      (pss_one (ps_ret (pv 1))))), ?_⟩
    walk_at "go"
    refine ⟨L, n, d, a, rfl, hw, W, hn, fun p H1 e1 tab => ?_⟩
    walk_at "go"
    refine ⟨rfl, ?_⟩
    rw [decide_eq_false (show ¬ V.ref p = V.non from fun z => nomatch z)]
    walk_at "go"
    exact q p H1 e1 tab
end
end Lw
namespace Lw
open PySem PySem.Spec PyProof.Rows L2 Evl

local macro_rules | `(tactic| walk_at "go") => `(tactic| repeat (first
  | with_reducible refine st_seq ?_ | with_reducible refine st_set ?_ | with_reducible refine st_asg ?_ | with_reducible refine st_ret ?_ | with_reducible refine st_drop ?_ | with_reducible refine st_if ?_
  | with_reducible refine st_c ?_ | ((with_reducible refine' st_v ?h ?_); (case h => exact rfl)) | with_reducible refine st_n ?_ | with_reducible refine st_cons ?_ | with_reducible refine st_op ?_ | with_reducible refine st_un ?_
  | with_reducible refine st_cb ?_ | with_reducible refine st_test ?_ | with_reducible refine st_call ?_ | with_reducible refine st_callK ?_ | with_reducible refine st_sl ?_ | with_reducible refine st_par ?_ | with_reducible refine st_par3 ?_ | with_reducible refine st_tru ?_
  | with_reducible refine st_and ?_ | with_reducible refine st_or ?_ | with_reducible refine st_not ?_ | with_reducible refine st_B ?_ | with_reducible refine st_andV ?_ | with_reducible refine st_orV ?_ | with_reducible refine st_notV ?_ | with_reducible refine st_ifE ?_
  | with_reducible refine st_part ?_ | with_reducible refine st_nop ?_ | with_reducible refine st_sub ?_ | with_reducible refine st_chain ?_ | with_reducible refine st_bl ?_ | with_reducible refine st_in ?_ | with_reducible refine r_truB ?_
  | with_reducible refine st_nameG ?_ | with_reducible refine if_T ?_ | with_reducible refine if_F ?_ | with_reducible refine if_nT ?_ | with_reducible refine if_nF ?_
  | with_reducible refine r_add ?_ | with_reducible refine r_0 ?_ | with_reducible refine r_neg ?_ | with_reducible refine r_intI ?_ | with_reducible refine r_intB ?_ | with_reducible refine r_abs ?_ | with_reducible refine r_max2 ?_ | with_reducible refine r_min2 ?_ | with_reducible refine r_eqI ?_ | with_reducible refine r_neI ?_
  | with_reducible refine st_nxt ?_ | with_reducible refine st_cnt ?_ | with_reducible refine st_brk ?_ | with_reducible refine st_retn ?_
  | with_reducible refine st_lstN ?_ | with_reducible refine st_tupN ?_
  | with_reducible refine st_for ?_ | with_reducible refine st_lc ?_ | with_reducible refine st_lc2 ?_ | with_reducible refine st_rng1 ?_ | with_reducible refine st_rng2 ?_ | with_reducible refine st_rng3 ?_ | with_reducible refine st_itL ?_ | with_reducible refine st_itT ?_ | with_reducible refine st_rev ?_ | with_reducible refine st_enumE ?_ | with_reducible refine st_zip3 ?_ | with_reducible refine st_lvals ?_ | with_reducible refine st_fld ?_ | with_reducible refine st_sfld ?_ | with_reducible refine st_meth ?_ | with_reducible refine st_make ?_ | with_reducible refine st_rg1 ?_ | with_reducible refine st_enumS ?_ | with_reducible refine st_dg1 ?_ | with_reducible refine st_dg2 ?_ | with_reducible refine st_dpop ?_ | with_reducible refine st_dset ?_ | with_reducible refine st_dc ?_ | with_reducible refine st_keys ?_ | with_reducible refine st_dget ?_ | with_reducible refine st_din ?_ | with_reducible refine st_dnin ?_ | with_reducible refine st_dput ?_ | with_reducible refine st_dnew ?_ | with_reducible refine st_lstRg ?_ | with_reducible refine st_rg2 ?_ | with_reducible refine r_twoI ?_ | with_reducible refine st_bm ?_ | with_reducible refine st_bm0 ?_
  | ((with_reducible refine' st_aug ?h ?_); (case h => exact rfl)) | with_reducible refine r_augI ?_ | with_reducible refine r_eqB ?_
  | dsimp only))
section
variable {P : Program} {w : World} {K : PySem.W.Frag} {mg : Str → Option Value} {base : Heap} {A : Ad}

def sp_other_ways (K : PySem.W.Frag) : Sp := fun vs H Q _ => ∃ (L n : Nat) (d : Wb.Gm) (a p : Addr), vs = [.ref a, .ref p] ∧ WebH K H a L n d ∧ TabH H p n d ∧ Wb.Web L n d ∧ n ≤ 64 ∧ ∀ c xs H1, Ex H H1 → H c = none → H1 c = some (.lst xs) → TpA H1 xs ((Wb.restT L n d).map Wb.tri) → Q (.ref c) H1
theorem ok_other_ways (T : Tx K mg A) : FnOk P w K mg base CX0 4 A.a_other_ways A.f_other_ways P_other_ways (sp_other_ways K) := by
  refine T.F_other_ways.ok sc_other_ways (fun vs H Q E h => ?_) (fun cdv A' outer s H vs Q E hr h => ?_)
  · obtain ⟨L, n, d, a, p, rfl, _⟩ := h
    rfl
  · obtain ⟨L, n, d, a, p, rfl, hW, tab, W, hn, q⟩ := h
    have l4 := W.l4
    obtain ⟨r, xs, ha, hr0, wa⟩ := hW.ex
    refine ⟨_, (pss_cons (ps_set (i := 2) sc_other_ways.nd rfl (Or.inr rfl) (pe_dcT (own := [("way", 3)]) (hu_of hr) rfl sc_other_ways.nd (pi_listK K (pe_call (ok_tree_ways T) (hr.mono (by decide)) (by rfl) T.g_tree_ways T.F_tree_ways.kp T.b_tree_ways .nil pass0 (pa_cons (pe_ix (ix_K K) (pv 0) pe_int (fun _ _ => rfl)) (pa_cons (pv 1) pa_nil)))) (blkOk_by (own := [("way", 3)]) (N := N_other_ways) (sc := defScope s_other_ways) (by decide +kernel)) (fun _ _ _ _ _ => (pg_name (i := 3) sc_other_ways.nd rfl (Or.inl rfl))) (fun _ _ _ _ _ => pts_nil) (fun _ _ _ _ _ => (pv 3)) (fun _ _ _ _ _ => pe_bl)))
      (pss_one (ps_ret (pe_lc (own := [("way", 3)]) rfl sc_other_ways.nd (pi_listK K (pe_call (ok_ways_of T) (hr.mono (by decide)) (by rfl) T.g_ways_of T.F_ways_of.kp T.b_ways_of .nil pass0 (pa_cons (pv 0) pa_nil))) (blkOk_by (own := [("way", 3)]) (N := N_other_ways) (sc := defScope s_other_ways) (by decide +kernel)) (fun _ _ _ _ _ => (pg_name (i := 3) sc_other_ways.nd rfl (Or.inl rfl))) (fun _ _ _ _ _ => (pts_one (pt_cmp (pc_dnotin (hu_of hr) (pv 3) (pv 2)) (by rfl)))) (fun _ _ _ _ _ => (pv 3)))))), ?_⟩
    walk_at "go"
    refine st_dcT ?_
    walk_at "go"
    refine r_ixT ha rfl ?_
    walk_at "go"
    refine ⟨L, n, d, p, rfl, tab, W, hn, fun b ts H1 e1 hb k1 tT => ?_⟩
    have zt : ts.length ≤ 64 := by
      rw [tT.len, List.length_map, Wb.treeT_len W]
      omega
    refine r_itL (l_of k1) (r_dcT k1 tT (by omega) (fun _ => rfl) (fun _ => rfl) fun D H2 kvs hD e2 k2 bar => ?_)
    have e12 := e1.trans e2
    have hD0 : H D = none := fresh_back e1 hD
    walk_at "go"
    refine ⟨L, n, d, a, rfl, hW.mono e12, W.gr, l4, by omega, fun w ws H3 e3 hw k3 tw => ?_⟩
    have zw : ws.length ≤ 4000 := by
      rw [tw.len, List.length_map]
      have := Wb.ways_len L d n
      have h2 : n * L ≤ 64 * 4 := Nat.mul_le_mul hn l4
      exact Nat.le_trans this (by omega)
    have e123 := e12.trans e3
    refine r_itL (l_of k3) (r_cmLA (xs := ws) (fun i us H' => Ex H3 H' ∧ TpA H' us ((((Wb.ways3 L n d).take i).filter fun x => !Wb.isT L n d x).map Wb.tri)) (by omega) (fun _ => rfl) (fun i us H' z => ex_l z.1 (l_of k3)) (fun D2 hD2 o => ⟨Ex.new hD2, TpA.nil⟩) (fun i x H4 D2 acc hx hz hacc z zall => ?_) fun D2 H4 us hD2 k4 z _ => ?_)
    · obtain ⟨w0, b0, h1, rfl, h3⟩ := tw.get hx
      rw [List.getElem?_map] at h1
      obtain ⟨y, hy, rfl⟩ := Option.map_eq_some_iff.mp h1
      obtain ⟨e4, t4⟩ := z
      have hD3 : H3 D2 = none := ex_none fun o => (zall o).1
      walk_at "go"
      refine r_tnin (.inl (e4 _ _ (e3 _ _ k2))) (e4 _ _ h3) ?_
      rw [bar]
      have inT : decide (Wb.tri y ∈ (Wb.treeT L n d).map Wb.tri) = Wb.isT L n d y := by
        have hyw := List.mem_of_getElem? hy
        cases c : Wb.isT L n d y with
        | true => exact decide_eq_true (List.mem_map.mpr ⟨y, List.mem_filter.mpr ⟨hyw, c⟩, rfl⟩)
        | false =>
          refine decide_eq_false fun hm => ?_
          obtain ⟨y2, h5, h6⟩ := List.mem_map.mp hm
          rw [Wb.tri_inj h6] at h5
          have := (List.mem_filter.mp h5).2
          rw [c] at this
          cases this
      rw [inT]
      cases c : Wb.isT L n d y with
      | true =>
        rw [show (!true) = false from rfl]
        walk_at "go"
        refine cm_no hacc hz fun o => ⟨(zall o).1, ?_⟩
        rw [L2.take_snoc hy, List.filter_append, List.filter_cons_of_neg (by rw [c]; exact Bool.false_ne_true)]
        simpa using (zall o).2
      | false =>
        rw [show (!false) = true from rfl]
        walk_at "go"
        refine cm_yes hacc hz (by have := (List.getElem?_eq_some_iff.mp hx).1; omega) fun o => ⟨ex_put e4 hD3, ?_⟩
        have tx : TX H4 (upd H4 D2 o) := TX.upd hacc
        rw [L2.take_snoc hy, List.filter_append, List.filter_cons_of_pos (p := fun x => !Wb.isT L n d x) (by rw [c]; rfl), List.map_append]
        exact (t4.tx tx).snoc ((tx b0 _ (.inl (e4 _ _ h3))).trans (e4 _ _ h3))
    · obtain ⟨e4, t4⟩ := z
      have zl := tw.len
      rw [List.length_map] at zl
      rw [zl, List.take_length] at t4
      exact q D2 us H4 (e123.trans e4) (fresh_back e123 hD2) k4 t4
def sp_basis_walks (K : PySem.W.Frag) : Sp := fun vs H Q _ => ∃ (L n : Nat) (d : Wb.Gm) (a p : Addr), vs = [.ref a, .ref p] ∧ WebH K H a L n d ∧ TabH H p n d ∧ Wb.Web L n d ∧ n ≤ 64 ∧ ∀ c xs H1, Ex H H1 → H c = none → H1 c = some (.lst xs) → WkA K H1 xs (Wb.basisW L n d) → Q (.ref c) H1
theorem ok_basis_walks (T : Tx K mg A) : FnOk P w K mg base CX0 5 A.a_basis_walks A.f_basis_walks P_basis_walks (sp_basis_walks K) := by
  refine T.F_basis_walks.ok sc_basis_walks (fun vs H Q E h => ?_) (fun cdv A' outer s H vs Q E hr h => ?_)
  · obtain ⟨L, n, d, a, p, rfl, _⟩ := h
    rfl
  · obtain ⟨L, n, d, a, p, rfl, hW, tab, W, hn, q⟩ := h
    have l4 := W.l4
    obtain ⟨r, xs, ha, hr0, wa⟩ := hW.ex
    refine ⟨_, (pss_cons (ps_set (i := 2) sc_basis_walks.nd rfl (Or.inr rfl) (pe_call (ok_first_ways T) (hr.mono (by decide)) (by rfl) T.g_first_ways T.F_first_ways.kp T.b_first_ways .nil pass0 (pa_cons (pe_ix (ix_K K) (pv 0) pe_int (fun _ _ => rfl)) (pa_cons (pv 1) pa_nil))))
      (pss_one (ps_ret (pe_lc (own := [("room", 3), ("letter", 4), ("after", 5)]) rfl sc_basis_walks.nd (pi_listK K (pe_call (ok_other_ways T) (hr.mono (by decide)) (by rfl) T.g_other_ways T.F_other_ways.kp T.b_other_ways .nil pass0 (pa_cons (pv 0) (pa_cons (pv 1) pa_nil)))) (blkOk_by (own := [("room", 3), ("letter", 4), ("after", 5)]) (N := N_basis_walks) (sc := defScope s_basis_walks) (by decide +kernel)) (fun _ _ _ _ _ => (pg_tupK (n := 3) K (by rfl) (pgs_cons (pg_name (i := 3) sc_basis_walks.nd rfl (Or.inl rfl)) (pgs_cons (pg_name (i := 4) sc_basis_walks.nd rfl (Or.inl rfl)) (pgs_cons (pg_name (i := 5) sc_basis_walks.nd rfl (Or.inl rfl)) pgs_nil))) (by kernel_rfl) (by kernel_rfl))) (fun _ _ _ _ _ => pts_nil) (fun _ _ _ _ _ => (pe_op (op_addK K) (pe_op (op_addK K) (pe_ix (ix_K K) (pv 2) (pv 3) (fun _ _ => rfl)) (pe_tup (pa_cons (pv 4) pa_nil))) (pe_call (ok_turned_back T) (hr.mono (by decide)) (by rfl) T.g_turned_back T.F_turned_back.kp T.b_turned_back .nil pass0 (pa_cons (pe_ix (ix_K K) (pv 2) (pv 5) (fun _ _ => rfl)) pa_nil)))))))), ?_⟩
    walk_at "go"
    refine r_ixT ha rfl ?_
    walk_at "go"
    refine ⟨L, n, d, p, rfl, tab, W, by omega, fun f fs H1 e1 hf k1 wf => ?_⟩
    walk_at "go"
    refine ⟨L, n, d, a, p, rfl, hW.mono e1, tab.mono e1, W, hn, fun w ws H2 e2 hw k2 tw => ?_⟩
    have e12 := e1.trans e2
    have zl := tw.len
    rw [List.length_map] at zl
    have zw : ws.length ≤ 4000 := by
      rw [zl]
      have := Wb.ways_len L d n
      have h2 : n * L ≤ 64 * 4 := Nat.mul_le_mul hn l4
      exact Nat.le_trans (List.length_filter_le _ _) (Nat.le_trans this (by omega))
    have fl := Wb.fws_len W
    refine r_itL (l_of k2) (r_cmL3 (xs := ws) (fun i us H' => Ex H2 H' ∧ WkA K H' us (((Wb.restT L n d).take i).map (Wb.word L n d))) (by omega) (fun _ _ _ => rfl) (fun i us H' z => ex_l z.1 (l_of k2)) (fun D hD o => ⟨Ex.new hD, WkA.nil⟩) (fun i x H3 D acc hx hz hacc z zall => ?_) fun D H3 us hD k3 z _ => ?_)
    · obtain ⟨w0, b0, h1, rfl, h3⟩ := tw.get hx
      rw [List.getElem?_map] at h1
      obtain ⟨y, hy, rfl⟩ := Option.map_eq_some_iff.mp h1
      obtain ⟨e3, w3⟩ := z
      have hD2 : H2 D = none := ex_none fun o => (zall o).1
      have bdy := Wb.ways_bd W.gr (List.mem_filter.mp (List.mem_of_getElem? hy)).1
      have e23 := e2.trans e3
      have wf3 := wf.ex e23
      have zf : fs.length = n := by rw [wf.len, fl]
      have get : ∀ g, g < n → ∃ pg, fs[g]? = some (.ref pg) ∧ IT K H3 pg (Wb.fw L n d g) := fun g hg => by
        obtain ⟨pg, e, h⟩ := wf3.at' g _ _ (List.getElem?_eq_getElem (by omega)) (Wb.fws_at W hg)
        exact ⟨pg, by rw [List.getElem?_eq_getElem (by omega), e], h⟩
      obtain ⟨pa, ga, ia⟩ := get y.1 bdy.1
      obtain ⟨pb, gb, ib⟩ := get y.2.2 bdy.2.2
      have la := (Wb.fw_go W y.1 bdy.1).2.2
      have lb := (Wb.fw_go W y.2.2 bdy.2.2).2.2
      refine ⟨b0, _, _, _, rfl, t_of (e3 _ _ h3), ?_⟩
      refine t_yes (if_T ?_)
      walk_at "go"
      refine r_ixL (l_of (e23 _ _ k1)) (atI_at (by omega) (by rw [Int.toNat_natCast]; exact ga)) ?_
      walk_at "go"
      refine r_newT (by simp) fun t2 H4 ht2 e4 k4 => ?_
      have k4' : IT K H4 t2 [(y.2.1 : Int) + 1] := t_of k4
      walk_at "go"
      refine r_catT (ex_t e4 ia) k4' (by rw [List.length_map, List.length_map]; simp; omega) fun t3 H5 e5 k5 => ?_
      rw [← List.map_append] at k5
      walk_at "go"
      refine r_ixL (l_of ((e4.trans e5) _ _ (e23 _ _ k1))) (atI_at (by omega) (by rw [Int.toNat_natCast]; exact gb)) ?_
      walk_at "go"
      refine ⟨pb, _, rfl, ex_t (e4.trans e5) ib, by omega, fun t4 H6 e6 k6 => ?_⟩
      walk_at "go"
      refine r_catT (ex_t e6 k5) k6 (by rw [List.length_map, List.length_map, Fg.bk_len, List.length_append]; simp; omega) fun t5 H7 e7 k7 => ?_
      rw [← List.map_append] at k7
      have e37 := ((e4.trans e5).trans e6).trans e7
      refine cm_yes (e37 _ _ hacc) hz (by have := (List.getElem?_eq_some_iff.mp hx).1; omega) fun o => ⟨ex_put (e3.trans e37) hD2, ?_⟩
      have tx : TX H7 (upd H7 D o) := TX.upd (e37 _ _ hacc)
      rw [L2.take_snoc hy, List.map_append]
      exact ((w3.ex e37).tx tx).snoc ⟨t5, rfl, tx_t tx k7⟩
    · obtain ⟨e3, w3⟩ := z
      rw [zl, List.take_length] at w3
      exact q D us H3 (e12.trans e3) (fresh_back e12 hD) k3 w3
def sp_tree (K : PySem.W.Frag) : Sp := fun vs H Q _ => ∃ (L n : Nat) (d : Wb.Gm) (a : Addr), vs = [.ref a] ∧ WebH K H a L n d ∧ Wb.Web L n d ∧ n ≤ 64 ∧ ∀ c xs H1, Ex H H1 → H c = none → H1 c = some (.lst xs) → TpA H1 xs ((Wb.treeT L n d).map Wb.tri) → Q (.ref c) H1
theorem ok_tree (T : Tx K mg A) : FnOk P w K mg base CX0 6 A.a_tree A.f_tree P_tree (sp_tree K) := by
  refine T.F_tree.ok sc_tree (fun vs H Q E h => ?_) (fun cdv A' outer s H vs Q E hr h => ?_)
  · obtain ⟨L, n, d, a, rfl, _⟩ := h
    rfl
  · obtain ⟨L, n, d, a, rfl, hW, W, hn, q⟩ := h
    refine ⟨_, (pss_cons (ps_set (i := 1) sc_tree.nd rfl (Or.inl rfl) (pe_call (ok_checked_table T) (hr.mono (by decide)) (by rfl) T.g_checked_table T.F_checked_table.kp T.b_checked_table .nil pass0 (pa_cons (pv 0) pa_nil)))
      (pss_one (ps_ret (pe_call (ok_tree_ways T) (hr.mono (by decide)) (by rfl) T.g_tree_ways T.F_tree_ways.kp T.b_tree_ways .nil pass0 (pa_cons (pe_ix (ix_K K) (pv 0) pe_int (fun _ _ => rfl)) (pa_cons (pv 1) pa_nil)))))), ?_⟩
    walk_at "go"
    refine ⟨L, n, d, a, rfl, hW, W, by omega, fun p H1 e1 tab => ?_⟩
    obtain ⟨r, xs, ha, hr0, wa⟩ := (hW.mono e1).ex
    walk_at "go"
    refine r_ixT ha rfl ?_
    walk_at "go"
    refine ⟨L, n, d, p, rfl, tab, W, hn, fun c xs H2 e2 hc k2 t2 => ?_⟩
    exact q c xs H2 (e1.trans e2) (fresh_back e1 hc) k2 t2
def sp_basis (K : PySem.W.Frag) : Sp := fun vs H Q _ => ∃ (L n : Nat) (d : Wb.Gm) (a : Addr), vs = [.ref a] ∧ WebH K H a L n d ∧ Wb.Web L n d ∧ n ≤ 64 ∧ ∀ c xs H1, Ex H H1 → H c = none → H1 c = some (.lst xs) → WkA K H1 xs (Wb.basisW L n d) → Q (.ref c) H1
theorem ok_basis (T : Tx K mg A) : FnOk P w K mg base CX0 6 A.a_basis A.f_basis P_basis (sp_basis K) := by
  refine T.F_basis.ok sc_basis (fun vs H Q E h => ?_) (fun cdv A' outer s H vs Q E hr h => ?_)
  · obtain ⟨L, n, d, a, rfl, _⟩ := h
    rfl
  · obtain ⟨L, n, d, a, rfl, hW, W, hn, q⟩ := h
    refine ⟨_, (pss_one (ps_ret (pe_call (ok_basis_walks T) (hr.mono (by decide)) (by rfl) T.g_basis_walks T.F_basis_walks.kp T.b_basis_walks .nil pass0 (pa_cons (pv 0) (pa_cons (pe_call (ok_checked_table T) (hr.mono (by decide)) (by rfl) T.g_checked_table T.F_checked_table.kp T.b_checked_table .nil pass0 (pa_cons (pv 0) pa_nil)) pa_nil))))), ?_⟩
    walk_at "go"
    refine ⟨L, n, d, a, rfl, hW, W, by omega, fun p H1 e1 tab => ?_⟩
    walk_at "go"
    refine ⟨L, n, d, a, p, rfl, hW.mono e1, tab, W, hn, fun c xs H2 e2 hc k2 t2 => ?_⟩
    exact q c xs H2 (e1.trans e2) (fresh_back e1 hc) k2 t2
end
end Lw
namespace Lw
open PySem PySem.Spec PyProof.Rows L2 Evl

local macro_rules | `(tactic| walk_at "go") => `(tactic| repeat (first
  | with_reducible refine st_seq ?_ | with_reducible refine st_set ?_ | with_reducible refine st_asg ?_ | with_reducible refine st_ret ?_ | with_reducible refine st_drop ?_ | with_reducible refine st_if ?_
  | with_reducible refine st_c ?_ | ((with_reducible refine' st_v ?h ?_); (case h => exact rfl)) | with_reducible refine st_n ?_ | with_reducible refine st_cons ?_ | with_reducible refine st_op ?_ | with_reducible refine st_un ?_
  | with_reducible refine st_cb ?_ | with_reducible refine st_test ?_ | with_reducible refine st_call ?_ | with_reducible refine st_callK ?_ | with_reducible refine st_sl ?_ | with_reducible refine st_par ?_ | with_reducible refine st_par3 ?_ | with_reducible refine st_tru ?_
  | with_reducible refine st_and ?_ | with_reducible refine st_or ?_ | with_reducible refine st_not ?_ | with_reducible refine st_B ?_ | with_reducible refine st_andV ?_ | with_reducible refine st_orV ?_ | with_reducible refine st_notV ?_ | with_reducible refine st_ifE ?_
  | with_reducible refine st_part ?_ | with_reducible refine st_nop ?_ | with_reducible refine st_sub ?_ | with_reducible refine st_chain ?_ | with_reducible refine st_bl ?_ | with_reducible refine st_in ?_ | with_reducible refine r_truB ?_
  | with_reducible refine st_nameG ?_ | with_reducible refine if_T ?_ | with_reducible refine if_F ?_ | with_reducible refine if_nT ?_ | with_reducible refine if_nF ?_
  | with_reducible refine r_add ?_ | with_reducible refine r_0 ?_ | with_reducible refine r_neg ?_ | with_reducible refine r_intI ?_ | with_reducible refine r_intB ?_ | with_reducible refine r_abs ?_ | with_reducible refine r_max2 ?_ | with_reducible refine r_min2 ?_ | with_reducible refine r_eqI ?_ | with_reducible refine r_neI ?_
  | with_reducible refine st_nxt ?_ | with_reducible refine st_cnt ?_ | with_reducible refine st_brk ?_ | with_reducible refine st_retn ?_
  | with_reducible refine st_lstN ?_ | with_reducible refine st_tupN ?_
  | with_reducible refine st_for ?_ | with_reducible refine st_lc ?_ | with_reducible refine st_lc2 ?_ | with_reducible refine st_rng1 ?_ | with_reducible refine st_rng2 ?_ | with_reducible refine st_rng3 ?_ | with_reducible refine st_itL ?_ | with_reducible refine st_itT ?_ | with_reducible refine st_rev ?_ | with_reducible refine st_enumE ?_ | with_reducible refine st_zip3 ?_ | with_reducible refine st_lvals ?_ | with_reducible refine st_fld ?_ | with_reducible refine st_sfld ?_ | with_reducible refine st_meth ?_ | with_reducible refine st_make ?_ | with_reducible refine st_rg1 ?_ | with_reducible refine st_enumS ?_ | with_reducible refine st_dg1 ?_ | with_reducible refine st_dg2 ?_ | with_reducible refine st_dpop ?_ | with_reducible refine st_dset ?_ | with_reducible refine st_dc ?_ | with_reducible refine st_keys ?_ | with_reducible refine st_dget ?_ | with_reducible refine st_din ?_ | with_reducible refine st_dnin ?_ | with_reducible refine st_dput ?_ | with_reducible refine st_dnew ?_ | with_reducible refine st_lstRg ?_ | with_reducible refine st_rg2 ?_ | with_reducible refine r_twoI ?_ | with_reducible refine st_bm ?_ | with_reducible refine st_bm0 ?_
  | ((with_reducible refine' st_aug ?h ?_); (case h => exact rfl)) | with_reducible refine r_augI ?_ | with_reducible refine r_eqB ?_
  | dsimp only))
section
variable {P : Program} {w : World} {K : PySem.W.Frag} {mg : Str → Option Value} {base : Heap} {A : Ad}

def sp__law_well (K : PySem.W.Frag) : Sp := fun vs H Q _ => ∃ a ns k, vs = [.ref a, .int k] ∧ IL K H a ns ∧ ns.length ≤ 63 ∧ 0 ≤ k ∧ k ≤ 100 ∧ ∀ p H1, H p = none → Ex H H1 → Well H1 p 0 → Q (.ref p) H1
theorem ok__law_well (T : Tx K mg A) : FnOk P w K mg base CX0 1 A.a__law_well A.f__law_well P__law_well (sp__law_well K) := by
  refine T.F__law_well.ok sc__law_well (fun vs H Q E h => ?_) (fun cdv A' outer s H vs Q E hr h => ?_)
  · obtain ⟨a, ns, k, rfl, _⟩ := h
    rfl
  · obtain ⟨a, ns, k, rfl, hS, hlen, hk0, hk, q⟩ := h
    refine ⟨_, (pss_cons (ps_set (i := 2) sc__law_well.nd rfl (Or.inl rfl) (pe_cutE (pe_ifExp (pt_cmpR op_lt (pv 1) (pe_callB (len_K K) (by rfl) T.n_len (by decide +kernel) (pa_cons (pv 0) pa_nil)) (nomark _)) (pe_ix (ix_K K) (pv 0) (pv 1) (fun _ _ => rfl)) (pe_op (op_addK K) (pe_op (op_mulK K) pe_int (pv 1)) pe_int))))
      (pss_cons (ps_set (i := 3) sc__law_well.nd rfl (Or.inl rfl) pe_int)
      (pss_cons (ps_for PassesOwn.never rfl (pi_enumE K skL (by rfl) T.n_enumerate (pa_cons (pv 0) pa_nil)) (pg_tupK K (by rfl) (pgs_cons (pg_name (i := 4) sc__law_well.nd rfl (Or.inl rfl)) (pgs_cons (pg_name (i := 5) sc__law_well.nd rfl (Or.inl rfl)) pgs_nil))) (pss_one (ps_set (i := 3) sc__law_well.nd rfl (Or.inl rfl) (pe_op op_mod (pe_callTy int_K (by rfl) T.n_int (by decide +kernel) (pa_cons (pe_op (op_addK K) (pe_op (op_mulK K) (pv 3) pe_int) (pe_op (op_mulK K) (pv 5) (pe_op (op_addK K) (pv 4) pe_int))) pa_nil)) (pe_op (op_addK K) (pe_op op_powW pe_int pe_int) pe_int)))))
      (pss_one (ps_ret (pe_lst (pa_cons (pe_callB (max2_K rfl) (by rfl) T.n_max (by decide +kernel) (pa_cons pe_int (pa_cons (pe_op op_sub (pv 2) (pe_op op_powW pe_int pe_int)) pa_nil))) (pa_cons (pe_op op_mod (pe_callTy int_K (by rfl) T.n_int (by decide +kernel) (pa_cons (pe_op (op_addK K) (pe_op (op_addK K) (pe_op (op_mulK K) (pv 2) pe_int) (pv 3)) (pe_op (op_mulK K) pe_int (pv 1))) pa_nil)) (pe_op (op_addK K) (pe_op op_powW pe_int pe_int) pe_int)) (pa_cons pe_int pa_nil))))))))), ?_⟩
    walk_at "go"
    refine st_cutE (fun x H' => H = H' ∧ ∃ cell : Int, x = .int cell) ?_ ?_
    · walk_at "go"
      refine r_lenL hS ?_
      walk_at "go"
      refine if_2 (fun h0 => ?_) fun h0 => ?_
      · rw [List.length_map] at h0
        walk_at "go"
        have hi : k.toNat < ns.length := by omega
        refine r_ixL hS (at_int hk0 (List.getElem?_eq_getElem hi)) ?_
        exact ⟨rfl, _, rfl⟩
      · walk_at "go"
        refine r_mul (.inl ⟨by decide, by decide⟩) ?_
        walk_at "go"
        exact ⟨rfl, _, rfl⟩
    rintro x _ ⟨rfl, cell, rfl⟩
    walk_at "go"
    refine r_enumE hS (r_forE (k := skL) (xs := ns.map V.int) (fun i σ' H' => ∃ v4 v5, ∃ t : Int, Ex H H' ∧ 0 ≤ t ∧ t < 10 ^ 41 ∧ σ' = [some (.ref a), some (.int k), some (.int cell), some (.int t), v4, v5]) ⟨none, none, 0, Ex.refl H, by decide, by decide, rfl⟩ (fun i σ' H' _ p => ?_) (fun i x σ' H' H1 hx p e1 => ?_) (fun σ' H' p => ?_))
    · obtain ⟨_, _, _, e, _⟩ := p
      exact ex_l e hS
    · obtain ⟨v4, v5, t, e, t0, t1, rfl⟩ := p
      rw [List.getElem?_map] at hx
      cases hn : ns[i]? with
      | none => rw [hn] at hx; cases hx
      | some z =>
        rw [hn] at hx
        cases hx
        have hi := (List.getElem?_eq_some_iff.mp hn).1
        walk_at "go"
        refine r_mul (.inr ⟨by decide, by decide⟩) ?_
        walk_at "go"
        refine r_mul (.inr ⟨by omega, by omega⟩) ?_
        walk_at "go"
        refine r_pow (k := 40) (a := 4) (by decide) (by decide) (by decide) ?_
        walk_at "go"
        refine r_mod (by decide) ?_
        generalize hy : (t * 31 + z * (0 + (i : Int) + 3)) % (10 ^ (((40 : Nat) : Int)).toNat + 121) = y
        have y0 : 0 ≤ y := by rw [← hy]; exact Int.emod_nonneg _ (by decide)
        have y1 : y < 10 ^ (((40 : Nat) : Int)).toNat + 121 := by rw [← hy]; exact Int.emod_lt_of_pos _ (by decide)
        walk_at "go"
        exact ⟨_, _, y, e.trans e1, y0, Int.lt_trans y1 (by decide), rfl⟩
    · obtain ⟨v4, v5, t, e, t0, t1, rfl⟩ := p
      walk_at "go"
      refine r_pow (k := 18) (a := 4) (by decide) (by decide) (by decide) ?_
      walk_at "go"
      refine r_mul (.inr ⟨by decide, by decide⟩) ?_
      walk_at "go"
      refine r_mul (.inl ⟨by decide, by decide⟩) ?_
      walk_at "go"
      refine r_pow (k := 41) (a := 4) (by decide) (by decide) (by decide) ?_
      walk_at "go"
      refine r_mod (by decide) ?_
      generalize hx : (cell * 8191 + t + 524287 * k) % (10 ^ (((41 : Nat) : Int)).toNat + 11) = x
      have x0 : 0 ≤ x := by rw [← hx]; exact Int.emod_nonneg _ (by decide)
      have x1 : x < 10 ^ (((41 : Nat) : Int)).toNat + 11 := by rw [← hx]; exact Int.emod_lt_of_pos _ (by decide)
      have x2 : x < 2 ^ 160 := Int.lt_trans x1 (by decide)
      walk_at "go"
      refine r_newL (by simp) fun p H2 hp e2 h2 => ?_
      exact q p H2 (fresh_back e hp) (e.trans e2) ⟨_, x, 0, h2, by omega, x0, by omega, by omega, by omega⟩
def sp__law_take (K : PySem.W.Frag) : Sp := spTake
theorem ok__law_take (T : Tx K mg A) : FnOk P w K mg base CX0 1 A.a__law_take A.f__law_take P__law_take (sp__law_take K) := by
  refine T.F__law_take.ok sc__law_take (fun vs H Q E h => ?_) (fun cdv A' outer s H vs Q E hr h => ?_)
  · obtain ⟨w, n, m, rfl, _⟩ := h
    rfl
  · obtain ⟨w, n, m, rfl, hm, hm2, ⟨a, b, c, hw, ha, hb, hb2, hc, hc2⟩, hn, q⟩ := h
    refine ⟨_, (pss_cons (ps_if (pt_cmpR op_gt (pe_ix (ix_K K) (pv 0) pe_int (fun _ _ => rfl)) pe_int (nomark _)) (pss_cons (ps_set (i := 2) sc__law_take.nd rfl (Or.inl rfl) (pe_op op_mod (pe_callTy int_K (by rfl) T.n_int (by decide +kernel) (pa_cons (pe_ix (ix_K K) (pv 0) pe_int (fun _ _ => rfl)) pa_nil)) (pv 1)))
      (pss_cons (ps_asg (pe_op op_fdivW (pe_ix (ix_K K) (pv 0) pe_int (fun _ _ => rfl)) (pv 1)) (pg_sub (pv 0) pe_int set_list))
      (pss_one (ps_ret (pv 2))))) pss_nil)
      (pss_cons (ps_asg (pe_op (op_addK K) (pe_ix (ix_K K) (pv 0) pe_int (fun _ _ => rfl)) pe_int) (pg_sub (pv 0) pe_int set_list))
      (pss_cons (ps_set (i := 3) sc__law_take.nd rfl (Or.inl rfl) (pe_op op_mod (pe_callTy int_K (by rfl) T.n_int (by decide +kernel) (pa_cons (pe_op op_powW (pe_op (op_addK K) (pe_ix (ix_K K) (pv 0) pe_int (fun _ _ => rfl)) (pe_op (op_mulK K) pe_int (pe_ix (ix_K K) (pv 0) pe_int (fun _ _ => rfl)))) pe_int) pa_nil)) (pe_op (op_addK K) (pe_op op_powW pe_int pe_int) pe_int)))
      (pss_cons (ps_set (i := 3) sc__law_take.nd rfl (Or.inl rfl) (pe_op op_mod (pe_callTy int_K (by rfl) T.n_int (by decide +kernel) (pa_cons (pe_op (op_addK K) (pe_op op_powW (pe_op (op_addK K) (pv 3) (pe_op (op_mulK K) pe_int (pe_ix (ix_K K) (pv 0) pe_int (fun _ _ => rfl)))) pe_int) (pv 3)) pa_nil)) (pe_op (op_addK K) (pe_op op_powW pe_int pe_int) pe_int)))
      (pss_one (ps_ret (pe_op op_mod (pe_op op_fdivW (pv 3) pe_int) (pv 1)))))))), ?_⟩
    have w0 : SqL K H w [.int a, .int b, .int c] := l_of hw
    walk_at "go"
    refine r_ixL w0 rfl ?_
    walk_at "go"
    refine if_2 (fun h0 => ?_) fun h0 => ?_
    · walk_at "go"
      refine r_ixL w0 rfl ?_
      walk_at "go"
      refine r_mod hm ?_
      walk_at "go"
      refine r_ixL w0 rfl ?_
      walk_at "go"
      refine r_div hm (by omega : m.natAbs < 2 ^ 60) (by decide) (by decide) ?_
      walk_at "go"
      refine r_setG hw rfl fun H1 e1 h1 => ?_
      walk_at "go"
      exact q (a % m) H1 (Int.emod_nonneg _ (by omega)) (Int.emod_lt_of_pos _ hm) e1 ⟨a / m, b, c, h1, Int.ediv_nonneg ha (by omega), hb, hb2, hc, by omega⟩
    · walk_at "go"
      refine r_ixL w0 rfl ?_
      walk_at "go"
      refine r_setG hw rfl fun H1 e1 hw1 => ?_
      have w1 : SqL K H1 w [.int a, .int b, .int (c + 1)] := l_of hw1
      have bd : (b + 86028121 * (c + 1)).natAbs < 2 ^ 161 := by omega
      walk_at "go"
      refine r_ixL w1 rfl ?_
      walk_at "go"
      refine r_ixL w1 rfl (r_mul (.inl ⟨by decide, by decide⟩) ?_)
      walk_at "go"
      refine r_pow (k := 3) (by decide) bd (by decide) ?_
      walk_at "go"
      refine r_pow (k := 43) (a := 4) (by decide) (by decide) (by decide) ?_
      walk_at "go"
      refine r_mod (by decide) ?_
      generalize hx : (b + 86028121 * (c + 1)) ^ (((3 : Nat) : Int)).toNat % (10 ^ (((43 : Nat) : Int)).toNat + 57) = x
      have x0 : 0 ≤ x := by rw [← hx]; exact Int.emod_nonneg _ (by decide)
      have x1 : x < 10 ^ (((43 : Nat) : Int)).toNat + 57 := by rw [← hx]; exact Int.emod_lt_of_pos _ (by decide)
      have x2 : x < 2 ^ 150 := Int.lt_trans x1 (by decide)
      walk_at "go"
      refine r_ixL w1 rfl (r_mul (.inl ⟨by decide, by decide⟩) ?_)
      walk_at "go"
      refine r_pow (k := 2) (a := 151) (by decide) (by omega) (by decide) ?_
      walk_at "go"
      refine r_pow (k := 42) (a := 4) (by decide) (by decide) (by decide) ?_
      walk_at "go"
      refine r_mod (by decide) ?_
      walk_at "go"
      refine r_div (b := 20) (by decide) (by decide) (by decide) (by decide) ?_
      walk_at "go"
      refine r_mod hm ?_
      exact q _ H1 (Int.emod_nonneg _ (by omega)) (Int.emod_lt_of_pos _ hm) e1 ⟨a, b, c + 1, hw1, ha, hb, hb2, by omega, by omega⟩
def sp__law_straight (K : PySem.W.Frag) : Sp := fun vs H Q _ => ∃ a ns, vs = [.ref a] ∧ IT K H a ns ∧ ns.length ≤ 5000 ∧ ∀ p H1, Ex H H1 → IT K H1 p (Fg.rd ns) → Q (.ref p) H1
theorem ok__law_straight (T : Tx K mg A) : FnOk P w K mg base CX0 1 A.a__law_straight A.f__law_straight P__law_straight (sp__law_straight K) := by
  refine T.F__law_straight.ok sc__law_straight (fun vs H Q E h => ?_) (fun cdv A' outer s H vs Q E hr h => ?_)
  · obtain ⟨a, ns, rfl, _⟩ := h
    rfl
  · obtain ⟨a, ns, rfl, ht, hz, q⟩ := h
    refine ⟨_, (pss_cons (ps_set (i := 1) sc__law_straight.nd rfl (Or.inl rfl) (pe_lst pa_nil))
      (pss_cons (ps_for PassesOwn.never rfl (pi_tupK K (pv 0)) (pg_name (i := 2) sc__law_straight.nd rfl (Or.inl rfl)) (pss_one (ps_if (PW.pt (pw_and (pt_cmpR (op_neK K hr.units) (pv 1) (pe_lst pa_nil) (nomark _)) (pw_and1 (pt_cmpR (op_eqK K hr.units) (pe_ix (ix_K K) (pv 1) (pe_un un_neg pe_int) (fun _ _ => rfl)) (pe_op op_sub pe_int (pv 2)) (nomark _))))) (pss_one (ps_expr (pe_bm0U K PySem.F.plainAttrs_list PySem.F.slot_list_pop PySem.F.type_list_pop mt_pop (pv 1)))) (pss_one (ps_expr (pe_bmU K PySem.F.plainAttrs_list PySem.F.slot_list_append PySem.F.type_list_append mt_append (pv 1) (pa_cons (pv 2) pa_nil)))))))
      (pss_one (ps_ret (pe_callTy (tuple_K K) (by rfl) T.n_tuple (by decide +kernel) (pa_cons (pv 1) pa_nil)))))), ?_⟩
    walk_at "go"
    refine r_newL (by simp) fun l H1 hl e1 h1 => ?_
    walk_at "go"
    refine r_itT (ex_t e1 ht) (r_forT (xs := ns.map V.int) (fun i σ' H' => ∃ v, σ' = [some (.ref a), some (.ref l), v] ∧ Ex H H' ∧ H' l = some (.lst ((Fg.rd (ns.take i)).map V.int))) ⟨none, rfl, e1, h1⟩ (fun i σ' H' _ p => ?_) (fun i x σ' H' hx p => ?_) (fun σ' H' p => ?_))
    · obtain ⟨v, _, e2, _⟩ := p
      exact ex_t e2 ht
    · obtain ⟨v, rfl, e2, h2⟩ := p
      rw [List.getElem?_map] at hx
      cases hn : ns[i]? with
      | none => rw [hn] at hx; cases hx
      | some z =>
        rw [hn] at hx
        cases hx
        have hi := (List.getElem?_eq_some_iff.mp hn).1
        have step : Fg.rd (ns.take (i + 1)) = (Fg.stp (Fg.rd (ns.take i)).reverse z).reverse := by rw [take_snoc hn, Fg.rd_snoc]
        have hlen : (Fg.rd (ns.take i)).length ≤ 5000 := Nat.le_trans (Fg.rd_len _) (by rw [List.length_take]; omega)
        generalize hq : Fg.rd (ns.take i) = q at h2 step hlen
        -- the step is put behind
        have put : ∀ H3, Ex H H3 → H3 l = some (.lst (q.map V.int)) → Fg.rd (ns.take (i + 1)) = q ++ [z] → rApp K "list" rAppend (tCons (tVar 2) tNil) [some (.ref a), some (.ref l), some (.int z)] (.ref l) H3 (fun _ H4 => ∃ v, [some (V.ref a), some (.ref l), some (.int z)] = [some (.ref a), some (.ref l), v] ∧ Ex H H4 ∧ H4 l = some (.lst ((Fg.rd (ns.take (i + 1))).map V.int))) := by
          intro H3 e3 h3 e4
          refine r_app (l_of h3) ?_
          walk_at "go"
          refine r_appd h3 (by rw [List.length_map]; omega) fun H4 e5 h4 => ?_
          refine ⟨_, rfl, fun b o hb => e5 b o (e3 b o hb) (ne_of_none hb hl), ?_⟩
          rw [h4, e4, List.map_append]
          rfl
        walk_at "go"
        refine r_newL (by simp) fun c H3 _ e3 h3 => ?_
        walk_at "go"
        refine r_neL (ms := []) (l_of (e3 _ _ h2)) (l_of h3) ?_
        walk_at "go"
        rcases List.eq_nil_or_concat q with e | ⟨r, y, e⟩
        · subst e
          refine ifn_2 (fun h => absurd rfl h) fun _ => ?_
          walk_at "go"
          exact put H3 (e2.trans e3) (e3 _ _ h2) step
        · rw [List.concat_eq_append] at e
          subst e
          refine ifn_2 (fun _ => ?_) fun h => absurd h (by simp)
          walk_at "go"
          refine r_ixL (l_of (e3 _ _ h2)) (at_last (x := y) (by simp)) ?_
          walk_at "go"
          refine if_2 (fun hy => ?_) fun hy => ?_
          · have e4 : Fg.rd (ns.take (i + 1)) = r := by
              rw [step, List.reverse_append]
              show (if y = -z then r.reverse else z :: y :: r.reverse).reverse = r
              rw [if_pos (by omega), List.reverse_reverse]
            walk_at "go"
            refine r_pop (xs := r.map V.int) (v := .int y) (by rw [e3 _ _ h2, List.map_append]; rfl) fun H4 e5 h4 => ?_
            exact ⟨_, rfl, fun b o hb => e5 b o (e3 b o (e2 b o hb)) (ne_of_none hb hl), by rw [h4, e4]⟩
          · have e4 : Fg.rd (ns.take (i + 1)) = (r ++ [y]) ++ [z] := by
              rw [step, List.reverse_append]
              show (if y = -z then r.reverse else z :: y :: r.reverse).reverse = r ++ [y] ++ [z]
              rw [if_neg (by omega), List.reverse_cons, List.reverse_cons, List.reverse_reverse]
            walk_at "go"
            exact put H3 (e2.trans e3) (e3 _ _ h2) e4
    · obtain ⟨v, rfl, e2, h2⟩ := p
      rw [List.length_map, List.take_length] at h2
      walk_at "go"
      refine r_tupL (l_of h2) fun p H3 _ e3 h3 => ?_
      exact q p H3 (e2.trans e3) h3
def sp__law_steps (K : PySem.W.Frag) : Sp := fun vs H Q _ => ∃ L : Nat, vs = [.int (L : Int)] ∧ L ≤ 4 ∧ ∀ p H1, H p = none → Ex H H1 → H1 p = some (.lst ((Od.steps L).map V.int)) → Q (.ref p) H1
theorem ok__law_steps (T : Tx K mg A) : FnOk P w K mg base CX0 1 A.a__law_steps A.f__law_steps P__law_steps (sp__law_steps K) := by
  refine T.F__law_steps.ok sc__law_steps (fun vs H Q E h => ?_) (fun cdv A' outer s H vs Q E hr h => ?_)
  · obtain ⟨L, rfl, _⟩ := h
    rfl
  · obtain ⟨L, rfl, h4, q⟩ := h
    refine ⟨_, (pss_cons (ps_set (i := 1) sc__law_steps.nd rfl (Or.inl rfl) (pe_lst pa_nil))
      (pss_cons (ps_for PassesOwn.never rfl (pi_range2 (by rfl) T.n_range (pa_cons pe_int (pa_cons (pe_op (op_addK K) (pv 0) pe_int) pa_nil))) (pg_name (i := 2) sc__law_steps.nd rfl (Or.inl rfl)) (pss_one (ps_set (i := 1) sc__law_steps.nd rfl (Or.inl rfl) (pe_op (op_addK K) (pv 1) (pe_lst (pa_cons (pv 2) (pa_cons (pe_op op_sub pe_int (pv 2)) pa_nil)))))))
      (pss_one (ps_ret (pv 1))))), ?_⟩
    walk_at "go"
    refine r_newL (by simp) fun c H1 hc e1 k1 => ?_
    walk_at "go"
    refine r_rng2 (by omega) ?_
    rw [show ((L : Int) + 1 - 1).toNat = L by omega]
    refine r_forR (lo := 1) (m := L) (fun i σ' H' => ∃ c v, H c = none ∧ Ex H H' ∧ H' c = some (.lst ((Od.steps i).map V.int)) ∧ σ' = [some (.int (L : Int)), some (.ref c), v]) ⟨c, none, hc, e1, k1, rfl⟩ ?_ ?_
    · rintro i σ' H' hi ⟨c, v, hc, e, hn, rfl⟩
      walk_at "go"
      refine r_newL (by simp) fun d H2 hd e2 k2 => ?_
      walk_at "go"
      refine r_catL (e2 _ _ hn) k2 (by rw [List.length_map, Od.steps_len]; simp; omega) fun f H3 hf e3 k3 => ?_
      walk_at "go"
      refine ⟨f, _, fresh_back (e.trans e2) hf, (e.trans e2).trans e3, ?_, rfl⟩
      rw [k3, Od.steps_succ, List.map_append, show (0 : Int) - (1 + (i : Int)) = -((i : Int) + 1) by omega, show (1 + (i : Int)) = (i : Int) + 1 by omega]
      rfl
    · rintro σ' H' ⟨c, v, hc, e, hn, rfl⟩
      walk_at "go"
      exact q c H' hc e hn
def sp__law_laid (K : PySem.W.Frag) : Sp := fun vs H Q _ => ∃ (H0 : Hp) (a : Addr) (n i g : Nat) (s : Int) (d : Wb.Gm), vs = [.ref a, .int (i : Int), .int s, .int (g : Int)] ∧ (DL H0 H a n fun x t => vN (d x t)) ∧ i < n ∧ g < n ∧ s ∈ Od.steps 4 ∧ (∀ x t y, d x t = some y → t ∈ Od.steps 4) ∧ ∀ H1, ExD H0 H H1 → (DL H0 H1 a n fun x t => vN (Wb.set1 (Wb.set1 d i s g) g (-s) i x t)) → Q .non H1
theorem ok__law_laid (T : Tx K mg A) : FnOk P w K mg base CX0 1 A.a__law_laid A.f__law_laid P__law_laid (sp__law_laid K) := by
  refine T.F__law_laid.ok sc__law_laid (fun vs H Q E h => ?_) (fun cdv A' outer s H vs Q E hr h => ?_)
  · obtain ⟨H0, a, n, i, g, s, d, rfl, _⟩ := h
    rfl
  · obtain ⟨H0, a, n, i, g, st, d, rfl, dl, hi, hg, hs, h4, q⟩ := h
    refine ⟨_, (pss_cons (ps_par (i := 4) (j := 5) (by rfl) sc__law_laid.nd rfl rfl (by decide) rfl rfl (pa_cons (pe_ix (ix_K K) (pv 0) (pv 1) (fun _ _ => rfl)) (pa_cons (pe_ix (ix_K K) (pv 0) (pv 3) (fun _ _ => rfl)) pa_nil)) (by rfl))
      (pss_cons (ps_dput (hu_of hr) (pv 4) (pv 2) (pv 3) (by rfl))
      (pss_one (ps_dput (hu_of hr) (pv 5) (pe_op op_sub pe_int (pv 2)) (pv 1) (by rfl))))), ?_⟩
    obtain ⟨xs, p, p2, kvs, b1, b2, b3, b4, b5, b6, k⟩ := dl_two dl hi hg hs h4
    walk_at "go"
    refine r_ixL (l_of b1) (atI_at (by omega) (by rw [Int.toNat_natCast]; exact b2)) ?_
    walk_at "go"
    refine r_ixL (l_of b1) (atI_at (by omega) (by rw [Int.toNat_natCast]; exact b3)) ?_
    refine ⟨_, _, rfl, ?_⟩
    walk_at "go"
    refine r_dputI b4 b5 b6 fun H1 kv1 e1 k1 d1 => ?_
    obtain ⟨kv2, f2, c1, c2, c3, k⟩ := k H1 kv1 e1 k1 d1
    walk_at "go"
    refine r_dputI c1 c2 c3 fun H2 kv3 e2 k2 d2 => ?_
    rw [show (0 : Int) - st = -st by omega] at d2
    obtain ⟨f1, f2⟩ := k H2 kv3 e2 k2 d2
    walk_at "go"
    exact q H2 f1 f2
def sp__law_back (K : PySem.W.Frag) : Sp := fun vs H Q _ => ∃ a ns, vs = [.ref a] ∧ IT K H a ns ∧ ns.length ≤ 10000 ∧ ∀ p H1, Ex H H1 → IT K H1 p (Fg.bk ns) → Q (.ref p) H1
theorem ok__law_back (T : Tx K mg A) : FnOk P w K mg base CX0 1 A.a__law_back A.f__law_back P__law_back (sp__law_back K) := by
  refine T.F__law_back.ok sc__law_back (fun vs H Q E h => ?_) (fun cdv A' outer s H vs Q E hr h => ?_)
  · obtain ⟨a, ns, rfl, _⟩ := h
    rfl
  · obtain ⟨a, ns, rfl, ht, hz, q⟩ := h
    refine ⟨_, (pss_one (ps_ret (pe_callTy (tuple_K K) (by rfl) T.n_tuple (by decide +kernel) (pa_cons (pe_lc (own := [("_law_step", 1)]) rfl sc__law_back.nd (pi_tupK K (pe_revK K (pv 0))) (blkOk_by (own := [("_law_step", 1)]) (N := N__law_back) (sc := defScope s__law_back) (by decide +kernel)) (fun _ _ _ _ _ => (pg_name (i := 1) sc__law_back.nd rfl (Or.inl rfl))) (fun _ _ _ _ _ => pts_nil) (fun _ _ _ _ _ => (pe_op op_sub pe_int (pv 1)))) pa_nil)))), ?_⟩
    walk_at "go"
    refine r_revT ht fun r H1 _ e1 h1 => ?_
    have hrv : SqT K H1 r (ns.map V.int).reverse := t_of h1
    refine r_itT hrv (r_cmT (xs := (ns.map V.int).reverse) (ys := (Fg.bk ns).map V.int) hrv (by rw [List.length_map, Fg.bk_len, List.length_reverse, List.length_map]) (by rw [List.length_map, Fg.bk_len]; omega) (fun _ => rfl) (fun i x y H2 hx hy e2 Q' k => ?_) fun D H2 hD e2 h2 => ?_)
    · obtain ⟨z, rfl, rfl⟩ := bk_get hx hy
      walk_at "go"
      rw [show (0 : Int) - z = -z by omega]
      exact k H2 (Ex.refl H2)
    · refine r_tupL (l_of h2) fun p H3 hp e3 h3 => ?_
      exact q p H3 ((e1.trans e2).trans e3) h3
end
end Lw
namespace Lw
open PySem PySem.Spec PyProof.Rows L2 Evl

local macro_rules | `(tactic| walk_at "go") => `(tactic| repeat (first
  | with_reducible refine st_seq ?_ | with_reducible refine st_set ?_ | with_reducible refine st_asg ?_ | with_reducible refine st_ret ?_ | with_reducible refine st_drop ?_ | with_reducible refine st_if ?_
  | with_reducible refine st_c ?_ | ((with_reducible refine' st_v ?h ?_); (case h => exact rfl)) | with_reducible refine st_n ?_ | with_reducible refine st_cons ?_ | with_reducible refine st_op ?_ | with_reducible refine st_un ?_
  | with_reducible refine st_cb ?_ | with_reducible refine st_test ?_ | with_reducible refine st_call ?_ | with_reducible refine st_callK ?_ | with_reducible refine st_sl ?_ | with_reducible refine st_par ?_ | with_reducible refine st_par3 ?_ | with_reducible refine st_tru ?_
  | with_reducible refine st_and ?_ | with_reducible refine st_or ?_ | with_reducible refine st_not ?_ | with_reducible refine st_B ?_ | with_reducible refine st_andV ?_ | with_reducible refine st_orV ?_ | with_reducible refine st_notV ?_ | with_reducible refine st_ifE ?_
  | with_reducible refine st_part ?_ | with_reducible refine st_nop ?_ | with_reducible refine st_sub ?_ | with_reducible refine st_chain ?_ | with_reducible refine st_bl ?_ | with_reducible refine st_in ?_ | with_reducible refine r_truB ?_
  | with_reducible refine st_nameG ?_ | with_reducible refine if_T ?_ | with_reducible refine if_F ?_ | with_reducible refine if_nT ?_ | with_reducible refine if_nF ?_
  | with_reducible refine r_add ?_ | with_reducible refine r_0 ?_ | with_reducible refine r_neg ?_ | with_reducible refine r_intI ?_ | with_reducible refine r_intB ?_ | with_reducible refine r_abs ?_ | with_reducible refine r_max2 ?_ | with_reducible refine r_min2 ?_ | with_reducible refine r_eqI ?_ | with_reducible refine r_neI ?_
  | with_reducible refine st_nxt ?_ | with_reducible refine st_cnt ?_ | with_reducible refine st_brk ?_ | with_reducible refine st_retn ?_
  | with_reducible refine st_lstN ?_ | with_reducible refine st_tupN ?_
  | with_reducible refine st_for ?_ | with_reducible refine st_lc ?_ | with_reducible refine st_lc2 ?_ | with_reducible refine st_rng1 ?_ | with_reducible refine st_rng2 ?_ | with_reducible refine st_rng3 ?_ | with_reducible refine st_itL ?_ | with_reducible refine st_itT ?_ | with_reducible refine st_rev ?_ | with_reducible refine st_enumE ?_ | with_reducible refine st_zip3 ?_ | with_reducible refine st_lvals ?_ | with_reducible refine st_fld ?_ | with_reducible refine st_sfld ?_ | with_reducible refine st_meth ?_ | with_reducible refine st_make ?_ | with_reducible refine st_rg1 ?_ | with_reducible refine st_enumS ?_ | with_reducible refine st_dg1 ?_ | with_reducible refine st_dg2 ?_ | with_reducible refine st_dpop ?_ | with_reducible refine st_dset ?_ | with_reducible refine st_dc ?_ | with_reducible refine st_keys ?_ | with_reducible refine st_dget ?_ | with_reducible refine st_din ?_ | with_reducible refine st_dnin ?_ | with_reducible refine st_dput ?_ | with_reducible refine st_dnew ?_ | with_reducible refine st_lstRg ?_ | with_reducible refine st_rg2 ?_ | with_reducible refine r_twoI ?_ | with_reducible refine st_bm ?_ | with_reducible refine st_bm0 ?_
  | ((with_reducible refine' st_aug ?h ?_); (case h => exact rfl)) | with_reducible refine r_augI ?_ | with_reducible refine r_eqB ?_
  | dsimp only))
section
variable {P : Program} {w : World} {K : PySem.W.Frag} {mg : Str → Option Value} {base : Heap} {A : Ad}

def sp__law_doors (K : PySem.W.Frag) : Sp := fun vs H Q _ => ∃ (L n : Nat) (d : Wb.Gm) (a : Addr), vs = [.ref a] ∧ WebH K H a L n d ∧ Wb.Gr L n d ∧ L ≤ 4 ∧ n ≤ 1000 ∧ ∀ p H1, Ex H H1 → H p = none → TabH H1 p n d → Q (.ref p) H1
theorem ok__law_doors (T : Tx K mg A) : FnOk P w K mg base CX0 2 A.a__law_doors A.f__law_doors P__law_doors (sp__law_doors K) := by
  refine T.F__law_doors.ok sc__law_doors (fun vs H Q E h => ?_) (fun cdv A' outer s H vs Q E hr h => ?_)
  · obtain ⟨L, n, d, a, rfl, _⟩ := h
    rfl
  · obtain ⟨L, n, d, a, rfl, hW, G, l4, hn, q⟩ := h
    obtain ⟨r, xs, ha, hr0, wa⟩ := hW.ex
    refine ⟨_, (pss_cons (ps_setLc (i := 1) (own := [("_law_row", 3)]) rfl sc__law_doors.nd rfl rfl (sw_true rfl rfl rfl (by decide +kernel)) (pi_tupK K (pe_ix (ix_K K) (pv 0) pe_int (fun _ _ => rfl))) (blkOk_by (own := [("_law_row", 3)]) (N := N__law_doors) (sc := defScope s__law_doors) (by decide +kernel)) (fun _ _ _ _ _ => (pg_name (i := 3) sc__law_doors.nd rfl (Or.inl rfl))) (fun _ _ _ _ _ => pts_nil) (fun _ _ _ _ _ => pe_dnewK))
      (pss_cons (ps_for PassesOwn.never rfl (pi_enumE K skT (by rfl) T.n_enumerate (pa_cons (pe_ix (ix_K K) (pv 0) pe_int (fun _ _ => rfl)) pa_nil)) (pg_tupK K (by rfl) (pgs_cons (pg_name (i := 2) sc__law_doors.nd rfl (Or.inl rfl)) (pgs_cons (pg_name (i := 3) sc__law_doors.nd rfl (Or.inl rfl)) pgs_nil))) (pss_one (ps_for PassesOwn.never rfl (pi_enumE K skT (by rfl) T.n_enumerate (pa_cons (pv 3) pa_nil)) (pg_tupK K (by rfl) (pgs_cons (pg_name (i := 4) sc__law_doors.nd rfl (Or.inl rfl)) (pgs_cons (pg_name (i := 5) sc__law_doors.nd rfl (Or.inl rfl)) pgs_nil))) (pss_one (ps_if (pt_cmpR op_ge (pv 5) pe_int (nomark _)) (pss_one (ps_expr (pe_call (ok__law_laid T) (hr.mono (by decide)) (by rfl) T.g__law_laid T.F__law_laid.kp T.b__law_laid .nil pass0 (pa_cons (pv 1) (pa_cons (pv 2) (pa_cons (pe_op (op_addK K) (pv 4) pe_int) (pa_cons (pv 5) pa_nil))))))) pss_nil)))))
      (pss_one (ps_ret (pv 1))))), ?_⟩
    have zx : xs.length = n := by rw [wa.len, Wb.rows_len]
    walk_at "go"
    refine r_ixT ha rfl ?_
    refine r_itT hr0 (dl_T hr0 (by omega) (fun _ => rfl) fun p H1 hp e1 T0 => ?_)
    rw [zx] at T0
    have T1 : DL H H1 p n fun x s => vN (Wb.laid d 0 0 x s) := T0.congr fun i _ s => by rw [Wb.laid_start G]; rfl
    clear T0
    walk_at "go"
    refine r_ixT (ex_t e1 ha) rfl ?_
    walk_at "go"
    refine r_enumE (k := skT) (xs := xs) (ex_t e1 hr0) (r_forE (k := skT) (xs := xs) (fun i σ' H' => ∃ v2 v3 v4 v5, Ex H H' ∧ (DL H H' p n fun x s => vN (Wb.laid d i 0 x s)) ∧ σ' = [some (.ref a), some (.ref p), v2, v3, v4, v5]) ⟨none, none, none, none, e1, T1, rfl⟩ (fun i σ' H' _ z => ?_) (fun i x σ' H' H2 hx z e2 => ?_) (fun σ' H' z => ?_))
    · obtain ⟨_, _, _, _, e, _⟩ := z
      exact ex_t e hr0
    · obtain ⟨v2, v3, v4, v5, e, T2, rfl⟩ := z
      have hi : i < n := by rw [← zx]; exact (List.getElem?_eq_some_iff.mp hx).1
      obtain ⟨w, hw, pr, rfl, wr⟩ := wa.get hx
      rw [Wb.rows_at hi] at hw
      cases hw
      have e := e.trans e2
      have T3 := T2.mono e2
      clear T2 e2
      have wr2 := ex_t e wr
      walk_at "go"
      refine r_enumE (k := skT) (xs := (Wb.row L d i).map V.int) wr2 (r_forE (k := skT) (xs := (Wb.row L d i).map V.int) (fun j σ' H' => ∃ v4 v5, Ex H H' ∧ (DL H H' p n fun x s => vN (Wb.laid d i j x s)) ∧ σ' = [some (.ref a), some (.ref p), some (.int (0 + (i : Int))), some (.ref pr), v4, v5]) ⟨v4, v5, e, T3, rfl⟩ (fun j σ' H' _ z => ?_) (fun j x σ' H' H3 hx z e3 => ?_) (fun σ' H' z => ?_))
      · obtain ⟨_, _, e, _⟩ := z
        exact ex_t e wr
      · obtain ⟨v4, v5, e, T4, rfl⟩ := z
        have hj : j < L := by
          have := (List.getElem?_eq_some_iff.mp hx).1
          rwa [List.length_map, Wb.row_len] at this
        rw [List.getElem?_map, Wb.row_at hj] at hx
        have e := e.trans e3
        have T5 := T4.mono e3
        clear T4 e3
        cases hd : d i ((j : Int) + 1) with
        | none =>
          rw [hd] at hx
          cases hx
          walk_at "go"
          rw [decide_eq_false (by decide : ¬ (-1 : Int) ≥ 0)]
          walk_at "go"
          exact ⟨_, _, e, T5.congr fun x _ s => by rw [Wb.laid_none G hd], rfl⟩
        | some g =>
          rw [hd] at hx
          cases hx
          have hg := (G.dom _ _ _ hd).2.1
          walk_at "go"
          rw [decide_eq_true (by omega : (g : Int) ≥ 0)]
          walk_at "go"
          refine ⟨H, p, n, i, g, (j : Int) + 1, Wb.laid d i j, by rw [show (0 : Int) + (i : Int) = (i : Int) by omega, show (0 : Int) + (j : Int) + 1 = (j : Int) + 1 by omega]; rfl, T5, hi, hg, Od.mem_steps.mpr (by omega), fun x t y e => ?_, fun H4 e4 T6 => ?_⟩
          · have k2 := Wb.laid_sub (d := d) (i := i) (j := j) (x := x) (s := t) (by rw [e]; rfl)
            cases z : d x t with
            | none => rw [z] at k2; cases k2
            | some y =>
              have := Od.mem_steps.mp (G.dom _ _ _ z).2.2
              exact Od.mem_steps.mpr (by omega)
          · refine ⟨_, _, e4.old e, T6.congr fun x _ t => ?_, rfl⟩
            rw [Wb.laid_some G hd]
            rfl
      · obtain ⟨v4, v5, e, T4, rfl⟩ := z
        rw [List.length_map, Wb.row_len] at T4
        walk_at "go"
        exact ⟨_, _, _, _, e, T4.congr fun x _ s => by rw [Wb.laid_row G], rfl⟩
    · obtain ⟨v2, v3, v4, v5, e, T2, rfl⟩ := z
      rw [zx] at T2
      walk_at "go"
      exact q p H' e hp (TabH.of T2 fun i _ s => by rw [Wb.laid_all G])
theorem web_at {L n : Nat} {d : Wb.Gm} (W : Wb.Web L n d) {k p : Nat} {fd : Wb.Fd} (hr : Wb.run d (Od.steps L) k p fd = Wb.bfs L n d 0) (hp : p < n) (hk : k = n + 1 - p) : ∃ x, fd[p]? = some (p, x) := by
  obtain ⟨m, e⟩ := Wb.run_pre d (Od.steps L) k p fd
  have lb := Wb.web_len W
  rcases Nat.lt_or_ge p fd.length with lt | ge
  · have h := List.getElem?_eq_getElem lt
    obtain ⟨r, x, hx⟩ : ∃ r x, fd[p] = (r, x) := ⟨_, _, rfl⟩
    rw [hx] at h
    have h2 : (Wb.bfs L n d 0)[p]? = some (r, x) := by rw [← hr, e, List.getElem?_append_left lt]; exact h
    have := (Wb.web_idx W h2).1
    subst this
    exact ⟨x, h⟩
  · rw [Wb.run_end ge] at hr
    rw [← hr] at lb
    omega
def sp__law_firsts (K : PySem.W.Frag) : Sp := fun vs H Q _ => ∃ (L n : Nat) (d : Wb.Gm) (a : Addr), vs = [.ref a] ∧ WebH K H a L n d ∧ Wb.Web L n d ∧ n ≤ 1000 ∧ ∀ p kvs H1, Ex H H1 → H p = none → H1 p = some (.dK kvs) → FwH K H1 kvs (Wb.bfs L n d 0) → Q (.ref p) H1
theorem ok__law_firsts (T : Tx K mg A) : FnOk P w K mg base CX0 3 A.a__law_firsts A.f__law_firsts P__law_firsts (sp__law_firsts K) := by
  refine T.F__law_firsts.ok sc__law_firsts (fun vs H Q E h => ?_) (fun cdv A' outer s H vs Q E hr h => ?_)
  · obtain ⟨L, n, d, a, rfl, _⟩ := h
    rfl
  · obtain ⟨L, n, d, a, rfl, hW, W, hn, q⟩ := h
    have G := W.gr
    have l4 := W.l4
    obtain ⟨r, xs, ha, hr0, wa⟩ := hW.ex
    have zx : xs.length = n := by rw [wa.len, Wb.rows_len]
    refine ⟨_, (pss_cons (ps_par3 (i := 1) (j := 2) (l := 3) (by rfl) sc__law_firsts.nd rfl rfl rfl (by decide) (by decide) (by decide) rfl rfl rfl (pa_cons (pe_call (ok__law_doors T) (hr.mono (by decide)) (by rfl) T.g__law_doors T.F__law_doors.kp T.b__law_doors .nil pass0 (pa_cons (pv 0) pa_nil)) (pa_cons (pe_disp (pps_cons pe_int (pe_tup pa_nil) pps_nil) rfl rfl (by simp) (by decide)) (pa_cons (pe_lst (pa_cons pe_int pa_nil)) pa_nil))) (by rfl))
      (pss_cons (ps_for PassesOwn.never rfl (pi_range1 (by rfl) T.n_range (pa_cons (pe_callB (len_K K) (by rfl) T.n_len (by decide +kernel) (pa_cons (pe_ix (ix_K K) (pv 0) pe_int (fun _ _ => rfl)) pa_nil)) pa_nil)) (pg_name (i := 4) sc__law_firsts.nd rfl (Or.inl rfl)) (pss_cons (ps_set (i := 5) sc__law_firsts.nd rfl (Or.inl rfl) (pe_ix (ix_K K) (pv 1) (pe_ix (ix_K K) (pv 3) (pv 4) (fun _ _ => rfl)) (fun _ _ => rfl)))
      (pss_one (ps_for PassesOwn.never rfl (pi_listK K (pe_call (ok__law_steps T) (hr.mono (by decide)) (by rfl) T.g__law_steps T.F__law_steps.kp T.b__law_steps .nil pass0 (pa_cons (pe_ix (ix_K K) (pv 0) pe_int (fun _ _ => rfl)) pa_nil))) (pg_name (i := 6) sc__law_firsts.nd rfl (Or.inl rfl)) (pss_one (ps_if (PW.pt (pw_and (pt_cmp (pc_din (hu_of hr) (pv 6) (pv 5)) (by rfl)) (pw_and1 (pt_cmp (pc_dnotin (hu_of hr) (pe_dget (hu_of hr) (pv 5) (pv 6) (fun _ _ => rfl)) (pv 2)) (by rfl))))) (pss_cons (ps_dput (hu_of hr) (pv 2) (pe_dget (hu_of hr) (pv 5) (pv 6) (fun _ _ => rfl)) (pe_op (op_addK K) (pe_dget (hu_of hr) (pv 2) (pe_ix (ix_K K) (pv 3) (pv 4) (fun _ _ => rfl)) (fun _ _ => rfl)) (pe_tup (pa_cons (pv 6) pa_nil))) (by rfl))
      (pss_one (ps_expr (pe_bmU K PySem.F.plainAttrs_list PySem.F.slot_list_append PySem.F.type_list_append mt_append (pv 3) (pa_cons (pe_dget (hu_of hr) (pv 5) (pv 6) (fun _ _ => rfl)) pa_nil))))) pss_nil))))))
      (pss_one (ps_ret (pv 2))))), ?_⟩
    walk_at "go"
    refine ⟨L, n, d, a, rfl, hW, G, l4, hn, fun p H1 e1 hp tab => ?_⟩
    walk_at "go"
    refine st_disp1 (fun b H2 hb e2 k2 => ?_) (fun A B H h z => h _ _ z) (fun A B H h z => ⟨z.1, fun p hp => h _ _ (z.2 p hp)⟩)
    walk_at "go"
    refine r_newT (by simp) fun t H3 ht e3 k3 => ?_
    refine ⟨e3 _ _ k2, Sum.inl 0, rfl, ?_⟩
    have nbt : t ≠ b := fun z => by rw [z, k2] at ht; cases ht
    have e4 : Ex H1 (upd H3 b (.dK [(Sum.inl 0, V.ref t)])) := fun q o h => by
      rw [upd_ne (fun z => by rw [z, hb] at h; cases h)]
      exact e3 _ _ (e2 _ _ h)
    have kb4 : (upd H3 b (.dK [(Sum.inl 0, V.ref t)])) b = some (.dK [(Sum.inl 0, V.ref t)]) := upd_same
    have kt4 : (upd H3 b (.dK [(Sum.inl 0, V.ref t)])) t = some (.tup []) := by rw [upd_ne nbt]; exact k3
    generalize upd H3 b (.dK [(Sum.inl 0, V.ref t)]) = H4 at e4 kb4 kt4
    clear k3 e3 k2 e2 ht
    walk_at "go"
    refine r_newL (by simp) fun c H5 hc e5 k5 => ?_
    have ncb : c ≠ b := fun z => by rw [z, kb4] at hc; cases hc
    have hc1 : H1 c = none := fresh_back e4 hc
    have fw5 : FwH K H5 [(Sum.inl 0, V.ref t)] [(0, none)] := ⟨rfl, fun i kv y h1 h2 => by
      cases i with
      | zero => cases h1; cases h2; exact ⟨rfl, t, rfl, t_of (e5 _ _ kt4)⟩
      | succ i => simp at h1⟩
    have kb5 := e5 _ _ kb4
    have e5' := e4.trans e5
    clear e4 e5 kb4 kt4 hc
    walk_at "go"
    refine ⟨_, _, _, rfl, ?_⟩
    walk_at "go"
    refine r_ixT (ex_t e5' (ex_t e1 ha)) rfl ?_
    walk_at "go"
    refine r_lenT (ex_t e5' (ex_t e1 hr0)) ?_
    rw [zx]
    walk_at "go"
    refine r_rng1 (by omega) (by omega) ?_
    rw [show ((n : Nat) : Int).toNat = n from rfl]
    have k5 : H5 c = some (.lst ((nI [0]).map V.int)) := k5
    refine r_forR (lo := 0) (m := n) (fun pl σ' H' => ∃ (fd : Wb.Fd) (kvs : List (Key × V)) (v4 v5 v6 : Option V), Wb.Ok n fd ∧ Wb.run d (Od.steps L) (n + 1 - pl) pl fd = Wb.bfs L n d 0 ∧ Ex H1 H' ∧ H' b = some (.dK kvs) ∧ FwH K H' kvs fd ∧ H' c = some (.lst ((nI (fd.map (·.1))).map V.int)) ∧
      σ' = [some (.ref a), some (.ref p), some (.ref b), some (.ref c), v4, v5, v6]) ⟨[(0, none)], _, none, none, none, (Wb.rn_start (d := d) (L := L) W.pos).ok, rfl, e5', kb5, fw5, k5, rfl⟩ (fun pl σ' H' hpl z => ?_) (fun σ' H' z => ?_)
    · obtain ⟨fd, kvs, v4, v5, v6, ok, hrun, e, kb, fw, kc, rfl⟩ := z
      obtain ⟨x, hg⟩ := web_at W hrun hpl rfl
      have lp := (List.getElem?_eq_some_iff.mp hg).1
      have hgk : (fd.map (·.1))[pl]? = some pl := by rw [List.getElem?_map, hg]; rfl
      obtain ⟨xs1, t1, kt, a1, a2, a3, a4, a5⟩ := tab.at' hpl
      walk_at "go"
      refine r_ixL (l_of kc) (at_int (by omega) (x := (pl : Int)) (by rw [show ((0 : Int) + (pl : Int)).toNat = pl by omega]; exact nI_at hgk)) ?_
      walk_at "go"
      refine r_ixL (l_of (e _ _ a1)) (atI_at (by omega) (by rw [Int.toNat_natCast]; exact a3)) ?_
      walk_at "go"
      refine r_ixT (ex_t e (ex_t e1 ha)) rfl ?_
      walk_at "go"
      refine ⟨L, rfl, l4, fun sl H3 hsl e3 k3 => ?_⟩
      walk_at "go"
      have nsb : sl ≠ b := fun z => by rw [z, kb] at hsl; cases hsl
      have nsc : sl ≠ c := fun z => by rw [z, kc] at hsl; cases hsl
      refine r_itL (l_of k3) (r_forL (xs := (Od.steps L).map V.int) (fun i σ' H' => ∃ (kvs : List (Key × V)) (v6 : Option V), Wb.Ok n (Wb.look d pl ((Od.steps L).take i) fd) ∧ Ex H1 H' ∧ H' b = some (.dK kvs) ∧ FwH K H' kvs (Wb.look d pl ((Od.steps L).take i) fd) ∧ H' c = some (.lst ((nI ((Wb.look d pl ((Od.steps L).take i) fd).map (·.1))).map V.int)) ∧ H' sl = some (.lst ((Od.steps L).map V.int)) ∧
        σ' = [some (.ref a), some (.ref p), some (.ref b), some (.ref c), some (.int (0 + (pl : Int))), some (.ref t1), v6]) ⟨kvs, v6, by rw [List.take_zero]; exact ok, e.trans e3, e3 _ _ kb, by rw [List.take_zero]; exact fw.mono (.of e3), by rw [List.take_zero]; exact e3 _ _ kc, k3, rfl⟩ (fun i σ' H' _ z => ?_) (fun i y σ' H' hy z => ?_) fun σ' H' z => ?_)
      · obtain ⟨_, _, _, _, _, _, _, k3, _⟩ := z
        exact l_of k3
      · obtain ⟨kvs, v6, ok, e, kb, fw, kc, k3, rfl⟩ := z
        have a4' := e _ _ a4
        rw [List.getElem?_map] at hy
        cases hs : (Od.steps L)[i]? with
        | none => rw [hs] at hy; cases hy
        | some s0 =>
          rw [hs] at hy
          cases hy
          obtain ⟨m1, em1⟩ := Wb.look_pre d pl ((Od.steps L).take i) fd
          have hg2 : (Wb.look d pl ((Od.steps L).take i) fd)[pl]? = some (pl, x) := by rw [em1, List.getElem?_append_left lp]; exact hg
          rw [L2.take_snoc hs, Wb.look_snoc]
          generalize Wb.look d pl ((Od.steps L).take i) fd = fd2 at ok fw kc hg2
          clear em1
          have zf2 := ok.len
          have okn := Wb.adv_ok (r := pl) (s := s0) G ok
          have hgk2 : (fd2.map (·.1))[pl]? = some pl := by rw [List.getElem?_map, hg2]; rfl
          walk_at "go"
          refine r_dinI (.inl a4') a5 ?_
          cases hd : d pl s0 with
          | none =>
            have ea : Wb.adv d pl fd2 s0 = fd2 := by unfold Wb.adv; rw [hd]
            rw [ea, show (vN none).isSome = false from rfl]
            walk_at "go"
            exact ⟨kvs, _, ok, e, kb, fw, kc, k3, rfl⟩
          | some g =>
            rw [show (vN (some g)).isSome = true from rfl]
            walk_at "go"
            refine r_dgetI (.inl a4') a5 (v := .int (g : Int)) (by rw [hd]; rfl) ?_
            walk_at "go"
            refine r_dninV (.inl kb) ?_
            rw [fw.mem g]
            walk_at "go"
            by_cases hm : g ∈ fd2.map (·.1)
            · have ea : Wb.adv d pl fd2 s0 = fd2 := by unfold Wb.adv; rw [hd]; exact if_pos hm
              rw [ea, decide_eq_true hm]
              walk_at "go"
              exact ⟨kvs, _, ok, e, kb, fw, kc, k3, rfl⟩
            · have ea : Wb.adv d pl fd2 s0 = fd2 ++ [(g, some (pl, s0))] := by unfold Wb.adv; rw [hd]; exact if_neg hm
              rw [ea] at okn ⊢
              rw [decide_eq_false hm]
              walk_at "go"
              refine r_ixL (l_of kc) (at_int (by omega) (x := (pl : Int)) (by rw [show ((0 : Int) + (pl : Int)).toNat = pl by omega]; exact nI_at hgk2)) ?_
              obtain ⟨v, hv, wv⟩ := fw.get ok.nodup hg2
              obtain ⟨pw, rfl, hpw⟩ := wv
              walk_at "go"
              refine r_dget (.inl kb) hv ?_
              walk_at "go"
              refine r_newT (by simp) fun t2 H6 ht2 e6 k6 => ?_
              walk_at "go"
              have bd := Wb.fwl_bdD fd2 pl
              refine r_catT (ex_t e6 hpw) (ys := [V.int s0]) (t_of k6) (by rw [List.length_map, List.length_singleton]; omega) fun t3 H7 e7 k7 => ?_
              have e67 := e6.trans e7
              have zk : kvs.length ≤ n := by rw [fw.len]; exact zf2
              walk_at "go"
              refine r_dgetI (.inl (e67 _ _ a4')) a5 (v := .int (g : Int)) (by rw [hd]; rfl) ?_
              walk_at "go"
              refine r_dput (e67 _ _ kb) (by omega) fun H8 e8 k8 => ?_
              have hno : valV kvs (Sum.inl (g : Int)) = none := by
                have := fw.mem g
                rw [decide_eq_false hm] at this
                cases ev : valV kvs (Sum.inl (g : Int)) with
                | none => rfl
                | some v => rw [ev] at this; cases this
              rw [putK_new _ hno] at k8
              have tx8 : TX H7 H8 := tx_dk (e67 _ _ kb) e8
              have k7' : WkV K H8 (.ref t3) ((Wb.fwl fd2).getD pl [] ++ [s0]) := ⟨t3, rfl, tx_t tx8 (by
                show SqT K H7 t3 (((Wb.fwl fd2).getD pl [] ++ [s0]).map V.int)
                rw [List.map_append]
                exact k7)⟩
              have kc8 := e8 _ _ (e67 _ _ kc) ncb
              have a48 := e8 _ _ (e67 _ _ a4') fun z => by rw [z, hb] at a4; cases a4
              walk_at "go"
              refine r_app (l_of kc8) ?_
              walk_at "go"
              refine r_dgetI (.inl a48) a5 (v := .int (g : Int)) (by rw [hd]; rfl) ?_
              walk_at "go"
              refine r_appd kc8 (by rw [List.length_map, nI_len, List.length_map]; omega) fun H9 e9 k9 => ?_
              have tx9 : TX H8 H9 := TX.w2 kc8 e9
              walk_at "go"
              refine ⟨_, _, okn, fun q o h => e9 q o (e8 q o (e67 q o (e q o h)) (ne_of_none h hb)) (ne_of_none h hc1), e9 _ _ k8 (Ne.symm ncb), ((fw.mono ((TX.of e67).trans tx8)).snoc k7').mono tx9, ?_, e9 _ _ (e8 _ _ (e67 _ _ k3) nsb) nsc, rfl⟩
              rw [k9]
              unfold nI
              rw [List.map_append, List.map_append, List.map_append]
              rfl
      · obtain ⟨kvs, v6, ok, e, kb, fw, kc, k3, rfl⟩ := z
        rw [List.length_map, List.take_length] at ok fw kc
        walk_at "go"
        refine ⟨_, kvs, _, _, _, ok, ?_, e, kb, fw, kc, rfl⟩
        rw [← hrun, show n + 1 - pl = (n + 1 - (pl + 1)) + 1 by omega, Wb.run_on hg]
    · obtain ⟨fd, kvs, v4, v5, v6, ok, hrun, e, kb, fw, kc, rfl⟩ := z
      have e2 : Wb.bfs L n d 0 = fd := by rw [← hrun]; exact Wb.run_end ok.len
      walk_at "go"
      exact q b kvs H' (e1.trans e) (fresh_back e1 hb) kb (e2 ▸ fw)
end
end Lw
namespace Lw
open PySem PySem.Spec PyProof.Rows L2 Evl

local macro_rules | `(tactic| walk_at "go") => `(tactic| repeat (first
  | with_reducible refine st_seq ?_ | with_reducible refine st_set ?_ | with_reducible refine st_asg ?_ | with_reducible refine st_ret ?_ | with_reducible refine st_drop ?_ | with_reducible refine st_if ?_
  | with_reducible refine st_c ?_ | ((with_reducible refine' st_v ?h ?_); (case h => exact rfl)) | with_reducible refine st_n ?_ | with_reducible refine st_cons ?_ | with_reducible refine st_op ?_ | with_reducible refine st_un ?_
  | with_reducible refine st_cb ?_ | with_reducible refine st_test ?_ | with_reducible refine st_call ?_ | with_reducible refine st_callK ?_ | with_reducible refine st_sl ?_ | with_reducible refine st_par ?_ | with_reducible refine st_par3 ?_ | with_reducible refine st_tru ?_
  | with_reducible refine st_and ?_ | with_reducible refine st_or ?_ | with_reducible refine st_not ?_ | with_reducible refine st_B ?_ | with_reducible refine st_andV ?_ | with_reducible refine st_orV ?_ | with_reducible refine st_notV ?_ | with_reducible refine st_ifE ?_
  | with_reducible refine st_part ?_ | with_reducible refine st_nop ?_ | with_reducible refine st_sub ?_ | with_reducible refine st_chain ?_ | with_reducible refine st_bl ?_ | with_reducible refine st_in ?_ | with_reducible refine r_truB ?_
  | with_reducible refine st_nameG ?_ | with_reducible refine if_T ?_ | with_reducible refine if_F ?_ | with_reducible refine if_nT ?_ | with_reducible refine if_nF ?_
  | with_reducible refine r_add ?_ | with_reducible refine r_0 ?_ | with_reducible refine r_neg ?_ | with_reducible refine r_intI ?_ | with_reducible refine r_intB ?_ | with_reducible refine r_abs ?_ | with_reducible refine r_max2 ?_ | with_reducible refine r_min2 ?_ | with_reducible refine r_eqI ?_ | with_reducible refine r_neI ?_
  | with_reducible refine st_nxt ?_ | with_reducible refine st_cnt ?_ | with_reducible refine st_brk ?_ | with_reducible refine st_retn ?_
  | with_reducible refine st_lstN ?_ | with_reducible refine st_tupN ?_
  | with_reducible refine st_for ?_ | with_reducible refine st_lc ?_ | with_reducible refine st_lc2 ?_ | with_reducible refine st_rng1 ?_ | with_reducible refine st_rng2 ?_ | with_reducible refine st_rng3 ?_ | with_reducible refine st_itL ?_ | with_reducible refine st_itT ?_ | with_reducible refine st_rev ?_ | with_reducible refine st_enumE ?_ | with_reducible refine st_zip3 ?_ | with_reducible refine st_lvals ?_ | with_reducible refine st_fld ?_ | with_reducible refine st_sfld ?_ | with_reducible refine st_meth ?_ | with_reducible refine st_make ?_ | with_reducible refine st_rg1 ?_ | with_reducible refine st_enumS ?_ | with_reducible refine st_dg1 ?_ | with_reducible refine st_dg2 ?_ | with_reducible refine st_dpop ?_ | with_reducible refine st_dset ?_ | with_reducible refine st_dc ?_ | with_reducible refine st_keys ?_ | with_reducible refine st_dget ?_ | with_reducible refine st_din ?_ | with_reducible refine st_dnin ?_ | with_reducible refine st_dput ?_ | with_reducible refine st_dnew ?_ | with_reducible refine st_lstRg ?_ | with_reducible refine st_rg2 ?_ | with_reducible refine r_twoI ?_ | with_reducible refine st_bm ?_ | with_reducible refine st_bm0 ?_
  | ((with_reducible refine' st_aug ?h ?_); (case h => exact rfl)) | with_reducible refine r_augI ?_ | with_reducible refine r_eqB ?_
  | dsimp only))
section
variable {P : Program} {w : World} {K : PySem.W.Frag} {mg : Str → Option Value} {base : Heap} {A : Ad}

def sp__law_ways (K : PySem.W.Frag) : Sp := fun vs H Q _ => ∃ (L n : Nat) (d : Wb.Gm) (a : Addr), vs = [.ref a] ∧ WebH K H a L n d ∧ Wb.Gr L n d ∧ L ≤ 4 ∧ n ≤ 1000 ∧ ∀ p xs H1, Ex H H1 → H p = none → H1 p = some (.lst xs) → TpA H1 xs ((Wb.ways3 L n d).map Wb.tri) → Q (.ref p) H1
theorem ok__law_ways (T : Tx K mg A) : FnOk P w K mg base CX0 1 A.a__law_ways A.f__law_ways P__law_ways (sp__law_ways K) := by
  refine T.F__law_ways.ok sc__law_ways (fun vs H Q E h => ?_) (fun cdv A' outer s H vs Q E hr h => ?_)
  · obtain ⟨L, n, d, a, rfl, _⟩ := h
    rfl
  · obtain ⟨L, n, d, a, rfl, hW, G, l4, hn, q⟩ := h
    obtain ⟨r, xs, ha, hr0, wa⟩ := hW.ex
    refine ⟨_, (pss_cons (ps_set (i := 1) sc__law_ways.nd rfl (Or.inl rfl) (pe_lst pa_nil))
      (pss_cons (ps_for PassesOwn.never rfl (pi_enumE K skT (by rfl) T.n_enumerate (pa_cons (pe_ix (ix_K K) (pv 0) pe_int (fun _ _ => rfl)) pa_nil)) (pg_tupK K (by rfl) (pgs_cons (pg_name (i := 2) sc__law_ways.nd rfl (Or.inr rfl)) (pgs_cons (pg_name (i := 3) sc__law_ways.nd rfl (Or.inl rfl)) pgs_nil))) (pss_one (ps_set (i := 1) sc__law_ways.nd rfl (Or.inl rfl) (pe_op (op_addK K) (pv 1) (pe_lc (own := [("_law_at", 4), ("_law_goal", 5)]) rfl sc__law_ways.nd (pi_enumE K skT (by rfl) T.n_enumerate (pa_cons (pv 3) pa_nil)) (blkOk_by (own := [("_law_at", 4), ("_law_goal", 5)]) (N := N__law_ways) (sc := defScope s__law_ways) (by decide +kernel)) (fun _ _ _ _ _ => (pg_tupK (n := 2) K (by rfl) (pgs_cons (pg_name (i := 4) sc__law_ways.nd rfl (Or.inl rfl)) (pgs_cons (pg_name (i := 5) sc__law_ways.nd rfl (Or.inl rfl)) pgs_nil)) (by kernel_rfl) (by kernel_rfl))) (fun _ _ _ _ _ => (pts_one (pt_cmpR op_ge (pv 5) pe_int (nomark _)))) (fun _ _ _ _ _ => (pe_tup (pa_cons (pv 2) (pa_cons (pe_op (op_addK K) (pv 4) pe_int) (pa_cons (pv 5) pa_nil))))))))))
      (pss_one (ps_ret (pv 1))))), ?_⟩
    have zx : xs.length = n := by rw [wa.len, Wb.rows_len]
    have bd : ∀ i, i ≤ n → ((List.range i).flatMap (Wb.wayL L d)).length ≤ 4000 := fun i hi => by
      have := Wb.ways_len L d i
      have h2 : i * L ≤ 1000 * 4 := Nat.mul_le_mul (by omega) (by omega)
      omega
    walk_at "go"
    refine r_newL (by simp) fun c0 H1 hc0 e1 k1 => ?_
    walk_at "go"
    refine r_ixT (ex_t e1 ha) rfl ?_
    walk_at "go"
    refine r_enumE (k := skT) (xs := xs) (ex_t e1 hr0) (r_forE (k := skT) (xs := xs) (fun i σ' H' => ∃ (c : Addr) (ys : List V) (v2 v3 : Option V), Ex H H' ∧ H c = none ∧ H' c = some (.lst ys) ∧ TpA H' ys (((List.range i).flatMap (Wb.wayL L d)).map Wb.tri) ∧ σ' = [some (.ref a), some (.ref c), v2, v3, none, none]) ⟨c0, [], none, none, e1, hc0, k1, TpA.nil, rfl⟩ (fun i σ' H' _ z => ?_) (fun i x σ' H' H2 hx z e2 => ?_) (fun σ' H' z => ?_))
    · obtain ⟨_, _, _, _, e, _⟩ := z
      exact ex_t e hr0
    · obtain ⟨c, ys, v2, v3, e, hc, kc, ty, rfl⟩ := z
      have hi : i < n := by rw [← zx]; exact (List.getElem?_eq_some_iff.mp hx).1
      obtain ⟨w, hw, pr, rfl, wr⟩ := wa.get hx
      rw [Wb.rows_at hi] at hw
      cases hw
      have e := e.trans e2
      have ty := ty.ex e2
      have kc := e2 _ _ kc
      have wr2 := ex_t e wr
      have b1 := bd i (by omega)
      have zy := ty.len
      rw [List.length_map] at zy
      walk_at "go"
      refine r_enumE (k := skT) (xs := (Wb.row L d i).map V.int) wr2 ?_
      refine r_cmEA (k := skT) (k0 := 0) (xs := (Wb.row L d i).map V.int) (fun j us H' => Ex H2 H' ∧ TpA H' us ((Wb.wayL j d i).map Wb.tri)) (by rw [List.length_map, Wb.row_len]; omega) (fun _ _ => rfl) (fun j us H' z => ex_t z.1 wr2) (fun j us H' H3 z e => ⟨z.1.trans e, z.2.ex e⟩) (fun D hD o => ⟨Ex.new hD, TpA.nil⟩) (fun j y H4 D acc hy hz hacc T Tall => ?_) fun D H4 us hD k4 z _ => ?_
      · have hj : j < L := by
          have := (List.getElem?_eq_some_iff.mp hy).1
          rwa [List.length_map, Wb.row_len] at this
        rw [List.getElem?_map, Wb.row_at hj] at hy
        obtain ⟨e4, w4⟩ := T
        have hD1 : H2 D = none := ex_none fun o => (Tall o).1
        cases hd : d i ((j : Int) + 1) with
        | none =>
          rw [hd] at hy
          cases hy
          walk_at "go"
          rw [decide_eq_false (by decide : ¬ (-1 : Int) ≥ 0)]
          walk_at "go"
          refine cm_no hacc hz fun o => ?_
          obtain ⟨t1, t2⟩ := Tall o
          refine ⟨t1, ?_⟩
          rw [Wb.wayL_succ, hd]
          show TpA _ acc ((_ ++ []).map Wb.tri)
          rw [List.append_nil]
          exact t2
        | some g =>
          rw [hd] at hy
          cases hy
          walk_at "go"
          rw [decide_eq_true (by omega : (g : Int) ≥ 0)]
          walk_at "go"
          refine r_newT (by simp) fun t2 H5 ht2 e5 k5 => ?_
          refine cm_yes (e5 _ _ hacc) hz (by omega) fun o => ⟨ex_put (e4.trans e5) hD1, ?_⟩
          have tx : TX H5 (upd H5 D o) := TX.upd (e5 _ _ hacc)
          rw [Wb.wayL_succ, hd, List.map_append]
          refine ((w4.ex e5).tx tx).snoc ((tx t2 _ (.inl k5)).trans (k5.trans ?_))
          show some (HO.tup [.int (0 + (i : Int)), .int (0 + (j : Int) + 1), .int (g : Int)]) = some (HO.tup [.int (i : Int), .int ((j : Int) + 1), .int (g : Int)])
          rw [Int.zero_add, Int.zero_add]
      · obtain ⟨e4, w4⟩ := z
        rw [List.length_map, Wb.row_len] at w4
        have zu := w4.len
        have wl := Wb.wayL_len L d i
        rw [List.length_map] at zu
        refine r_catL (e4 _ _ kc) k4 (by omega) fun c2 H5 hc2 e5 k5 => ?_
        walk_at "go"
        have e45 := e4.trans e5
        refine ⟨c2, _, _, _, e.trans e45, fresh_back (e.trans e4) hc2, k5, ?_, rfl⟩
        rw [Wb.ways_take, List.map_append]
        exact (ty.ex e45).app (w4.ex e5)
    · obtain ⟨c, ys, v2, v3, e, hc, kc, ty, rfl⟩ := z
      rw [zx] at ty
      walk_at "go"
      exact q c ys H' e hc kc ty
def sp__law_tree (K : PySem.W.Frag) : Sp := fun vs H Q _ => ∃ (L n : Nat) (d : Wb.Gm) (a : Addr), vs = [.ref a] ∧ WebH K H a L n d ∧ Wb.Web L n d ∧ n ≤ 64 ∧ ∀ p xs H1, Ex H H1 → H p = none → H1 p = some (.lst xs) → TpA H1 xs ((Wb.treeT L n d).map Wb.tri) → Q (.ref p) H1
theorem ok__law_tree (T : Tx K mg A) : FnOk P w K mg base CX0 4 A.a__law_tree A.f__law_tree P__law_tree (sp__law_tree K) := by
  refine T.F__law_tree.ok sc__law_tree (fun vs H Q E h => ?_) (fun cdv A' outer s H vs Q E hr h => ?_)
  · obtain ⟨L, n, d, a, rfl, _⟩ := h
    rfl
  · obtain ⟨L, n, d, a, rfl, hW, W, hn, q⟩ := h
    have l4 := W.l4
    have ok := Wb.bfs_ok W.gr W.pos
    refine ⟨_, (pss_cons (ps_par (i := 1) (j := 2) (by rfl) sc__law_tree.nd rfl rfl (by decide) rfl rfl (pa_cons (pe_call (ok__law_firsts T) (hr.mono (by decide)) (by rfl) T.g__law_firsts T.F__law_firsts.kp T.b__law_firsts .nil pass0 (pa_cons (pv 0) pa_nil)) (pa_cons (pe_lst pa_nil) pa_nil)) (by rfl))
      (pss_cons (ps_for PassesOwn.never rfl (pi_listK K (pe_call (ok__law_ways T) (hr.mono (by decide)) (by rfl) T.g__law_ways T.F__law_ways.kp T.b__law_ways .nil pass0 (pa_cons (pv 0) pa_nil))) (pg_tupK K (by rfl) (pgs_cons (pg_name (i := 3) sc__law_tree.nd rfl (Or.inl rfl)) (pgs_cons (pg_name (i := 4) sc__law_tree.nd rfl (Or.inl rfl)) (pgs_cons (pg_name (i := 5) sc__law_tree.nd rfl (Or.inl rfl)) pgs_nil)))) (pss_one (ps_if (PW.pt (pw_or (pt_cmpR (op_eqK K hr.units) (pe_dget (hu_of hr) (pv 1) (pv 5) (fun _ _ => rfl)) (pe_op (op_addK K) (pe_dget (hu_of hr) (pv 1) (pv 3) (fun _ _ => rfl)) (pe_tup (pa_cons (pv 4) pa_nil))) (nomark _)) (pw_or1 (pt_cmpR (op_eqK K hr.units) (pe_dget (hu_of hr) (pv 1) (pv 3) (fun _ _ => rfl)) (pe_op (op_addK K) (pe_dget (hu_of hr) (pv 1) (pv 5) (fun _ _ => rfl)) (pe_tup (pa_cons (pe_op op_sub pe_int (pv 4)) pa_nil))) (nomark _))))) (pss_one (ps_expr (pe_bmU K PySem.F.plainAttrs_list PySem.F.slot_list_append PySem.F.type_list_append mt_append (pv 2) (pa_cons (pe_tup (pa_cons (pv 3) (pa_cons (pv 4) (pa_cons (pv 5) pa_nil)))) pa_nil)))) pss_nil)))
      (pss_one (ps_ret (pv 2))))), ?_⟩
    walk_at "go"
    refine ⟨L, n, d, a, rfl, hW, W, by omega, fun f kvs H1 e1 hf k1 fw => ?_⟩
    walk_at "go"
    refine r_newL (by simp) fun c H2 hc e2 k2 => ?_
    walk_at "go"
    refine ⟨_, _, rfl, ?_⟩
    have e12 := e1.trans e2
    have hc0 : H c = none := fresh_back e1 hc
    walk_at "go"
    refine ⟨L, n, d, a, rfl, hW.mono e12, W.gr, l4, by omega, fun w ws H3 e3 hw k3 tw => ?_⟩
    have e13 := e12.trans e3
    have zl := tw.len
    rw [List.length_map] at zl
    have zw : ws.length ≤ 4000 := by
      rw [zl]
      have := Wb.ways_len L d n
      have h2 : n * L ≤ 64 * 4 := Nat.mul_le_mul hn l4
      exact Nat.le_trans this (by omega)
    have nfc : f ≠ c := fun z => by rw [z, hc] at k1; cases k1
    have nwc : w ≠ c := fun z => by rw [z, k2] at hw; cases hw
    refine r_itL (l_of k3) (r_forL (xs := ws) (fun i σ' H' => ∃ (ys : List V) (v3 v4 v5 : Option V), ExW c H3 H' ∧ H' c = some (.lst ys) ∧ ys.length ≤ i ∧ TpA H' ys ((((Wb.ways3 L n d).take i).filter (Wb.isT L n d)).map Wb.tri) ∧ TX H3 H' ∧ σ' = [some (.ref a), some (.ref f), some (.ref c), v3, v4, v5]) ⟨[], none, none, none, ExW.refl _, e3 _ _ k2, Nat.le_refl _, TpA.nil, TX.refl _, rfl⟩ (fun i σ' H' hi z => ?_) (fun i x σ' H' hx z => ?_) (fun σ' H' z => ?_))
    · obtain ⟨ys, v3, v4, v5, e, _⟩ := z
      exact l_of (e _ _ k3 nwc)
    · obtain ⟨ys, v3, v4, v5, e, kc, zy, ty, tx, rfl⟩ := z
      have hix := (List.getElem?_eq_some_iff.mp hx).1
      obtain ⟨w0, b0, h1, rfl, h3⟩ := tw.get hx
      rw [List.getElem?_map] at h1
      obtain ⟨y, hy, rfl⟩ := Option.map_eq_some_iff.mp h1
      obtain ⟨ya, yl, yb⟩ := y
      have bdy := Wb.ways_bd W.gr (List.mem_of_getElem? hy)
      simp only at bdy
      have tx3 := (TX.of (e2.trans e3)).trans tx
      have fw' := fw.mono tx3
      have kf : H' f = some (.dK kvs) := e _ _ (e3 _ _ (e2 _ _ k1)) nfc
      have get : ∀ g, g < n → ∃ pg, valV kvs (Sum.inl (g : Int)) = some (.ref pg) ∧ IT K H' pg (Wb.fw L n d g) := fun g hg => by
        obtain ⟨x, hx⟩ := Wb.web_ent W hg
        obtain ⟨v, hv, pg, rfl, h⟩ := fw'.get ok.nodup hx
        exact ⟨pg, hv, h⟩
      obtain ⟨pa, ga, ia⟩ := get ya bdy.1
      obtain ⟨pb, gb, ib⟩ := get yb bdy.2.2
      have la := (Wb.fw_go W ya bdy.1).2.2
      have lb := (Wb.fw_go W yb bdy.2.2).2.2
      have hT : Wb.isT L n d (ya, yl, yb) = (decide (Wb.fw L n d yb = Wb.fw L n d ya ++ [(yl : Int) + 1]) || decide (Wb.fw L n d ya = Wb.fw L n d yb ++ [-((yl : Int) + 1)])) := rfl
      have txb : H' b0 = some (.tup ((Wb.tri (ya, yl, yb)).map V.int)) := (tx b0 _ (.inl h3)).trans h3
      -- what is taken up
      have yes : Wb.isT L n d (ya, yl, yb) = true → ∀ H4, Ex H' H4 → ∀ R : VK, (∀ H6, (∃ (ys : List V) (v3 v4 v5 : Option V), ExW c H3 H6 ∧ H6 c = some (.lst ys) ∧ ys.length ≤ i + 1 ∧ TpA H6 ys ((((Wb.ways3 L n d).take (i + 1)).filter (Wb.isT L n d)).map Wb.tri) ∧ TX H3 H6 ∧ [some (V.ref a), some (.ref f), some (.ref c), some (.int (ya : Int)), some (.int ((yl : Int) + 1)), some (.int (yb : Int))] = [some (.ref a), some (.ref f), some (.ref c), v3, v4, v5]) → R .non H6) → ∀ t H5, Ex H4 H5 → H5 t = some (.tup [.int (ya : Int), .int ((yl : Int) + 1), .int (yb : Int)]) → rAppend (.ref c) [.ref t] H5 R := fun hy2 H4 e4 R k t H5 e5 k5 => by
        have e45 := e4.trans e5
        refine r_appd (e45 _ _ kc) (by omega) fun H6 e6 k6 => ?_
        have tx6 : TX H5 H6 := TX.w2 (e45 _ _ kc) e6
        refine k H6 ⟨_, _, _, _, (e.trans (.of e45)).trans e6, k6, by rw [List.length_append]; simp; omega, ?_, (tx.trans (.of e45)).trans tx6, rfl⟩
        rw [L2.take_snoc hy, List.filter_append, List.filter_cons_of_pos (p := Wb.isT L n d) hy2, List.map_append]
        exact ((ty.ex e45).tx tx6).snoc ((tx6 t _ (.inl k5)).trans k5)
      walk_at "go"
      refine r_tup3 (t_of txb) ?_
      walk_at "go"
      refine r_dget (.inl kf) gb ?_
      walk_at "go"
      refine r_dget (.inl kf) ga ?_
      walk_at "go"
      refine r_newT (by simp) fun t1 J1 ht1 j1 m1 => ?_
      have m1' : IT K J1 t1 [(yl : Int) + 1] := t_of m1
      walk_at "go"
      refine r_catT (ex_t j1 ia) m1' (by rw [List.length_map, List.length_map]; simp; omega) fun t2 J2 j2 m2 => ?_
      rw [← List.map_append] at m2
      have j12 := j1.trans j2
      refine r_eqT (ex_t j12 ib) m2 ?_
      by_cases c1 : Wb.fw L n d yb = Wb.fw L n d ya ++ [(yl : Int) + 1]
      · rw [decide_eq_true c1]
        walk_at "go"
        refine r_app (l_of (j12 _ _ kc)) ?_
        walk_at "go"
        refine r_newT (by simp) fun t3 J3 ht3 j3 m3 => ?_
        walk_at "go"
        refine yes (by rw [hT, decide_eq_true c1]; rfl) J2 j12 _ (fun H6 z => ?_) t3 J3 j3 m3
        exact z
      · rw [decide_eq_false c1]
        walk_at "go"
        refine r_dget (.inl (j12 _ _ kf)) ga ?_
        walk_at "go"
        refine r_dget (.inl (j12 _ _ kf)) gb ?_
        walk_at "go"
        refine r_newT (by simp) fun t3 J3 ht3 j3 m3 => ?_
        rw [Int.zero_sub] at m3
        have m3' : IT K J3 t3 [-((yl : Int) + 1)] := t_of m3
        walk_at "go"
        refine r_catT (ex_t (j12.trans j3) ib) m3' (by rw [List.length_map, List.length_map]; simp; omega) fun t4 J4 j4 m4 => ?_
        rw [← List.map_append] at m4
        have j14 := (j12.trans j3).trans j4
        refine r_eqT (ex_t j14 ia) m4 ?_
        by_cases c2 : Wb.fw L n d ya = Wb.fw L n d yb ++ [-((yl : Int) + 1)]
        · rw [decide_eq_true c2]
          walk_at "go"
          refine r_app (l_of (j14 _ _ kc)) ?_
          walk_at "go"
          refine r_newT (by simp) fun t5 J5 ht5 j5 m5 => ?_
          walk_at "go"
          refine yes (by rw [hT, decide_eq_true c2, Bool.or_true]) J4 j14 _ (fun H6 z => ?_) t5 J5 j5 m5
          exact z
        · rw [decide_eq_false c2]
          walk_at "go"
          refine ⟨_, _, _, _, e.trans (.of j14), j14 _ _ kc, by omega, ?_, tx.trans (.of j14), rfl⟩
          rw [L2.take_snoc hy, List.filter_append, List.filter_cons_of_neg (p := Wb.isT L n d) (by rw [hT, decide_eq_false c1, decide_eq_false c2]; exact Bool.false_ne_true)]
          simpa using ty.ex j14
    · obtain ⟨ys, v3, v4, v5, e, kc, zy, ty, tx, rfl⟩ := z
      rw [zl, List.take_length] at ty
      walk_at "go"
      exact q c ys H' (fun b o hb => e b o (e13 b o hb) (ne_of_none hb hc0)) hc0 kc ty
def sp__law_others (K : PySem.W.Frag) : Sp := fun vs H Q _ => ∃ (L n : Nat) (d : Wb.Gm) (a : Addr), vs = [.ref a] ∧ WebH K H a L n d ∧ Wb.Web L n d ∧ n ≤ 64 ∧ ∀ p xs H1, Ex H H1 → H p = none → H1 p = some (.lst xs) → TpA H1 xs ((Wb.restT L n d).map Wb.tri) → Q (.ref p) H1
theorem ok__law_others (T : Tx K mg A) : FnOk P w K mg base CX0 5 A.a__law_others A.f__law_others P__law_others (sp__law_others K) := by
  refine T.F__law_others.ok sc__law_others (fun vs H Q E h => ?_) (fun cdv A' outer s H vs Q E hr h => ?_)
  · obtain ⟨L, n, d, a, rfl, _⟩ := h
    rfl
  · obtain ⟨L, n, d, a, rfl, hW, W, hn, q⟩ := h
    have l4 := W.l4
    refine ⟨_, (pss_cons (ps_set (i := 1) sc__law_others.nd rfl (Or.inr rfl) (pe_call (ok__law_tree T) (hr.mono (by decide)) (by rfl) T.g__law_tree T.F__law_tree.kp T.b__law_tree .nil pass0 (pa_cons (pv 0) pa_nil)))
      (pss_one (ps_ret (pe_lc (own := [("_law_way", 2)]) rfl sc__law_others.nd (pi_listK K (pe_call (ok__law_ways T) (hr.mono (by decide)) (by rfl) T.g__law_ways T.F__law_ways.kp T.b__law_ways .nil pass0 (pa_cons (pv 0) pa_nil))) (blkOk_by (own := [("_law_way", 2)]) (N := N__law_others) (sc := defScope s__law_others) (by decide +kernel)) (fun _ _ _ _ _ => (pg_name (i := 2) sc__law_others.nd rfl (Or.inl rfl))) (fun _ _ _ _ _ => (pts_one (pt_cmpR (op_ninD K hr) (pv 2) (pv 1) (by rfl)))) (fun _ _ _ _ _ => (pv 2)))))), ?_⟩
    walk_at "go"
    refine ⟨L, n, d, a, rfl, hW, W, hn, fun b ts H1 e1 hb k1 tT => ?_⟩
    walk_at "go"
    refine ⟨L, n, d, a, rfl, hW.mono e1, W.gr, l4, by omega, fun w ws H3 e3 hw k3 tw => ?_⟩
    have zl := tw.len
    rw [List.length_map] at zl
    have zw : ws.length ≤ 4000 := by
      rw [zl]
      have := Wb.ways_len L d n
      have h2 : n * L ≤ 64 * 4 := Nat.mul_le_mul hn l4
      exact Nat.le_trans this (by omega)
    have e13 := e1.trans e3
    refine r_itL (l_of k3) (r_cmLA (xs := ws) (fun i us H' => Ex H3 H' ∧ TpA H' us ((((Wb.ways3 L n d).take i).filter fun x => !Wb.isT L n d x).map Wb.tri)) (by omega) (fun _ => rfl) (fun i us H' z => ex_l z.1 (l_of k3)) (fun D2 hD2 o => ⟨Ex.new hD2, TpA.nil⟩) (fun i x H4 D2 acc hx hz hacc z zall => ?_) fun D2 H4 us hD2 k4 z _ => ?_)
    · obtain ⟨w0, b0, h1, rfl, h3⟩ := tw.get hx
      rw [List.getElem?_map] at h1
      obtain ⟨y, hy, rfl⟩ := Option.map_eq_some_iff.mp h1
      obtain ⟨e4, t4⟩ := z
      have hD3 : H3 D2 = none := ex_none fun o => (zall o).1
      walk_at "go"
      refine r_ninW (t_of (e4 _ _ h3)) (l_of ((e3.trans e4) _ _ k1)) (tT.ex (e3.trans e4)).wk ?_
      have inT : decide (Wb.tri y ∈ (Wb.treeT L n d).map Wb.tri) = Wb.isT L n d y := by
        have hyw := List.mem_of_getElem? hy
        cases c : Wb.isT L n d y with
        | true => exact decide_eq_true (List.mem_map.mpr ⟨y, List.mem_filter.mpr ⟨hyw, c⟩, rfl⟩)
        | false =>
          refine decide_eq_false fun hm => ?_
          obtain ⟨y2, h5, h6⟩ := List.mem_map.mp hm
          rw [Wb.tri_inj h6] at h5
          have := (List.mem_filter.mp h5).2
          rw [c] at this
          cases this
      rw [inT]
      cases c : Wb.isT L n d y with
      | true =>
        rw [show (!true) = false from rfl]
        walk_at "go"
        refine cm_no hacc hz fun o => ⟨(zall o).1, ?_⟩
        rw [L2.take_snoc hy, List.filter_append, List.filter_cons_of_neg (by rw [c]; exact Bool.false_ne_true)]
        simpa using (zall o).2
      | false =>
        rw [show (!false) = true from rfl]
        walk_at "go"
        refine cm_yes hacc hz (by have := (List.getElem?_eq_some_iff.mp hx).1; omega) fun o => ⟨ex_put e4 hD3, ?_⟩
        have tx : TX H4 (upd H4 D2 o) := TX.upd hacc
        rw [L2.take_snoc hy, List.filter_append, List.filter_cons_of_pos (p := fun x => !Wb.isT L n d x) (by rw [c]; rfl), List.map_append]
        exact (t4.tx tx).snoc ((tx b0 _ (.inl (e4 _ _ h3))).trans (e4 _ _ h3))
    · obtain ⟨e4, t4⟩ := z
      rw [zl, List.take_length] at t4
      exact q D2 us H4 (e13.trans e4) (fresh_back e13 hD2) k4 t4
end
end Lw
namespace Lw
open PySem PySem.Spec PyProof.Rows L2 Evl

local macro_rules | `(tactic| walk_at "go") => `(tactic| repeat (first
  | with_reducible refine st_seq ?_ | with_reducible refine st_set ?_ | with_reducible refine st_asg ?_ | with_reducible refine st_ret ?_ | with_reducible refine st_drop ?_ | with_reducible refine st_if ?_
  | with_reducible refine st_c ?_ | ((with_reducible refine' st_v ?h ?_); (case h => exact rfl)) | with_reducible refine st_n ?_ | with_reducible refine st_cons ?_ | with_reducible refine st_op ?_ | with_reducible refine st_un ?_
  | with_reducible refine st_cb ?_ | with_reducible refine st_test ?_ | with_reducible refine st_call ?_ | with_reducible refine st_callK ?_ | with_reducible refine st_sl ?_ | with_reducible refine st_par ?_ | with_reducible refine st_par3 ?_ | with_reducible refine st_tru ?_
  | with_reducible refine st_and ?_ | with_reducible refine st_or ?_ | with_reducible refine st_not ?_ | with_reducible refine st_B ?_ | with_reducible refine st_andV ?_ | with_reducible refine st_orV ?_ | with_reducible refine st_notV ?_ | with_reducible refine st_ifE ?_
  | with_reducible refine st_part ?_ | with_reducible refine st_nop ?_ | with_reducible refine st_sub ?_ | with_reducible refine st_chain ?_ | with_reducible refine st_bl ?_ | with_reducible refine st_in ?_ | with_reducible refine r_truB ?_
  | with_reducible refine st_nameG ?_ | with_reducible refine if_T ?_ | with_reducible refine if_F ?_ | with_reducible refine if_nT ?_ | with_reducible refine if_nF ?_
  | with_reducible refine r_add ?_ | with_reducible refine r_0 ?_ | with_reducible refine r_neg ?_ | with_reducible refine r_intI ?_ | with_reducible refine r_intB ?_ | with_reducible refine r_abs ?_ | with_reducible refine r_max2 ?_ | with_reducible refine r_min2 ?_ | with_reducible refine r_eqI ?_ | with_reducible refine r_neI ?_
  | with_reducible refine st_nxt ?_ | with_reducible refine st_cnt ?_ | with_reducible refine st_brk ?_ | with_reducible refine st_retn ?_
  | with_reducible refine st_lstN ?_ | with_reducible refine st_tupN ?_
  | with_reducible refine st_for ?_ | with_reducible refine st_lc ?_ | with_reducible refine st_lc2 ?_ | with_reducible refine st_rng1 ?_ | with_reducible refine st_rng2 ?_ | with_reducible refine st_rng3 ?_ | with_reducible refine st_itL ?_ | with_reducible refine st_itT ?_ | with_reducible refine st_rev ?_ | with_reducible refine st_enumE ?_ | with_reducible refine st_zip3 ?_ | with_reducible refine st_lvals ?_ | with_reducible refine st_fld ?_ | with_reducible refine st_sfld ?_ | with_reducible refine st_meth ?_ | with_reducible refine st_make ?_ | with_reducible refine st_rg1 ?_ | with_reducible refine st_enumS ?_ | with_reducible refine st_dg1 ?_ | with_reducible refine st_dg2 ?_ | with_reducible refine st_dpop ?_ | with_reducible refine st_dset ?_ | with_reducible refine st_dc ?_ | with_reducible refine st_keys ?_ | with_reducible refine st_dget ?_ | with_reducible refine st_din ?_ | with_reducible refine st_dnin ?_ | with_reducible refine st_dput ?_ | with_reducible refine st_dnew ?_ | with_reducible refine st_lstRg ?_ | with_reducible refine st_rg2 ?_ | with_reducible refine r_twoI ?_ | with_reducible refine st_bm ?_ | with_reducible refine st_bm0 ?_
  | ((with_reducible refine' st_aug ?h ?_); (case h => exact rfl)) | with_reducible refine r_augI ?_ | with_reducible refine r_eqB ?_
  | dsimp only))
section
variable {P : Program} {w : World} {K : PySem.W.Frag} {mg : Str → Option Value} {base : Heap} {A : Ad}

def sp__law_basis (K : PySem.W.Frag) : Sp := fun vs H Q _ => ∃ (L n : Nat) (d : Wb.Gm) (a : Addr), vs = [.ref a] ∧ WebH K H a L n d ∧ Wb.Web L n d ∧ n ≤ 64 ∧ ∀ p xs H1, Ex H H1 → H p = none → H1 p = some (.lst xs) → WkA K H1 xs (Wb.basisW L n d) → Q (.ref p) H1
theorem ok__law_basis (T : Tx K mg A) : FnOk P w K mg base CX0 6 A.a__law_basis A.f__law_basis P__law_basis (sp__law_basis K) := by
  refine T.F__law_basis.ok sc__law_basis (fun vs H Q E h => ?_) (fun cdv A' outer s H vs Q E hr h => ?_)
  · obtain ⟨L, n, d, a, rfl, _⟩ := h
    rfl
  · obtain ⟨L, n, d, a, rfl, hW, W, hn, q⟩ := h
    have l4 := W.l4
    have ok := Wb.bfs_ok W.gr W.pos
    refine ⟨_, (pss_cons (ps_set (i := 1) sc__law_basis.nd rfl (Or.inr rfl) (pe_call (ok__law_firsts T) (hr.mono (by decide)) (by rfl) T.g__law_firsts T.F__law_firsts.kp T.b__law_firsts .nil pass0 (pa_cons (pv 0) pa_nil)))
      (pss_one (ps_ret (pe_lc (own := [("_law_a", 2), ("_law_s", 3), ("_law_b", 4)]) rfl sc__law_basis.nd (pi_listK K (pe_call (ok__law_others T) (hr.mono (by decide)) (by rfl) T.g__law_others T.F__law_others.kp T.b__law_others .nil pass0 (pa_cons (pv 0) pa_nil))) (blkOk_by (own := [("_law_a", 2), ("_law_s", 3), ("_law_b", 4)]) (N := N__law_basis) (sc := defScope s__law_basis) (by decide +kernel)) (fun _ _ _ _ _ => (pg_tupK (n := 3) K (by rfl) (pgs_cons (pg_name (i := 2) sc__law_basis.nd rfl (Or.inl rfl)) (pgs_cons (pg_name (i := 3) sc__law_basis.nd rfl (Or.inl rfl)) (pgs_cons (pg_name (i := 4) sc__law_basis.nd rfl (Or.inl rfl)) pgs_nil))) (by kernel_rfl) (by kernel_rfl))) (fun _ _ _ _ _ => pts_nil) (fun _ _ _ _ _ => (pe_call (ok__law_straight T) (hr.mono (by decide)) (by rfl) T.g__law_straight T.F__law_straight.kp T.b__law_straight .nil pass0 (pa_cons (pe_op (op_addK K) (pe_op (op_addK K) (pe_dget (hu_of hr) (pv 1) (pv 2) (fun _ _ => rfl)) (pe_tup (pa_cons (pv 3) pa_nil))) (pe_call (ok__law_back T) (hr.mono (by decide)) (by rfl) T.g__law_back T.F__law_back.kp T.b__law_back .nil pass0 (pa_cons (pe_dget (hu_of hr) (pv 1) (pv 4) (fun _ _ => rfl)) pa_nil))) pa_nil))))))), ?_⟩
    walk_at "go"
    refine ⟨L, n, d, a, rfl, hW, W, by omega, fun f kvs H1 e1 hf k1 fw => ?_⟩
    walk_at "go"
    refine ⟨L, n, d, a, rfl, hW.mono e1, W, hn, fun w ws H2 e2 hw k2 tw => ?_⟩
    have e12 := e1.trans e2
    have zl := tw.len
    rw [List.length_map] at zl
    have zw : ws.length ≤ 4000 := by
      rw [zl]
      have := ways_len4 (d := d) (n := n) l4
      exact Nat.le_trans (List.length_filter_le _ _) (Nat.le_trans this (by omega))
    refine r_itL (l_of k2) (r_cmL3 (xs := ws) (fun i us H' => Ex H2 H' ∧ WkA K H' us (((Wb.restT L n d).take i).map (Wb.word L n d))) (by omega) (fun _ _ _ => rfl) (fun i us H' z => ex_l z.1 (l_of k2)) (fun D hD o => ⟨Ex.new hD, WkA.nil⟩) (fun i x H3 D acc hx hz hacc z zall => ?_) fun D H3 us hD k3 z _ => ?_)
    · obtain ⟨w0, b0, h1, rfl, h3⟩ := tw.get hx
      rw [List.getElem?_map] at h1
      obtain ⟨y, hy, rfl⟩ := Option.map_eq_some_iff.mp h1
      obtain ⟨e3, w3⟩ := z
      have hD2 : H2 D = none := ex_none fun o => (zall o).1
      have hym := List.mem_of_getElem? hy
      have bdy := Wb.ways_bd W.gr (List.mem_filter.mp hym).1
      have e23 := e2.trans e3
      have get : ∀ {H' : Hp}, Ex H1 H' → ∀ g, g < n → ∃ pg, valV kvs (Sum.inl (g : Int)) = some (.ref pg) ∧ IT K H' pg (Wb.fw L n d g) := fun {H'} e g hg => by
        obtain ⟨x, hx⟩ := Wb.web_ent W hg
        obtain ⟨v, hv, pg, rfl, h⟩ := (fw.mono (.of e)).get ok.nodup hx
        exact ⟨pg, hv, h⟩
      obtain ⟨pa, ga, ia⟩ := get e23 y.1 bdy.1
      have la := (Wb.fw_go W y.1 bdy.1).2.2
      have lb := (Wb.fw_go W y.2.2 bdy.2.2).2.2
      refine ⟨b0, _, _, _, rfl, t_of (e3 _ _ h3), ?_⟩
      refine t_yes (if_T ?_)
      walk_at "go"
      refine r_dget (.inl (e23 _ _ k1)) ga ?_
      walk_at "go"
      refine r_newT (by simp) fun t2 H4 ht2 e4 k4 => ?_
      have k4' : IT K H4 t2 [(y.2.1 : Int) + 1] := t_of k4
      walk_at "go"
      refine r_catT (ex_t e4 ia) k4' (by rw [List.length_map, List.length_map]; simp; omega) fun t3 H5 e5 k5 => ?_
      rw [← List.map_append] at k5
      have e25 := (e23.trans e4).trans e5
      obtain ⟨pb, gb, ib⟩ := get e25 y.2.2 bdy.2.2
      walk_at "go"
      refine r_dget (.inl (e25 _ _ k1)) gb ?_
      walk_at "go"
      refine ⟨pb, _, rfl, ib, by omega, fun t4 H6 e6 k6 => ?_⟩
      walk_at "go"
      refine r_catT (ex_t e6 k5) k6 (by rw [List.length_map, List.length_map, Fg.bk_len, List.length_append]; simp; omega) fun t5 H7 e7 k7 => ?_
      rw [← List.map_append] at k7
      have bs := basis_sml W _ (List.mem_map.mpr ⟨y, hym, rfl⟩)
      walk_at "go"
      refine ⟨t5, Wb.word L n d y, rfl, k7, by omega, fun t6 H8 e8 k8 => ?_⟩
      rw [Fg.rd_str (Wb.word_str W hym)] at k8
      have e38 := (((e4.trans e5).trans e6).trans e7).trans e8
      refine cm_yes (e38 _ _ hacc) hz (by have := (List.getElem?_eq_some_iff.mp hx).1; omega) fun o => ⟨ex_put (e3.trans e38) hD2, ?_⟩
      have tx : TX H8 (upd H8 D o) := TX.upd (e38 _ _ hacc)
      rw [L2.take_snoc hy, List.map_append]
      exact ((w3.ex e38).tx tx).snoc ⟨t6, rfl, tx_t tx k8⟩
    · obtain ⟨e3, w3⟩ := z
      rw [zl, List.take_length] at w3
      exact q D us H3 (e12.trans e3) (fresh_back e12 hD) k3 w3
def sp__law_right (K : PySem.W.Frag) : Sp := fun vs H Q _ => ∃ (L n : Nat) (d : Wb.Gm) (a : Addr), vs = [.ref a] ∧ WebH K H a L n d ∧ Wb.Web L n d ∧ n ≤ 64 ∧ ∀ H1, Ex H H1 → Q (.bl true) H1
theorem ok__law_right (T : Tx K mg A) : FnG P w K mg base CX0 7 A.a__law_right A.f__law_right P__law_right (sp__law_right K) := by
  refine T.F__law_right.okG sc__law_right (fun vs H Q E h => ?_) (fun cdv A' outer s H vs Q E g hr h => ?_)
  · obtain ⟨L, n, d, a, rfl, _⟩ := h
    rfl
  · obtain ⟨L, n, d, a, rfl, hW, W, hn, q⟩ := h
    have l4 := W.l4
    have zw := ways_len4 (d := d) (n := n) l4
    have shT : Shows (.list (dWs ((Wb.treeT L n d).map Wb.tri))) := by
      have h := tri_sml W.gr l4 (by omega) (p := Wb.isT L n d)
      refine shows_wl (n := 3) (fun w hw => (h w hw).1) (fun w hw => (h w hw).2) ?_
      rw [List.length_map, Wb.treeT_len W]
      omega
    have shB : Shows (.list (dWs (Wb.basisW L n d))) := by
      have h := basis_sml W
      refine shows_wl (n := 128) (fun w hw x hx => ?_) (fun w hw => Nat.le_trans (h w hw).2 (by omega)) ?_
      · have := (h w hw).1 x hx
        omega
      · have : (Wb.basisW L n d).length ≤ n * 4 := by
          unfold Wb.basisW
          rw [List.length_map]
          exact Nat.le_trans (List.length_filter_le _ _) zw
        omega
    refine ⟨_, (pss_cons (ps_par (i := 1) (j := 2) (by rfl) sc__law_right.nd rfl rfl (by decide) rfl rfl (pa_cons (pe_callB (repr_K K g hr) (by rfl) T.n_repr (by decide +kernel) (pa_cons (pe_call (ok__law_tree T) (hr.mono (by decide)) (by rfl) T.g__law_tree T.F__law_tree.kp T.b__law_tree .nil pass0 (pa_cons (pv 0) pa_nil)) pa_nil)) (pa_cons (pe_callB (repr_K K g hr) (by rfl) T.n_repr (by decide +kernel) (pa_cons (pe_call (ok__law_basis T) (hr.mono (by decide)) (by rfl) T.g__law_basis T.F__law_basis.kp T.b__law_basis .nil pass0 (pa_cons (pv 0) pa_nil)) pa_nil)) pa_nil)) (by rfl))
      (pss_cons (ps_set (i := 3) sc__law_right.nd rfl (Or.inl rfl) (pe_call (ok_tree T) (hr.mono (by decide)) (by rfl) T.g_tree T.F_tree.kp T.b_tree .nil pass0 (pa_cons (pv 0) pa_nil)))
      (pss_cons (ps_if (pt_cmpR (op_neK K hr.units) (pe_callB (repr_K K g hr) (by rfl) T.n_repr (by decide +kernel) (pa_cons (pv 3) pa_nil)) (pv 1) (nomark _)) (pss_one (ps_ret pe_bl)) pss_nil)
      (pss_cons (ps_expr (pe_bmU K PySem.F.plainAttrs_list PySem.F.slot_list_append PySem.F.type_list_append mt_append (pv 3) (pa_cons (pe_tup (pa_cons pe_int (pa_cons pe_int (pa_cons pe_int pa_nil)))) pa_nil)))
      (pss_cons (ps_set (i := 4) sc__law_right.nd rfl (Or.inl rfl) (pe_call (ok_basis T) (hr.mono (by decide)) (by rfl) T.g_basis T.F_basis.kp T.b_basis .nil pass0 (pa_cons (pv 0) pa_nil)))
      (pss_cons (ps_if (pt_cmpR (op_neK K hr.units) (pe_callB (repr_K K g hr) (by rfl) T.n_repr (by decide +kernel) (pa_cons (pv 4) pa_nil)) (pv 2) (nomark _)) (pss_one (ps_ret pe_bl)) pss_nil)
      (pss_cons (ps_expr (pe_bm0U K PySem.F.plainAttrs_list PySem.F.slot_list_reverse PySem.F.type_list_reverse mt_reverse (pv 4)))
      (pss_cons (ps_expr (pe_bmU K PySem.F.plainAttrs_list PySem.F.slot_list_append PySem.F.type_list_append mt_append (pv 4) (pa_cons (pe_tup pa_nil) pa_nil)))
      (pss_one (ps_ret (pe_and (pe_cmpR (op_eqK K hr.units) (pe_callB (repr_K K g hr) (by rfl) T.n_repr (by decide +kernel) (pa_cons (pe_callK0 (ok_tree T) (hr.mono (by decide)) (by rfl) T.g_tree T.F_tree.kp (kb_tree_web T.F_tree) pass0 (pk_cons (pv 0) pk_nil)) pa_nil)) (pv 1) (nomark _)) (pe_one (pe_cmpR (op_eqK K hr.units) (pe_callB (repr_K K g hr) (by rfl) T.n_repr (by decide +kernel) (pa_cons (pe_callK0 (ok_basis T) (hr.mono (by decide)) (by rfl) T.g_basis T.F_basis.kp (kb_basis_web T.F_basis) pass0 (pk_cons (pv 0) pk_nil)) pa_nil)) (pv 2) (nomark _)))))))))))))), ?_⟩
    walk_at "go"
    refine ⟨L, n, d, a, rfl, hW, W, hn, fun p1 x1 H1 e1 h1 k1 t1 => ?_⟩
    walk_at "go"
    refine r_repr (dp_wl (l_of k1) t1.wk) shT ?_
    walk_at "go"
    refine ⟨L, n, d, a, rfl, hW.mono e1, W, hn, fun p2 x2 H2 e2 h2 k2 t2 => ?_⟩
    walk_at "go"
    refine r_repr (dp_wl (l_of k2) t2) shB ?_
    walk_at "go"
    refine ⟨_, _, rfl, ?_⟩
    have e12 := e1.trans e2
    walk_at "go"
    refine ⟨L, n, d, a, rfl, hW.mono e12, W, hn, fun p3 x3 H3 e3 h3 k3 t3 => ?_⟩
    have e13 := e12.trans e3
    have h30 : H p3 = none := fresh_back e12 h3
    have z3 : x3.length ≤ 64 := by
      rw [t3.len, List.length_map, Wb.treeT_len W]
      omega
    walk_at "go"
    refine r_repr (dp_wl (l_of k3) t3.wk) shT ?_
    walk_at "go"
    refine same_neS ?_
    walk_at "go"
    refine r_app (l_of k3) ?_
    walk_at "go"
    refine r_newT (by simp) fun t4 H4 ht4 e4 k4 => ?_
    walk_at "go"
    refine r_appd (e4 _ _ k3) (by omega) fun H5 e5 k5 => ?_
    have e15 : Ex H H5 := fun b o hb => e5 b o ((e13.trans e4) b o hb) (ne_of_none hb h30)
    walk_at "go"
    refine ⟨L, n, d, a, rfl, hW.mono e15, W, hn, fun p6 x6 H6 e6 h6 k6 t6 => ?_⟩
    have h60 : H p6 = none := fresh_back e15 h6
    have z6 : x6.length ≤ 256 := by
      rw [t6.len]
      unfold Wb.basisW
      rw [List.length_map]
      exact Nat.le_trans (List.length_filter_le _ _) (Nat.le_trans zw (by omega))
    walk_at "go"
    refine r_repr (dp_wl (l_of k6) t6) shB ?_
    walk_at "go"
    refine same_neS ?_
    walk_at "go"
    refine r_rvs k6 fun H7 e7 k7 => ?_
    walk_at "go"
    refine r_app (l_of k7) ?_
    walk_at "go"
    refine r_newT (by simp) fun t8 H8 ht8 e8 k8 => ?_
    walk_at "go"
    refine r_appd (e8 _ _ k7) (by rw [List.length_reverse]; omega) fun H9 e9 k9 => ?_
    have e69 : ExW p6 H6 H9 := (e7.trans (.of e8)).trans e9
    have e19 : Ex H H9 := fun b o hb => e69 b o ((e15.trans e6) b o hb) (ne_of_none hb h60)
    walk_at "go"
    refine ⟨L, n, d, a, rfl, hW.mono e19, W, hn, fun pA xA HA eA hA kA tA => ?_⟩
    walk_at "go"
    refine r_repr (dp_wl (l_of kA) tA.wk) shT ?_
    walk_at "go"
    refine same_eqS ?_
    walk_at "go"
    refine ⟨L, n, d, a, rfl, hW.mono (e19.trans eA), W, hn, fun pB xB HB eB hB kB tB => ?_⟩
    walk_at "go"
    refine r_repr (dp_wl (l_of kB) tB) shB ?_
    walk_at "go"
    refine same_eqS ?_
    exact q HB ((e19.trans eA).trans eB)
end
end Lw
namespace Lw
open PySem PySem.Spec PyProof.Rows L2 Evl

local macro_rules | `(tactic| walk_at "go") => `(tactic| repeat (first
  | with_reducible refine st_seq ?_ | with_reducible refine st_set ?_ | with_reducible refine st_asg ?_ | with_reducible refine st_ret ?_ | with_reducible refine st_drop ?_ | with_reducible refine st_if ?_
  | with_reducible refine st_c ?_ | ((with_reducible refine' st_v ?h ?_); (case h => exact rfl)) | with_reducible refine st_n ?_ | with_reducible refine st_cons ?_ | with_reducible refine st_op ?_ | with_reducible refine st_un ?_
  | with_reducible refine st_cb ?_ | with_reducible refine st_test ?_ | with_reducible refine st_call ?_ | with_reducible refine st_callK ?_ | with_reducible refine st_sl ?_ | with_reducible refine st_par ?_ | with_reducible refine st_par3 ?_ | with_reducible refine st_tru ?_
  | with_reducible refine st_and ?_ | with_reducible refine st_or ?_ | with_reducible refine st_not ?_ | with_reducible refine st_B ?_ | with_reducible refine st_andV ?_ | with_reducible refine st_orV ?_ | with_reducible refine st_notV ?_ | with_reducible refine st_ifE ?_
  | with_reducible refine st_part ?_ | with_reducible refine st_nop ?_ | with_reducible refine st_sub ?_ | with_reducible refine st_chain ?_ | with_reducible refine st_bl ?_ | with_reducible refine st_in ?_ | with_reducible refine r_truB ?_
  | with_reducible refine st_nameG ?_ | with_reducible refine if_T ?_ | with_reducible refine if_F ?_ | with_reducible refine if_nT ?_ | with_reducible refine if_nF ?_
  | with_reducible refine r_add ?_ | with_reducible refine r_0 ?_ | with_reducible refine r_neg ?_ | with_reducible refine r_intI ?_ | with_reducible refine r_intB ?_ | with_reducible refine r_abs ?_ | with_reducible refine r_max2 ?_ | with_reducible refine r_min2 ?_ | with_reducible refine r_eqI ?_ | with_reducible refine r_neI ?_
  | with_reducible refine st_nxt ?_ | with_reducible refine st_cnt ?_ | with_reducible refine st_brk ?_ | with_reducible refine st_retn ?_
  | with_reducible refine st_lstN ?_ | with_reducible refine st_tupN ?_
  | with_reducible refine st_for ?_ | with_reducible refine st_lc ?_ | with_reducible refine st_lc2 ?_ | with_reducible refine st_rng1 ?_ | with_reducible refine st_rng2 ?_ | with_reducible refine st_rng3 ?_ | with_reducible refine st_itL ?_ | with_reducible refine st_itT ?_ | with_reducible refine st_rev ?_ | with_reducible refine st_enumE ?_ | with_reducible refine st_zip3 ?_ | with_reducible refine st_lvals ?_ | with_reducible refine st_fld ?_ | with_reducible refine st_sfld ?_ | with_reducible refine st_meth ?_ | with_reducible refine st_make ?_ | with_reducible refine st_rg1 ?_ | with_reducible refine st_enumS ?_ | with_reducible refine st_dg1 ?_ | with_reducible refine st_dg2 ?_ | with_reducible refine st_dpop ?_ | with_reducible refine st_dset ?_ | with_reducible refine st_dc ?_ | with_reducible refine st_keys ?_ | with_reducible refine st_dget ?_ | with_reducible refine st_din ?_ | with_reducible refine st_dnin ?_ | with_reducible refine st_dput ?_ | with_reducible refine st_dnew ?_ | with_reducible refine st_lstRg ?_ | with_reducible refine st_rg2 ?_ | with_reducible refine r_twoI ?_ | with_reducible refine st_bm ?_ | with_reducible refine st_bm0 ?_
  | ((with_reducible refine' st_aug ?h ?_); (case h => exact rfl)) | with_reducible refine r_augI ?_ | with_reducible refine r_eqB ?_
  | dsimp only))
section
variable {P : Program} {w : World} {K : PySem.W.Frag} {mg : Str → Option Value} {base : Heap} {A : Ad}

def addN (l : List Nat) (g : Nat) : List Nat := if g ∈ l then l else l ++ [g]
theorem look_keys (d : Wb.Gm) (r : Nat) : ∀ (S : List Int) (fd : Wb.Fd), (Wb.look d r S fd).map (·.1) = (S.filterMap (d r)).foldl addN (fd.map (·.1))
  | [], fd => rfl
  | s :: S, fd => by
    show (Wb.look d r S (Wb.adv d r fd s)).map (·.1) = _
    rw [look_keys d r S]
    cases e : d r s with
    | none =>
      rw [List.filterMap_cons_none e]
      have : Wb.adv d r fd s = fd := by unfold Wb.adv; rw [e]
      rw [this]
    | some g =>
      rw [List.filterMap_cons_some e, List.foldl_cons]
      congr 1
      unfold Wb.adv addN
      rw [e]
      show (if g ∈ fd.map (·.1) then fd else fd ++ [(g, some (r, s))]).map (·.1) = _
      split
      · rfl
      · rw [List.map_append]; rfl
theorem fm_eq (d : Wb.Gm) (r : Nat) : ∀ (S : List Int), ((S.filter fun s => (d r s).isSome).map fun s => ((d r s).getD 0 : Nat)) = S.filterMap (d r)
  | [] => rfl
  | s :: S => by
    cases e : d r s with
    | none =>
      rw [List.filterMap_cons_none e, List.filter_cons_of_neg (by rw [e]; decide)]
      exact fm_eq d r S
    | some g =>
      rw [List.filterMap_cons_some e, List.filter_cons_of_pos (by rw [e]; rfl), List.map_cons, e]
      exact congrArg (g :: ·) (fm_eq d r S)
theorem addN_len (l : List Nat) (g : Nat) : (addN l g).length ≤ l.length + 1 := by
  unfold addN
  split
  · omega
  · rw [List.length_append]; exact Nat.le_refl _
def TrH (L n h t : Nat) (d : Wb.Gm) : Prop := Wb.NoEndH L n h d ∨ Wb.potH L n h d + t + 1 ≤ n
theorem cut_two2 {d : Wb.Gm} {r g x : Nat} {s t : Int} (hr : ∀ u, u ≠ s → d r u = none) : (if x = r then none else (if x = g ∧ t = -s then none else d x t)) = Wb.cut d r g s x t := by
  unfold Wb.cut
  by_cases c1 : x = r
  · rw [if_pos c1]
    by_cases c2 : t = s
    · rw [if_pos (Or.inl ⟨c1, c2⟩)]
    · have e : d x t = none := by rw [c1]; exact hr t c2
      by_cases c3 : x = r ∧ t = s ∨ x = g ∧ t = -s
      · rw [if_pos c3]
      · rw [if_neg c3, e]
  · rw [if_neg c1]
    by_cases c2 : x = g ∧ t = -s
    · rw [if_pos c2, if_pos (Or.inr c2)]
    · rw [if_neg c2, if_neg fun z => z.elim (fun y => c1 y.1) c2]
theorem one_only {L n r : Nat} {d : Wb.Gm} {s u : Int} (G : Wb.Gr L n d) (h1 : Wb.deg L d r = 1) (hs : (d r s).isSome = true) (hu : u ≠ s) : d r u = none := by
  cases e : d r u with
  | none => rfl
  | some g =>
    exfalso
    cases e2 : d r s with
    | none => rw [e2] at hs; cases hs
    | some g2 =>
      unfold Wb.deg at h1
      match e3 : (Od.steps L).filter fun s => (d r s).isSome, h1 with
      | [x], _ =>
        have i1 : s ∈ (Od.steps L).filter fun s => (d r s).isSome := List.mem_filter.mpr ⟨(G.dom _ _ _ e2).2.2, by rw [e2]; rfl⟩
        have i2 : u ∈ (Od.steps L).filter fun s => (d r s).isSome := List.mem_filter.mpr ⟨(G.dom _ _ _ e).2.2, by rw [e]; rfl⟩
        rw [e3, List.mem_singleton] at i1 i2
        exact hu (i2.trans i1.symm)
def sp__law_named (K : PySem.W.Frag) : Sp := fun vs H Q _ => ∃ (H0 : Hp) (L n home : Nat) (d : Wb.Gm) (a : Addr), vs = [.int (L : Int), .ref a, .int (home : Int)] ∧ (DL H0 H a n fun x s => vN (d x s)) ∧ Wb.Gr L n d ∧ 1 ≤ L ∧ L ≤ 4 ∧ home < n ∧ n ≤ 1000 ∧ ∀ p m d' H1, ExD H0 H H1 → m ≤ n → WebH K H1 p L m d' → Wb.Web L m d' → Q (.ref p) H1
theorem ok__law_named (T : Tx K mg A) : FnOk P w K mg base CX0 2 A.a__law_named A.f__law_named P__law_named (sp__law_named K) := by
  refine T.F__law_named.ok sc__law_named (fun vs H Q E h => ?_) (fun cdv A' outer s H vs Q E hr h => ?_)
  · obtain ⟨H0, L, n, home, d, a, rfl, _⟩ := h
    rfl
  · obtain ⟨H0, L, n, home, d, a, rfl, dl, G, l1, l4, hh, hn, q⟩ := h
    refine ⟨_, (Evl.pss_cut (ps_for PassesOwn.never rfl (pi_range1 (by rfl) T.n_range (pa_cons (pe_callB (len_K K) (by rfl) T.n_len (by decide +kernel) (pa_cons (pv 1) pa_nil)) pa_nil)) (pg_name (i := 3) sc__law_named.nd rfl (Or.inl rfl)) (pss_cons (ps_setLc (i := 4) (own := [("_law_room", 5)]) rfl sc__law_named.nd rfl rfl (sw_true rfl rfl rfl (by decide +kernel)) (pi_range1 (by rfl) T.n_range (pa_cons (pe_callB (len_K K) (by rfl) T.n_len (by decide +kernel) (pa_cons (pv 1) pa_nil)) pa_nil)) (blkOk_by (own := [("_law_room", 5)]) (N := N__law_named) (sc := defScope s__law_named) (by decide +kernel)) (fun _ _ _ _ _ => (pg_name (i := 5) sc__law_named.nd rfl (Or.inl rfl))) (fun _ _ _ _ _ => (pts_one (PW.pt (pw_and (pt_cmpR (op_neK K hr.units) (pv 5) (pv 2) (nomark _)) (pw_and1 (pt_cmpR (op_eqK K hr.units) (pe_callB len_D (by rfl) T.n_len (by decide +kernel) (pa_cons (pe_ix (ix_K K) (pv 1) (pv 5) (fun _ _ => rfl)) pa_nil)) pe_int (nomark _))))))) (fun _ _ _ _ _ => (pv 5)))
      (pss_cons (ps_if (pt_cmpR (op_eqK K hr.units) (pv 4) (pe_lst pa_nil) (nomark _)) (pss_one ps_break) pss_nil)
      (pss_one (ps_for PassesOwn.never rfl (pi_listK K (pv 4)) (pg_name (i := 5) sc__law_named.nd rfl (Or.inl rfl)) (pss_cons (ps_set (i := 6) sc__law_named.nd rfl (Or.inr rfl) (pe_ix (ix_K K) (pv 1) (pv 5) (fun _ _ => rfl)))
      (pss_cons (ps_for PassesOwn.never rfl (pi_listK K (pe_callTy (list_D rfl) (by rfl) T.n_list (by decide +kernel) (pa_cons (pv 6) pa_nil))) (pg_name (i := 7) sc__law_named.nd rfl (Or.inl rfl)) (pss_cons (ps_set (i := 8) sc__law_named.nd rfl (Or.inl rfl) (pe_ix (ix_K K) (pv 1) (pe_dget (hu_of hr) (pv 6) (pv 7) (fun _ _ => rfl)) (fun _ _ => rfl)))
      (pss_one (ps_expr (pe_dpop1 (pv 8) (pe_op op_sub pe_int (pv 7)) ⟨rfl, rfl, rfl, rfl⟩)))))
      (pss_one (ps_expr (pe_bm0U K PySem.F.plainAttrs_dict PySem.F.slot_dict_clear PySem.F.type_dict_clear mtd_clear (pv 6)))))))))))
      (pss_cons (ps_set (i := 9) sc__law_named.nd rfl (Or.inr rfl) (pe_lst (pa_cons (pv 2) pa_nil)))
      (pss_cons (ps_for PassesOwn.never rfl (pi_range1 (by rfl) T.n_range (pa_cons (pe_callB (len_K K) (by rfl) T.n_len (by decide +kernel) (pa_cons (pv 1) pa_nil)) pa_nil)) (pg_name (i := 10) sc__law_named.nd rfl (Or.inl rfl)) (pss_one (ps_if (pt_cmpR op_lt (pv 10) (pe_callB (len_K K) (by rfl) T.n_len (by decide +kernel) (pa_cons (pv 9) pa_nil)) (nomark _)) (pss_cons (ps_set (i := 6) sc__law_named.nd rfl (Or.inr rfl) (pe_ix (ix_K K) (pv 1) (pe_ix (ix_K K) (pv 9) (pv 10) (fun _ _ => rfl)) (fun _ _ => rfl)))
      (pss_cons (ps_setLc (i := 11) (own := [("_law_step", 7)]) rfl sc__law_named.nd rfl rfl (sw_true rfl rfl rfl (by decide +kernel)) (pi_listK K (pe_call (ok__law_steps T) (hr.mono (by decide)) (by rfl) T.g__law_steps T.F__law_steps.kp T.b__law_steps .nil pass0 (pa_cons (pv 0) pa_nil))) (blkOk_by (own := [("_law_step", 7)]) (N := N__law_named) (sc := defScope s__law_named) (by decide +kernel)) (fun _ _ _ _ _ => (pg_name (i := 7) sc__law_named.nd rfl (Or.inl rfl))) (fun _ _ _ _ _ => (pts_one (pt_cmp (pc_din (hu_of hr) (pv 7) (pv 6)) (by rfl)))) (fun _ _ _ _ _ => (pe_dget (hu_of hr) (pv 6) (pv 7) (fun _ _ => rfl))))
      (pss_one (ps_for PassesOwn.never rfl (pi_listK K (pv 11)) (pg_name (i := 12) sc__law_named.nd rfl (Or.inl rfl)) (pss_one (ps_if (pt_cmpR (op_notInK K) (pv 12) (pv 9) (by rfl)) (pss_one (ps_expr (pe_bmU K PySem.F.plainAttrs_list PySem.F.slot_list_append PySem.F.type_list_append mt_append (pv 9) (pa_cons (pv 12) pa_nil)))) pss_nil)))))) pss_nil)))
      (pss_cons (ps_set (i := 13) sc__law_named.nd rfl (Or.inl rfl) (pe_lst pa_nil))
      (pss_cons (ps_for PassesOwn.never rfl (pi_listK K (pv 9)) (pg_name (i := 5) sc__law_named.nd rfl (Or.inl rfl)) (pss_cons (ps_set (i := 6) sc__law_named.nd rfl (Or.inr rfl) (pe_ix (ix_K K) (pv 1) (pv 5) (fun _ _ => rfl)))
      (pss_one (ps_expr (pe_bmU K PySem.F.plainAttrs_list PySem.F.slot_list_append PySem.F.type_list_append mt_append (pv 13) (pa_cons (pe_callTy (tuple_K K) (by rfl) T.n_tuple (by decide +kernel) (pa_cons (pe_lc (own := [("_law_at", 10)]) rfl sc__law_named.nd (pi_range2 (by rfl) T.n_range (pa_cons pe_int (pa_cons (pe_op (op_addK K) (pv 0) pe_int) pa_nil))) (blkOk_by (own := [("_law_at", 10)]) (N := N__law_named) (sc := defScope s__law_named) (by decide +kernel)) (fun _ _ _ _ _ => (pg_name (i := 10) sc__law_named.nd rfl (Or.inl rfl))) (fun _ _ _ _ _ => pts_nil) (fun _ _ _ _ _ => (pe_ifExp (pt_cmp (pc_din (hu_of hr) (pv 10) (pv 6)) (by rfl)) (pe_bmU K PySem.F.plainAttrs_list PySem.F.slot_list_index PySem.F.type_list_index (mt_indexK K) (pv 9) (pa_cons (pe_dget (hu_of hr) (pv 6) (pv 10) (fun _ _ => rfl)) pa_nil)) (pe_op op_sub pe_int pe_int)))) pa_nil)) pa_nil))))))
      (pss_one (ps_ret (pe_tup (pa_cons (pv 0) (pa_cons (pe_callTy (tuple_K K) (by rfl) T.n_tuple (by decide +kernel) (pa_cons (pv 13) pa_nil)) pa_nil)))))))))), ?_⟩
    have lst : ∀ {H' : Hp} {d : Wb.Gm}, (DL H0 H' a n fun x s => vN (d x s)) → ∃ ds : List Addr, ds.length = n ∧ H' a = some (.lst (ds.map V.ref)) := fun dl => by
      obtain ⟨ds, h1, _, _, _, _, h6, _⟩ := dl.ex
      exact ⟨ds, h1, h6⟩
    walk_at "go"
    refine ⟨fun σ' H' => ∃ (d : Wb.Gm) (v3 v4 v5 v6 v7 v8 : Option V), ExD H0 H H' ∧ (DL H0 H' a n fun x s => vN (d x s)) ∧ Wb.Gr L n d ∧ Wb.NoEndH L n home d ∧ σ' = [some (.int (L : Int)), some (.ref a), some (.int (home : Int)), v3, v4, v5, v6, v7, v8, none, none, none, none, none], ?_, ?_⟩
    · obtain ⟨ds, zd, hp⟩ := lst dl
      walk_at "go"
      refine r_lenL (l_of hp) ?_
      rw [List.length_map, zd]
      clear hp zd ds
      walk_at "go"
      refine r_rng1 (by omega) (by omega) ?_
      rw [show ((n : Nat) : Int).toNat = n from rfl]
      refine r_forR (lo := 0) (m := n) (fun t σ' H' => ∃ (d : Wb.Gm) (v3 v4 v5 v6 v7 v8 : Option V), ExD H0 H H' ∧ (DL H0 H' a n fun x s => vN (d x s)) ∧ Wb.Gr L n d ∧ TrH L n home t d ∧ σ' = [some (.int (L : Int)), some (.ref a), some (.int (home : Int)), v3, v4, v5, v6, v7, v8, none, none, none, none, none]) ⟨d, none, none, none, none, none, none, ExD.refl _ _, dl, G, .inr (by have := Wb.potH_start (L := L) (d := d) hh; omega), rfl⟩ (fun t σ' H' ht z => ?_) (fun σ' H' z => ?_)
      · obtain ⟨d, v3, v4, v5, v6, v7, v8, e, dl, G, tr, rfl⟩ := z
        obtain ⟨ds, zd, hp⟩ := lst dl
        walk_at "go"
        refine r_lenL (l_of hp) ?_
        rw [List.length_map, zd]
        walk_at "go"
        refine r_rng1 (by omega) (by omega) ?_
        rw [show ((n : Nat) : Int).toNat = n from rfl]
        refine r_cmRF (lo := 0) (m := n) (fun r => decide (r ≠ home) && decide (Wb.deg L d r = 1)) (fun r => .int (0 + (r : Int))) (by omega) (fun _ => rfl) (fun i H1 hi e1 Q' k => ?_) (fun i H1 hi hf e1 Q' k => ?_) fun il H1 hil e1 k1 => ?_
        · obtain ⟨xs, b, kvs, a1, a2, a3, a4, a6, a7, a8⟩ := dl_pop (dl.mono e1) hi
          have dg := di_deg (d := d) (r := i) a4 G
          walk_at "go"
          refine ifn_2 (fun h0 => ?_) fun h0 => ?_
          · have e2 : i ≠ home := fun z => h0 (by omega)
            walk_at "go"
            refine r_ixL (l_of a1) (atI_at (by omega) (by rw [show ((0 : Int) + (i : Int)).toNat = i by omega]; exact a2)) ?_
            walk_at "go"
            refine r_lenD a3 ?_
            walk_at "go"
            rw [dg]
            have e3 : decide (((Wb.deg L d i : Nat) : Int) = 1) = (decide (i ≠ home) && decide (Wb.deg L d i = 1)) := by
              rw [decide_eq_true e2, Bool.true_and]
              exact decide_eq_decide.mpr (by omega)
            rw [e3]
            exact k H1 (Ex.refl H1)
          · have e2 : i = home := by
              omega
            walk_at "go"
            have e3 : (decide (i ≠ home) && decide (Wb.deg L d i = 1)) = false := by
              rw [decide_eq_false (fun z => z e2), Bool.false_and]
            rw [e3] at k
            exact k H1 (Ex.refl H1)
        · walk_at "go"
          exact k H1 (Ex.refl H1)
        rw [given_ints] at k1
        obtain ⟨idle, hidle⟩ : ∃ idle, (List.range n).filter (fun r => decide (r ≠ home) && decide (Wb.deg L d r = 1)) = idle := ⟨_, rfl⟩
        rw [hidle] at k1
        have k1 : H1 il = some (.lst ((nI idle).map V.int)) := k1
        have hin : ∀ r, r ∈ idle → r ≠ home ∧ r < n ∧ Wb.deg L d r = 1 := fun r hr => by
          rw [← hidle, List.mem_filter, Bool.and_eq_true, decide_eq_true_eq, decide_eq_true_eq, List.mem_range] at hr
          exact ⟨hr.2.1, hr.1, hr.2.2⟩
        have zi : idle.length ≤ n := by
          rw [← hidle]
          exact Nat.le_trans (List.length_filter_le _ _) (by rw [List.length_range]; exact Nat.le_refl _)
        have ee := e.trans (ExD.of e1)
        have dl := dl.mono e1
        clear e1 hp zd
        walk_at "go"
        refine r_newL (by simp) fun em H2 hem e2 k2 => ?_
        walk_at "go"
        have k1 := e2 _ _ k1
        refine r_eqL (l_of k1) (ns := nI idle) (ms := []) (l_of k2) ?_
        walk_at "go"
        have dl := dl.mono e2
        have ee := ee.trans (ExD.of e2)
        refine if_2 (fun h0 => ?_) fun h0 => ?_
        · have : idle = [] := by cases idle with
            | nil => rfl
            | cons x l => cases h0
          walk_at "go"
          refine ⟨d, _, _, _, _, _, _, ee, dl, G, fun r r1 r2 r3 => ?_, rfl⟩
          have : r ∈ idle := by
            rw [← hidle, List.mem_filter, Bool.and_eq_true, decide_eq_true_eq, decide_eq_true_eq, List.mem_range]
            exact ⟨r2, r1, r3⟩
          simp_all
        · have ne : idle ≠ [] := fun z => h0 (by rw [z]; rfl)
          walk_at "go"
          refine r_itL (l_of k1) (r_forL (xs := (nI idle).map V.int) (fun j σ' H' => ∃ (d1 : Wb.Gm) (v5 v6 v7 v8 : Option V), ExD H0 H H' ∧ (DL H0 H' a n fun x s => vN (d1 x s)) ∧ Wb.RdH L n home d d1 idle j ∧ H' il = some (.lst ((nI idle).map V.int)) ∧ σ' = [some (.int (L : Int)), some (.ref a), some (.int (home : Int)), some (.int (0 + (t : Int))), some (.ref il), v5, v6, v7, v8, none, none, none, none, none]) ⟨d, _, _, _, _, ee, dl, ⟨G, fun _ => Nat.le_refl _, fun i r hi => by omega⟩, k1, rfl⟩ (fun j σ' H' _ z => ?_) (fun j x σ' H' hx z => ?_) (fun σ' H' z => ?_))
          · obtain ⟨_, _, _, _, _, _, _, _, k1, _⟩ := z
            exact l_of k1
          · obtain ⟨d1, v5, v6, v7, v8, e, dl, R, k1, rfl⟩ := z
            unfold nI at hx
            rw [List.getElem?_map, List.getElem?_map] at hx
            cases hr' : idle[j]? with
            | none => rw [hr'] at hx; cases hx
            | some r =>
              rw [hr'] at hx
              cases hx
              obtain ⟨r1, r2, r3⟩ := hin r (List.mem_of_getElem? hr')
              obtain ⟨xs, b, kvs, a1, a2, a3, a4, a6, a7, a8⟩ := dl_pop dl r2
              have dg := di_deg (d := d1) (r := r) a4 R.gr
              have le1 : Wb.deg L d1 r ≤ 1 := by have := R.le r; omega
              have nil := dl_il dl k1 (by omega)
              walk_at "go"
              refine r_ixL (l_of a1) (atI_at (by omega) (by rw [Int.toNat_natCast]; exact a2)) ?_
              walk_at "go"
              refine r_lstD a3 fun c H3 hc e3 k3 => ?_
              walk_at "go"
              have a3' := e3 _ _ a3
              have a1' := e3 _ _ a1
              have k1' := e3 _ _ k1
              have dl3 := dl.mono e3
              have nba := a6
              -- what follows the round
              have fin : ∀ (σ' : L2.St) (H' : Hp) (f1 : Nat → Int → Option V) (d2 : Wb.Gm) (kv1 : List (Key × V)), ExD H0 H H' → (DL H0 H' a n f1) → H' a = some (.lst xs) → H' il = some (.lst ((nI idle).map V.int)) → H' b = some (.dK kv1) →
                  (∀ x s, (if x = r then none else f1 x s) = vN (d2 x s)) → Wb.RdH L n home d d2 idle (j + 1) →
                  (∃ v7 v8, σ' = [some (V.int (L : Int)), some (.ref a), some (.int (home : Int)), some (.int (0 + (t : Int))), some (.ref il), some (.int (r : Int)), some (.ref b), v7, v8, none, none, none, none, none]) →
                  ∀ Q' : VK, (∀ H4, (∃ (d1 : Wb.Gm) (v5 v6 v7 v8 : Option V), ExD H0 H H4 ∧ (DL H0 H4 a n fun x s => vN (d1 x s)) ∧ Wb.RdH L n home d d1 idle (j + 1) ∧ H4 il = some (.lst ((nI idle).map V.int)) ∧ σ' = [some (.int (L : Int)), some (.ref a), some (.int (home : Int)), some (.int (0 + (t : Int))), some (.ref il), v5, v6, v7, v8, none, none, none, none, none]) → Q' .non H4) → rApp0 K "dict" rDClear (.ref b) H' Q' := by
                rintro σ' H' f1 d2 kv1 e dl ha hil hb hf R ⟨v7, v8, rfl⟩ Q' k
                obtain ⟨z0, kvs2, z1, z2, z3⟩ := dl_set0 dl ha a2 r2
                refine r_dclear z1 fun H4 e4 k4 => ?_
                obtain ⟨ed, dl4⟩ := z3 H4 [] (fun _ => none) e4 k4 DI.nil
                refine k H4 ⟨d2, _, _, _, _, e.trans ed, dl4.congr fun x _ s => ?_, R, ed.lst hil, rfl⟩
                rw [← hf x s]
                by_cases c1 : x = r
                · refine (congrFun (if_pos c1) s).trans ?_
                  rw [if_pos c1]
                · refine (congrFun (if_neg c1) s).trans ?_
                  rw [if_neg c1]
              rcases Nat.lt_or_ge 0 (Wb.deg L d1 r) with pos | zero
              · have h1 : Wb.deg L d1 r = 1 := by omega
                obtain ⟨s0, g, hg, hk⟩ := di_one (d := d1) (r := r) a4 (by omega)
                have hgr := Wb.one_ne R.gr hg h1
                have hgn := (R.gr.dom _ _ _ hg).2.1
                have hs0 := Od.mem_steps.mp (R.gr.dom _ _ _ hg).2.2
                rw [hk] at k3
                refine r_itL (l_of k3) (r_forL (xs := [V.int s0]) (fun i σ' H' => ∃ (v7 v8 : Option V), ExD H0 H H' ∧ (DL H0 H' a n fun x s => vN (if i = 1 ∧ x = g ∧ s = -s0 then none else d1 x s)) ∧ H' a = some (.lst xs) ∧ H' il = some (.lst ((nI idle).map V.int)) ∧ H' c = some (.lst [V.int s0]) ∧ H' b = some (.dK kvs) ∧ σ' = [some (.int (L : Int)), some (.ref a), some (.int (home : Int)), some (.int (0 + (t : Int))), some (.ref il), some (.int (r : Int)), some (.ref b), v7, v8, none, none, none, none, none])
                  ⟨_, _, e.trans (ExD.of e3), dl3.congr fun x _ s => by rw [if_neg (fun z => absurd z.1 (by decide))], a1', k1', k3, a3', rfl⟩ (fun i σ' H' _ z => ?_) (fun i x σ' H' hx z => ?_) (fun σ' H' z => ?_))
                · obtain ⟨_, _, _, _, _, _, k3, _⟩ := z
                  exact l_of k3
                · obtain ⟨v7, v8, e, dl, a1, k1, k3, a3, rfl⟩ := z
                  have i0 : i = 0 := by
                    have := (List.getElem?_eq_some_iff.mp hx).1
                    simp at this
                    exact this
                  subst i0
                  cases hx
                  have dl : DL H0 H' a n fun x s => vN (d1 x s) := dl.congr fun x _ s => by rw [if_neg (fun z => absurd z.1 (by decide))]
                  walk_at "go"
                  refine r_dgetI (.inl a3) a4 (v := .int (g : Int)) (by rw [hg]; rfl) ?_
                  obtain ⟨ys, b', kv4, c1, c2, c3, c4, c6, c7, c8⟩ := dl_pop dl hgn
                  have ey := c1.symm.trans a1
                  cases ey
                  have nb := dl_ne dl a1 a2 c2 (Ne.symm hgr)
                  walk_at "go"
                  refine r_ixL (l_of c1) (atI_at (by omega) (by rw [Int.toNat_natCast]; exact c2)) ?_
                  walk_at "go"
                  refine r_dpop (.inl c3) ?_
                  walk_at "go"
                  have hback := R.gr.sym _ _ _ hg
                  rw [show (0 : Int) - s0 = -s0 by omega]
                  refine r_dpopb c3 c4 (x := -s0) (v := .int (r : Int)) (by rw [hback]; rfl) fun H4 kv5 e5 k5 d5 => ?_
                  have T4 := c8 H4 kv5 (-s0) e5 k5 d5
                  have ed := ExD.w e5 c3 c7
                  walk_at "go"
                  refine ⟨_, _, e.trans ed, T4.congr fun x _ s => ?_, ed.lst a1, ed.lst k1, ed.lst k3, e5 _ _ a3 nb, rfl⟩
                  by_cases z : x = g ∧ s = -s0
                  · rw [if_pos z, if_pos ⟨rfl, z⟩]
                  · rw [if_neg z, if_neg fun y => z y.2]
                · obtain ⟨v7, v8, e, dl, a1, k1, k3, a3, rfl⟩ := z
                  walk_at "go"
                  refine fin _ H' _ (Wb.cut d1 r g s0) kvs e dl a1 k1 a3 (fun x s => ?_) ?_ ⟨_, _, rfl⟩ _ fun H4 z => z
                  · have z := cut_two2 (d := d1) (r := r) (g := g) (x := x) (s := s0) (t := s) fun u hu => one_only R.gr h1 (by rw [hg]; rfl) hu
                    rw [← z]
                    by_cases c1 : x = r
                    · rw [if_pos c1, if_pos c1]; rfl
                    · rw [if_neg c1, if_neg c1]
                      by_cases c2 : x = g ∧ s = -s0
                      · rw [if_pos c2, if_pos ⟨rfl, c2⟩]
                      · rw [if_neg c2, if_neg fun y => c2 y.2]
                  · exact Wb.rdH_next R hr' (Wb.cut_gr R.gr hg) (fun x => Wb.cut_deg x) (Wb.cut_zero R.gr hg h1)
              · have k0 : kvs = [] := List.length_eq_zero_iff.mp (by omega)
                rw [k0] at k3
                refine r_itL (l_of k3) (r_forL (xs := []) (fun i σ' H' => ExD H0 H H' ∧ (DL H0 H' a n fun x s => vN (d1 x s)) ∧ H' a = some (.lst xs) ∧ H' il = some (.lst ((nI idle).map V.int)) ∧ H' c = some (.lst []) ∧ H' b = some (.dK kvs) ∧ σ' = [some (.int (L : Int)), some (.ref a), some (.int (home : Int)), some (.int (0 + (t : Int))), some (.ref il), some (.int (r : Int)), some (.ref b), v7, v8, none, none, none, none, none])
                  ⟨e.trans (ExD.of e3), dl3, a1', k1', k3, a3', rfl⟩ (fun i σ' H' _ z => l_of z.2.2.2.2.1) (fun i x σ' H' hx z => by simp at hx) (fun σ' H' z => ?_))
                obtain ⟨e, dl, a1, k1, k3, a3, rfl⟩ := z
                walk_at "go"
                have z0 : ∀ s, d1 r s = none := Wb.deg_zero R.gr (by omega)
                refine fin _ H' _ d1 kvs e dl a1 k1 a3 (fun x s => ?_) (Wb.rdH_next R hr' R.gr (fun x => Nat.le_refl _) (by omega)) ⟨_, _, rfl⟩ _ fun H4 z => z
                by_cases c1 : x = r
                · rw [if_pos c1, c1, z0]; rfl
                · rw [if_neg c1]
          · obtain ⟨d1, v5, v6, v7, v8, e, dl, R, k1, rfl⟩ := z
            rw [List.length_map, nI_len] at R
            have := Wb.rdH_end R hin ne
            walk_at "go"
            refine ⟨d1, _, _, _, _, _, _, e, dl, R.gr, .inr ?_, rfl⟩
            rcases tr with tr | tr
            · exfalso
              cases idle with
              | nil => exact ne rfl
              | cons x l =>
                obtain ⟨q1, q2, q3⟩ := hin x List.mem_cons_self
                exact tr x q1 q2 q3
            · omega
      · obtain ⟨d, v3, v4, v5, v6, v7, v8, e, dl, G, tr, rfl⟩ := z
        walk_at "go"
        refine ⟨d, _, _, _, _, _, _, e, dl, G, ?_, rfl⟩
        rcases tr with tr | tr
        · exact tr
        · omega
    · rintro σ' H' ⟨d, v3, v4, v5, v6, v7, v8, e, dl, G, leaf, rfl⟩
      obtain ⟨d', W, hd'⟩ := Wb.web_of_bfs_h l1 l4 hh G leaf
      clear leaf
      walk_at "go"
      refine r_newL (by simp) fun b H2 hb e2 k2 => ?_
      have k2 : H2 b = some (.lst ((nI [home]).map V.int)) := k2
      have dl := dl.mono e2
      have eb0 := e
      have hbx := hb
      have e := e.trans (ExD.of e2)
      have nbl := dl_il dl k2 (by omega)
      walk_at "go"
      obtain ⟨ds, zd, hp⟩ := lst dl
      refine r_lenL (l_of hp) ?_
      rw [List.length_map, zd]
      clear hp zd ds
      walk_at "go"
      refine r_rng1 (by omega) (by omega) ?_
      rw [show ((n : Nat) : Int).toNat = n from rfl]
      refine r_forR (lo := 0) (m := n) (fun pl σ' H' => ∃ (fd : Wb.Fd) (v6 v7 v10 v11 v12 : Option V), Wb.Ok n fd ∧ Wb.run d (Od.steps L) (n + 1 - pl) pl fd = Wb.bfs L n d home ∧ ExD H0 H H' ∧ (DL H0 H' a n fun x s => vN (d x s)) ∧ H' b = some (.lst ((nI (fd.map (·.1))).map V.int)) ∧
        σ' = [some (.int (L : Int)), some (.ref a), some (.int (home : Int)), v3, v4, v5, v6, v7, v8, some (.ref b), v10, v11, v12, none]) ⟨[(home, none)], _, _, none, none, none, (Wb.rn_start (d := d) (L := L) hh).ok, rfl, e, dl, k2, rfl⟩ (fun pl σ' H' hpl z => ?_) (fun σ' H' z => ?_)
      · obtain ⟨fd, v6, v7, v10, v11, v12, ok, hrun, e, dl, k2, rfl⟩ := z
        have zfd := ok.len
        walk_at "go"
        refine r_lenL (l_of k2) ?_
        rw [List.length_map, nI_len, List.length_map]
        walk_at "go"
        refine if_2 (fun h0 => ?_) fun h0 => ?_
        · have lp : pl < fd.length := by omega
          have hg := List.getElem?_eq_getElem lp
          obtain ⟨r, x, hfx⟩ : ∃ r x, fd[pl] = (r, x) := ⟨_, _, rfl⟩
          rw [hfx] at hg
          have hr : r < n := ok.lt r (List.mem_map.mpr ⟨_, List.mem_of_getElem? hg, rfl⟩)
          have hgk : (fd.map (·.1))[pl]? = some r := by rw [List.getElem?_map, hg]; rfl
          obtain ⟨xs, t, kt, a1, a3, a4, a5, _⟩ := dl.at' hr
          walk_at "go"
          refine r_ixL (l_of k2) (at_int (by omega) (x := (r : Int)) (by rw [show ((0 : Int) + (pl : Int)).toNat = pl by omega]; exact nI_at hgk)) ?_
          walk_at "go"
          refine r_ixL (l_of a1) (atI_at (by omega) (by rw [Int.toNat_natCast]; exact a3)) ?_
          walk_at "go"
          refine ⟨L, rfl, l4, fun c H3 hc e3 k3 => ?_⟩
          have a4' := e3 _ _ a4
          walk_at "go"
          refine r_itL (l_of k3) (r_cmIF (ns := Od.steps L) (l_of k3) (fun s => (d r s).isSome) (fun s => .int (((d r s).getD 0 : Nat) : Int)) (by rw [Od.steps_len]; omega) (fun _ => rfl) (fun s hs H4 R e4 k => ?_) (fun s hs hf H4 R e4 k => ?_) fun gl H4 hgl e4 k4 => ?_)
          · walk_at "go"
            refine r_dinI (.inl (e4 _ _ a4')) a5 ?_
            rw [vN_some]
            walk_at "go"
            exact k H4 (Ex.refl H4)
          · walk_at "go"
            refine r_dgetI (.inl (e4 _ _ a4')) a5 (v := .int (((d r s).getD 0 : Nat) : Int)) (by cases z : d r s with
              | none => rw [z] at hf; cases hf
              | some g => rfl) ?_
            exact k H4 (Ex.refl H4)
          have k4 : H4 gl = some (.lst ((nI ((Od.steps L).filterMap (d r))).map V.int)) := by
            rw [k4, ← fm_eq]
            unfold nI
            rw [List.map_map, List.map_map]
            rfl
          have hlook := look_keys d r (Od.steps L) fd
          have okn := Wb.look_ok (r := r) G (Od.steps L) ok
          have zn := okn.len
          obtain ⟨gs, hgs⟩ : ∃ gs, (Od.steps L).filterMap (d r) = gs := ⟨_, rfl⟩
          have zgs : gs.length ≤ 8 := by
            rw [← hgs]
            exact Nat.le_trans (List.length_filterMap_le _ _) (by rw [Od.steps_len]; omega)
          rw [hgs] at k4 hlook
          have e34 := e3.trans e4
          have nglb : gl ≠ b := fun z => by rw [z, e3 _ _ k2] at hgl; cases hgl
          walk_at "go"
          refine r_itL (l_of k4) (r_forL (xs := (nI gs).map V.int) (fun i σ' H' => ∃ (v12 : Option V), ExD H0 H H' ∧ (DL H0 H' a n fun x s => vN (d x s)) ∧ H' b = some (.lst ((nI ((gs.take i).foldl addN (fd.map (·.1)))).map V.int)) ∧ H' gl = some (.lst ((nI gs).map V.int)) ∧ ((gs.take i).foldl addN (fd.map (·.1))).length ≤ fd.length + i ∧
            σ' = [some (.int (L : Int)), some (.ref a), some (.int (home : Int)), v3, v4, v5, some (.ref t), v7, v8, some (.ref b), some (.int (0 + (pl : Int))), some (.ref gl), v12, none]) ⟨v12, e.trans (ExD.of e34), dl.mono e34, e34 _ _ k2, k4, by rw [List.take_zero]; simp, rfl⟩ (fun i σ' H' _ z => ?_) (fun i y σ' H' hy z => ?_) fun σ' H' z => ?_)
          · obtain ⟨_, _, _, _, k4, _⟩ := z
            exact l_of k4
          · obtain ⟨v12, e, dl, k2, k4, zl, rfl⟩ := z
            unfold nI at hy
            rw [List.getElem?_map, List.getElem?_map] at hy
            cases hgi : gs[i]? with
            | none => rw [hgi] at hy; cases hy
            | some g =>
              rw [hgi] at hy
              cases hy
              have hi := (List.getElem?_eq_some_iff.mp hgi).1
              rw [L2.take_snoc hgi, List.foldl_append]
              generalize (gs.take i).foldl addN (fd.map (·.1)) = ks at k2 zl
              walk_at "go"
              refine r_ninL (l_of k2) ?_
              walk_at "go"
              by_cases hm : g ∈ ks
              · rw [decide_eq_true (nI_mem.mpr hm)]
                walk_at "go"
                have ea : [g].foldl addN ks = ks := if_pos hm
                rw [ea]
                exact ⟨_, e, dl, k2, k4, by omega, rfl⟩
              · rw [decide_eq_false fun z => hm (nI_mem.mp z)]
                walk_at "go"
                refine r_app (l_of k2) ?_
                walk_at "go"
                refine r_appd k2 (by rw [List.length_map, nI_len]; omega) fun H6 e6 k6 => ?_
                walk_at "go"
                have ea : [g].foldl addN ks = ks ++ [g] := if_neg hm
                rw [ea]
                refine ⟨_, e.mut e6 eb0 hbx, dl_l dl e6 k2 nbl, ?_, e6 _ _ k4 nglb, by rw [List.length_append]; simp; omega, rfl⟩
                rw [k6]
                unfold nI
                rw [List.map_append, List.map_append]
                rfl
          · obtain ⟨v12, e, dl, k2, k4, zl, rfl⟩ := z
            rw [List.length_map, nI_len, List.take_length, ← hlook] at k2
            walk_at "go"
            refine ⟨_, _, _, _, _, _, okn, ?_, e, dl, k2, rfl⟩
            rw [← hrun, show n + 1 - pl = (n + 1 - (pl + 1)) + 1 by omega, Wb.run_on hg]
        · have lp : fd.length ≤ pl := by omega
          walk_at "go"
          refine ⟨fd, _, _, _, _, _, ok, ?_, e, dl, k2, rfl⟩
          rw [← hrun, Wb.run_end (by omega), Wb.run_end lp]
      · obtain ⟨fd, v6, v7, v10, v11, v12, ok, hrun, e, dl, k2, rfl⟩ := z
        have e2 : Wb.bfs L n d home = fd := by rw [← hrun]; exact Wb.run_end ok.len
        rw [e2] at W hd'
        obtain ⟨ord, ho⟩ : ∃ ord, fd.map (·.1) = ord := ⟨_, rfl⟩
        have zo : ord.length = fd.length := by rw [← ho, List.length_map]
        have olt : ∀ g ∈ ord, g < n := fun g hg => ok.lt g (ho ▸ hg)
        have zon := ok.len
        rw [ho] at k2 hd'
        have hcl : ∀ r s g, r ∈ ord → d r s = some g → g ∈ ord := fun r s g hr hd => by
          rw [← ho, ← e2] at hr ⊢
          exact Wb.bfs_closed G hh hr hd
        rw [← zo] at W hd' zon
        clear ho hrun e2 zo ok
        walk_at "go"
        refine r_newL (by simp) fun rw H3 hrw e3 k3 => ?_
        have nrb : rw ≠ b := fun z => by rw [z, k2] at hrw; cases hrw
        have dl := dl.mono e3
        have nrl : rw ≠ a := dl_il dl (ns := []) k3 (by omega)
        have er0 := e
        have e := e.trans (ExD.of e3)
        have k2 := e3 _ _ k2
        walk_at "go"
        refine r_itL (l_of k2) (r_forL (xs := (nI ord).map V.int) (fun i σ' H' => ∃ (v5 v6 v10 : Option V) (xs : List V), ExD H0 H H' ∧ (DL H0 H' a n fun x s => vN (d x s)) ∧ H' b = some (.lst ((nI ord).map V.int)) ∧ H' rw = some (.lst xs) ∧ WkA K H' xs ((Wb.rows L ord.length d').take i) ∧
          σ' = [some (.int (L : Int)), some (.ref a), some (.int (home : Int)), v3, v4, v5, v6, v7, v8, some (.ref b), v10, v11, v12, some (.ref rw)]) ⟨_, _, _, [], e, dl, k2, k3, WkA.nil, rfl⟩ (fun i σ' H' _ z => ?_) (fun i y σ' H' hy z => ?_) fun σ' H' z => ?_)
        · obtain ⟨_, _, _, _, _, _, k2, _⟩ := z
          exact l_of k2
        · obtain ⟨v5, v6, v10, xs, e, dl, k2, k3, wa, rfl⟩ := z
          unfold nI at hy
          rw [List.getElem?_map, List.getElem?_map] at hy
          cases ho : ord[i]? with
          | none => rw [ho] at hy; cases hy
          | some r =>
            rw [ho] at hy
            cases hy
            have hi := (List.getElem?_eq_some_iff.mp ho).1
            have hrin := List.mem_of_getElem? ho
            have hr := olt r hrin
            obtain ⟨xs1, t, kt, a1, a3, a4, a5, _⟩ := dl.at' hr
            walk_at "go"
            refine r_ixL (l_of a1) (atI_at (by omega) (by rw [Int.toNat_natCast]; exact a3)) ?_
            walk_at "go"
            refine r_app (l_of k3) ?_
            walk_at "go"
            refine r_rng2 ⟨by omega, by omega, by omega, by omega⟩ ?_
            rw [show ((L : Int) + 1 - 1).toNat = L by omega]
            refine r_cmR (ys := (Wb.row L d' i).map V.int) (by rw [List.length_map, Wb.row_len]) (by rw [List.length_map, Wb.row_len]; omega) (fun _ => rfl) (fun l y H4 hl hy e4 Q' kk => ?_) fun gs H4 hgs e4 k4 => ?_
            · rw [List.getElem?_map, Wb.row_at hl] at hy
              cases hy
              have hdd := hd' i hi ((l : Int) + 1)
              rw [show ord.getD i 0 = r by rw [List.getD_eq_getElem?_getD, ho]; rfl] at hdd
              walk_at "go"
              refine r_dinI (.inl (e4 _ _ a4)) a5 ?_
              rw [show (1 : Int) + (l : Int) = (l : Int) + 1 by omega]
              cases hd : d r ((l : Int) + 1) with
              | none =>
                rw [hd] at hdd
                rw [hdd] at kk
                rw [show (vN none).isSome = false from rfl]
                walk_at "go"
                exact kk H4 (Ex.refl H4)
              | some g =>
                rw [hd] at hdd
                rw [hdd] at kk
                rw [show (vN (some g)).isSome = true from rfl]
                walk_at "go"
                refine ⟨.inl ⟨rfl, _, l_of (e4 _ _ k2)⟩, ?_⟩
                walk_at "go"
                refine r_dgetI (x := (l : Int) + 1) (.inl (e4 _ _ a4)) a5 (v := .int (g : Int)) (by rw [hd]; rfl) ?_
                walk_at "go"
                refine r_index (l_of (e4 _ _ k2)) (nI_mem.mpr (hcl _ _ _ hrin hd)) ?_
                rw [nI_idx]
                exact kk H4 (Ex.refl H4)
            walk_at "go"
            refine r_tupL (l_of k4) fun tp H6 htp e6 k6 => ?_
            walk_at "go"
            have e46 := e4.trans e6
            have k3' := e46 _ _ k3
            refine r_appd k3' (by rw [wa.len, List.length_take, Wb.rows_len]; omega) fun H7 e7 k7 => ?_
            walk_at "go"
            have tx7 : TX H6 H7 := TX.w2 k3' e7
            refine ⟨_, _, _, _, (e.trans (ExD.of e46)).mut e7 er0 hrw, dl_l (dl.mono e46) e7 k3' nrl, e7 _ _ (e46 _ _ k2) nrb.symm, k7, ?_, rfl⟩
            rw [L2.take_snoc (Wb.rows_at (L := L) (d := d') hi)]
            exact ((wa.ex e46).tx tx7).snoc ⟨tp, rfl, tx_t tx7 k6⟩
        · obtain ⟨v5, v6, v10, xs, e, dl, k2, k3, wa, rfl⟩ := z
          rw [List.length_map, nI_len, List.take_of_length_le (by rw [Wb.rows_len]; exact Nat.le_refl _)] at wa
          walk_at "go"
          refine r_tupL (l_of k3) fun tp H6 htp e6 k6 => ?_
          walk_at "go"
          refine r_newT (by simp) fun tw H7 htw e7 k7 => ?_
          exact q tw ord.length d' H7 (e.trans (ExD.of (e6.trans e7))) zon ⟨tp, xs, t_of k7, ex_t e7 k6, (wa.ex e6).ex e7⟩ W
end
end Lw
namespace Lw
open PySem PySem.Spec PyProof.Rows L2 Evl

local macro_rules | `(tactic| walk_at "go") => `(tactic| repeat (first
  | with_reducible refine st_seq ?_ | with_reducible refine st_set ?_ | with_reducible refine st_asg ?_ | with_reducible refine st_ret ?_ | with_reducible refine st_drop ?_ | with_reducible refine st_if ?_
  | with_reducible refine st_c ?_ | ((with_reducible refine' st_v ?h ?_); (case h => exact rfl)) | with_reducible refine st_n ?_ | with_reducible refine st_cons ?_ | with_reducible refine st_op ?_ | with_reducible refine st_un ?_
  | with_reducible refine st_cb ?_ | with_reducible refine st_test ?_ | with_reducible refine st_call ?_ | with_reducible refine st_callK ?_ | with_reducible refine st_sl ?_ | with_reducible refine st_par ?_ | with_reducible refine st_par3 ?_ | with_reducible refine st_tru ?_
  | with_reducible refine st_and ?_ | with_reducible refine st_or ?_ | with_reducible refine st_not ?_ | with_reducible refine st_B ?_ | with_reducible refine st_andV ?_ | with_reducible refine st_orV ?_ | with_reducible refine st_notV ?_ | with_reducible refine st_ifE ?_
  | with_reducible refine st_part ?_ | with_reducible refine st_nop ?_ | with_reducible refine st_sub ?_ | with_reducible refine st_chain ?_ | with_reducible refine st_bl ?_ | with_reducible refine st_in ?_ | with_reducible refine r_truB ?_
  | with_reducible refine st_nameG ?_ | with_reducible refine if_T ?_ | with_reducible refine if_F ?_ | with_reducible refine if_nT ?_ | with_reducible refine if_nF ?_
  | with_reducible refine r_add ?_ | with_reducible refine r_0 ?_ | with_reducible refine r_neg ?_ | with_reducible refine r_intI ?_ | with_reducible refine r_intB ?_ | with_reducible refine r_abs ?_ | with_reducible refine r_max2 ?_ | with_reducible refine r_min2 ?_ | with_reducible refine r_eqI ?_ | with_reducible refine r_neI ?_
  | with_reducible refine st_nxt ?_ | with_reducible refine st_cnt ?_ | with_reducible refine st_brk ?_ | with_reducible refine st_retn ?_
  | with_reducible refine st_lstN ?_ | with_reducible refine st_tupN ?_
  | with_reducible refine st_for ?_ | with_reducible refine st_lc ?_ | with_reducible refine st_lc2 ?_ | with_reducible refine st_rng1 ?_ | with_reducible refine st_rng2 ?_ | with_reducible refine st_rng3 ?_ | with_reducible refine st_itL ?_ | with_reducible refine st_itT ?_ | with_reducible refine st_rev ?_ | with_reducible refine st_enumE ?_ | with_reducible refine st_zip3 ?_ | with_reducible refine st_lvals ?_ | with_reducible refine st_fld ?_ | with_reducible refine st_sfld ?_ | with_reducible refine st_meth ?_ | with_reducible refine st_make ?_ | with_reducible refine st_rg1 ?_ | with_reducible refine st_enumS ?_ | with_reducible refine st_dg1 ?_ | with_reducible refine st_dg2 ?_ | with_reducible refine st_dpop ?_ | with_reducible refine st_dset ?_ | with_reducible refine st_dc ?_ | with_reducible refine st_keys ?_ | with_reducible refine st_dget ?_ | with_reducible refine st_din ?_ | with_reducible refine st_dnin ?_ | with_reducible refine st_dput ?_ | with_reducible refine st_dnew ?_ | with_reducible refine st_lstRg ?_ | with_reducible refine st_rg2 ?_ | with_reducible refine r_twoI ?_ | with_reducible refine st_bm ?_ | with_reducible refine st_bm0 ?_
  | ((with_reducible refine' st_aug ?h ?_); (case h => exact rfl)) | with_reducible refine r_augI ?_ | with_reducible refine r_eqB ?_
  | dsimp only))
section
variable {P : Program} {w : World} {K : PySem.W.Frag} {mg : Str → Option Value} {base : Heap} {A : Ad}

structure TJ (L m i j : Nat) (d : Wb.Gm) (left : List Nat) : Prop where
  gr : Wb.Gr L m d
  low : ∀ r s g, d r s = some g → -((i : Int) + 1) ≤ s ∧ s ≤ (i : Int) + 1
  no1 : ∀ r, j ≤ r → d r ((i : Int) + 1) = none
  no2 : ∀ g ∈ left, d g (-((i : Int) + 1)) = none
  nd : left.Nodup
  lt : ∀ g ∈ left, g < m
  len : left.length + j = m
theorem erase_map {α β : Type} (f : α → β) (l : List α) (k : Nat) : (l.map f).eraseIdx k = (l.eraseIdx k).map f := by
  rw [List.eraseIdx_eq_take_drop_succ, List.eraseIdx_eq_take_drop_succ, List.map_append, List.map_take, List.map_drop]
theorem erase_off {left : List Nat} {k g : Nat} (hn : left.Nodup) (hk : left[k]? = some g) : (left.eraseIdx k).Nodup ∧ g ∉ left.eraseIdx k ∧ (∀ x ∈ left.eraseIdx k, x ∈ left) ∧ (left.eraseIdx k).length + 1 = left.length := by
  have hl := (List.getElem?_eq_some_iff.mp hk).1
  have e : left = left.take k ++ g :: left.drop (k + 1) := by
    have h2 := (List.getElem?_eq_some_iff.mp hk).2
    rw [← h2, ← List.drop_eq_getElem_cons hl, List.take_append_drop]
  have p : left.Perm (g :: left.eraseIdx k) := by
    rw [List.eraseIdx_eq_take_drop_succ]
    conv => lhs; rw [e]
    exact List.perm_middle
  have q := List.nodup_cons.mp (p.nodup_iff.mp hn)
  exact ⟨q.2, q.1, fun x hx => p.mem_iff.mpr (List.mem_cons_of_mem _ hx), by rw [p.length_eq]; rfl⟩
theorem tj_drop {L m i j k g : Nat} {d : Wb.Gm} {left : List Nat} (T : TJ L m i j d left) (hk : left[k]? = some g) (hj : j < m) : TJ L m i (j + 1) d (left.eraseIdx k) := by
  obtain ⟨e1, e2, e3, e4⟩ := erase_off T.nd hk
  exact ⟨T.gr, T.low, fun r h => T.no1 r (by omega), fun x hx => T.no2 x (e3 x hx), e1, fun x hx => T.lt x (e3 x hx), by have := T.len; omega⟩
theorem tj_put {L m i j k g : Nat} {d : Wb.Gm} {left : List Nat} (T : TJ L m i j d left) (hk : left[k]? = some g) (hj : j < m) (hi : i < L) : TJ L m i (j + 1) (Wb.set1 (Wb.set1 d j ((i : Int) + 1) g) g (-((i : Int) + 1)) j) (left.eraseIdx k) := by
  obtain ⟨e1, e2, e3, e4⟩ := erase_off T.nd hk
  have hg := List.mem_of_getElem? hk
  have gm := T.lt g hg
  have n1 := T.no1 j (Nat.le_refl _)
  have n2 := T.no2 g hg
  have cs : ∀ x s v, Wb.set1 (Wb.set1 d j ((i : Int) + 1) g) g (-((i : Int) + 1)) j x s = some v → (x = g ∧ s = -((i : Int) + 1) ∧ v = j) ∨ (x = j ∧ s = (i : Int) + 1 ∧ v = g) ∨ d x s = some v := fun x s v h => by
    unfold Wb.set1 at h
    by_cases c1 : x = g ∧ s = -((i : Int) + 1)
    · rw [if_pos c1] at h
      cases h
      exact .inl ⟨c1.1, c1.2, rfl⟩
    · rw [if_neg c1] at h
      by_cases c2 : x = j ∧ s = (i : Int) + 1
      · rw [if_pos c2] at h
        cases h
        exact .inr (.inl ⟨c2.1, c2.2, rfl⟩)
      · rw [if_neg c2] at h
        exact .inr (.inr h)
  have s1 : ∀ x s, x = g → s = -((i : Int) + 1) → Wb.set1 (Wb.set1 d j ((i : Int) + 1) g) g (-((i : Int) + 1)) j x s = some j := fun x s a b => if_pos ⟨a, b⟩
  have s2 : ∀ x s, x = j → s = (i : Int) + 1 → Wb.set1 (Wb.set1 d j ((i : Int) + 1) g) g (-((i : Int) + 1)) j x s = some g := fun x s a b => (if_neg (by omega)).trans (if_pos ⟨a, b⟩)
  have s3 : ∀ x s, ¬ (x = g ∧ s = -((i : Int) + 1)) → ¬ (x = j ∧ s = (i : Int) + 1) → Wb.set1 (Wb.set1 d j ((i : Int) + 1) g) g (-((i : Int) + 1)) j x s = d x s := fun x s a b => (if_neg a).trans (if_neg b)
  refine ⟨⟨fun x s v h => ?_, fun x s v h => ?_⟩, fun x s v h => ?_, fun r h => ?_, fun x hx => ?_, e1, fun x hx => T.lt x (e3 x hx), by have := T.len; omega⟩
  · rcases cs x s v h with ⟨rfl, rfl, rfl⟩ | ⟨rfl, rfl, rfl⟩ | h
    · exact ⟨gm, hj, Od.mem_steps.mpr (by omega)⟩
    · exact ⟨hj, gm, Od.mem_steps.mpr (by omega)⟩
    · exact T.gr.dom _ _ _ h
  · rcases cs x s v h with ⟨rfl, rfl, rfl⟩ | ⟨rfl, rfl, rfl⟩ | h
    · exact s2 _ _ rfl (by omega)
    · exact s1 _ _ rfl rfl
    · have h2 := T.gr.sym _ _ _ h
      rw [s3 v (-s) (fun z => ?_) fun z => ?_]
      · exact h2
      · rw [z.1, z.2, n2] at h2
        cases h2
      · rw [z.1, z.2, n1] at h2
        cases h2
  · rcases cs x s v h with ⟨rfl, rfl, rfl⟩ | ⟨rfl, rfl, rfl⟩ | h
    · omega
    · omega
    · exact T.low _ _ _ h
  · rw [s3 _ _ (by omega) (by omega)]
    exact T.no1 r (by omega)
  · rw [s3 _ _ (fun z => e2 (z.1 ▸ hx)) (by omega)]
    exact T.no2 x (e3 x hx)
theorem tj_start {L m i : Nat} {d : Wb.Gm} (G : Wb.Gr L m d) (low : ∀ r s g, d r s = some g → -(i : Int) ≤ s ∧ s ≤ (i : Int)) : TJ L m i 0 d (List.range m) := by
  refine ⟨G, fun r s g h => ?_, fun r _ => ?_, fun g _ => ?_, List.nodup_range, fun g hg => List.mem_range.mp hg, by rw [List.length_range]; rfl⟩
  · have := low _ _ _ h
    omega
  · cases e : d r ((i : Int) + 1) with
    | none => rfl
    | some v => have := low _ _ _ e; omega
  · cases e : d g (-((i : Int) + 1)) with
    | none => rfl
    | some v => have := low _ _ _ e; omega
theorem st4 {L m : Nat} {d : Wb.Gm} (G : Wb.Gr L m d) (l4 : L ≤ 4) : ∀ x t y, d x t = some y → t ∈ Od.steps 4 := fun x t y e => by
  have := Od.mem_steps.mp (G.dom _ _ _ e).2.2
  exact Od.mem_steps.mpr (by omega)
theorem gr_ext {L m h : Nat} {d : Wb.Gm} {s : Int} (G : Wb.Gr L m d) (hs : s ∈ Od.steps L) (hh : h < m) (hd : d h s = none) : Wb.Gr L (m + 1) (Wb.set1 (Wb.set1 d h s m) m (-s) h) := by
  have s0 := (Od.mem_steps.mp hs).1
  have sb := Od.mem_steps.mp hs
  have cs : ∀ x t v, Wb.set1 (Wb.set1 d h s m) m (-s) h x t = some v → (x = m ∧ t = -s ∧ v = h) ∨ (x = h ∧ t = s ∧ v = m) ∨ d x t = some v := fun x t v e => by
    unfold Wb.set1 at e
    by_cases c1 : x = m ∧ t = -s
    · rw [if_pos c1] at e
      cases e
      exact .inl ⟨c1.1, c1.2, rfl⟩
    · rw [if_neg c1] at e
      by_cases c2 : x = h ∧ t = s
      · rw [if_pos c2] at e
        cases e
        exact .inr (.inl ⟨c2.1, c2.2, rfl⟩)
      · rw [if_neg c2] at e
        exact .inr (.inr e)
  refine ⟨fun x t v e => ?_, fun x t v e => ?_⟩
  · rcases cs x t v e with ⟨rfl, rfl, rfl⟩ | ⟨rfl, rfl, rfl⟩ | e
    · exact ⟨Nat.lt_succ_self _, by omega, Od.mem_steps.mpr (by omega)⟩
    · exact ⟨by omega, Nat.lt_succ_self _, hs⟩
    · obtain ⟨a, b, c⟩ := G.dom _ _ _ e
      exact ⟨by omega, by omega, c⟩
  · rcases cs x t v e with ⟨rfl, rfl, rfl⟩ | ⟨rfl, rfl, rfl⟩ | e
    · unfold Wb.set1
      rw [if_neg (by omega), if_pos ⟨rfl, by omega⟩]
    · unfold Wb.set1
      rw [if_pos ⟨rfl, rfl⟩]
    · have e2 := G.sym _ _ _ e
      obtain ⟨a, b, c⟩ := G.dom _ _ _ e
      unfold Wb.set1
      rw [if_neg (by omega), if_neg, e2]
      rintro ⟨z1, z2⟩
      rw [z1, z2, hd] at e2
      cases e2
def sp__law_web (K : PySem.W.Frag) : Sp := fun vs H Q _ => ∃ (w : Addr) (n L most : Nat), vs = [.ref w, .int (L : Int), .int (most : Int)] ∧ Well H w n ∧ n < 2 ^ 20 ∧ 1 ≤ L ∧ L ≤ 4 ∧ 1 ≤ most ∧ most ≤ 12 ∧ ∀ p m d H1, DrS w H (n + 110) H1 → m ≤ most + 2 → WebH K H1 p L m d → Wb.Web L m d → Q (.ref p) H1
theorem ok__law_web (T : Tx K mg A) : FnOk P w K mg base CX0 3 A.a__law_web A.f__law_web P__law_web (sp__law_web K) := by
  refine T.F__law_web.ok sc__law_web (fun vs H Q E h => ?_) (fun cdv A' outer s H vs Q E hr h => ?_)
  · obtain ⟨w, n, L, most, rfl, _⟩ := h
    rfl
  · obtain ⟨w, n, L, most, rfl, hw, hn, l1, l4, m1, m12, q⟩ := h
    refine ⟨_, (pss_cons (ps_asg (pe_tup (pa_cons (pe_op (op_addK K) pe_int (pe_call (ok__law_take T) (hr.mono (by decide)) (by rfl) T.g__law_take T.F__law_take.kp T.b__law_take .nil pass0 (pa_cons (pv 0) (pa_cons (pv 2) pa_nil)))) (pa_cons (pe_lst pa_nil) (pa_cons pe_int pa_nil)))) (pg_tupK K (by rfl) (pgs_cons (pg_name (i := 3) sc__law_web.nd rfl (Or.inl rfl)) (pgs_cons (pg_name (i := 4) sc__law_web.nd rfl (Or.inr rfl)) (pgs_cons (pg_name (i := 5) sc__law_web.nd rfl (Or.inr rfl)) pgs_nil)))))
      (pss_cons (ps_for PassesOwn.never rfl (pi_range1 (by rfl) T.n_range (pa_cons (pv 3) pa_nil)) (pg_name (i := 6) sc__law_web.nd rfl (Or.inl rfl)) (pss_one (ps_expr (pe_bmU K PySem.F.plainAttrs_list PySem.F.slot_list_append PySem.F.type_list_append mt_append (pv 4) (pa_cons pe_dnewK pa_nil)))))
      (pss_cons (ps_for PassesOwn.never rfl (pi_range2 (by rfl) T.n_range (pa_cons pe_int (pa_cons (pe_op (op_addK K) (pv 1) pe_int) pa_nil))) (pg_name (i := 7) sc__law_web.nd rfl (Or.inl rfl)) (pss_cons (ps_par (i := 8) (j := 9) (by rfl) sc__law_web.nd rfl rfl (by decide) rfl rfl (pa_cons (pe_listRg rfl (by rfl) T.n_list (prg_1 (by rfl) T.n_range (pv 3))) (pa_cons (pe_call (ok__law_take T) (hr.mono (by decide)) (by rfl) T.g__law_take T.F__law_take.kp T.b__law_take .nil pass0 (pa_cons (pv 0) (pa_cons pe_int pa_nil))) pa_nil)) (by rfl))
      (pss_one (ps_for PassesOwn.never rfl (pi_range1 (by rfl) T.n_range (pa_cons (pv 3) pa_nil)) (pg_name (i := 6) sc__law_web.nd rfl (Or.inl rfl)) (pss_cons (ps_set (i := 10) sc__law_web.nd rfl (Or.inl rfl) (pe_bmU K PySem.F.plainAttrs_list PySem.F.slot_list_pop PySem.F.type_list_pop mt_popAt (pv 8) (pa_cons (pe_call (ok__law_take T) (hr.mono (by decide)) (by rfl) T.g__law_take T.F__law_take.kp T.b__law_take .nil pass0 (pa_cons (pv 0) (pa_cons (pe_callB (len_K K) (by rfl) T.n_len (by decide +kernel) (pa_cons (pv 8) pa_nil)) pa_nil))) pa_nil)))
      (pss_one (ps_if (pt_cmpR op_ge (pe_call (ok__law_take T) (hr.mono (by decide)) (by rfl) T.g__law_take T.F__law_take.kp T.b__law_take .nil pass0 (pa_cons (pv 0) (pa_cons pe_int pa_nil))) (pv 9) (nomark _)) (pss_one (ps_expr (pe_call (ok__law_laid T) (hr.mono (by decide)) (by rfl) T.g__law_laid T.F__law_laid.kp T.b__law_laid .nil pass0 (pa_cons (pv 4) (pa_cons (pv 6) (pa_cons (pv 7) (pa_cons (pv 10) pa_nil))))))) pss_nil)))))))
      (pss_cons (ps_for PassesOwn.never rfl (pi_range1 (by rfl) T.n_range (pa_cons (pe_ix (ix_K K) (pe_lst (pa_cons pe_int (pa_cons pe_int (pa_cons pe_int (pa_cons pe_int pa_nil))))) (pe_call (ok__law_take T) (hr.mono (by decide)) (by rfl) T.g__law_take T.F__law_take.kp T.b__law_take .nil pass0 (pa_cons (pv 0) (pa_cons pe_int pa_nil))) (fun _ _ => rfl)) pa_nil)) (pg_name (i := 11) sc__law_web.nd rfl (Or.inl rfl)) (pss_cons (ps_setLc (i := 12) (own := [("_law_step", 13)]) rfl sc__law_web.nd rfl rfl (sw_true rfl rfl rfl (by decide +kernel)) (pi_listK K (pe_call (ok__law_steps T) (hr.mono (by decide)) (by rfl) T.g__law_steps T.F__law_steps.kp T.b__law_steps .nil pass0 (pa_cons (pv 1) pa_nil))) (blkOk_by (own := [("_law_step", 13)]) (N := N__law_web) (sc := defScope s__law_web) (by decide +kernel)) (fun _ _ _ _ _ => (pg_name (i := 13) sc__law_web.nd rfl (Or.inl rfl))) (fun _ _ _ _ _ => (pts_one (pt_cmp (pc_dnotin (hu_of hr) (pv 13) (pe_ix (ix_K K) (pv 4) (pv 5) (fun _ _ => rfl))) (by rfl)))) (fun _ _ _ _ _ => (pv 13)))
      (pss_one (ps_if (pt_cmpR (op_neK K hr.units) (pv 12) (pe_lst pa_nil) (nomark _)) (pss_cons (ps_expr (pe_bmU K PySem.F.plainAttrs_list PySem.F.slot_list_append PySem.F.type_list_append mt_append (pv 4) (pa_cons pe_dnewK pa_nil)))
      (pss_cons (ps_expr (pe_call (ok__law_laid T) (hr.mono (by decide)) (by rfl) T.g__law_laid T.F__law_laid.kp T.b__law_laid .nil pass0 (pa_cons (pv 4) (pa_cons (pv 5) (pa_cons (pe_ix (ix_K K) (pv 12) (pe_call (ok__law_take T) (hr.mono (by decide)) (by rfl) T.g__law_take T.F__law_take.kp T.b__law_take .nil pass0 (pa_cons (pv 0) (pa_cons (pe_callB (len_K K) (by rfl) T.n_len (by decide +kernel) (pa_cons (pv 12) pa_nil)) pa_nil))) (fun _ _ => rfl)) (pa_cons (pe_op op_sub (pe_callB (len_K K) (by rfl) T.n_len (by decide +kernel) (pa_cons (pv 4) pa_nil)) pe_int) pa_nil))))))
      (pss_one (ps_set (i := 5) sc__law_web.nd rfl (Or.inr rfl) (pe_op op_sub (pe_callB (len_K K) (by rfl) T.n_len (by decide +kernel) (pa_cons (pv 4) pa_nil)) pe_int))))) pss_nil))))
      (pss_one (ps_ret (pe_call (ok__law_named T) (hr.mono (by decide)) (by rfl) T.g__law_named T.F__law_named.kp T.b__law_named .nil pass0 (pa_cons (pv 1) (pa_cons (pv 4) (pa_cons (pv 5) pa_nil)))))))))), ?_⟩
    have hw0 : H w ≠ none := fun z => by
      obtain ⟨_, _, _, h1, _⟩ := hw.ex
      rw [z] at h1
      cases h1
    walk_at "go"
    refine ⟨w, n, (most : Int), rfl, by omega, by omega, hw, by omega, fun r0 H1 r00 r01 e1 w1 => ?_⟩
    have s1 : DrS w H (n + 1) H1 := ⟨e1, w1⟩
    obtain ⟨m, hm⟩ : ∃ m : Nat, 1 + r0 = (m : Int) := ⟨(1 + r0).toNat, by omega⟩
    walk_at "go"
    rw [hm]
    refine r_newL (by simp) fun a H2 ha e2 k2 => ?_
    have naw : a ≠ w := s1.well.ne ha
    have ha0 : H a = none := s1.fresh ha
    have s2 := s1.ext e2
    walk_at "go"
    refine r_newT (by simp) fun t H3 ht e3 k3 => ?_
    walk_at "go"
    refine r_tup3 (t_of k3) ?_
    have s3 := s2.ext e3
    have k2 := e3 _ _ k2
    clear k3 ht e3 e2 s2 s1 e1 w1
    walk_at "go"
    refine r_rng1 (by omega) (by omega) ?_
    rw [show ((m : Nat) : Int).toNat = m from rfl]
    refine r_forR (lo := 0) (m := m) (fun i σ' H' => ∃ v6, DrS w H (n + 1) H' ∧ (DL H H' a i fun _ _ => none) ∧ σ' = [some (.ref w), some (.int (L : Int)), some (.int (most : Int)), some (.int (m : Int)), some (.ref a), some (.int 0), v6, none, none, none, none, none, none, none]) ⟨none, s3, dl_zero ha0 k2, rfl⟩ (fun i σ' H' hi z => ?_) (fun σ' H' z => ?_)
    · obtain ⟨v6, s1, dl, rfl⟩ := z
      obtain ⟨ds, zd, hp⟩ : ∃ ds : List Addr, ds.length = i ∧ H' a = some (.lst (ds.map V.ref)) := by
        obtain ⟨ds, h1, _, _, _, _, h6, _⟩ := dl.ex
        exact ⟨ds, h1, h6⟩
      walk_at "go"
      refine r_app (l_of hp) ?_
      walk_at "go"
      refine r_dnew fun p H4 hp4 e4 k4 => ?_
      walk_at "go"
      refine r_appd (e4 _ _ hp) (by rw [List.length_map]; omega) fun H5 e5 k5 => ?_
      walk_at "go"
      exact ⟨_, (s1.ext e4).mut e5 ha0 naw, dl_push dl (s1.fresh hp4) hp4 e4 k4 hp e5 k5 fun _ => rfl, rfl⟩
    obtain ⟨v6, s1, dl, rfl⟩ := z
    have dl1 : DL H H' a m fun x s => vN ((fun _ _ => none : Wb.Gm) x s) := dl
    clear dl k2 s3
    walk_at "go"
    refine r_rng2 ⟨by omega, by omega, by omega, by omega⟩ ?_
    rw [show ((L : Int) + 1 - 1).toNat = L by omega]
    refine r_forR (lo := 1) (m := L) (fun i σ' H' => ∃ (d : Wb.Gm) (v6 v7 v8 v9 v10 : Option V), DrS w H (n + 1 + 25 * i) H' ∧ (DL H H' a m fun x s => vN (d x s)) ∧ Wb.Gr L m d ∧ (∀ r s g, d r s = some g → -(i : Int) ≤ s ∧ s ≤ (i : Int)) ∧ σ' = [some (.ref w), some (.int (L : Int)), some (.int (most : Int)), some (.int (m : Int)), some (.ref a), some (.int 0), v6, v7, v8, v9, v10, none, none, none]) ⟨fun _ _ => none, _, none, none, none, none, s1, dl1, ⟨fun _ _ _ z => (by cases z), fun _ _ _ z => (by cases z)⟩, fun _ _ _ z => (by cases z), rfl⟩ (fun i σ' H' hi z => ?_) (fun σ' H' z => ?_)
    · obtain ⟨d, v6, v7, v8, v9, v10, s1, dl, G, low, rfl⟩ := z
      walk_at "go"
      refine r_lstRg (by decide) (by omega) (by decide) (by omega) fun lf H2 hlf e2 k2 => ?_
      have er : rgI 0 (m : Int) = nI (List.range m) := by
        unfold rgI nI
        rw [show ((m : Int) - 0).toNat = m by omega]
        exact List.map_congr_left fun g _ => by omega
      rw [er] at k2
      have nlw : lf ≠ w := s1.well.ne hlf
      have hlf0 : H lf = none := s1.fresh hlf
      have nlp : lf ≠ a := dl_il (dl.mono e2) k2 (by omega)
      have s2 := s1.ext e2
      walk_at "go"
      refine ⟨w, _, 4, rfl, by omega, by omega, s2.well, by omega, fun few H3 f0 f1 e3 w3 => ?_⟩
      have s3 := s2.on e3 w3
      have dl3 := dl_w (dl.mono e2) e3 hw0
      have k3 := e3 _ _ k2 nlw
      refine ⟨_, _, rfl, ?_⟩
      walk_at "go"
      refine r_rng1 (by omega) (by omega) ?_
      rw [show ((m : Nat) : Int).toNat = m from rfl]
      refine r_forR (lo := 0) (m := m) (fun j σ' H' => ∃ (d : Wb.Gm) (left : List Nat) (v6 v10 : Option V), DrS w H (n + 1 + 25 * i + 1 + 2 * j) H' ∧ (DL H H' a m fun x s => vN (d x s)) ∧ TJ L m i j d left ∧ H' lf = some (.lst ((nI left).map V.int)) ∧ σ' = [some (.ref w), some (.int (L : Int)), some (.int (most : Int)), some (.int (m : Int)), some (.ref a), some (.int 0), v6, some (.int (1 + (i : Int))), some (.ref lf), some (.int few), v10, none, none, none]) ⟨d, List.range m, _, v10, s3, dl3, tj_start G low, k3, rfl⟩ (fun j σ' H' hj z => ?_) (fun σ' H' z => ?_)
      · obtain ⟨d, left, v6, v10, s1, dl, T, kl, rfl⟩ := z
        have zl := T.len
        walk_at "go"
        refine r_pa (l_of kl) ?_
        walk_at "go"
        refine r_lenL (l_of kl) ?_
        rw [List.length_map, nI_len]
        walk_at "go"
        refine ⟨w, _, _, rfl, by omega, by omega, s1.well, by omega, fun r H3 r0 r1 e3 w3 => ?_⟩
        have s3 := s1.on e3 w3
        have dl3 := dl_w dl e3 hw0
        have kl3 := e3 _ _ kl nlw
        walk_at "go"
        have hk := List.getElem?_eq_getElem (show r.toNat < left.length by omega)
        generalize left[r.toNat] = g at hk
        have hgm := T.lt g (List.mem_of_getElem? hk)
        refine r_popA kl3 r0 (by rw [List.length_map, nI_len]; omega) (v := .int (g : Int)) (by rw [List.getElem?_map, nI_at hk]; rfl) fun H4 e4 k4 => ?_
        have s4 := s3.mut e4 hlf0 nlw
        have dl4 := dl_l dl3 e4 kl3 nlp
        have k4' : H4 lf = some (.lst ((nI (left.eraseIdx r.toNat)).map V.int)) := by
          rw [k4]
          unfold nI
          rw [erase_map, erase_map]
        clear k4 kl kl3 dl dl3 e3 e4 s1 s3 w3
        walk_at "go"
        refine ⟨w, _, 4, rfl, by omega, by omega, s4.well, by omega, fun r2 H5 r20 r21 e5 w5 => ?_⟩
        have s5 := s4.on e5 w5
        have dl5 := dl_w dl4 e5 hw0
        have k5 := e5 _ _ k4' nlw
        walk_at "go"
        refine if_2 (fun h1 => ?_) fun h1 => ?_
        · walk_at "go"
          refine ⟨H, a, m, j, g, 1 + (i : Int), d, by rw [show (0 : Int) + (j : Int) = (j : Int) by omega]; rfl, dl5, hj, hgm, Od.mem_steps.mpr (by omega), st4 T.gr l4, fun H6 e6 dl6 => ?_⟩
          have TT := tj_put T hk hj hi
          rw [show (i : Int) + 1 = 1 + (i : Int) by omega] at TT
          exact ⟨_, left.eraseIdx r.toNat, _, _, (e6.drs s5 hw0).more (by omega), dl6, TT, e6.lst k5, rfl⟩
        · walk_at "go"
          exact ⟨d, left.eraseIdx r.toNat, _, _, s5.more (by omega), dl5, tj_drop T hk hj, k5, rfl⟩
      · obtain ⟨d, left, v6, v10, s1, dl, T, kl, rfl⟩ := z
        walk_at "go"
        exact ⟨d, _, _, _, _, _, s1.more (by omega), dl, T.gr, fun r s g h => by have := T.low _ _ _ h; omega, rfl⟩
    obtain ⟨d, v6, v7, v8, v9, v10, s1, dl, G, low, rfl⟩ := z
    walk_at "go"
    refine r_newL (by simp) fun b H2 hb e2 k2 => ?_
    have s2 := s1.ext e2
    have nbw : b ≠ w := s1.well.ne hb
    walk_at "go"
    refine ⟨w, _, 4, rfl, by omega, by omega, s2.well, by omega, fun r H3 r0 r1 e3 w3 => ?_⟩
    have s3 := s2.on e3 w3
    have dl3 := dl_w (dl.mono e2) e3 hw0
    have k3 := e3 _ _ k2 nbw
    obtain ⟨tn, htn, ht2⟩ : ∃ tn : Nat, atI [V.int 0, .int 0, .int 1, .int 2] r = some (.int (tn : Int)) ∧ tn ≤ 2 := by
      rcases (by omega : r = 0 ∨ r = 1 ∨ r = 2 ∨ r = 3) with rfl | rfl | rfl | rfl
      · exact ⟨0, rfl, by omega⟩
      · exact ⟨0, rfl, by omega⟩
      · exact ⟨1, rfl, by omega⟩
      · exact ⟨2, rfl, by omega⟩
    walk_at "go"
    refine r_ixL (l_of k3) htn ?_
    walk_at "go"
    refine r_rng1 (by omega) (by omega) ?_
    rw [show ((tn : Nat) : Int).toNat = tn from rfl]
    clear k3 k2 e2 e3 w3 dl s1 s2 low
    refine r_forR (lo := 0) (m := tn) (fun i σ' H' => ∃ (m2 home : Nat) (d : Wb.Gm) (v11 v12 : Option V), DrS w H (n + 103 + i) H' ∧ m2 ≤ m + i ∧ home < m2 ∧ (DL H H' a m2 fun x s => vN (d x s)) ∧ Wb.Gr L m2 d ∧ σ' = [some (.ref w), some (.int (L : Int)), some (.int (most : Int)), some (.int (m : Int)), some (.ref a), some (.int (home : Int)), v6, v7, v8, v9, v10, v11, v12, none]) ⟨m, 0, d, none, none, s3.more (by omega), by omega, by omega, dl3, G, rfl⟩ (fun i σ' H' hi z => ?_) (fun σ' H' z => ?_)
    · obtain ⟨m2, home, d, v11, v12, s1, hm2, hh, dl, G, rfl⟩ := z
      obtain ⟨xs, t, kt, a1, a3, a4, a5, _⟩ := dl.at' hh
      walk_at "go"
      refine ⟨L, rfl, l4, fun c H3 hc e3 k3 => ?_⟩
      walk_at "go"
      refine r_itL (l_of k3) (r_cmIF (ns := Od.steps L) (l_of k3) (fun s => !(d home s).isSome) (fun s => .int s) (by rw [Od.steps_len]; omega) (fun _ => rfl) (fun s hs H4 R e4 k => ?_) (fun s hs hf H4 R e4 k => ?_) fun gl H4 hgl e4 k4 => ?_)
      · walk_at "go"
        refine r_ixL (l_of (e4 _ _ (e3 _ _ a1))) (atI_at (by omega) (by rw [Int.toNat_natCast]; exact a3)) ?_
        refine r_dninI (.inl (e4 _ _ (e3 _ _ a4))) a5 ?_
        rw [vN_some]
        walk_at "go"
        exact k H4 (Ex.refl H4)
      · walk_at "go"
        exact k H4 (Ex.refl H4)
      obtain ⟨gs, hgs⟩ : ∃ gs, (Od.steps L).filter (fun s => !(d home s).isSome) = gs := ⟨_, rfl⟩
      rw [hgs] at k4
      have zgs : gs.length ≤ 8 := by
        rw [← hgs]
        exact Nat.le_trans (List.length_filter_le _ _) (by rw [Od.steps_len]; omega)
      have s4 := (s1.ext e3).ext e4
      have dl4 := (dl.mono e3).mono e4
      have nglw : gl ≠ w := (s1.ext e3).well.ne hgl
      have hgl0 : H gl = none := (s1.ext e3).fresh hgl
      walk_at "go"
      refine r_newL (by simp) fun em H5 hem e5 k5 => ?_
      have k4 := e5 _ _ k4
      have k4 : H5 gl = some (.lst (gs.map V.int)) := k4
      walk_at "go"
      refine r_neL (l_of k4) (ns := gs) (ms := []) (l_of k5) ?_
      have s5 := s4.ext e5
      have dl5 := dl4.mono e5
      walk_at "go"
      refine ifn_2 (fun h0 => ?_) fun h0 => ?_
      · have zp : 0 < gs.length := by
          cases gs with
          | nil => exact absurd rfl h0
          | cons x l => simp
        obtain ⟨ds, zd, hp⟩ : ∃ ds : List Addr, ds.length = m2 ∧ H5 a = some (.lst (ds.map V.ref)) := by
          obtain ⟨ds, h1, _, _, _, _, h6, _⟩ := dl5.ex
          exact ⟨ds, h1, h6⟩
        walk_at "go"
        refine r_app (l_of hp) ?_
        walk_at "go"
        refine r_dnew fun p H6 hp6 e6 k6 => ?_
        walk_at "go"
        refine r_appd (e6 _ _ hp) (by rw [List.length_map]; omega) fun H7 e7 k7 => ?_
        have nz : ∀ x, vN (d m2 x) = none := fun x => by
          cases z : d m2 x with
          | none => rfl
          | some y => have := (G.dom _ _ _ z).1; omega
        have dl7 := dl_push dl5 (s5.fresh hp6) hp6 e6 k6 hp e7 k7 nz
        have s7 := (s5.ext e6).mut e7 ha0 naw
        have ngla : gl ≠ a := dl_il dl5 k4 (by omega)
        have k47 := e7 _ _ (e6 _ _ k4) ngla
        clear k4 dl5 dl4 dl s5 s4
        walk_at "go"
        refine r_lenL (l_of k47) ?_
        rw [List.length_map]
        walk_at "go"
        refine ⟨w, _, _, rfl, by omega, by omega, s7.well, by omega, fun r4 H8 r40 r41 e8 w8 => ?_⟩
        have s8 := s7.on e8 w8
        have dl8 := dl_w dl7 e8 hw0
        have k48 := e8 _ _ k47 nglw
        have hk := List.getElem?_eq_getElem (show r4.toNat < gs.length by omega)
        generalize gs[r4.toNat] = s0 at hk
        have hs0 := List.mem_of_getElem? hk
        rw [← hgs, List.mem_filter] at hs0
        have hd0 : d home s0 = none := by
          cases z : d home s0 with
          | none => rfl
          | some y => have := hs0.2; rw [z] at this; cases this
        walk_at "go"
        refine r_ixL (l_of k48) (at_int r40 hk) ?_
        have k78 := e8 _ _ k7 naw
        walk_at "go"
        refine r_lenL (l_of k78) ?_
        rw [List.length_append, List.length_map, zd]
        walk_at "go"
        have sL := Od.mem_steps.mp hs0.1
        refine ⟨H, a, m2 + 1, home, m2, s0, d, by simp, dl8, by omega, by omega, Od.mem_steps.mpr (by omega), st4 G l4, fun H9 e9 dl9 => ?_⟩
        have G9 := gr_ext G hs0.1 hh hd0
        obtain ⟨ds9, zd9, hp9⟩ : ∃ ds : List Addr, ds.length = m2 + 1 ∧ H9 a = some (.lst (ds.map V.ref)) := by
          obtain ⟨ds, h1, _, _, _, _, h6, _⟩ := dl9.ex
          exact ⟨ds, h1, h6⟩
        walk_at "go"
        refine r_lenL (l_of hp9) ?_
        rw [List.length_map, zd9]
        walk_at "go"
        rw [show ((m2 + 1 : Nat) : Int) - 1 = (m2 : Int) by omega]
        exact ⟨m2 + 1, m2, _, _, _, (e9.drs s8 hw0).more (by omega), by omega, by omega, dl9, G9, rfl⟩
      · walk_at "go"
        exact ⟨m2, home, d, _, _, s5.more (by omega), by omega, hh, dl5, G, rfl⟩
    · obtain ⟨m2, home, d, v11, v12, s1, hm2, hh, dl, G, rfl⟩ := z
      walk_at "go"
      exact ⟨H, L, m2, home, d, a, rfl, dl, G, l1, l4, hh, by omega, fun p m3 d3 H1 e1 hm3 wh W => q p m3 d3 H1 ((e1.drs s1 hw0).more (by omega)) (by omega) wh W⟩
end
end Lw
namespace Lw
open PySem PySem.Spec PyProof.Rows L2 Evl

local macro_rules | `(tactic| walk_at "go") => `(tactic| repeat (first
  | with_reducible refine st_seq ?_ | with_reducible refine st_set ?_ | with_reducible refine st_asg ?_ | with_reducible refine st_ret ?_ | with_reducible refine st_drop ?_ | with_reducible refine st_if ?_
  | with_reducible refine st_c ?_ | ((with_reducible refine' st_v ?h ?_); (case h => exact rfl)) | with_reducible refine st_n ?_ | with_reducible refine st_cons ?_ | with_reducible refine st_op ?_ | with_reducible refine st_un ?_
  | with_reducible refine st_cb ?_ | with_reducible refine st_test ?_ | with_reducible refine st_call ?_ | with_reducible refine st_callK ?_ | with_reducible refine st_sl ?_ | with_reducible refine st_par ?_ | with_reducible refine st_par3 ?_ | with_reducible refine st_tru ?_
  | with_reducible refine st_and ?_ | with_reducible refine st_or ?_ | with_reducible refine st_not ?_ | with_reducible refine st_B ?_ | with_reducible refine st_andV ?_ | with_reducible refine st_orV ?_ | with_reducible refine st_notV ?_ | with_reducible refine st_ifE ?_
  | with_reducible refine st_part ?_ | with_reducible refine st_nop ?_ | with_reducible refine st_sub ?_ | with_reducible refine st_chain ?_ | with_reducible refine st_bl ?_ | with_reducible refine st_in ?_ | with_reducible refine r_truB ?_
  | with_reducible refine st_nameG ?_ | with_reducible refine if_T ?_ | with_reducible refine if_F ?_ | with_reducible refine if_nT ?_ | with_reducible refine if_nF ?_
  | with_reducible refine r_add ?_ | with_reducible refine r_0 ?_ | with_reducible refine r_neg ?_ | with_reducible refine r_intI ?_ | with_reducible refine r_intB ?_ | with_reducible refine r_abs ?_ | with_reducible refine r_max2 ?_ | with_reducible refine r_min2 ?_ | with_reducible refine r_eqI ?_ | with_reducible refine r_neI ?_
  | with_reducible refine st_nxt ?_ | with_reducible refine st_cnt ?_ | with_reducible refine st_brk ?_ | with_reducible refine st_retn ?_
  | with_reducible refine st_lstN ?_ | with_reducible refine st_tupN ?_
  | with_reducible refine st_for ?_ | with_reducible refine st_lc ?_ | with_reducible refine st_lc2 ?_ | with_reducible refine st_rng1 ?_ | with_reducible refine st_rng2 ?_ | with_reducible refine st_rng3 ?_ | with_reducible refine st_itL ?_ | with_reducible refine st_itT ?_ | with_reducible refine st_rev ?_ | with_reducible refine st_enumE ?_ | with_reducible refine st_zip3 ?_ | with_reducible refine st_lvals ?_ | with_reducible refine st_fld ?_ | with_reducible refine st_sfld ?_ | with_reducible refine st_meth ?_ | with_reducible refine st_make ?_ | with_reducible refine st_rg1 ?_ | with_reducible refine st_enumS ?_ | with_reducible refine st_dg1 ?_ | with_reducible refine st_dg2 ?_ | with_reducible refine st_dpop ?_ | with_reducible refine st_dset ?_ | with_reducible refine st_dc ?_ | with_reducible refine st_keys ?_ | with_reducible refine st_dget ?_ | with_reducible refine st_din ?_ | with_reducible refine st_dnin ?_ | with_reducible refine st_dput ?_ | with_reducible refine st_dnew ?_ | with_reducible refine st_lstRg ?_ | with_reducible refine st_rg2 ?_ | with_reducible refine r_twoI ?_ | with_reducible refine st_bm ?_ | with_reducible refine st_bm0 ?_
  | ((with_reducible refine' st_aug ?h ?_); (case h => exact rfl)) | with_reducible refine r_augI ?_ | with_reducible refine r_eqB ?_
  | dsimp only))
section
variable {P : Program} {w : World} {K : PySem.W.Frag} {mg : Str → Option Value} {base : Heap} {A : Ad}

theorem one_l {l : List Nat} (nd : l.Nodup) (lt : ∀ x ∈ l, x < 1) (h : 0 ∈ l) : l = [0] := by
  have z := Wb.nodup_lt nd lt
  cases l with
  | nil => cases h
  | cons x l =>
    cases l with
    | nil =>
      have := lt x List.mem_cons_self
      have : x = 0 := by omega
      rw [this]
    | cons y l => simp at z
theorem web_one {L : Nat} {d : Wb.Gm} (l1 : 1 ≤ L) (l4 : L ≤ 4) (G : Wb.Gr L 1 d) : Wb.Web L 1 d := by
  refine ⟨l1, l4, by omega, G, fun r h1 h2 => absurd h2 (by omega), ?_⟩
  obtain ⟨q, hq, R⟩ := Wb.bfs_all (home := 0) G (by omega)
  refine one_l R.ok.nodup R.ok.lt ?_
  have := List.mem_of_getElem? R.hd
  exact List.mem_map.mpr ⟨_, this, rfl⟩
def noD : Wb.Gm := fun _ _ => none
def allD (L : Nat) : Wb.Gm := fun r s => if r = 0 ∧ s ∈ Od.steps L then some 0 else none
theorem web_none {L : Nat} (l1 : 1 ≤ L) (l4 : L ≤ 4) : Wb.Web L 1 noD := web_one l1 l4 ⟨fun _ _ _ h => (nomatch h), fun _ _ _ h => (nomatch h)⟩
theorem web_all {L : Nat} (l1 : 1 ≤ L) (l4 : L ≤ 4) : Wb.Web L 1 (allD L) := by
  have key : ∀ r s g, allD L r s = some g → r = 0 ∧ s ∈ Od.steps L ∧ g = 0 := fun r s g h => by
    unfold allD at h
    by_cases c : r = 0 ∧ s ∈ Od.steps L
    · rw [if_pos c] at h
      cases h
      exact ⟨c.1, c.2, rfl⟩
    · rw [if_neg c] at h
      cases h
  refine web_one l1 l4 ⟨fun r s g h => ?_, fun r s g h => ?_⟩
  · obtain ⟨h1, h2, h3⟩ := key r s g h
    exact ⟨by omega, by omega, h2⟩
  · obtain ⟨h1, h2, h3⟩ := key r s g h
    subst h1
    subst h3
    unfold allD
    rw [Od.mem_steps] at h2
    rw [if_pos ⟨rfl, by rw [Od.mem_steps]; omega⟩]
theorem row_none {L : Nat} : Wb.row L noD 0 = List.replicate L (-1) := by
  refine List.eq_replicate_iff.mpr ⟨by unfold Wb.row; rw [List.length_map, List.length_range], fun b hb => ?_⟩
  unfold Wb.row at hb
  obtain ⟨l, hl, rfl⟩ := List.mem_map.mp hb
  rfl
theorem row_all {L : Nat} : Wb.row L (allD L) 0 = List.replicate L 0 := by
  refine List.eq_replicate_iff.mpr ⟨by unfold Wb.row; rw [List.length_map, List.length_range], fun b hb => ?_⟩
  unfold Wb.row at hb
  obtain ⟨l, hl, rfl⟩ := List.mem_map.mp hb
  have := List.mem_range.mp hl
  have e : allD L 0 ((l : Int) + 1) = some 0 := by
    unfold allD
    rw [if_pos ⟨rfl, by rw [Od.mem_steps]; omega⟩]
  rw [e]
  rfl
theorem flat_one {x : Int} : ∀ k : Nat, (List.replicate k [V.int x]).flatten = (List.replicate k x).map V.int
  | 0 => rfl
  | k + 1 => by
    rw [List.replicate_succ, List.flatten_cons, flat_one k, List.replicate_succ]
    rfl
theorem webH_one {K : PySem.W.Frag} {H : Hp} {L : Nat} {d : Wb.Gm} {a b c : Addr} (h1 : SqT K H a [.int (L : Int), .ref b]) (h2 : SqT K H b [.ref c]) (h3 : IT K H c (Wb.row L d 0)) : WebH K H a L 1 d := by
  refine ⟨b, [.ref c], h1, h2, ?_⟩
  have : WkA K H ([] ++ [.ref c]) ([] ++ [Wb.row L d 0]) := WkA.nil.snoc ⟨c, rfl, h3⟩
  exact this
theorem menu3 {r : Int} (h0 : 0 ≤ r) (h3 : r < 3) : ∃ M : Nat, atI [V.int 2, V.int 5, V.int 10] r = some (.int (M : Int)) ∧ 1 ≤ M ∧ M ≤ 10 := by
  have c : r = 0 ∨ r = 1 ∨ r = 2 := by omega
  rcases c with rfl | rfl | rfl
  · exact ⟨2, rfl, by omega, by omega⟩
  · exact ⟨5, rfl, by omega, by omega⟩
  · exact ⟨10, rfl, by omega, by omega⟩
def sp_law (K : PySem.W.Frag) : Sp := fun vs H Q _ => ∃ (a : Addr) (ns : List Int), vs = [.ref a] ∧ SqL K H a (ns.map V.int) ∧ ns.length ≤ 63 ∧ ∀ H', Q (.bl true) H'
theorem ok_law (T : Tx K mg A) : FnG P w K mg base CX0 8 A.a_law A.f_law P_law (sp_law K) := by
  refine T.F_law.okG sc_law (fun vs H Q E h => ?_) (fun cdv A' outer s H vs Q E g hr h => ?_)
  · obtain ⟨a, ns, rfl, _⟩ := h
    rfl
  · obtain ⟨a, sc, rfl, hS, hlen, q⟩ := h
    refine ⟨_, (pss_cons (ps_for PassesOwn.never rfl (pi_range1 (by rfl) T.n_range (pa_cons (pe_callB (max2_K rfl) (by rfl) T.n_max (by decide +kernel) (pa_cons pe_int (pa_cons (pe_callB (min2_K rfl) (by rfl) T.n_min (by decide +kernel) (pa_cons pe_int (pa_cons (pe_callB (len_K K) (by rfl) T.n_len (by decide +kernel) (pa_cons (pv 0) pa_nil)) pa_nil))) pa_nil))) pa_nil)) (pg_name (i := 1) sc_law.nd rfl (Or.inl rfl)) (pss_cons (ps_set (i := 2) sc_law.nd rfl (Or.inl rfl) (pe_call (ok__law_well T) (hr.mono (by decide)) (by rfl) T.g__law_well T.F__law_well.kp T.b__law_well .nil pass0 (pa_cons (pv 0) (pa_cons (pv 1) pa_nil))))
      (pss_cons (ps_set (i := 3) sc_law.nd rfl (Or.inl rfl) (pe_op (op_addK K) pe_int (pe_call (ok__law_take T) (hr.mono (by decide)) (by rfl) T.g__law_take T.F__law_take.kp T.b__law_take .nil pass0 (pa_cons (pv 2) (pa_cons pe_int pa_nil)))))
      (pss_cons (ps_set (i := 4) sc_law.nd rfl (Or.inl rfl) (pe_call (ok__law_web T) (hr.mono (by decide)) (by rfl) T.g__law_web T.F__law_web.kp T.b__law_web .nil pass0 (pa_cons (pv 2) (pa_cons (pv 3) (pa_cons (pe_ix (ix_K K) (pe_lst (pa_cons pe_int (pa_cons pe_int (pa_cons pe_int pa_nil)))) (pe_call (ok__law_take T) (hr.mono (by decide)) (by rfl) T.g__law_take T.F__law_take.kp T.b__law_take .nil pass0 (pa_cons (pv 2) (pa_cons pe_int pa_nil))) (fun _ _ => rfl)) pa_nil)))))
      (pss_cons (ps_set (i := 5) sc_law.nd rfl (Or.inl rfl) (pe_call (ok__law_web T) (hr.mono (by decide)) (by rfl) T.g__law_web T.F__law_web.kp T.b__law_web .nil pass0 (pa_cons (pv 2) (pa_cons (pe_op (op_addK K) pe_int (pe_call (ok__law_take T) (hr.mono (by decide)) (by rfl) T.g__law_take T.F__law_take.kp T.b__law_take .nil pass0 (pa_cons (pv 2) (pa_cons pe_int pa_nil)))) (pa_cons pe_int pa_nil)))))
      (pss_cons (ps_if (PW.pt (pw_or (pt_not (pt_truK K (pe_callG (ok__law_right T) g (hr.mono (by decide)) (by rfl) T.g__law_right T.F__law_right.kp T.b__law_right .nil pass0 (pa_cons (pv 4) pa_nil)))) (pw_or (pt_not (pt_truK K (pe_callG (ok__law_right T) g (hr.mono (by decide)) (by rfl) T.g__law_right T.F__law_right.kp T.b__law_right .nil pass0 (pa_cons (pv 5) pa_nil)))) (pw_or1 (pt_not (pt_truK K (pe_callG (ok__law_right T) g (hr.mono (by decide)) (by rfl) T.g__law_right T.F__law_right.kp T.b__law_right .nil pass0 (pa_cons (pv 4) pa_nil)))))))) (pss_one (ps_ret pe_bl)) pss_nil)
      (pss_one (ps_if (PW.pt (pw_or (pt_not (pt_truK K (pe_callG (ok__law_right T) g (hr.mono (by decide)) (by rfl) T.g__law_right T.F__law_right.kp T.b__law_right .nil pass0 (pa_cons (pe_tup (pa_cons (pv 3) (pa_cons (pe_tup (pa_cons (pe_op (op_mulK K) (pe_tup (pa_cons (pe_op op_sub pe_int pe_int) pa_nil)) (pv 3)) pa_nil)) pa_nil))) pa_nil)))) (pw_or1 (pt_not (pt_truK K (pe_callG (ok__law_right T) g (hr.mono (by decide)) (by rfl) T.g__law_right T.F__law_right.kp T.b__law_right .nil pass0 (pa_cons (pe_tup (pa_cons (pv 3) (pa_cons (pe_tup (pa_cons (pe_op (op_mulK K) (pe_tup (pa_cons pe_int pa_nil)) (pv 3)) pa_nil)) pa_nil))) pa_nil))))))) (pss_one (ps_ret pe_bl)) pss_nil))))))))
      (pss_one (ps_ret pe_bl))), ?_⟩
    walk_at "go"
    refine r_lenL hS ?_
    walk_at "go"
    rw [List.length_map]
    refine r_rng1 (by omega) (by omega) (r_forR (m := (max (1 : Int) (min 3 (sc.length : Int))).toNat) (fun i σ' H' => ∃ v1 v2 v3 v4 v5, Ex H H' ∧ σ' = [some (.ref a), v1, v2, v3, v4, v5]) ⟨none, none, none, none, none, Ex.refl H, rfl⟩ ?_ ?_)
    · rintro i σ' H1 hi ⟨v1, v2, v3, v4, v5, e1, rfl⟩
      walk_at "go"
      refine ⟨a, sc, _, rfl, ex_l e1 hS, hlen, by omega, by omega, fun w H2 hw e2 d2 => ?_⟩
      have hw0 : H w = none := fresh_back e1 hw
      have b2 : DrS w H2 0 H2 := DrS.refl d2
      walk_at "go"
      refine ⟨w, 0, _, rfl, by omega, by omega, d2, by omega, fun r H3 r0 r4 e3 d3 => ?_⟩
      have b3 := b2.on e3 d3
      walk_at "go"
      obtain ⟨L, hL⟩ : ∃ L : Nat, (1 : Int) + r = (L : Int) := ⟨(1 + r).toNat, by omega⟩
      rw [hL]
      have l1 : 1 ≤ L := by omega
      have l4 : L ≤ 4 := by omega
      walk_at "go"
      refine r_newL (by simp) fun m0 H4 hm e4 k4 => ?_
      have b4 := b3.ext e4
      walk_at "go"
      refine ⟨w, _, _, rfl, by omega, by omega, b4.well, by omega, fun r1 H5 r10 r13 e5 d5 => ?_⟩
      have b5 := b4.on e5 d5
      obtain ⟨M, hM, M1, M10⟩ := menu3 r10 r13
      walk_at "go"
      refine r_ixL (l_of (e5 _ _ k4 (b3.well.ne hm))) hM ?_
      walk_at "go"
      refine ⟨w, _, L, M, rfl, b5.well, by omega, l1, l4, M1, by omega, fun p m d H6 s6 hm6 hW W => ?_⟩
      have b6 := b5.on s6.ex s6.well
      walk_at "go"
      refine ⟨w, _, _, rfl, by omega, by omega, b6.well, by omega, fun r7 H7 r70 r74 e7 d7 => ?_⟩
      have b7 := b6.on e7 d7
      have hW7 := hW.tx (TX.w e7 b6.well)
      walk_at "go"
      obtain ⟨L2, hL2⟩ : ∃ L : Nat, (1 : Int) + r7 = (L : Int) := ⟨(1 + r7).toNat, by omega⟩
      rw [hL2]
      refine ⟨w, _, L2, 4, rfl, b7.well, by omega, by omega, by omega, by omega, by omega, fun p2 m2 d2 H8 s8 hm8 hW8 W8 => ?_⟩
      have b8 := b7.on s8.ex s8.well
      have hWp := hW7.tx (s8.tx b7.well)
      walk_at "go"
      refine ⟨L, m, d, p, rfl, hWp, W, by omega, fun H9 e9 => ?_⟩
      refine r_truB (if_nT ?_)
      walk_at "go"
      refine ⟨L2, m2, d2, p2, rfl, hW8.mono e9, W8, by omega, fun H10 e10 => ?_⟩
      refine r_truB (if_nT ?_)
      walk_at "go"
      refine ⟨L, m, d, p, rfl, hWp.mono (e9.trans e10), W, by omega, fun H11 e11 => ?_⟩
      refine r_truB (if_nT ?_)
      have b11 := b8.ext ((e9.trans e10).trans e11)
      walk_at "go"
      refine r_newT (by simp) fun t12 H12 h12 e12 k12 => ?_
      walk_at "go"
      refine r_repT (t_of k12) (by omega) (by omega) (by simp) fun t13 H13 e13 h13 => ?_
      rw [Int.toNat_natCast, flat_one, show (0 : Int) - 1 = -1 by decide] at h13
      walk_at "go"
      refine r_newT (by simp) fun t14 H14 h14 e14 k14 => ?_
      walk_at "go"
      refine r_newT (by simp) fun t15 H15 h15 e15 k15 => ?_
      have b15 := b11.ext (((e12.trans e13).trans e14).trans e15)
      have hW1 : WebH K H15 t15 L 1 noD := webH_one (t_of k15) (ex_t e15 (t_of k14)) (by rw [row_none]; exact ex_t (e14.trans e15) h13)
      walk_at "go"
      refine ⟨L, 1, noD, t15, rfl, hW1, web_none l1 l4, by omega, fun H16 e16 => ?_⟩
      have b16 := b15.ext e16
      refine r_truB (if_nT ?_)
      walk_at "go"
      refine r_newT (by simp) fun t17 H17 h17 e17 k17 => ?_
      walk_at "go"
      refine r_repT (t_of k17) (by omega) (by omega) (by simp) fun t18 H18 e18 h18 => ?_
      rw [Int.toNat_natCast, flat_one] at h18
      walk_at "go"
      refine r_newT (by simp) fun t19 H19 h19 e19 k19 => ?_
      walk_at "go"
      refine r_newT (by simp) fun t20 H20 h20 e20 k20 => ?_
      have b20 := b16.ext (((e17.trans e18).trans e19).trans e20)
      have hW2 : WebH K H20 t20 L 1 (allD L) := webH_one (t_of k20) (ex_t e20 (t_of k19)) (by rw [row_all]; exact ex_t (e19.trans e20) h18)
      walk_at "go"
      refine ⟨L, 1, allD L, t20, rfl, hW2, web_all l1 l4, by omega, fun H21 e21 => ?_⟩
      have b21 := b20.ext e21
      refine r_truB (if_nT ?_)
      walk_at "go"
      exact ⟨_, _, _, _, _, fun b o hb => b21.ex b o (e2 b o (e1 b o hb)) (ne_of_none hb hw0), rfl⟩
    · rintro σ' H' ⟨v1, v2, v3, v4, v5, e1, rfl⟩
      walk_at "go"
      exact q H'
end
theorem all_mk {l : PySem.W.OpenLaw} {w : World} {K : PySem.W.Frag} {h : Heap} {mg : Str → Option Value} {fa : Addr} {f_is_integer f_steps_of f_turned_back f_step_table f_ways_of f__law_well f__law_take f__law_straight f__law_steps f__law_laid f__law_back f__law_ways f_is_letters f_is_row f_first_reached f__law_named f__law_doors f_has_web_form f_first_ways f_tree_ways f__law_web f__law_firsts f_right_table f_other_ways f__law_tree f_checked_table f_basis_walks f__law_others f_tree f_basis f__law_basis f__law_right f_law dT_first_reached : Addr} (X : K.In h) (G : h.Ns mainGlobals mg) (hfa : mg "law" = some (.ref fa))
    {ocT_first_reached : Value} {odT_first_reached : Option Addr} {nT_first_reached : Nat} {slT_first_reached : Array (Option Value)} {dt0_first_reached : Tok}
    {od_is_integer an_is_integer od_steps_of an_steps_of od_turned_back an_turned_back od_step_table an_step_table od_ways_of an_ways_of od__law_well an__law_well od__law_take an__law_take od__law_straight an__law_straight od__law_steps an__law_steps od__law_laid an__law_laid od__law_back an__law_back od__law_ways an__law_ways od_is_letters an_is_letters od_is_row an_is_row od_first_reached an_first_reached od__law_named an__law_named od__law_doors an__law_doors od_has_web_form an_has_web_form od_first_ways an_first_ways od_tree_ways an_tree_ways od__law_web an__law_web od__law_firsts an__law_firsts od_right_table an_right_table od_other_ways an_other_ways od__law_tree an__law_tree od_checked_table an_checked_table od_basis_walks an_basis_walks od__law_others an__law_others od_tree an_tree od_basis an_basis od__law_basis an__law_basis od__law_right an__law_right od_law an_law : Option Addr} {sl_is_integer sl_steps_of sl_turned_back sl_step_table sl_ways_of sl__law_well sl__law_take sl__law_straight sl__law_steps sl__law_laid sl__law_back sl__law_ways sl_is_letters sl_is_row sl_first_reached sl__law_named sl__law_doors sl_has_web_form sl_first_ways sl_tree_ways sl__law_web sl__law_firsts sl_right_table sl_other_ways sl__law_tree sl_checked_table sl_basis_walks sl__law_others sl_tree sl_basis sl__law_basis sl__law_right sl_law : Array (Option Value)} {oc_is_integer kV_is_integer dc_is_integer pm_is_integer cd_is_integer ct_is_integer oc_steps_of kV_steps_of dc_steps_of pm_steps_of cd_steps_of ct_steps_of oc_turned_back kV_turned_back dc_turned_back pm_turned_back cd_turned_back ct_turned_back oc_step_table kV_step_table dc_step_table pm_step_table cd_step_table ct_step_table oc_ways_of kV_ways_of dc_ways_of pm_ways_of cd_ways_of ct_ways_of oc__law_well kV__law_well dc__law_well pm__law_well cd__law_well ct__law_well oc__law_take kV__law_take dc__law_take pm__law_take cd__law_take ct__law_take oc__law_straight kV__law_straight dc__law_straight pm__law_straight cd__law_straight ct__law_straight oc__law_steps kV__law_steps dc__law_steps pm__law_steps cd__law_steps ct__law_steps oc__law_laid kV__law_laid dc__law_laid pm__law_laid cd__law_laid ct__law_laid oc__law_back kV__law_back dc__law_back pm__law_back cd__law_back ct__law_back oc__law_ways kV__law_ways dc__law_ways pm__law_ways cd__law_ways ct__law_ways oc_is_letters kV_is_letters dc_is_letters pm_is_letters cd_is_letters ct_is_letters oc_is_row kV_is_row dc_is_row pm_is_row cd_is_row ct_is_row oc_first_reached kV_first_reached dc_first_reached pm_first_reached cd_first_reached ct_first_reached oc__law_named kV__law_named dc__law_named pm__law_named cd__law_named ct__law_named oc__law_doors kV__law_doors dc__law_doors pm__law_doors cd__law_doors ct__law_doors oc_has_web_form kV_has_web_form dc_has_web_form pm_has_web_form cd_has_web_form ct_has_web_form oc_first_ways kV_first_ways dc_first_ways pm_first_ways cd_first_ways ct_first_ways oc_tree_ways kV_tree_ways dc_tree_ways pm_tree_ways cd_tree_ways ct_tree_ways oc__law_web kV__law_web dc__law_web pm__law_web cd__law_web ct__law_web oc__law_firsts kV__law_firsts dc__law_firsts pm__law_firsts cd__law_firsts ct__law_firsts oc_right_table kV_right_table dc_right_table pm_right_table cd_right_table ct_right_table oc_other_ways kV_other_ways dc_other_ways pm_other_ways cd_other_ways ct_other_ways oc__law_tree kV__law_tree dc__law_tree pm__law_tree cd__law_tree ct__law_tree oc_checked_table kV_checked_table dc_checked_table pm_checked_table cd_checked_table ct_checked_table oc_basis_walks kV_basis_walks dc_basis_walks pm_basis_walks cd_basis_walks ct_basis_walks oc__law_others kV__law_others dc__law_others pm__law_others cd__law_others ct__law_others oc_tree kV_tree dc_tree pm_tree cd_tree ct_tree oc_basis kV_basis dc_basis pm_basis cd_basis ct_basis oc__law_basis kV__law_basis dc__law_basis pm__law_basis cd__law_basis ct__law_basis oc__law_right kV__law_right dc__law_right pm__law_right cd__law_right ct__law_right oc_law kV_law dc_law pm_law cd_law ct_law : Value} {tc_MOST_LETTERS : Tok}
    (a_is_integer : PySem.W.nsIn K mainGlobals "is_integer" = some (some (.ref f_is_integer))) (l_is_integer : K.lookup f_is_integer = some ⟨oc_is_integer, od_is_integer, .func (PySem.W.fnOf "is_integer" "is_integer" (defArgs s_is_integer) (defBody s_is_integer) (defScope s_is_integer) .none kV_is_integer dc_is_integer pm_is_integer an_is_integer cd_is_integer ct_is_integer), sl_is_integer⟩) (c_is_integer : PySem.W.codeIn K cd_is_integer "is_integer" = true) (k_is_integer : PySem.W.keepIn K (.ref f_is_integer) = true)
    (a_steps_of : PySem.W.nsIn K mainGlobals "steps_of" = some (some (.ref f_steps_of))) (l_steps_of : K.lookup f_steps_of = some ⟨oc_steps_of, od_steps_of, .func (PySem.W.fnOf "steps_of" "steps_of" (defArgs s_steps_of) (defBody s_steps_of) (defScope s_steps_of) .none kV_steps_of dc_steps_of pm_steps_of an_steps_of cd_steps_of ct_steps_of), sl_steps_of⟩) (c_steps_of : PySem.W.codeIn K cd_steps_of "steps_of" = true) (k_steps_of : PySem.W.keepIn K (.ref f_steps_of) = true)
    (a_turned_back : PySem.W.nsIn K mainGlobals "turned_back" = some (some (.ref f_turned_back))) (l_turned_back : K.lookup f_turned_back = some ⟨oc_turned_back, od_turned_back, .func (PySem.W.fnOf "turned_back" "turned_back" (defArgs s_turned_back) (defBody s_turned_back) (defScope s_turned_back) .none kV_turned_back dc_turned_back pm_turned_back an_turned_back cd_turned_back ct_turned_back), sl_turned_back⟩) (c_turned_back : PySem.W.codeIn K cd_turned_back "turned_back" = true) (k_turned_back : PySem.W.keepIn K (.ref f_turned_back) = true)
    (a_step_table : PySem.W.nsIn K mainGlobals "step_table" = some (some (.ref f_step_table))) (l_step_table : K.lookup f_step_table = some ⟨oc_step_table, od_step_table, .func (PySem.W.fnOf "step_table" "step_table" (defArgs s_step_table) (defBody s_step_table) (defScope s_step_table) .none kV_step_table dc_step_table pm_step_table an_step_table cd_step_table ct_step_table), sl_step_table⟩) (c_step_table : PySem.W.codeIn K cd_step_table "step_table" = true) (k_step_table : PySem.W.keepIn K (.ref f_step_table) = true)
    (a_ways_of : PySem.W.nsIn K mainGlobals "ways_of" = some (some (.ref f_ways_of))) (l_ways_of : K.lookup f_ways_of = some ⟨oc_ways_of, od_ways_of, .func (PySem.W.fnOf "ways_of" "ways_of" (defArgs s_ways_of) (defBody s_ways_of) (defScope s_ways_of) .none kV_ways_of dc_ways_of pm_ways_of an_ways_of cd_ways_of ct_ways_of), sl_ways_of⟩) (c_ways_of : PySem.W.codeIn K cd_ways_of "ways_of" = true) (k_ways_of : PySem.W.keepIn K (.ref f_ways_of) = true)
    (a__law_well : PySem.W.nsIn K mainGlobals "_law_well" = some (some (.ref f__law_well))) (l__law_well : K.lookup f__law_well = some ⟨oc__law_well, od__law_well, .func (PySem.W.fnOf "_law_well" "_law_well" (defArgs s__law_well) (defBody s__law_well) (defScope s__law_well) .none kV__law_well dc__law_well pm__law_well an__law_well cd__law_well ct__law_well), sl__law_well⟩) (c__law_well : PySem.W.codeIn K cd__law_well "_law_well" = true) (k__law_well : PySem.W.keepIn K (.ref f__law_well) = true)
    (a__law_take : PySem.W.nsIn K mainGlobals "_law_take" = some (some (.ref f__law_take))) (l__law_take : K.lookup f__law_take = some ⟨oc__law_take, od__law_take, .func (PySem.W.fnOf "_law_take" "_law_take" (defArgs s__law_take) (defBody s__law_take) (defScope s__law_take) .none kV__law_take dc__law_take pm__law_take an__law_take cd__law_take ct__law_take), sl__law_take⟩) (c__law_take : PySem.W.codeIn K cd__law_take "_law_take" = true) (k__law_take : PySem.W.keepIn K (.ref f__law_take) = true)
    (a__law_straight : PySem.W.nsIn K mainGlobals "_law_straight" = some (some (.ref f__law_straight))) (l__law_straight : K.lookup f__law_straight = some ⟨oc__law_straight, od__law_straight, .func (PySem.W.fnOf "_law_straight" "_law_straight" (defArgs s__law_straight) (defBody s__law_straight) (defScope s__law_straight) .none kV__law_straight dc__law_straight pm__law_straight an__law_straight cd__law_straight ct__law_straight), sl__law_straight⟩) (c__law_straight : PySem.W.codeIn K cd__law_straight "_law_straight" = true) (k__law_straight : PySem.W.keepIn K (.ref f__law_straight) = true)
    (a__law_steps : PySem.W.nsIn K mainGlobals "_law_steps" = some (some (.ref f__law_steps))) (l__law_steps : K.lookup f__law_steps = some ⟨oc__law_steps, od__law_steps, .func (PySem.W.fnOf "_law_steps" "_law_steps" (defArgs s__law_steps) (defBody s__law_steps) (defScope s__law_steps) .none kV__law_steps dc__law_steps pm__law_steps an__law_steps cd__law_steps ct__law_steps), sl__law_steps⟩) (c__law_steps : PySem.W.codeIn K cd__law_steps "_law_steps" = true) (k__law_steps : PySem.W.keepIn K (.ref f__law_steps) = true)
    (a__law_laid : PySem.W.nsIn K mainGlobals "_law_laid" = some (some (.ref f__law_laid))) (l__law_laid : K.lookup f__law_laid = some ⟨oc__law_laid, od__law_laid, .func (PySem.W.fnOf "_law_laid" "_law_laid" (defArgs s__law_laid) (defBody s__law_laid) (defScope s__law_laid) .none kV__law_laid dc__law_laid pm__law_laid an__law_laid cd__law_laid ct__law_laid), sl__law_laid⟩) (c__law_laid : PySem.W.codeIn K cd__law_laid "_law_laid" = true) (k__law_laid : PySem.W.keepIn K (.ref f__law_laid) = true)
    (a__law_back : PySem.W.nsIn K mainGlobals "_law_back" = some (some (.ref f__law_back))) (l__law_back : K.lookup f__law_back = some ⟨oc__law_back, od__law_back, .func (PySem.W.fnOf "_law_back" "_law_back" (defArgs s__law_back) (defBody s__law_back) (defScope s__law_back) .none kV__law_back dc__law_back pm__law_back an__law_back cd__law_back ct__law_back), sl__law_back⟩) (c__law_back : PySem.W.codeIn K cd__law_back "_law_back" = true) (k__law_back : PySem.W.keepIn K (.ref f__law_back) = true)
    (a__law_ways : PySem.W.nsIn K mainGlobals "_law_ways" = some (some (.ref f__law_ways))) (l__law_ways : K.lookup f__law_ways = some ⟨oc__law_ways, od__law_ways, .func (PySem.W.fnOf "_law_ways" "_law_ways" (defArgs s__law_ways) (defBody s__law_ways) (defScope s__law_ways) .none kV__law_ways dc__law_ways pm__law_ways an__law_ways cd__law_ways ct__law_ways), sl__law_ways⟩) (c__law_ways : PySem.W.codeIn K cd__law_ways "_law_ways" = true) (k__law_ways : PySem.W.keepIn K (.ref f__law_ways) = true)
    (a_is_letters : PySem.W.nsIn K mainGlobals "is_letters" = some (some (.ref f_is_letters))) (l_is_letters : K.lookup f_is_letters = some ⟨oc_is_letters, od_is_letters, .func (PySem.W.fnOf "is_letters" "is_letters" (defArgs s_is_letters) (defBody s_is_letters) (defScope s_is_letters) .none kV_is_letters dc_is_letters pm_is_letters an_is_letters cd_is_letters ct_is_letters), sl_is_letters⟩) (c_is_letters : PySem.W.codeIn K cd_is_letters "is_letters" = true) (k_is_letters : PySem.W.keepIn K (.ref f_is_letters) = true)
    (a_is_row : PySem.W.nsIn K mainGlobals "is_row" = some (some (.ref f_is_row))) (l_is_row : K.lookup f_is_row = some ⟨oc_is_row, od_is_row, .func (PySem.W.fnOf "is_row" "is_row" (defArgs s_is_row) (defBody s_is_row) (defScope s_is_row) .none kV_is_row dc_is_row pm_is_row an_is_row cd_is_row ct_is_row), sl_is_row⟩) (c_is_row : PySem.W.codeIn K cd_is_row "is_row" = true) (k_is_row : PySem.W.keepIn K (.ref f_is_row) = true)
    (a_first_reached : PySem.W.nsIn K mainGlobals "first_reached" = some (some (.ref f_first_reached))) (l_first_reached : K.lookup f_first_reached = some ⟨oc_first_reached, od_first_reached, .func (PySem.W.fnOf "first_reached" "first_reached" (defArgs s_first_reached) (defBody s_first_reached) (defScope s_first_reached) (.ref dT_first_reached) kV_first_reached dc_first_reached pm_first_reached an_first_reached cd_first_reached ct_first_reached), sl_first_reached⟩) (c_first_reached : PySem.W.codeIn K cd_first_reached "first_reached" = true) (k_first_reached : PySem.W.keepIn K (.ref f_first_reached) = true)
    (lT_first_reached : K.lookup dT_first_reached = some ⟨ocT_first_reached, odT_first_reached, .seq #[Value.int 0 dt0_first_reached] nT_first_reached, slT_first_reached⟩)
    (a__law_named : PySem.W.nsIn K mainGlobals "_law_named" = some (some (.ref f__law_named))) (l__law_named : K.lookup f__law_named = some ⟨oc__law_named, od__law_named, .func (PySem.W.fnOf "_law_named" "_law_named" (defArgs s__law_named) (defBody s__law_named) (defScope s__law_named) .none kV__law_named dc__law_named pm__law_named an__law_named cd__law_named ct__law_named), sl__law_named⟩) (c__law_named : PySem.W.codeIn K cd__law_named "_law_named" = true) (k__law_named : PySem.W.keepIn K (.ref f__law_named) = true)
    (a__law_doors : PySem.W.nsIn K mainGlobals "_law_doors" = some (some (.ref f__law_doors))) (l__law_doors : K.lookup f__law_doors = some ⟨oc__law_doors, od__law_doors, .func (PySem.W.fnOf "_law_doors" "_law_doors" (defArgs s__law_doors) (defBody s__law_doors) (defScope s__law_doors) .none kV__law_doors dc__law_doors pm__law_doors an__law_doors cd__law_doors ct__law_doors), sl__law_doors⟩) (c__law_doors : PySem.W.codeIn K cd__law_doors "_law_doors" = true) (k__law_doors : PySem.W.keepIn K (.ref f__law_doors) = true)
    (a_has_web_form : PySem.W.nsIn K mainGlobals "has_web_form" = some (some (.ref f_has_web_form))) (l_has_web_form : K.lookup f_has_web_form = some ⟨oc_has_web_form, od_has_web_form, .func (PySem.W.fnOf "has_web_form" "has_web_form" (defArgs s_has_web_form) (defBody s_has_web_form) (defScope s_has_web_form) .none kV_has_web_form dc_has_web_form pm_has_web_form an_has_web_form cd_has_web_form ct_has_web_form), sl_has_web_form⟩) (c_has_web_form : PySem.W.codeIn K cd_has_web_form "has_web_form" = true) (k_has_web_form : PySem.W.keepIn K (.ref f_has_web_form) = true)
    (a_first_ways : PySem.W.nsIn K mainGlobals "first_ways" = some (some (.ref f_first_ways))) (l_first_ways : K.lookup f_first_ways = some ⟨oc_first_ways, od_first_ways, .func (PySem.W.fnOf "first_ways" "first_ways" (defArgs s_first_ways) (defBody s_first_ways) (defScope s_first_ways) .none kV_first_ways dc_first_ways pm_first_ways an_first_ways cd_first_ways ct_first_ways), sl_first_ways⟩) (c_first_ways : PySem.W.codeIn K cd_first_ways "first_ways" = true) (k_first_ways : PySem.W.keepIn K (.ref f_first_ways) = true)
    (a_tree_ways : PySem.W.nsIn K mainGlobals "tree_ways" = some (some (.ref f_tree_ways))) (l_tree_ways : K.lookup f_tree_ways = some ⟨oc_tree_ways, od_tree_ways, .func (PySem.W.fnOf "tree_ways" "tree_ways" (defArgs s_tree_ways) (defBody s_tree_ways) (defScope s_tree_ways) .none kV_tree_ways dc_tree_ways pm_tree_ways an_tree_ways cd_tree_ways ct_tree_ways), sl_tree_ways⟩) (c_tree_ways : PySem.W.codeIn K cd_tree_ways "tree_ways" = true) (k_tree_ways : PySem.W.keepIn K (.ref f_tree_ways) = true)
    (a__law_web : PySem.W.nsIn K mainGlobals "_law_web" = some (some (.ref f__law_web))) (l__law_web : K.lookup f__law_web = some ⟨oc__law_web, od__law_web, .func (PySem.W.fnOf "_law_web" "_law_web" (defArgs s__law_web) (defBody s__law_web) (defScope s__law_web) .none kV__law_web dc__law_web pm__law_web an__law_web cd__law_web ct__law_web), sl__law_web⟩) (c__law_web : PySem.W.codeIn K cd__law_web "_law_web" = true) (k__law_web : PySem.W.keepIn K (.ref f__law_web) = true)
    (a__law_firsts : PySem.W.nsIn K mainGlobals "_law_firsts" = some (some (.ref f__law_firsts))) (l__law_firsts : K.lookup f__law_firsts = some ⟨oc__law_firsts, od__law_firsts, .func (PySem.W.fnOf "_law_firsts" "_law_firsts" (defArgs s__law_firsts) (defBody s__law_firsts) (defScope s__law_firsts) .none kV__law_firsts dc__law_firsts pm__law_firsts an__law_firsts cd__law_firsts ct__law_firsts), sl__law_firsts⟩) (c__law_firsts : PySem.W.codeIn K cd__law_firsts "_law_firsts" = true) (k__law_firsts : PySem.W.keepIn K (.ref f__law_firsts) = true)
    (a_right_table : PySem.W.nsIn K mainGlobals "right_table" = some (some (.ref f_right_table))) (l_right_table : K.lookup f_right_table = some ⟨oc_right_table, od_right_table, .func (PySem.W.fnOf "right_table" "right_table" (defArgs s_right_table) (defBody s_right_table) (defScope s_right_table) .none kV_right_table dc_right_table pm_right_table an_right_table cd_right_table ct_right_table), sl_right_table⟩) (c_right_table : PySem.W.codeIn K cd_right_table "right_table" = true) (k_right_table : PySem.W.keepIn K (.ref f_right_table) = true)
    (a_other_ways : PySem.W.nsIn K mainGlobals "other_ways" = some (some (.ref f_other_ways))) (l_other_ways : K.lookup f_other_ways = some ⟨oc_other_ways, od_other_ways, .func (PySem.W.fnOf "other_ways" "other_ways" (defArgs s_other_ways) (defBody s_other_ways) (defScope s_other_ways) .none kV_other_ways dc_other_ways pm_other_ways an_other_ways cd_other_ways ct_other_ways), sl_other_ways⟩) (c_other_ways : PySem.W.codeIn K cd_other_ways "other_ways" = true) (k_other_ways : PySem.W.keepIn K (.ref f_other_ways) = true)
    (a__law_tree : PySem.W.nsIn K mainGlobals "_law_tree" = some (some (.ref f__law_tree))) (l__law_tree : K.lookup f__law_tree = some ⟨oc__law_tree, od__law_tree, .func (PySem.W.fnOf "_law_tree" "_law_tree" (defArgs s__law_tree) (defBody s__law_tree) (defScope s__law_tree) .none kV__law_tree dc__law_tree pm__law_tree an__law_tree cd__law_tree ct__law_tree), sl__law_tree⟩) (c__law_tree : PySem.W.codeIn K cd__law_tree "_law_tree" = true) (k__law_tree : PySem.W.keepIn K (.ref f__law_tree) = true)
    (a_checked_table : PySem.W.nsIn K mainGlobals "checked_table" = some (some (.ref f_checked_table))) (l_checked_table : K.lookup f_checked_table = some ⟨oc_checked_table, od_checked_table, .func (PySem.W.fnOf "checked_table" "checked_table" (defArgs s_checked_table) (defBody s_checked_table) (defScope s_checked_table) .none kV_checked_table dc_checked_table pm_checked_table an_checked_table cd_checked_table ct_checked_table), sl_checked_table⟩) (c_checked_table : PySem.W.codeIn K cd_checked_table "checked_table" = true) (k_checked_table : PySem.W.keepIn K (.ref f_checked_table) = true)
    (a_basis_walks : PySem.W.nsIn K mainGlobals "basis_walks" = some (some (.ref f_basis_walks))) (l_basis_walks : K.lookup f_basis_walks = some ⟨oc_basis_walks, od_basis_walks, .func (PySem.W.fnOf "basis_walks" "basis_walks" (defArgs s_basis_walks) (defBody s_basis_walks) (defScope s_basis_walks) .none kV_basis_walks dc_basis_walks pm_basis_walks an_basis_walks cd_basis_walks ct_basis_walks), sl_basis_walks⟩) (c_basis_walks : PySem.W.codeIn K cd_basis_walks "basis_walks" = true) (k_basis_walks : PySem.W.keepIn K (.ref f_basis_walks) = true)
    (a__law_others : PySem.W.nsIn K mainGlobals "_law_others" = some (some (.ref f__law_others))) (l__law_others : K.lookup f__law_others = some ⟨oc__law_others, od__law_others, .func (PySem.W.fnOf "_law_others" "_law_others" (defArgs s__law_others) (defBody s__law_others) (defScope s__law_others) .none kV__law_others dc__law_others pm__law_others an__law_others cd__law_others ct__law_others), sl__law_others⟩) (c__law_others : PySem.W.codeIn K cd__law_others "_law_others" = true) (k__law_others : PySem.W.keepIn K (.ref f__law_others) = true)
    (a_tree : PySem.W.nsIn K mainGlobals "tree" = some (some (.ref f_tree))) (l_tree : K.lookup f_tree = some ⟨oc_tree, od_tree, .func (PySem.W.fnOf "tree" "tree" (defArgs s_tree) (defBody s_tree) (defScope s_tree) .none kV_tree dc_tree pm_tree an_tree cd_tree ct_tree), sl_tree⟩) (c_tree : PySem.W.codeIn K cd_tree "tree" = true) (k_tree : PySem.W.keepIn K (.ref f_tree) = true)
    (a_basis : PySem.W.nsIn K mainGlobals "basis" = some (some (.ref f_basis))) (l_basis : K.lookup f_basis = some ⟨oc_basis, od_basis, .func (PySem.W.fnOf "basis" "basis" (defArgs s_basis) (defBody s_basis) (defScope s_basis) .none kV_basis dc_basis pm_basis an_basis cd_basis ct_basis), sl_basis⟩) (c_basis : PySem.W.codeIn K cd_basis "basis" = true) (k_basis : PySem.W.keepIn K (.ref f_basis) = true)
    (a__law_basis : PySem.W.nsIn K mainGlobals "_law_basis" = some (some (.ref f__law_basis))) (l__law_basis : K.lookup f__law_basis = some ⟨oc__law_basis, od__law_basis, .func (PySem.W.fnOf "_law_basis" "_law_basis" (defArgs s__law_basis) (defBody s__law_basis) (defScope s__law_basis) .none kV__law_basis dc__law_basis pm__law_basis an__law_basis cd__law_basis ct__law_basis), sl__law_basis⟩) (c__law_basis : PySem.W.codeIn K cd__law_basis "_law_basis" = true) (k__law_basis : PySem.W.keepIn K (.ref f__law_basis) = true)
    (a__law_right : PySem.W.nsIn K mainGlobals "_law_right" = some (some (.ref f__law_right))) (l__law_right : K.lookup f__law_right = some ⟨oc__law_right, od__law_right, .func (PySem.W.fnOf "_law_right" "_law_right" (defArgs s__law_right) (defBody s__law_right) (defScope s__law_right) .none kV__law_right dc__law_right pm__law_right an__law_right cd__law_right ct__law_right), sl__law_right⟩) (c__law_right : PySem.W.codeIn K cd__law_right "_law_right" = true) (k__law_right : PySem.W.keepIn K (.ref f__law_right) = true)
    (a_law : PySem.W.nsIn K mainGlobals "law" = some (some (.ref f_law))) (l_law : K.lookup f_law = some ⟨oc_law, od_law, .func (PySem.W.fnOf "law" "law" (defArgs s_law) (defBody s_law) (defScope s_law) .none kV_law dc_law pm_law an_law cd_law ct_law), sl_law⟩) (c_law : PySem.W.codeIn K cd_law "law" = true) (k_law : PySem.W.keepIn K (.ref f_law) = true)
    (z_all : PySem.W.nsIn K mainGlobals "all" = some none)
    (z_any : PySem.W.nsIn K mainGlobals "any" = some none)
    (z_bool : PySem.W.nsIn K mainGlobals "bool" = some none)
    (z_enumerate : PySem.W.nsIn K mainGlobals "enumerate" = some none)
    (z_int : PySem.W.nsIn K mainGlobals "int" = some none)
    (z_isinstance : PySem.W.nsIn K mainGlobals "isinstance" = some none)
    (z_len : PySem.W.nsIn K mainGlobals "len" = some none)
    (z_list : PySem.W.nsIn K mainGlobals "list" = some none)
    (z_max : PySem.W.nsIn K mainGlobals "max" = some none)
    (z_min : PySem.W.nsIn K mainGlobals "min" = some none)
    (z_range : PySem.W.nsIn K mainGlobals "range" = some none)
    (z_repr : PySem.W.nsIn K mainGlobals "repr" = some none)
    (z_sorted : PySem.W.nsIn K mainGlobals "sorted" = some none)
    (z_tuple : PySem.W.nsIn K mainGlobals "tuple" = some none)
    (v_MOST_LETTERS : PySem.W.nsIn K mainGlobals "MOST_LETTERS" = some (some (.int 4 tc_MOST_LETTERS)))
    : ∃ fd : FuncData, (∀ (s : Shared) (v : Value), BindsTo s fd ⟨[v], []⟩ [("_law_script", v)]) ∧ ∀ base : Heap, K.In base → base.Ns mainGlobals mg → FnG l.prog w K mg base CX0 8 fa fd ["_law_script"] (sp_law K) := by
  have e := hfa.symm.trans (PySem.W.mg_of X G a_law)
  cases e
  have F_is_integer := fun_mk (st := s_is_integer) l_is_integer c_is_integer k_is_integer
  have F_steps_of := fun_mk (st := s_steps_of) l_steps_of c_steps_of k_steps_of
  have F_turned_back := fun_mk (st := s_turned_back) l_turned_back c_turned_back k_turned_back
  have F_step_table := fun_mk (st := s_step_table) l_step_table c_step_table k_step_table
  have F_ways_of := fun_mk (st := s_ways_of) l_ways_of c_ways_of k_ways_of
  have F__law_well := fun_mk (st := s__law_well) l__law_well c__law_well k__law_well
  have F__law_take := fun_mk (st := s__law_take) l__law_take c__law_take k__law_take
  have F__law_straight := fun_mk (st := s__law_straight) l__law_straight c__law_straight k__law_straight
  have F__law_steps := fun_mk (st := s__law_steps) l__law_steps c__law_steps k__law_steps
  have F__law_laid := fun_mk (st := s__law_laid) l__law_laid c__law_laid k__law_laid
  have F__law_back := fun_mk (st := s__law_back) l__law_back c__law_back k__law_back
  have F__law_ways := fun_mk (st := s__law_ways) l__law_ways c__law_ways k__law_ways
  have F_is_letters := fun_mk (st := s_is_letters) l_is_letters c_is_letters k_is_letters
  have F_is_row := fun_mk (st := s_is_row) l_is_row c_is_row k_is_row
  have F_first_reached : FunD K "first_reached" "first_reached" (defArgs s_first_reached) (defBody s_first_reached) (defScope s_first_reached) [V.int 0] [] f_first_reached _ := ⟨⟨_, _, _, _, _, _, _, _, _, _, rfl, l_first_reached, c_first_reached, .inr ⟨by simp, _, _, _, _, rfl, lT_first_reached, rfl, (.cons ⟨_, rfl⟩ .nil)⟩, .inl rfl⟩, k_first_reached⟩
  have F__law_named := fun_mk (st := s__law_named) l__law_named c__law_named k__law_named
  have F__law_doors := fun_mk (st := s__law_doors) l__law_doors c__law_doors k__law_doors
  have F_has_web_form := fun_mk (st := s_has_web_form) l_has_web_form c_has_web_form k_has_web_form
  have F_first_ways := fun_mk (st := s_first_ways) l_first_ways c_first_ways k_first_ways
  have F_tree_ways := fun_mk (st := s_tree_ways) l_tree_ways c_tree_ways k_tree_ways
  have F__law_web := fun_mk (st := s__law_web) l__law_web c__law_web k__law_web
  have F__law_firsts := fun_mk (st := s__law_firsts) l__law_firsts c__law_firsts k__law_firsts
  have F_right_table := fun_mk (st := s_right_table) l_right_table c_right_table k_right_table
  have F_other_ways := fun_mk (st := s_other_ways) l_other_ways c_other_ways k_other_ways
  have F__law_tree := fun_mk (st := s__law_tree) l__law_tree c__law_tree k__law_tree
  have F_checked_table := fun_mk (st := s_checked_table) l_checked_table c_checked_table k_checked_table
  have F_basis_walks := fun_mk (st := s_basis_walks) l_basis_walks c_basis_walks k_basis_walks
  have F__law_others := fun_mk (st := s__law_others) l__law_others c__law_others k__law_others
  have F_tree := fun_mk (st := s_tree) l_tree c_tree k_tree
  have F_basis := fun_mk (st := s_basis) l_basis c_basis k_basis
  have F__law_basis := fun_mk (st := s__law_basis) l__law_basis c__law_basis k__law_basis
  have F__law_right := fun_mk (st := s__law_right) l__law_right c__law_right k__law_right
  have F_law := fun_mk (st := s_law) l_law c_law k_law
  have b_is_integer := F_is_integer.binds (ps := P_is_integer) fun _ _ _ _ _ _ us hl => match us, hl with | [_], _ => rfl
  have b_steps_of := F_steps_of.binds (ps := P_steps_of) fun _ _ _ _ _ _ us hl => match us, hl with | [_], _ => rfl
  have b_turned_back := F_turned_back.binds (ps := P_turned_back) fun _ _ _ _ _ _ us hl => match us, hl with | [_], _ => rfl
  have b_step_table := F_step_table.binds (ps := P_step_table) fun _ _ _ _ _ _ us hl => match us, hl with | [_], _ => rfl
  have b_ways_of := F_ways_of.binds (ps := P_ways_of) fun _ _ _ _ _ _ us hl => match us, hl with | [_], _ => rfl
  have b__law_well := F__law_well.binds (ps := P__law_well) fun _ _ _ _ _ _ us hl => match us, hl with | [_, _], _ => rfl
  have b__law_take := F__law_take.binds (ps := P__law_take) fun _ _ _ _ _ _ us hl => match us, hl with | [_, _], _ => rfl
  have b__law_straight := F__law_straight.binds (ps := P__law_straight) fun _ _ _ _ _ _ us hl => match us, hl with | [_], _ => rfl
  have b__law_steps := F__law_steps.binds (ps := P__law_steps) fun _ _ _ _ _ _ us hl => match us, hl with | [_], _ => rfl
  have b__law_laid := F__law_laid.binds (ps := P__law_laid) fun _ _ _ _ _ _ us hl => match us, hl with | [_, _, _, _], _ => rfl
  have b__law_back := F__law_back.binds (ps := P__law_back) fun _ _ _ _ _ _ us hl => match us, hl with | [_], _ => rfl
  have b__law_ways := F__law_ways.binds (ps := P__law_ways) fun _ _ _ _ _ _ us hl => match us, hl with | [_], _ => rfl
  have b_is_letters := F_is_letters.binds (ps := P_is_letters) fun _ _ _ _ _ _ us hl => match us, hl with | [_], _ => rfl
  have b_is_row := F_is_row.binds (ps := P_is_row) fun _ _ _ _ _ _ us hl => match us, hl with | [_, _, _], _ => rfl
  have b0_first_reached := F_first_reached.binds1 (ps := P_first_reached) 2 0 (by simp) (by decide) fun _ _ _ _ _ _ _ us its h1 h2 => match us, its, h1, h2 with | [_, _], [_], _, _ => ⟨_, rfl, rfl⟩
  have b1_first_reached := F_first_reached.binds1 (ps := P_first_reached) 3 1 (by simp) (by decide) fun _ _ _ _ _ _ _ us its h1 h2 => match us, its, h1, h2 with | [_, _, _], [_], _, _ => ⟨_, rfl, rfl⟩
  have b__law_named := F__law_named.binds (ps := P__law_named) fun _ _ _ _ _ _ us hl => match us, hl with | [_, _, _], _ => rfl
  have b__law_doors := F__law_doors.binds (ps := P__law_doors) fun _ _ _ _ _ _ us hl => match us, hl with | [_], _ => rfl
  have b_has_web_form := F_has_web_form.binds (ps := P_has_web_form) fun _ _ _ _ _ _ us hl => match us, hl with | [_], _ => rfl
  have b_first_ways := F_first_ways.binds (ps := P_first_ways) fun _ _ _ _ _ _ us hl => match us, hl with | [_, _], _ => rfl
  have b_tree_ways := F_tree_ways.binds (ps := P_tree_ways) fun _ _ _ _ _ _ us hl => match us, hl with | [_, _], _ => rfl
  have b__law_web := F__law_web.binds (ps := P__law_web) fun _ _ _ _ _ _ us hl => match us, hl with | [_, _, _], _ => rfl
  have b__law_firsts := F__law_firsts.binds (ps := P__law_firsts) fun _ _ _ _ _ _ us hl => match us, hl with | [_], _ => rfl
  have b_right_table := F_right_table.binds (ps := P_right_table) fun _ _ _ _ _ _ us hl => match us, hl with | [_], _ => rfl
  have b_other_ways := F_other_ways.binds (ps := P_other_ways) fun _ _ _ _ _ _ us hl => match us, hl with | [_, _], _ => rfl
  have b__law_tree := F__law_tree.binds (ps := P__law_tree) fun _ _ _ _ _ _ us hl => match us, hl with | [_], _ => rfl
  have b_checked_table := F_checked_table.binds (ps := P_checked_table) fun _ _ _ _ _ _ us hl => match us, hl with | [_], _ => rfl
  have b_basis_walks := F_basis_walks.binds (ps := P_basis_walks) fun _ _ _ _ _ _ us hl => match us, hl with | [_, _], _ => rfl
  have b__law_others := F__law_others.binds (ps := P__law_others) fun _ _ _ _ _ _ us hl => match us, hl with | [_], _ => rfl
  have b_tree := F_tree.binds (ps := P_tree) fun _ _ _ _ _ _ us hl => match us, hl with | [_], _ => rfl
  have b_basis := F_basis.binds (ps := P_basis) fun _ _ _ _ _ _ us hl => match us, hl with | [_], _ => rfl
  have b__law_basis := F__law_basis.binds (ps := P__law_basis) fun _ _ _ _ _ _ us hl => match us, hl with | [_], _ => rfl
  have b__law_right := F__law_right.binds (ps := P__law_right) fun _ _ _ _ _ _ us hl => match us, hl with | [_], _ => rfl
  have b_law := F_law.binds (ps := P_law) fun _ _ _ _ _ _ us hl => match us, hl with | [_], _ => rfl
  have T : Tx K mg ⟨f_is_integer, _, f_steps_of, _, f_turned_back, _, f_step_table, _, f_ways_of, _, f__law_well, _, f__law_take, _, f__law_straight, _, f__law_steps, _, f__law_laid, _, f__law_back, _, f__law_ways, _, f_is_letters, _, f_is_row, _, f_first_reached, _, f__law_named, _, f__law_doors, _, f_has_web_form, _, f_first_ways, _, f_tree_ways, _, f__law_web, _, f__law_firsts, _, f_right_table, _, f_other_ways, _, f__law_tree, _, f_checked_table, _, f_basis_walks, _, f__law_others, _, f_tree, _, f_basis, _, f__law_basis, _, f__law_right, _, fa, _⟩ := {
    g_is_integer := PySem.W.mg_of X G a_is_integer, F_is_integer := F_is_integer, b_is_integer := b_is_integer,
    g_steps_of := PySem.W.mg_of X G a_steps_of, F_steps_of := F_steps_of, b_steps_of := b_steps_of,
    g_turned_back := PySem.W.mg_of X G a_turned_back, F_turned_back := F_turned_back, b_turned_back := b_turned_back,
    g_step_table := PySem.W.mg_of X G a_step_table, F_step_table := F_step_table, b_step_table := b_step_table,
    g_ways_of := PySem.W.mg_of X G a_ways_of, F_ways_of := F_ways_of, b_ways_of := b_ways_of,
    g__law_well := PySem.W.mg_of X G a__law_well, F__law_well := F__law_well, b__law_well := b__law_well,
    g__law_take := PySem.W.mg_of X G a__law_take, F__law_take := F__law_take, b__law_take := b__law_take,
    g__law_straight := PySem.W.mg_of X G a__law_straight, F__law_straight := F__law_straight, b__law_straight := b__law_straight,
    g__law_steps := PySem.W.mg_of X G a__law_steps, F__law_steps := F__law_steps, b__law_steps := b__law_steps,
    g__law_laid := PySem.W.mg_of X G a__law_laid, F__law_laid := F__law_laid, b__law_laid := b__law_laid,
    g__law_back := PySem.W.mg_of X G a__law_back, F__law_back := F__law_back, b__law_back := b__law_back,
    g__law_ways := PySem.W.mg_of X G a__law_ways, F__law_ways := F__law_ways, b__law_ways := b__law_ways,
    g_is_letters := PySem.W.mg_of X G a_is_letters, F_is_letters := F_is_letters, b_is_letters := b_is_letters,
    g_is_row := PySem.W.mg_of X G a_is_row, F_is_row := F_is_row, b_is_row := b_is_row,
    g_first_reached := PySem.W.mg_of X G a_first_reached, F_first_reached := F_first_reached, b0_first_reached := b0_first_reached, b1_first_reached := b1_first_reached,
    g__law_named := PySem.W.mg_of X G a__law_named, F__law_named := F__law_named, b__law_named := b__law_named,
    g__law_doors := PySem.W.mg_of X G a__law_doors, F__law_doors := F__law_doors, b__law_doors := b__law_doors,
    g_has_web_form := PySem.W.mg_of X G a_has_web_form, F_has_web_form := F_has_web_form, b_has_web_form := b_has_web_form,
    g_first_ways := PySem.W.mg_of X G a_first_ways, F_first_ways := F_first_ways, b_first_ways := b_first_ways,
    g_tree_ways := PySem.W.mg_of X G a_tree_ways, F_tree_ways := F_tree_ways, b_tree_ways := b_tree_ways,
    g__law_web := PySem.W.mg_of X G a__law_web, F__law_web := F__law_web, b__law_web := b__law_web,
    g__law_firsts := PySem.W.mg_of X G a__law_firsts, F__law_firsts := F__law_firsts, b__law_firsts := b__law_firsts,
    g_right_table := PySem.W.mg_of X G a_right_table, F_right_table := F_right_table, b_right_table := b_right_table,
    g_other_ways := PySem.W.mg_of X G a_other_ways, F_other_ways := F_other_ways, b_other_ways := b_other_ways,
    g__law_tree := PySem.W.mg_of X G a__law_tree, F__law_tree := F__law_tree, b__law_tree := b__law_tree,
    g_checked_table := PySem.W.mg_of X G a_checked_table, F_checked_table := F_checked_table, b_checked_table := b_checked_table,
    g_basis_walks := PySem.W.mg_of X G a_basis_walks, F_basis_walks := F_basis_walks, b_basis_walks := b_basis_walks,
    g__law_others := PySem.W.mg_of X G a__law_others, F__law_others := F__law_others, b__law_others := b__law_others,
    g_tree := PySem.W.mg_of X G a_tree, F_tree := F_tree, b_tree := b_tree,
    g_basis := PySem.W.mg_of X G a_basis, F_basis := F_basis, b_basis := b_basis,
    g__law_basis := PySem.W.mg_of X G a__law_basis, F__law_basis := F__law_basis, b__law_basis := b__law_basis,
    g__law_right := PySem.W.mg_of X G a__law_right, F__law_right := F__law_right, b__law_right := b__law_right,
    g_law := PySem.W.mg_of X G a_law, F_law := F_law, b_law := b_law,
    n_all := PySem.W.mg_none_of X G z_all,
    n_any := PySem.W.mg_none_of X G z_any,
    n_bool := PySem.W.mg_none_of X G z_bool,
    n_enumerate := PySem.W.mg_none_of X G z_enumerate,
    n_int := PySem.W.mg_none_of X G z_int,
    n_isinstance := PySem.W.mg_none_of X G z_isinstance,
    n_len := PySem.W.mg_none_of X G z_len,
    n_list := PySem.W.mg_none_of X G z_list,
    n_max := PySem.W.mg_none_of X G z_max,
    n_min := PySem.W.mg_none_of X G z_min,
    n_range := PySem.W.mg_none_of X G z_range,
    n_repr := PySem.W.mg_none_of X G z_repr,
    n_sorted := PySem.W.mg_none_of X G z_sorted,
    n_tuple := PySem.W.mg_none_of X G z_tuple,
    c_MOST_LETTERS := ⟨_, PySem.W.mg_of X G v_MOST_LETTERS⟩ }
  exact ⟨PySem.W.fnOf "law" "law" (defArgs s_law) (defBody s_law) (defScope s_law) .none kV_law dc_law pm_law an_law cd_law ct_law, fun s v => .of_eq rfl, fun base _ _ => ok_law T⟩

end Lw
open PySem PySem.W PyProof.Rows
set_option maxHeartbeats 0 in
theorem PySem.Challenge.cw_walkclubs_k13_trees_and_bases_holds : PySem.Challenge.rw_walkclubs_k13_trees_and_bases.Holds := by
  w_on; o_law; k_head; (case hw => w_witness2)
  k_fill
  refine L2.walk_quiet (l := PySem.Challenge.rw_walkclubs_k13_trees_and_bases) (n := 63) (k := 8) (x := "_law_script") (CX := fun _ => L2.CX0) (sp := fun w => Lw.sp_law _) rfl (by decide) rfl ⟨rfl, by decide, by decide⟩ (fun w h Y => PySem.W.kIn_of Y) ?F (fun _ _ a ns hl _ hS => ⟨a, ns, rfl, hS, hl, fun _ => rfl⟩) (fun _ _ _ _ _ h => h)
  case F =>
    intro w mg fa h KX G hmg
    refine' Lw.all_mk KX G hmg ?a_is_integer ?l_is_integer ?c_is_integer ?k_is_integer ?a_steps_of ?l_steps_of ?c_steps_of ?k_steps_of ?a_turned_back ?l_turned_back ?c_turned_back ?k_turned_back ?a_step_table ?l_step_table ?c_step_table ?k_step_table ?a_ways_of ?l_ways_of ?c_ways_of ?k_ways_of ?a__law_well ?l__law_well ?c__law_well ?k__law_well ?a__law_take ?l__law_take ?c__law_take ?k__law_take ?a__law_straight ?l__law_straight ?c__law_straight ?k__law_straight ?a__law_steps ?l__law_steps ?c__law_steps ?k__law_steps ?a__law_laid ?l__law_laid ?c__law_laid ?k__law_laid ?a__law_back ?l__law_back ?c__law_back ?k__law_back ?a__law_ways ?l__law_ways ?c__law_ways ?k__law_ways ?a_is_letters ?l_is_letters ?c_is_letters ?k_is_letters ?a_is_row ?l_is_row ?c_is_row ?k_is_row ?a_first_reached ?l_first_reached ?c_first_reached ?k_first_reached ?lT_first_reached ?a__law_named ?l__law_named ?c__law_named ?k__law_named ?a__law_doors ?l__law_doors ?c__law_doors ?k__law_doors ?a_has_web_form ?l_has_web_form ?c_has_web_form ?k_has_web_form ?a_first_ways ?l_first_ways ?c_first_ways ?k_first_ways ?a_tree_ways ?l_tree_ways ?c_tree_ways ?k_tree_ways ?a__law_web ?l__law_web ?c__law_web ?k__law_web ?a__law_firsts ?l__law_firsts ?c__law_firsts ?k__law_firsts ?a_right_table ?l_right_table ?c_right_table ?k_right_table ?a_other_ways ?l_other_ways ?c_other_ways ?k_other_ways ?a__law_tree ?l__law_tree ?c__law_tree ?k__law_tree ?a_checked_table ?l_checked_table ?c_checked_table ?k_checked_table ?a_basis_walks ?l_basis_walks ?c_basis_walks ?k_basis_walks ?a__law_others ?l__law_others ?c__law_others ?k__law_others ?a_tree ?l_tree ?c_tree ?k_tree ?a_basis ?l_basis ?c_basis ?k_basis ?a__law_basis ?l__law_basis ?c__law_basis ?k__law_basis ?a__law_right ?l__law_right ?c__law_right ?k__law_right ?a_law ?l_law ?c_law ?k_law ?z_all ?z_any ?z_bool ?z_enumerate ?z_int ?z_isinstance ?z_len ?z_list ?z_max ?z_min ?z_range ?z_repr ?z_sorted ?z_tuple ?v_MOST_LETTERS
    (case a_is_integer => k_is); (case l_is_integer => k_is); (case c_is_integer => k_is); (case k_is_integer => k_is); (case a_steps_of => k_is); (case l_steps_of => k_is); (case c_steps_of => k_is); (case k_steps_of => k_is); (case a_turned_back => k_is); (case l_turned_back => k_is); (case c_turned_back => k_is); (case k_turned_back => k_is); (case a_step_table => k_is); (case l_step_table => k_is); (case c_step_table => k_is); (case k_step_table => k_is); (case a_ways_of => k_is); (case l_ways_of => k_is); (case c_ways_of => k_is); (case k_ways_of => k_is); (case a__law_well => k_is); (case l__law_well => k_is); (case c__law_well => k_is); (case k__law_well => k_is); (case a__law_take => k_is); (case l__law_take => k_is); (case c__law_take => k_is); (case k__law_take => k_is); (case a__law_straight => k_is); (case l__law_straight => k_is); (case c__law_straight => k_is); (case k__law_straight => k_is); (case a__law_steps => k_is); (case l__law_steps => k_is); (case c__law_steps => k_is); (case k__law_steps => k_is); (case a__law_laid => k_is); (case l__law_laid => k_is); (case c__law_laid => k_is); (case k__law_laid => k_is); (case a__law_back => k_is); (case l__law_back => k_is); (case c__law_back => k_is); (case k__law_back => k_is); (case a__law_ways => k_is); (case l__law_ways => k_is); (case c__law_ways => k_is); (case k__law_ways => k_is); (case a_is_letters => k_is); (case l_is_letters => k_is); (case c_is_letters => k_is); (case k_is_letters => k_is); (case a_is_row => k_is); (case l_is_row => k_is); (case c_is_row => k_is); (case k_is_row => k_is); (case a_first_reached => k_is); (case l_first_reached => k_is); (case c_first_reached => k_is); (case k_first_reached => k_is); (case lT_first_reached => k_is); (case a__law_named => k_is); (case l__law_named => k_is); (case c__law_named => k_is); (case k__law_named => k_is); (case a__law_doors => k_is); (case l__law_doors => k_is); (case c__law_doors => k_is); (case k__law_doors => k_is); (case a_has_web_form => k_is); (case l_has_web_form => k_is); (case c_has_web_form => k_is); (case k_has_web_form => k_is); (case a_first_ways => k_is); (case l_first_ways => k_is); (case c_first_ways => k_is); (case k_first_ways => k_is); (case a_tree_ways => k_is); (case l_tree_ways => k_is); (case c_tree_ways => k_is); (case k_tree_ways => k_is); (case a__law_web => k_is); (case l__law_web => k_is); (case c__law_web => k_is); (case k__law_web => k_is); (case a__law_firsts => k_is); (case l__law_firsts => k_is); (case c__law_firsts => k_is); (case k__law_firsts => k_is); (case a_right_table => k_is); (case l_right_table => k_is); (case c_right_table => k_is); (case k_right_table => k_is); (case a_other_ways => k_is); (case l_other_ways => k_is); (case c_other_ways => k_is); (case k_other_ways => k_is); (case a__law_tree => k_is); (case l__law_tree => k_is); (case c__law_tree => k_is); (case k__law_tree => k_is); (case a_checked_table => k_is); (case l_checked_table => k_is); (case c_checked_table => k_is); (case k_checked_table => k_is); (case a_basis_walks => k_is); (case l_basis_walks => k_is); (case c_basis_walks => k_is); (case k_basis_walks => k_is); (case a__law_others => k_is); (case l__law_others => k_is); (case c__law_others => k_is); (case k__law_others => k_is); (case a_tree => k_is); (case l_tree => k_is); (case c_tree => k_is); (case k_tree => k_is); (case a_basis => k_is); (case l_basis => k_is); (case c_basis => k_is); (case k_basis => k_is); (case a__law_basis => k_is); (case l__law_basis => k_is); (case c__law_basis => k_is); (case k__law_basis => k_is); (case a__law_right => k_is); (case l__law_right => k_is); (case c__law_right => k_is); (case k__law_right => k_is); (case a_law => k_is); (case l_law => k_is); (case c_law => k_is); (case k_law => k_is); (case z_all => k_is); (case z_any => k_is); (case z_bool => k_is); (case z_enumerate => k_is); (case z_int => k_is); (case z_isinstance => k_is); (case z_len => k_is); (case z_list => k_is); (case z_max => k_is); (case z_min => k_is); (case z_range => k_is); (case z_repr => k_is); (case z_sorted => k_is); (case z_tuple => k_is); (case v_MOST_LETTERS => k_is)

#print axioms PySem.Challenge.cw_walkclubs_k13_trees_and_bases_holds
