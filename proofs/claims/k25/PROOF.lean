import PyProof.Rows.All
import Wide.All
import OpenK.AllK
import Wide.FinOn
import HandS.ForMost
import HandS.Flow
import HandS.IsInst
import HandS.Style
import HandS.TupAny
import HandS.TupMul
import HandS.Wide
import HandS.Evl
import HandS.SortKw
import PyProof.ReprReads
import HandS.Zip
import PyProof.ReprLen
import KE.GoesNew
import KE.GoesMore
import KE.GoesEnum
import PyProof.ReprRoads
import HandS.Conv
import PyProof.ReprBulk
import HandS.WideMore
import HandS.WideBits
import HandS.RaiseMore
import HandS.Gcd
import KE.KMathGC
import PyProof.AutoIntOps
import HandS.DictComp
import HandS.ListItems
import HandS.Iter
import KE.KDictList
import HandS.TupLe
import PyProof.P3Eq
import KE.GoesEnumKw
import PyProof.Rows.CallKwBuiltin
import HandS.More
import HandS.WordsDict
import HandS.SetKeys
import HandS.DictTup
import HandS.TupLen
import HandS.Defaults
import HandS.List
import KE.KDictDisplayH
import HandS.Finally
import PyProof.CallFns
import HandS.TupSets
import HandS.Deep
import HandS.TryOnly
import KE.DataCmp
import KE.KMinKey
import KE.DataMinKey
import KE.KDictSum
import KE.KSortKey
import HandS.SortInts
import HandS.RepeatKit
import HandS.Sort
import PySem.Builtin.Itertools.W3Part3
import KE.KDictPairs
import KE.KDictCopyH
import PyProof.TupleOfSeq
import KE.KDictKeyed
import PySem.Challenge.RW_walkclubs_k25_walks_with_wanted_powers
set_option Elab.async false
set_option linter.all false
set_option maxRecDepth 100000
set_option maxHeartbeats 4000000
namespace Qt
structure Bx (α : Type) where
  x : α
instance bxI (α : Type) : Coe α (Bx α) := ⟨fun n => ⟨n⟩⟩
theorem dq {α : Type} (_o : Bx α) (h : False) : False := h
theorem two (α : Type) {q : Prop} (h : q) : q := h
theorem drp {p : Prop} (b : p) (_h : ∀ (q : Prop) (t : Type) (c : t) (hf : False), q) : p := b
end Qt
local macro_rules | `(tactic| walk_at "end") => `(tactic| (intro q t c hf; refine @Qt.two ?al q ?x; (case x => simpa using (@Qt.dq ?al c hf)); (case al => assumption)))
namespace HT
open PySem PySem.Spec PyProof.Rows
section
variable {prog : Program} {w : World} {A : Around} {E : Value → Shared → Prop} {s : Shared}
theorem wk_pick (xs : Array Value) : ((List.range xs.size).filterMap fun (k : Nat) => xs[((((xs.size : Nat) : Int) - 1) + (k : Int) * (-1)).toNat]?).toArray = xs.toList.reverse.toArray := by
  have e : (List.range xs.size).filterMap (fun (k : Nat) => xs[((((xs.size : Nat) : Int) - 1) + (k : Int) * (-1)).toNat]?) = ((List.range xs.size).map fun k => xs.size - 1 - k).filterMap (xs[·]?) := by
    rw [List.filterMap_map]
    have e0 : (fun (k : Nat) => xs[((((xs.size : Nat) : Int) - 1) + (k : Int) * (-1)).toNat]?) = ((xs[·]?) ∘ fun k => xs.size - 1 - k) := by
      funext k
      have e1 : ((((xs.size : Nat) : Int) - 1) + (k : Int) * (-1)).toNat = xs.size - 1 - k := by omega
      show xs[((((xs.size : Nat) : Int) - 1) + (k : Int) * (-1)).toNat]? = xs[xs.size - 1 - k]?
      rw [e1]
    rw [e0]
  rw [e, PySem.W.krv_range, List.filterMap_reverse, PySem.W.krv_all]
theorem wk_places (n : Nat) : Builtin.Slice.slicePlaces ((n : Int) - 1) (-1) (-1) = n := by
  unfold Builtin.Slice.slicePlaces
  rw [if_neg (by decide)]
  by_cases h : n = 0
  · subst h
    rfl
  · rw [if_pos (by omega), show (- -1 : Int) = 1 from rfl, Int.ediv_one]
    omega
theorem wk_applied {sl : Addr} {vs : Value} {n : Nat} {Q : Int × Int × Nat → Shared → Prop} (hs : s.heap.IsSliceOf sl .none .none vs) (ps : IsPart vs (some (-1)))
    (h : Q ((n : Int) - 1, -1, n) s) : wpAny (model prog w) A (Builtin.Slice.sliceApplied (.ref sl) (pure (n : Int))) Q E s := by
  obtain ⟨os, hos, hcs, hds⟩ := id hs
  unfold Builtin.Slice.sliceApplied Builtin.Slice.sliceFields
  refine wpAny_bind (wpAny_bind (wpAny_field hos hds (x := .none) rfl (wpAny_bind (wpAny_field hos hds (x := .none) rfl (wpAny_bind (wpAny_field hos hds (x := vs) rfl (wpAny_pure ?_)))))))
  refine wpAny_bind (slicePart_ ps ?_)
  show wpAny _ _ (if ((-1 : Int) == 0) = true then _ else _) _ _ s
  rw [if_neg (by decide)]
  refine wpAny_bind (slicePart_none (wpAny_bind (slicePart_none (wpAny_bind (wpAny_pure ?_)))))
  show wpAny _ _ (pure (((n : Int) - 1), (-1 : Int), Builtin.Slice.slicePlaces ((n : Int) - 1) (-1) (-1))) _ _ s
  rw [wk_places]
  exact wpAny_pure h
theorem wk_getItem_tuple_rev {t sl : Addr} {items : Array Value} {vs : Value} {Q : Value → Shared → Prop} (ht : IsTup s.heap t items) (hs : s.heap.IsSliceOf sl .none .none vs) (ps : IsPart vs (some (-1)))
    (h : Q (.ref s.heap.objs.size) { s with heap := s.heap.push { cls := .type "tuple", data := .seq items.toList.reverse.toArray } })
    (hsz : items.size ≤ sizeLine) : wpAny (model prog w) A (getItem (.ref t) (.ref sl)) Q E s := by
  have htake : sizeOk (.seq items.toList.reverse.toArray) := by
    show items.toList.reverse.toArray.size ≤ sizeLine
    rw [List.size_toArray, List.length_reverse, Array.length_toList]
    exact hsz
  obtain ⟨os, hos, hcs, hds⟩ := id hs
  have hTs : s.TypeIs (.ref sl) "slice" := ⟨os, hos, hcs⟩
  unfold getItem
  try with_reducible refine wpAny_holding ?_
  first | refine wpAny_bind (wpAny_pure ?_) | skip
  refine wpAny_bind (wpAny_sequenceKey ht.typeIs (by decide) ?_)
  refine wpAny_bind (wpAny_callSpecial?_slot (name := Str.ofString "__getitem__") ht.typeIs PyProof.Rows.slot_tuple_getitem
    (wpAny_call_entry PyProof.Rows.slot_tuple_getitem ht.typeIs entry_tuple_getitem ?_ (args_tuple_getitem _ _)))
  show wpAny _ _ (Builtin.Tuple.tupleItemsOf (.ref t) >>= _) _ _ s
  refine wpAny_bind (tupleItemsOf_ ht ?_)
  refine wpAny_bind (wpAny_typeOf hTs ?_)
  rw [if_pos (by decide)]
  refine wpAny_bind (wk_applied hs ps ?_)
  have hno : ¬ (((((items.size : Nat) : Int) - 1) == 0 && (-1 : Int) == 1 && items.size == items.size) = true) := by
    intro q
    rw [Bool.and_eq_true, Bool.and_eq_true] at q
    exact absurd q.1.2 (by decide)
  show wpAny _ _ (if ((((items.size : Nat) : Int) - 1) == 0 && (-1 : Int) == 1 && items.size == items.size) = true then _ else _) _ _ s
  rw [if_neg hno, wk_pick]
  first
    | exact wpAny_bind (m := Builtin.Tuple.tupleExact _) (wpAny_newObj_type (wpAny_pure ⟨_, rfl, wpAny_pure h⟩) htake)
    | exact wpAny_bind (m := Builtin.Tuple.tupleExact _) (wpAny_newObj_type (wpAny_bind (wpAny_pure (wpAny_pure ⟨_, rfl, wpAny_pure h⟩))) htake)
    | exact wpAny_bind (wpAny_bind (m := Builtin.Tuple.tupleExact _) (wpAny_newObj_type (wpAny_pure (wpAny_pure ⟨_, rfl, wpAny_pure h⟩)) htake))
    | exact wpAny_bind (wpAny_bind (m := Builtin.Tuple.tupleExact _) (wpAny_newObj_type (wpAny_pure ⟨_, rfl, wpAny_pure h⟩) htake))
end
end HT
namespace L2
open PySem PySem.Spec PyProof.Rows HT
def CPowW (i j : Int) : Prop := 0 ≤ j ∧ (Builtin.Int.intBits i : Int) * j ≤ 2 ^ 27
section
variable {X : Cx}
theorem op_powW : OpR X (binaryOp .Pow) (rI CPowW fun i j => .int (i ^ j.toNat)) := opI fun _ _ _ _ _ _ _ hc q => pow_int hc.1 hc.2 q
end
theorem wide_bits {i : Int} {a : Nat} (h0 : 0 < a) (ha : i.natAbs < 2 ^ a) : Builtin.Int.intBits i ≤ a := by
  have x := PySem.Flt.log2_lt_of h0 ha
  unfold Builtin.Int.intBits
  split <;> omega
theorem wide_pow {i : Int} {a k : Nat} (h0 : 0 < a) (ha : i.natAbs < 2 ^ a) (h : a * k ≤ 134217728) : CPowW i (k : Int) := by
  refine ⟨by omega, ?_⟩
  have x := wide_bits h0 ha
  have y : Builtin.Int.intBits i * k ≤ a * k := Nat.mul_le_mul_right k x
  have z : ((Builtin.Int.intBits i * k : Nat) : Int) ≤ 2 ^ 27 := by
    have : Builtin.Int.intBits i * k ≤ 134217728 := Nat.le_trans y h
    have e : (2 : Int) ^ 27 = 134217728 := by decide
    rw [e]
    omega
  rw [Int.natCast_mul] at z
  exact z
theorem wk_tuple_same (l : Addr) (items : Array Value) (n : Nat) (dd : Option Addr) (sl : Array (Option Value)) (x : Int) (u : Tok) (c0 : (decide (x < -(2 ^ 63)) || decide (x ≥ 2 ^ 63)) = false) (c1 : (items.isEmpty || x == 1) = true) :
    Meets (Builtin.«tuple.__mul__» ⟨[.ref l, .int x u], []⟩) (fun _ R s => s.heap.get? l = some { cls := .type "tuple", dict := dd, data := .seq items n, slots := sl } ∧ R (.ok (.ret (Value.ref l))) s) :=
  .of_wp fun prog w A R s h => by
    obtain ⟨hp, g, d, tk, os⟩ := s
    obtain ⟨hl, h⟩ := h
    have f1 := AutoSeq1.idx_int
    wp_walk using wpAny_loadPart' hl
    repeat (first
      | (refine wpAny_ite_false (decide_eq_false (by rw [c0]; exact Bool.false_ne_true)) ?_; wp_walk using wpAny_loadPart' hl)
      | (refine wpAny_ite_true (decide_eq_true c1) ?_; wp_walk using wpAny_loadPart' hl))
    exact ⟨_, rfl, h⟩
theorem wk_tuple_none (l : Addr) (items : Array Value) (n : Nat) (dd : Option Addr) (sl : Array (Option Value)) (x : Int) (u : Tok) (c0 : (decide (x < -(2 ^ 63)) || decide (x ≥ 2 ^ 63)) = false) (c1 : (items.isEmpty || x == 1) = false) (c2 : (decide (x ≤ 0) || items.isEmpty) = true) :
    Meets (Builtin.«tuple.__mul__» ⟨[.ref l, .int x u], []⟩) (fun _ R s => s.heap.get? l = some { cls := .type "tuple", dict := dd, data := .seq items n, slots := sl } ∧
      R (.ok (.ret (Value.ref s.heap.objs.size))) { s with heap := s.heap.push { cls := Value.type "tuple", data := Data.seq #[] }, toks := s.toks }) :=
  .of_wp fun prog w A R s h => by
    obtain ⟨hp, g, d, tk, os⟩ := s
    obtain ⟨hl, h⟩ := h
    have f1 := AutoSeq1.idx_int
    wp_walk using wpAny_loadPart' hl
    repeat (first
      | (refine wpAny_ite_false (decide_eq_false (by rw [c0]; exact Bool.false_ne_true)) ?_; wp_walk using wpAny_loadPart' hl)
      | (refine wpAny_ite_false (decide_eq_false (by rw [c1]; exact Bool.false_ne_true)) ?_; wp_walk using wpAny_loadPart' hl)
      | (refine wpAny_ite_true (decide_eq_true c2) ?_; wp_walk using wpAny_loadPart' hl))
    exact ⟨_, rfl, h⟩
def rRepTA (K : PySem.W.Frag) : R2 := fun x y H Q => ∃ l k xs, x = .ref l ∧ y = .int k ∧ SqT K H l xs ∧ 0 ≤ k ∧ k ≤ 1000 ∧ xs.length ≤ 1000 ∧
  (xs = [] ∨ k = 1 → Q (.ref l) H) ∧ (¬ (xs = [] ∨ k = 1) → ∀ p, H p = none → Q (.ref p) (upd H p (.tup (List.replicate k.toNat xs).flatten)))
section
variable {X : Cx}
theorem op_repTA : OpR X (binaryOp .Mult) (rRepTA X.K) := by
  refine Qt.drp ?_ ?_
  · intro pins s σ H x y v u Q I rx ry h
    obtain ⟨l, k, xs, rfl, rfl, hT, h1, h2, hz, q1, q2⟩ := h
    by_cases h2k : 2 ≤ k ∧ xs ≠ []
    · exact op_repT pins s σ H _ _ v u Q I rx ry ⟨l, k, xs, rfl, rfl, hT, h2k.2, h2k.1, h2, hz, q2 (fun z => z.elim h2k.2 fun e => by have := h2k.1; omega)⟩
    · cases rx
      obtain ⟨t, rfl⟩ := ry
      obtain ⟨its, r, ⟨⟨cls, dd, data, sl⟩, ho, hc, n, hd⟩, hs⟩ := I.tuple hT
      simp only at hc hd
      subst hc hd
      have hle : its.length = xs.length := r.length.symm
      have c0 : (decide (k < -(2 ^ 63)) || decide (k ≥ 2 ^ 63)) = false := by
        rw [decide_eq_false (by omega), decide_eq_false (by omega)] <;> rfl
      have hi : its.toArray.isEmpty = decide (xs = []) := by
        cases its with
        | nil =>
          have e : xs = [] := List.eq_nil_of_length_eq_zero (by simpa using hle.symm)
          subst e
          rfl
        | cons a b =>
          have e : xs ≠ [] := fun z => by
            subst z
            simp at hle
          rw [decide_eq_false e]
          rfl
      by_cases hw : xs = [] ∨ k = 1
      · have c1 : (its.toArray.isEmpty || k == 1) = true := by
          rw [hi]
          rcases hw with e | e
          · simp [e]
          · simp [e]
        refine wpAny_binaryOp_repeat_ref (T := "tuple") (U := "int") (by decide) ⟨_, ho, rfl⟩ (fun s' => typeIs_int s' k t) noFill_tuple_mul F.fills_int_mul F.slot_int_rmul repeat_tuple F.slot_int_index.lookup
          (call_meets F.slot_int_rmul (typeIs_int s k t) F.entry_int_rmul (F.args_int_rmul_2 _ _) (int_rmul_tuple k t l its.toArray n dd sl)
            ⟨ho, rfl, ⟨_, ho, rfl⟩, call_meets F.slot_tuple_mul ⟨_, ho, rfl⟩ F.entry_tuple_mul (F.args_tuple_mul_2 _ _) (wk_tuple_same l its.toArray n dd sl k t c0 c1) ⟨ho, ?_⟩⟩)
        exact ⟨.ref l, H, I, rfl, q1 hw⟩
      · have hne : xs ≠ [] := fun e => hw (.inl e)
        have hk0 : k = 0 := by
          have h3 : ¬ 2 ≤ k := fun z => h2k ⟨z, hne⟩
          have h4 : k ≠ 1 := fun z => hw (.inr z)
          omega
        have c1 : (its.toArray.isEmpty || k == 1) = false := by
          rw [hi, decide_eq_false hne, hk0]
          rfl
        have c2 : (decide (k ≤ 0) || its.toArray.isEmpty) = true := by
          rw [hk0]
          rfl
        refine wpAny_binaryOp_repeat_ref (T := "tuple") (U := "int") (by decide) ⟨_, ho, rfl⟩ (fun s' => typeIs_int s' k t) noFill_tuple_mul F.fills_int_mul F.slot_int_rmul repeat_tuple F.slot_int_index.lookup
          (call_meets F.slot_int_rmul (typeIs_int s k t) F.entry_int_rmul (F.args_int_rmul_2 _ _) (int_rmul_tuple k t l its.toArray n dd sl)
            ⟨ho, rfl, ⟨_, ho, rfl⟩, call_meets F.slot_tuple_mul ⟨_, ho, rfl⟩ F.entry_tuple_mul (F.args_tuple_mul_2 _ _) (wk_tuple_none l its.toArray n dd sl k t c0 c1 c2) ⟨ho, ?_⟩⟩)
        refine ⟨.ref s.heap.objs.size, _, I.laid (t' := s.toks) (o := .tup (List.replicate k.toNat xs).flatten) (fun b ob q => Heap.get?_push_of_some _ q) (Nat.le_refl _) ?_, rfl, q2 hw _ (I.hok.fresh (Nat.le_refl _))⟩
        subst hk0
        exact ⟨Nat.zero_le _, [], .nil, IsTup.new _ _⟩
  walk_at "end"
end
section
variable {X : Cx} {CX : CXT} {k : Nat} {f : Addr} {fd : FuncData} {ps ks : List Str} {sp : Sp} {E : XK} {x : Str} {p pos : Pos} {kws : List Keyword} {tk : TA} {g : List Value → List Value → List Value} {gV : List V → List V → List V}
theorem pe_callK0 (F : FnOk X.prog X.w X.K X.mg X.base CX k f fd ps sp) (hr : Room k X.A) (hg : Gl X x) (hm : X.mg x = some (.ref f)) (hk : PySem.W.keepIn X.K (.ref f) = true) (hb : KBinds X.K fd ps ks g gV) (hx : Passes CX X E)
    (hkw : PK X kws tk) (hall : (backToKw pos (keywordEach kws X.env)).all (·.1.isSome) = true := by rfl) (hks : (backToKw pos (keywordEach kws X.env)).filterMap (·.1) = ks := by rfl)
    (hdb : (x == ("__debug__" : Str)) = false := by decide)
    (hpl : ((backTo pos (starEach [] X.env)).any (·.1) || (backToKw pos (keywordEach kws X.env)).any (·.1.isNone)) = false := by rfl) :
    PE X (.Call (.Name x p) [] kws pos) (tCallK sp gV E tNil tk) := by
  refine ⟨fun pins s σ H Q I h => ?_⟩
  refine wpAny_Call_Name_kw (ld_glob I hg hm ?_ hdb)
  refine PySem.W.callWith_KW0 (h₀ := X.base) I.ok.mod.kin hk hall ?_ hpl
  refine thn (hkw.run pos pins s σ H _ I h) fun ws s2 ⟨zs, H2, I2, rz, q2⟩ => ⟨I2.kIn, ?_⟩
  rw [hks]
  exact run_fnk (us := []) (vs := []) F hr hb hx I2 .nil rz q2
end
end L2
namespace L2
open PySem PySem.Spec PyProof.Rows Evl
def rAddI : R2 := rI0 fun i j => .int (i + j)
def rMulI : R2 := rI CMul fun i j => .int (i * j)
def rMulJ : R2 := rI CMulW fun i j => .int (i * j)
def rAddU (K : PySem.W.Frag) : R2 := fun x y H Q => rAddI x y H Q ∨ rCat x y H Q ∨ rCatA K x y H Q
def rMulU (K : PySem.W.Frag) : R2 := fun x y H Q => rMulI x y H Q ∨ rMulJ x y H Q ∨ rRep x y H Q ∨ rRepTA K x y H Q
def rEqU (K : PySem.W.Frag) : R2 := fun x y H Q => rEq x y H Q ∨ rEqD K x y H Q
def rNeU (K : PySem.W.Frag) : R2 := fun x y H Q => rNe x y H Q ∨ rNeD K x y H Q
def rSlU (K : PySem.W.Frag) : V → Option Int → Option Int → Hp → VK → Prop := fun x lo hi H Q => rSlL K x lo hi H Q ∨ rSlA K x lo hi H Q
section
variable {X : Cx}
theorem op_addU : OpR X (binaryOp .Add) (rAddU X.K) := op_add.or (op_cat.or op_catA)
theorem op_mulU : OpR X (binaryOp .Mult) (rMulU X.K) := op_mul.or (op_mulW.or (op_rep.or op_repTA))
theorem op_eqU (hu : X.A.units + 64 < cLine) : OpR X (compareOp .Eq) (rEqU X.K) := op_eq.or (op_eqD hu)
theorem op_neU (hu : X.A.units + 64 < cLine) : OpR X (compareOp .NotEq) (rNeU X.K) := op_ne.or (op_neD hu)
theorem sl_U : SlR X (rSlU X.K) := sl_list.or sl_tupA
def tRevU (K : PySem.W.Frag) (te : TE) : TE := fun σ H Q => te σ H fun x H1 => (∃ a xs, x = .ref a ∧ SqL K H1 a xs ∧ ∀ p, H1 p = none → Q (.ref p) (upd H1 p (.lst xs.reverse))) ∨ (∃ a xs, x = .ref a ∧ SqT K H1 a xs ∧ ∀ p, H1 p = none → Q (.ref p) (upd H1 p (.tup xs.reverse)))
/-- the reading of a part may be parted: what it gives is one of two -/
theorem pe_revU {e : Expr} {te : TE} {k : Nat} {p1 p2 p3 pos : Pos} (he : PE X e te) : PE X (.Subscript e (.Slice none none (some (.UnaryOp .USub (.Constant (.int 1) k p1) p2)) p3) pos) (tRevU X.K te) := by
  refine Qt.drp ?_ ?_
  · refine ⟨fun pins s σ H Q I h => ?_⟩
    refine Subscript_ (thn (he.run pins s σ H _ I h) fun v s1 ⟨x, H1, I1, r1, q1⟩ => ?_)
    have hst : PO X (some (.UnaryOp .USub (.Constant (.int 1) k p1) p2)) (tPart (tUn (rU fun i => .int (-i)) (tC (.int 1)))) := po_some (pe_un un_neg pe_int)
    refine wpAny_Slice (thn (po_none.run pins s1 σ H1 (fun o H2 => o = none ∧ H2 = H1) I1 ⟨rfl, rfl⟩) fun vl s2 ⟨l, H2, I2, pl, el, e2⟩ => ?_)
    subst el e2
    cases pl
    refine thn (po_none.run pins s2 σ H2 (fun o H3 => o = none ∧ H3 = H2) I2 ⟨rfl, rfl⟩) fun vu s3 ⟨u, H3, I3, pu, eu, e3⟩ => ?_
    subst eu e3
    cases pu
    refine thn (hst.run pins s3 σ H3 (fun o H4 => o = some (-1) ∧ H4 = H3) I3 ⟨1, rfl, -1, rfl, rfl, rfl⟩) fun vs s4 ⟨o, H4, I4, ps, eo, e4⟩ => ?_
    subst eo e4
    have I5 : Inv X pins σ H4 { s4 with heap := s4.heap.push { cls := .type "slice", data := .fields #[.none, .none, vs] } } := I4.kept (t' := s4.toks) fun b ob q => Heap.get?_push_of_some _ q
    rcases q1 with ⟨a, xs, ex, hx, q⟩ | ⟨a, xs, ex, hx, q⟩
    · subst ex
      cases r1
      obtain ⟨its, r, ht, hz⟩ := I5.list hx
      have hlen := r.length
      show wpAny (model X.prog X.w) X.A (subscriptTail e (.Slice none none (some (.UnaryOp .USub (.Constant (.int 1) k p1) p2)) p3) (.ref a) (.ref s4.heap.objs.size)) (EP X pins σ Q) X.xe { s4 with heap := s4.heap.push { cls := .type "slice", data := .fields #[.none, .none, vs] } }
      refine tail_any (ops := [.ref a, .ref s4.heap.objs.size]) ht.isList.typeIs (PySem.slot_list_getitem.lookup) ?_ (by with_unfolding_all rfl)
      refine wpAny_getItem_list_slice ht.isList (Heap.IsSliceOf.new _ .none .none vs) .none .none ps (by decide) ?_ (by rw [List.size_toArray]; omega)
      rw [PySem.W.krv_pick]
      refine ⟨.ref _, _, I5.laid (t' := s4.toks) (o := .lst xs.reverse) (fun b ob q => Heap.get?_push_of_some _ q) (Nat.le_refl _) ?_, rfl, q _ (I5.hok.fresh (Nat.le_refl _))⟩
      exact ⟨by rw [List.length_reverse]; exact hz, _, 0, r.reverse, Heap.get?_push_size _ rfl⟩
    · subst ex
      cases r1
      obtain ⟨its, r, ht, hz⟩ := I5.tuple hx
      have hlen := r.length
      show wpAny (model X.prog X.w) X.A (subscriptTail e (.Slice none none (some (.UnaryOp .USub (.Constant (.int 1) k p1) p2)) p3) (.ref a) (.ref s4.heap.objs.size)) (EP X pins σ Q) X.xe { s4 with heap := s4.heap.push { cls := .type "slice", data := .fields #[.none, .none, vs] } }
      refine tail_any (ops := [.ref a, .ref s4.heap.objs.size]) ht.typeIs (PyProof.Rows.slot_tuple_getitem.lookup) ?_ (by with_unfolding_all rfl)
      refine HT.wk_getItem_tuple_rev ht (Heap.IsSliceOf.new _ .none .none vs) ps ?_ (by rw [List.size_toArray]; omega)
      refine ⟨.ref _, _, I5.laid (t' := s4.toks) (o := .tup xs.reverse) (fun b ob q => Heap.get?_push_of_some _ q) (Nat.le_refl _) ?_, rfl, q _ (I5.hok.fresh (Nat.le_refl _))⟩
      exact ⟨by rw [List.length_reverse]; exact hz, _, r.reverse, IsTup.new _ _⟩
  walk_at "end"
end
abbrev IT (K : PySem.W.Frag) (H : Hp) (a : Addr) (ns : List Int) : Prop := SqT K H a (ns.map V.int)
abbrev IL (K : PySem.W.Frag) (H : Hp) (a : Addr) (ns : List Int) : Prop := SqL K H a (ns.map V.int)
/-- all but what stands at w is as it was -/
def ExW (w : Addr) (H H' : Hp) : Prop := ∀ a o, H a = some o → a ≠ w → H' a = some o
theorem ExW.refl {w : Addr} (H : Hp) : ExW w H H := fun _ _ h _ => h
theorem ExW.trans {w : Addr} {H H1 H2 : Hp} (a : ExW w H H1) (b : ExW w H1 H2) : ExW w H H2 := fun x o h n => b x o (a x o h n) n
theorem ExW.of {w : Addr} {H H' : Hp} (e : Ex H H') : ExW w H H' := fun a o h _ => e a o h
theorem ExW.upd {w : Addr} {H : Hp} {o : HO} : ExW w H (upd H w o) := fun a u h n => by
  rw [upd_ne n]
  exact h
/-- a new object, the heap behind it unnamed -/
theorem alloc {H : Hp} {o : HO} {Q : VK} (h : ∀ p H1, H p = none → Ex H H1 → H1 p = some o → Q (.ref p) H1) : ∀ p, H p = none → Q (.ref p) (upd H p o) :=
  fun p hp => h p _ hp (Ex.new hp) upd_same
theorem t_of {K : PySem.W.Frag} {H : Hp} {a : Addr} {xs : List V} (h : H a = some (.tup xs)) : SqT K H a xs := .inl (.inl h)
theorem l_of {K : PySem.W.Frag} {H : Hp} {a : Addr} {xs : List V} (h : H a = some (.lst xs)) : SqL K H a xs := .inl (.inl h)
/-- data of ints -/
theorem dp_ints {K : PySem.W.Frag} {H : Hp} : ∀ ns : List Int, DpAll K H (ns.map V.int) (ns.map PyData.int)
  | [] => .nil
  | n :: r => .cons (.int n) (dp_ints r)
theorem dp_t {K : PySem.W.Frag} {H : Hp} {a : Addr} {ns : List Int} (h : IT K H a ns) : Dp K H (.ref a) (.tuple (ns.map .int)) := .tup h (dp_ints ns)
theorem dp_l {K : PySem.W.Frag} {H : Hp} {a : Addr} {ns : List Int} (h : IL K H a ns) : Dp K H (.ref a) (.list (ns.map .int)) := .lst h (dp_ints ns)
end L2
namespace L2
open PySem PySem.Spec PyProof.Rows Evl
theorem eqvAll_ints : ∀ ns ms : List Int, PyData.eqvAll (ns.map .int) (ms.map .int) = decide (ns = ms)
  | [], [] => by simp [PyData.eqvAll]
  | [], m :: ms => by simp [PyData.eqvAll]
  | n :: ns, [] => by simp [PyData.eqvAll]
  | n :: ns, m :: ms => by
    rw [List.map_cons, List.map_cons, PyData.eqvAll, eqvAll_ints ns ms, PyData.eqv]
    by_cases h : n = m
    · subst h
      simp
    · simp [h]
theorem eqv_tints (ns ms : List Int) : PyData.eqv (.tuple (ns.map .int)) (.tuple (ms.map .int)) = decide (ns = ms) := by rw [PyData.eqv, eqvAll_ints]
theorem eqv_lints (ns ms : List Int) : PyData.eqv (.list (ns.map .int)) (.list (ms.map .int)) = decide (ns = ms) := by rw [PyData.eqv, eqvAll_ints]
theorem canLay_ints : ∀ ns : List Int, PyData.canLayAll0 (ns.map .int) = true
  | [] => by simp [PyData.canLayAll0]
  | n :: ns => by
    rw [List.map_cons, PyData.canLayAll0, canLay_ints ns]
    simp [PyData.canLay0]
theorem depth_ints : ∀ ns : List Int, PyData.depthAll (ns.map .int) = 0
  | [] => by simp [PyData.depthAll]
  | n :: ns => by
    rw [List.map_cons, PyData.depthAll, depth_ints ns]
    simp [PyData.depth]
theorem shaped_t (ns : List Int) : SeqAt.shaped (.tuple (ns.map .int)) = true := by
  unfold SeqAt.shaped
  rw [PyData.canLay0, canLay_ints, PyData.depth, depth_ints]
  rfl
theorem shaped_l (ns : List Int) : SeqAt.shaped (.list (ns.map .int)) = true := by
  unfold SeqAt.shaped
  rw [PyData.canLay0, canLay_ints, PyData.depth, depth_ints]
  rfl
section
variable {K : PySem.W.Frag} {H : Hp} {Q : VK} {a b : Addr} {ns ms : List Int}
theorem r_eqT (ha : IT K H a ns) (hb : IT K H b ms) (q : Q (.bl (decide (ns = ms))) H) : rEqU K (.ref a) (.ref b) H Q :=
  .inr ⟨_, _, dp_t ha, dp_t hb, shaped_t ns, shaped_t ms, by rw [eqv_tints]; exact q⟩
theorem r_eqL (ha : IL K H a ns) (hb : IL K H b ms) (q : Q (.bl (decide (ns = ms))) H) : rEqU K (.ref a) (.ref b) H Q :=
  .inr ⟨_, _, dp_l ha, dp_l hb, shaped_l ns, shaped_l ms, by rw [eqv_lints]; exact q⟩
theorem r_neL (ha : IL K H a ns) (hb : IL K H b ms) (q : Q (.bl (!decide (ns = ms))) H) : rNeU K (.ref a) (.ref b) H Q :=
  .inr ⟨_, _, dp_l ha, dp_l hb, shaped_l ns, shaped_l ms, by rw [eqv_lints]; exact q⟩
theorem r_eqI {i j : Int} (q : Q (.bl (decide (i = j))) H) : rEqU K (.int i) (.int j) H Q := .inl ⟨rfl, by
  have e : decide ((V.int i) = V.int j) = decide (i = j) := by simp
  rw [e]
  exact q⟩
theorem r_neI {i j : Int} (q : Q (.bl (!decide (i = j))) H) : rNeU K (.int i) (.int j) H Q := .inl ⟨rfl, by
  have e : decide ((V.int i) = V.int j) = decide (i = j) := by simp
  rw [e]
  exact q⟩
theorem r_add {i j : Int} (q : Q (.int (i + j)) H) : rAddU K (.int i) (.int j) H Q := .inl ⟨i, j, rfl, rfl, q⟩
theorem r_mul {i j : Int} (h : CMul i j) (q : Q (.int (i * j)) H) : rMulU K (.int i) (.int j) H Q := .inl ⟨i, j, rfl, rfl, h, q⟩
theorem r_mulW {i j : Int} (h : CMulW i j) (q : Q (.int (i * j)) H) : rMulU K (.int i) (.int j) H Q := .inr (.inl ⟨i, j, rfl, rfl, h, q⟩)
/-- the tuple of both -/
theorem r_catT {xs ys : List V} (ha : SqT K H a xs) (hb : SqT K H b ys) (hz : xs.length + ys.length ≤ 100000) (q : ∀ p H1, Ex H H1 → SqT K H1 p (xs ++ ys) → Q (.ref p) H1) : rAddU K (.ref a) (.ref b) H Q := by
  refine .inr (.inr ⟨a, b, xs, ys, rfl, rfl, ha, hb, sz_of hz, fun e => ?_, fun _ e => ?_, fun _ _ => alloc fun p H1 _ e h => q p H1 e (t_of h)⟩)
  · subst e
    exact q b H (Ex.refl H) hb
  · subst e
    refine q a H (Ex.refl H) ?_
    rw [List.append_nil]
    exact ha
theorem r_catL {xs ys : List V} (ha : H a = some (.lst xs)) (hb : H b = some (.lst ys)) (hz : xs.length + ys.length ≤ 100000) (q : ∀ p H1, H p = none → Ex H H1 → H1 p = some (.lst (xs ++ ys)) → Q (.ref p) H1) : rAddU K (.ref a) (.ref b) H Q :=
  .inr (.inl ⟨a, b, xs, ys, rfl, rfl, ha, hb, sz_of hz, alloc q⟩)
theorem r_repT {xs : List V} {k : Int} (ha : SqT K H a xs) (h0 : 0 ≤ k) (hk : k ≤ 1000) (hz : xs.length ≤ 1000) (q : ∀ p H1, Ex H H1 → SqT K H1 p (List.replicate k.toNat xs).flatten → Q (.ref p) H1) : rMulU K (.ref a) (.int k) H Q := by
  refine .inr (.inr (.inr ⟨a, k, xs, rfl, rfl, ha, h0, hk, hz, fun e => ?_, fun _ => alloc fun p H1 _ e h => q p H1 e (t_of h)⟩))
  refine q a H (Ex.refl H) ?_
  rcases e with e | e
  · subst e
    have e2 : (List.replicate k.toNat ([] : List V)).flatten = [] := by simp
    rw [e2]
    exact ha
  · subst e
    have e2 : (List.replicate (1 : Int).toNat xs).flatten = xs := by simp
    rw [e2]
    exact ha
theorem r_slL {xs : List V} {lo hi : Option Int} (ha : SqL K H a xs) (q : ∀ p H1, H p = none → Ex H H1 → H1 p = some (.lst (cutV xs lo hi)) → Q (.ref p) H1) : rSlU K (.ref a) lo hi H Q := .inl ⟨a, xs, rfl, ha, alloc q⟩
end
theorem cut_map {ns : List Int} {lo hi : Option Int} : cutV (ns.map V.int) lo hi = ((ns.drop (HT.sIx ns.length 0 lo)).take (HT.sIx ns.length ns.length hi - HT.sIx ns.length 0 lo)).map V.int := by
  unfold cutV
  rw [List.length_map, List.map_take, List.map_drop]
theorem sIx_int {n d : Nat} {v : Int} (h : 0 ≤ v) : HT.sIx n d (some v) = min v.toNat n := by
  obtain ⟨k, rfl⟩ := Int.eq_ofNat_of_zero_le h
  exact HT.sIx_nat n d k
/-- xs[:k] -/
theorem cut_to {ns : List Int} {k : Int} (h : 0 ≤ k) : cutV (ns.map V.int) none (some k) = (ns.take k.toNat).map V.int := by
  rw [cut_map, HT.sIx_none, sIx_int h, List.drop_zero, Nat.sub_zero]
  congr 1
  rw [Nat.min_def]
  split
  · rfl
  · rw [List.take_of_length_le (Nat.le_refl _), List.take_of_length_le (by omega)]
/-- xs[k:] -/
theorem cut_from {ns : List Int} {k : Int} (h : 0 ≤ k) : cutV (ns.map V.int) (some k) none = (ns.drop k.toNat).map V.int := by
  rw [cut_map, HT.sIx_none, sIx_int h]
  congr 1
  by_cases hk : k.toNat ≤ ns.length
  · rw [Nat.min_eq_left hk, List.take_of_length_le (by rw [List.length_drop]; exact Nat.le_refl _)]
  · rw [Nat.min_eq_right (by omega), List.drop_of_length_le (Nat.le_refl _), List.drop_of_length_le (by omega)]
    simp
/-- an item at a place from 0 on -/
theorem at_int {ns : List Int} {i : Int} {x : Int} (h0 : 0 ≤ i) (hx : ns[i.toNat]? = some x) : atI (ns.map V.int) i = some (.int x) := by
  have e : i = ((i.toNat : Nat) : Int) := by omega
  rw [e]
  exact atI_nat (by rw [List.getElem?_map, hx]; rfl)
theorem at_last {ns : List Int} {x : Int} (hx : ns.getLast? = some x) : atI (ns.map V.int) (-1) = some (.int x) := by
  obtain ⟨ys, rfl⟩ := List.getLast?_eq_some_iff.mp hx
  rw [List.map_append]
  exact atI_last _ _
structure Well (H : Hp) (w : Addr) (n : Nat) : Prop where
  ex : ∃ a b c : Int, H w = some (.lst [.int a, .int b, .int c]) ∧ 0 ≤ a ∧ 0 ≤ b ∧ b.natAbs < 2 ^ 160 ∧ 0 ≤ c ∧ c ≤ n
theorem Well.mono {H H' : Hp} {w : Addr} {n : Nat} (h : Well H w n) (e : Ex H H') : Well H' w n := by
  obtain ⟨a, b, c, h1, h2⟩ := h.ex
  exact ⟨a, b, c, e _ _ h1, h2⟩
theorem Well.more {H : Hp} {w : Addr} {n m : Nat} (h : Well H w n) (e : n ≤ m) : Well H w m := by
  obtain ⟨a, b, c, h1, h2, h3, h4, h5, h6⟩ := h.ex
  exact ⟨a, b, c, h1, h2, h3, h4, h5, by omega⟩
theorem Well.ne {H : Hp} {w p : Addr} {n : Nat} (h : Well H w n) (hp : H p = none) : p ≠ w := by
  obtain ⟨_, _, _, h1, _⟩ := h.ex
  exact fun e => by
    subst e
    rw [hp] at h1
    cases h1
end L2
namespace L2
open PySem PySem.Spec PyProof.Rows Evl
theorem ty_t {K : PySem.W.Frag} {H : Hp} {a : Addr} {xs : List V} (h : SqT K H a xs) : TyX K H (.ref a) (.type "tuple") := by
  rcases h with (h | ⟨o, h⟩) | ⟨o, its, n, h, c, _⟩
  · exact .base (.tup h)
  · exact .fTuple h
  · exact .kTuple h c
section
variable {K : PySem.W.Frag} {σ : L2.St} {H : Hp} {te tl : TE} {Q : VK} {j : Nat} {vs : List Nat} {a : Addr} {xs ys : List V}
theorem take_snoc {α : Type} {l : List α} {i : Nat} {y : α} (h : l[i]? = some y) : l.take (i + 1) = l.take i ++ [y] := by
  rw [List.take_add_one, h]
  rfl
/-- what one turn does -/
theorem cm_turn {H0 H' : Hp} {D : Addr} {i : Nat} {y : V} {σ2 : L2.St} (hy : ys[i]? = some y) (hz : ys.length ≤ 100000) (hD : H0 D = none) (p : Ex H0 H' ∧ H' D = some (.lst (ys.take i)))
    (he : ∀ Q' : VK, (∀ H2, Ex H' H2 → Q' y H2) → te σ2 H' Q') :
    te σ2 H' fun y H4 => ∃ acc, H4 D = some (.lst acc) ∧ acc.length < sizeLine ∧ (Ex H0 (upd H4 D (.lst (acc ++ [y]))) ∧ (upd H4 D (.lst (acc ++ [y]))) D = some (.lst (ys.take (i + 1)))) := by
  refine he _ fun H2 e2 => ⟨ys.take i, e2 _ _ p.2, ?_, Ex.mut (p.1.trans e2) hD, ?_⟩
  · have := (List.getElem?_eq_some_iff.mp hy).1
    rw [List.length_take]
    exact Nat.lt_of_le_of_lt (Nat.min_le_left _ _) (Nat.lt_of_lt_of_le this (sz_of hz))
  · rw [upd_same, take_snoc hy]
theorem cm_tup (hl : ∀ R : VK, (∀ a H1, Ex H H1 → SqT K H1 a xs → R (.ref a) H1) → tl σ H R) (hxy : ys.length = xs.length) (hz : ys.length ≤ 100000) (hw : ∀ x, wipe ((wipe σ vs).set j (some x)) vs = wipe σ vs)
    (he : ∀ (i : Nat) (x y : V) (H1 : Hp), xs[i]? = some x → ys[i]? = some y → Ex H H1 → ∀ Q' : VK, (∀ H2, Ex H1 H2 → Q' y H2) → te ((wipe σ vs).set j (some x)) H1 Q')
    (q : ∀ D H1, H D = none → Ex H H1 → H1 D = some (.lst ys) → Q (.ref D) H1) : tLc (iTup K tl) (gName j) tYes te vs σ H Q := by
  refine hl _ fun a H1 e1 ht => ⟨a, rfl, ⟨xs, ht⟩, fun D hD => ?_⟩
  refine lc_tup (K := K) (a := a) (xs := xs) (fun i H' => Ex H1 H' ∧ H' D = some (.lst (ys.take i))) ⟨Ex.new hD, by rw [upd_same]; rfl⟩ (fun i H' _ p => ex_t p.1 ht) (fun i x H' hx p => ⟨hw x, ?_⟩) (fun H' p => q D H' ?_ (e1.trans p.1) ?_)
  · have hi : i < ys.length := by rw [hxy]; exact (List.getElem?_eq_some_iff.mp hx).1
    exact cm_turn (List.getElem?_eq_getElem hi) hz hD p fun Q' k => he i x _ H' hx (List.getElem?_eq_getElem hi) (e1.trans p.1) Q' k
  · exact fresh_back e1 hD
  · rw [p.2, ← hxy, List.take_length]
end
end L2
namespace L2
open PySem PySem.Spec PyProof.Rows Evl
section
variable {K : PySem.W.Frag} {σ : L2.St} {H : Hp} {te tl : TE} {t : TA} {Q : VK} {a : Addr} {xs ys : List V}
theorem st_nil (h : ∀ p H2, H p = none → Ex H H2 → H2 p = some (.lst []) → Q (.ref p) H2) : tLst tNil σ H Q := ⟨Nat.zero_le _, alloc h⟩
/-- tuple(xs), xs a list | a tuple -/
theorem r_tuL {R : VK} (ha : SqL K H a xs) (q : ∀ p H1, H p = none → Ex H H1 → SqT K H1 p xs → R (.ref p) H1) :
    ∃ p ys, [V.ref a] = [.ref p] ∧ ((SqL K H p ys ∧ ∀ l, H l = none → R (.ref l) (upd H l (.tup ys))) ∨ (SqT K H p ys ∧ R (.ref p) H)) :=
  ⟨a, xs, rfl, .inl ⟨ha, alloc fun p H1 hp e h => q p H1 hp e (t_of h)⟩⟩
theorem st_revT {te : TE} {a : Addr} {xs : List V} (he : ∀ R : VK, R (.ref a) H → te σ H R) (ha : SqT K H a xs) (q : ∀ p H1, H p = none → Ex H H1 → H1 p = some (.tup xs.reverse) → Q (.ref p) H1) : tRevU K te σ H Q := he _ (.inr ⟨a, xs, rfl, ha, alloc q⟩)
theorem he_var {i : Nat} (h : σ[i]? = some (some (.ref a))) : ∀ R : VK, R (.ref a) H → tVar i σ H R := fun _ r => ⟨_, h, r⟩
end
end L2
namespace L2
open PySem PySem.Spec PyProof.Rows Evl
section
variable {K : PySem.W.Frag} {σ : L2.St} {H : Hp} {te tl ta tb : TE} {t tr : TA} {Q : VK} {D : Ends} {tu tw : TS} {g : TG} {tc : TT}
theorem st_seq (h : tu { D with nx := tw D } σ H) : tSeq tu tw D σ H := h
theorem st_asg (h : te σ H fun x H1 => g x σ H1 D.nx) : tAsg te g D σ H := h
theorem st_set {i : Nat} (h : te σ H fun x H1 => D.nx (σ.set i (some x)) H1) : tAsg te (gName i) D σ H := h
theorem st_ret (h : te σ H D.rt) : tRet te D σ H := h
theorem st_drop (h : te σ H fun _ H1 => D.nx σ H1) : tDrop te D σ H := h
theorem st_if (h : tc σ H fun b H1 => if b = true then tu D σ H1 else tw D σ H1) : tIfS tc tu tw D σ H := h
theorem st_cb {r : List V → Hp → VK → Prop} (h : t σ H fun vs H1 => r vs H1 Q) : tCB r t σ H Q := h
theorem st_cons {R : List V → Hp → Prop} (h : ta σ H fun x H1 => tr σ H1 fun xs H2 => R (x :: xs) H2) : tCons ta tr σ H R := h
theorem st_op {r : R2} (h : ta σ H fun x H1 => tb σ H1 fun y H2 => r x y H2 Q) : tOp r ta tb σ H Q := h
theorem st_un {r : V → Hp → VK → Prop} (h : ta σ H fun x H1 => r x H1 Q) : tUn r ta σ H Q := h
theorem st_test {R : Bool → Hp → Prop} (h : te σ H fun x H1 => ∃ k, x = .bl k ∧ R k H1) : tTest te σ H R := h
theorem st_call {sp : Sp} {dvs : List V} {E : XK} (h : t σ H fun vs H1 => sp (vs ++ dvs) H1 Q E) : tCall sp dvs E t σ H Q := h
theorem st_sl {r : V → Option Int → Option Int → Hp → VK → Prop} {lo hi : TO} (h : te σ H fun x H1 => lo σ H1 fun l H2 => hi σ H2 fun u H3 => r x l u H3 Q) : tSl r te lo hi σ H Q := h
theorem st_par {i j : Nat} (h : t σ H fun vs H1 => ∃ v w, vs = [v, w] ∧ D.nx ((σ.set i (some v)).set j (some w)) H1) : tPar i j t D σ H := h
end
end L2
namespace L2
open PySem PySem.Spec PyProof.Rows Evl
section
variable {K : PySem.W.Frag} {H : Hp} {Q : VK} {a : Addr} {xs : List V} {i j : Int} {v : V}
theorem r_ixL (h : SqL K H a xs) (e : atI xs i = some v) (q : Q v H) : rIx K (.ref a) (.int i) H Q := .inl ⟨a, xs, i, v, rfl, rfl, h, e, q⟩
theorem r_ixT (h : SqT K H a xs) (e : atI xs i = some v) (q : Q v H) : rIx K (.ref a) (.int i) H Q := .inr (.inl ⟨a, xs, i, v, rfl, rfl, h, e, q⟩)
theorem r_0 {g : Int → Int → V} (q : Q (g i j) H) : rI0 g (.int i) (.int j) H Q := ⟨i, j, rfl, rfl, q⟩
theorem r_set {R : Hp → Prop} {k : Nat} (h : H a = some (.lst xs)) (e : ixN xs.length i = some k) (q : R (upd H a (.lst (xs.set k v)))) : rSetL (.ref a) (.int i) v H R := ⟨a, xs, i, k, rfl, rfl, h, e, q⟩
end
/-- if by what is known of the answer -/
theorem if_t {c : Prop} [Decidable c] {A B : Prop} (hc : c) (h : A) : if decide c = true then A else B := by
  rw [decide_eq_true hc]
  exact h
theorem if_f {c : Prop} [Decidable c] {A B : Prop} (hc : ¬ c) (h : B) : if decide c = true then A else B := by
  rw [decide_eq_false hc]
  exact h
theorem if_2 {c : Prop} [Decidable c] {A B : Prop} (h1 : c → A) (h2 : ¬ c → B) : if decide c = true then A else B := by
  by_cases hc : c
  · exact if_t hc (h1 hc)
  · exact if_f hc (h2 hc)
end L2
namespace L2
open PySem PySem.Spec PyProof.Rows Evl
theorem st_c {v : V} {σ : L2.St} {H : Hp} {Q : VK} (q : Q v H) : tC v σ H Q := q
theorem st_v {i : Nat} {v : V} {σ : L2.St} {H : Hp} {Q : VK} (h : σ[i]? = some (some v)) (q : Q v H) : tVar i σ H Q := ⟨v, h, q⟩
theorem st_n {σ : L2.St} {H : Hp} {R : List V → Hp → Prop} (q : R [] H) : tNil σ H R := q
end L2
namespace L2
open PySem PySem.Spec PyProof.Rows Evl
theorem r_setG {H : Hp} {a : Addr} {xs : List V} {i : Int} {v : V} {R : Hp → Prop} {k : Nat} (h : H a = some (.lst xs)) (e : ixN xs.length i = some k) (q : ∀ H1, ExW a H H1 → H1 a = some (.lst (xs.set k v)) → R H1) : rSetL (.ref a) (.int i) v H R :=
  ⟨a, xs, i, k, rfl, rfl, h, e, q _ ExW.upd upd_same⟩
end L2
namespace L2
open PySem PySem.Spec PyProof.Rows Evl
section
variable {X : Cx} {K : PySem.W.Frag}
theorem op_addK (K : PySem.W.Frag) (h : X.K = K := by rfl) : OpR X (binaryOp .Add) (rAddU K) := h ▸ op_addU
theorem op_mulK (K : PySem.W.Frag) (h : X.K = K := by rfl) : OpR X (binaryOp .Mult) (rMulU K) := h ▸ op_mulU
theorem op_eqK (K : PySem.W.Frag) (hu : X.A.units + 64 < cLine) (h : X.K = K := by rfl) : OpR X (compareOp .Eq) (rEqU K) := h ▸ op_eqU hu
theorem op_neK (K : PySem.W.Frag) (hu : X.A.units + 64 < cLine) (h : X.K = K := by rfl) : OpR X (compareOp .NotEq) (rNeU K) := h ▸ op_neU hu
theorem op_notInK (K : PySem.W.Frag) (h : X.K = K := by rfl) : OpR X (compareOp .NotIn) (rIn K true) := h ▸ op_notIn_seq
theorem ix_K (K : PySem.W.Frag) (h : X.K = K := by rfl) : IxR X (rIx K) := h ▸ ix_seq
theorem sl_K (K : PySem.W.Frag) (h : X.K = K := by rfl) : SlR X (rSlU K) := h ▸ sl_U
def rLenU (K : PySem.W.Frag) : List V → Hp → VK → Prop := fun xs H Q => ∃ p ys, xs = [.ref p] ∧ (SqL K H p ys ∨ SqT K H p ys) ∧ Q (.int ys.length) H
def rTupU (K : PySem.W.Frag) : List V → Hp → VK → Prop := fun xs H Q => ∃ p ys, xs = [.ref p] ∧ ((SqL K H p ys ∧ ∀ l, H l = none → Q (.ref l) (upd H l (.tup ys))) ∨ (SqT K H p ys ∧ Q (.ref p) H))
def rAbs : List V → Hp → VK → Prop := fun xs H Q => ∃ i, xs = [.int i] ∧ Q (.int (if i < 0 then -i else i)) H
def rMax2 : List V → Hp → VK → Prop := fun xs H Q => ∃ i j, xs = [.int i, .int j] ∧ Q (.int (if j > i then j else i)) H
def rMin2 : List V → Hp → VK → Prop := fun xs H Q => ∃ i j, xs = [.int i, .int j] ∧ Q (.int (if j < i then j else i)) H
def rInt1 : List V → Hp → VK → Prop := fun xs H Q => (∃ i, xs = [.int i] ∧ Q (.int i) H) ∨ ∃ k, xs = [.bl k] ∧ Q (.int (if k then 1 else 0)) H
theorem len_K (K : PySem.W.Frag) (h : X.K = K := by rfl) : CallR X (.builtin "len") (rLenU K) := h ▸ call_len_seq
theorem tuple_K (K : PySem.W.Frag) (h : X.K = K := by rfl) : CallR X (.type "tuple") (rTupU K) := h ▸ call_tuple_of
theorem abs_K : CallR X (.builtin "abs") rAbs := call_abs
theorem max2_K (hc : X.calm = true) : CallR X (.builtin "max") rMax2 := call_max2 hc
theorem min2_K (hc : X.calm = true) : CallR X (.builtin "min") rMin2 := call_min2 hc
theorem int_K : CallR X (.type "int") rInt1 := call_int1
theorem all_K (K : PySem.W.Frag) (hc : X.calm = true) (h : X.K = K := by rfl) : CallR X (.builtin "all") (rAll K) := h ▸ cr_all hc
theorem any_K (K : PySem.W.Frag) (hc : X.calm = true) (h : X.K = K := by rfl) : CallR X (.builtin "any") (rAny K) := h ▸ cr_any hc
theorem maxl_K (K : PySem.W.Frag) (hc : X.calm = true) (h : X.K = K := by rfl) : CallR X (.builtin "max") (rMax K) := h ▸ cr_max hc
theorem isi_K (K : PySem.W.Frag) (h : X.K = K := by rfl) : CallR X (.builtin "isinstance") (rIsi K) := h ▸ call_isi
theorem pe_revK (K : PySem.W.Frag) {e : Expr} {te : TE} {k : Nat} {p1 p2 p3 pos : Pos} (he : PE X e te) (h : X.K = K := by rfl) : PE X (.Subscript e (.Slice none none (some (.UnaryOp .USub (.Constant (.int 1) k p1) p2)) p3) pos) (tRevU K te) := h ▸ pe_revU he
theorem pi_listK (K : PySem.W.Frag) {tg l : Expr} {tl : TE} (hl : PE X l tl) (h : X.K = K := by rfl) : PI X tg l (iList K tl) := h ▸ pi_list hl
theorem pi_tupK (K : PySem.W.Frag) {tg l : Expr} {tl : TE} (hl : PE X l tl) (h : X.K = K := by rfl) : PI X tg l (iTup K tl) := h ▸ pi_tup hl
def tTruU (K : PySem.W.Frag) (ta : TE) : TT := fun σ H Q => ta σ H fun x H' => ∃ k, TruV K x H' k ∧ Q k H'
theorem pt_truK (K : PySem.W.Frag) {a : Expr} {ta : TE} (ha : PE X a ta) (he : ∀ whole, isTrue a X.env whole = (do let v ← whole; standAt a.pos; holding [v] (truthy v)) := by intro _; rfl) (h : X.K = K := by rfl) : PT X a (tTruU K ta) := h ▸ pt_truth ha he
theorem pg_tupK (K : PySem.W.Frag) {es : List Expr} {k : Nat} {t : TGs} {n : Nat} {pos : Pos} (hc : X.calm = true) (h : PGs X es t) (hn : (assignEach es X.env).length = n := by rfl) (hst : (assignEach es X.env).findIdx? (·.1) = none := by rfl) (hK : X.K = K := by rfl) : PG X (.Tuple es k pos) (gTup K n t) := hK ▸ pg_tup hc h hn hst
theorem pe_bmU (K : PySem.W.Frag) {T : String} {name : Str} {id : String} {r : V → List V → Hp → VK → Prop} {o e : Expr} {es : List Expr} {to : TE} {t : TA} {apos cpos : Pos}
    (pa : PlainAttrs T) (slot : Slot T name id) (hty : typeOf (.builtin id) = pure (.type "method_descriptor")) (hm : MtR X id r) (ho : PE X o to) (ha : PA X (e :: es) t)
    (hbase : attributeBase o name X.env (eval o X.env) = eval o X.env := by rfl)
    (hfew : ((backTo cpos (starEach (e :: es) X.env)).all (fun x => !x.1) && (backToKw cpos (keywordEach [] X.env)).all (fun x => x.1.isSome) && decide ((e :: es).length + ([] : List Keyword).length + (if ([] : List Keyword).isEmpty then 0 else 1) < 30)) = true := by rfl)
    (hline : (apos.endLine == cpos.line) = true := by rfl) (hs : starEach (e :: es) X.env = (false, eval e X.env) :: starEach es X.env := by rfl) (hplain : (backTo cpos (starEach es X.env)).any (·.1) = false := by rfl) (h : X.K = K := by rfl) :
    PE X (.Call (.Attribute o name apos) (e :: es) [] cpos) (tBM K T r to t) := h ▸ pe_bm pa slot hty hm ho ha hbase hfew hline hs hplain
theorem pe_bm0U (K : PySem.W.Frag) {T : String} {name : Str} {id : String} {r : V → List V → Hp → VK → Prop} {o : Expr} {to : TE} {apos cpos : Pos}
    (pa : PlainAttrs T) (slot : Slot T name id) (hty : typeOf (.builtin id) = pure (.type "method_descriptor")) (hm : MtR X id r) (ho : PE X o to)
    (hbase : attributeBase o name X.env (eval o X.env) = eval o X.env := by rfl) (hline : (apos.endLine == cpos.line) = true := by rfl) (h : X.K = K := by rfl) : PE X (.Call (.Attribute o name apos) [] [] cpos) (tBM0 K T r to) := h ▸ pe_bm0 pa slot hty hm ho hbase hline
end
section
variable {K : PySem.W.Frag} {σ : L2.St} {H : Hp} {Q : VK} {a : Addr} {xs : List V}
theorem r_lenL (h : SqL K H a xs) (q : Q (.int (xs.length : Int)) H) : rLenU K [.ref a] H Q := ⟨a, xs, rfl, .inl h, q⟩
theorem r_lenT (h : SqT K H a xs) (q : Q (.int (xs.length : Int)) H) : rLenU K [.ref a] H Q := ⟨a, xs, rfl, .inr h, q⟩
theorem r_tupL (ha : SqL K H a xs) (q : ∀ p H1, H p = none → Ex H H1 → SqT K H1 p xs → Q (.ref p) H1) : rTupU K [.ref a] H Q := r_tuL ha q
theorem r_abs {i : Int} (q : Q (.int ((i.natAbs : Nat) : Int)) H) : rAbs [.int i] H Q := ⟨i, rfl, by
  have e : (if i < 0 then -i else i) = ((i.natAbs : Nat) : Int) := by split <;> omega
  rw [e]
  exact q⟩
theorem r_max2 {i j : Int} (q : Q (.int (max i j)) H) : rMax2 [.int i, .int j] H Q := ⟨i, j, rfl, by
  have e : (if j > i then j else i) = max i j := by split <;> omega
  rw [e]
  exact q⟩
theorem r_min2 {i j : Int} (q : Q (.int (min i j)) H) : rMin2 [.int i, .int j] H Q := ⟨i, j, rfl, by
  have e : (if j < i then j else i) = min i j := by split <;> omega
  rw [e]
  exact q⟩
theorem r_intI {i : Int} (q : Q (.int i) H) : rInt1 [.int i] H Q := .inl ⟨i, rfl, q⟩
theorem r_intB {b : Bool} (q : Q (.int (if b then 1 else 0)) H) : rInt1 [.bl b] H Q := .inr ⟨b, rfl, q⟩
theorem r_all {bs : List Bool} (h : SqL K H a (bs.map V.bl)) (q : Q (.bl (bs.all id)) H) : rAll K [.ref a] H Q := ⟨a, bs, rfl, h, q⟩
theorem r_isiI {i : Int} {n : String} {b : Bool} (hb : PySem.W.kitOne K (.type "int") (.type n) = some b) (q : Q (.bl b) H) : rIsi K [.int i, .ty n] H Q := ⟨_, _, _, _, b, rfl, .ty _, .base (.int i), hb, q⟩
theorem r_isiT {n : String} {b : Bool} (h : SqT K H a xs) (hb : PySem.W.kitOne K (.type "tuple") (.type n) = some b) (q : Q (.bl b) H) : rIsi K [.ref a, .ty n] H Q := ⟨_, _, _, _, b, rfl, .ty _, ty_t h, hb, q⟩
end
end L2
namespace L2
open PySem PySem.Spec PyProof.Rows Evl
section
variable {K : PySem.W.Frag} {σ : L2.St} {H : Hp} {Q : VK} {i j : Int} {D : Ends} {tc tc2 : TT}
theorem st_bl {b : Bool} {R : Bool → Prop} (q : R b) : ∃ k, V.bl b = V.bl k ∧ R k := ⟨b, rfl, q⟩
theorem st_in {R : Int → Prop} (q : R i) : ∃ k, V.int i = V.int k ∧ R k := ⟨i, rfl, q⟩
theorem r_neg {g : Int → V} (q : Q (g i) H) : rU g (.int i) H Q := ⟨i, rfl, q⟩
theorem r_mod (h : 0 < j) {g : Int → Int → V} (q : Q (g i j) H) : rI (fun _ j => 0 < j) g (.int i) (.int j) H Q := ⟨i, j, rfl, rfl, h, q⟩
theorem r_div {b : Nat} (h : 0 < j) (hb : j.natAbs < 2 ^ b) (h0 : 0 < b) (h9 : b ≤ 9000) {g : Int → Int → V} (q : Q (g i j) H) : rI CDivW g (.int i) (.int j) H Q := ⟨i, j, rfl, rfl, wide_div h hb h0 h9, q⟩
theorem r_pow {a k : Nat} (h0 : 0 < a) (ha : i.natAbs < 2 ^ a) (h : a * k ≤ 134217728) {g : Int → Int → V} (q : Q (g i (k : Int)) H) : rI CPowW g (.int i) (.int (k : Int)) H Q := ⟨i, _, rfl, rfl, wide_pow h0 ha h, q⟩
theorem st_tru {K : PySem.W.Frag} {ta : TE} {R : Bool → Hp → Prop} (h : ta σ H fun x H' => ∃ k, TruV K x H' k ∧ R k H') : tTruU K ta σ H R := h
theorem r_truB {b : Bool} {R : Bool → Prop} (q : R b) : ∃ k, TruV K (.bl b) H k ∧ R k := ⟨b, rfl, q⟩
theorem st_and {R : Bool → Hp → Prop} (h : tc σ H fun c H1 => if c = true then tc2 σ H1 R else R false H1) : tAnd tc tc2 σ H R := h
theorem st_or {R : Bool → Hp → Prop} (h : tc σ H fun c H1 => if c = true then R true H1 else tc2 σ H1 R) : tOr tc tc2 σ H R := h
theorem st_not {R : Bool → Hp → Prop} (h : tc σ H fun c H1 => R (!c) H1) : tNot tc σ H R := h
theorem st_B {te : TE} {R : Bool → Hp → Prop} (h : te σ H fun x H1 => ∃ c, x = .bl c ∧ R c H1) : tB te σ H R := h
theorem st_andV {ta tb : TE} (h : ta σ H fun x H1 => ∃ c, x = .bl c ∧ if c = true then tb σ H1 Q else Q (.bl false) H1) : tAndV ta tb σ H Q := h
theorem st_orV {ta tb : TE} (h : ta σ H fun x H1 => ∃ c, x = .bl c ∧ if c = true then Q (.bl true) H1 else tb σ H1 Q) : tOrV ta tb σ H Q := h
theorem st_notV {ta : TE} (h : ta σ H fun x H1 => ∃ c, x = .bl c ∧ Q (.bl (!c)) H1) : tNotV ta σ H Q := h
theorem st_ifE {ta tb : TE} (h : tc σ H fun c H1 => if c = true then ta σ H1 Q else tb σ H1 Q) : tIf tc ta tb σ H Q := h
theorem st_part {te : TE} {R : Option Int → Hp → Prop} (h : te σ H fun x H1 => ∃ i, x = .int i ∧ R (some i) H1) : tPart te σ H R := h
theorem st_nop {R : Option Int → Hp → Prop} (h : R none H) : tNoPart σ H R := h
theorem st_sub {to ti : TE} {t : TSet} {v : V} {R : St → Hp → Prop} (h : to σ H fun o H1 => ti σ H1 fun i H2 => t o i v H2 fun H3 => R σ H3) : gSub to ti t v σ H R := h
theorem st_callK {sp : Sp} {gV : List V → List V → List V} {E : XK} {t tk : TA} (h : t σ H fun vs H1 => tk σ H1 fun zs H2 => sp (gV vs zs) H2 Q E) : tCallK sp gV E t tk σ H Q := h
theorem if_T {A B : Prop} (h : A) : if true = true then A else B := h
theorem if_F {A B : Prop} (h : B) : if false = true then A else B := h
theorem if_nT {A B : Prop} (h : B) : if (!true) = true then A else B := h
theorem if_nF {A B : Prop} (h : A) : if (!false) = true then A else B := h
theorem st_nameG {i : Nat} {v : V} {R : St → Hp → Prop} (h : R (σ.set i (some v)) H) : gName i v σ H R := h
theorem st_chain {ta tb tc : TE} {r r' : R2} (h : ta σ H fun x H1 => tb σ H1 fun y H2 => r x y H2 fun z H3 => ∃ k, z = .bl k ∧ (if k = true then tc σ H3 fun w' H4 => r' y w' H4 Q else Q (.bl false) H3)) : tChain r r' ta tb tc σ H Q := h
end
end L2
namespace L2
section
variable {σ : L2.St} {H : Hp} {D : Ends}
theorem st_nxt (h : D.nx σ H) : tNext D σ H := h
theorem st_cnt (h : D.ct σ H) : tCont D σ H := h
theorem st_brk (h : D.bk σ H) : tBreak D σ H := h
theorem st_retn (h : D.rt .non H) : tRetN D σ H := h
end
end L2
namespace L2
open PySem PySem.Spec PyProof.Rows Evl
section
variable {σ : L2.St} {H : Hp} {t : TA} {Q : VK} {xs : List V}
def rNewL (xs : List V) (H : Hp) (Q : VK) : Prop := xs.length ≤ sizeLine ∧ ∀ p, H p = none → Q (.ref p) (upd H p (.lst xs))
def rNewT (xs : List V) (H : Hp) (Q : VK) : Prop := xs.length ≤ sizeLine ∧ ∀ p, H p = none → Q (.ref p) (upd H p (.tup xs))
theorem st_lstN (h : t σ H fun xs H1 => rNewL xs H1 Q) : tLst t σ H Q := h
theorem st_tupN (h : t σ H fun xs H1 => rNewT xs H1 Q) : tTup t σ H Q := h
theorem r_newL (hz : xs.length ≤ 100000) (q : ∀ p H1, H p = none → Ex H H1 → H1 p = some (.lst xs) → Q (.ref p) H1) : rNewL xs H Q := ⟨sz_of hz, alloc q⟩
theorem r_newT (hz : xs.length ≤ 100000) (q : ∀ p H1, H p = none → Ex H H1 → H1 p = some (.tup xs) → Q (.ref p) H1) : rNewT xs H Q := ⟨sz_of hz, alloc q⟩
end
end L2
namespace L2
open PySem PySem.Spec PyProof.Rows Evl
section
variable {σ : L2.St} {H : Hp} {D : Ends} {c : TT} {tb : TS}
theorem st_while (W : Nat → L2.St → Hp → Prop) (m0 : Nat) (h0 : W m0 σ H)
    (hs : ∀ m σ' H', W m σ' H' → c σ' H' fun b H1 => if b = true then ∃ N : L2.St → Hp → Prop, (∀ σ2 H2, N σ2 H2 → ∃ m', m' < m ∧ W m' σ2 H2) ∧ tb { D with nx := N, ct := N, bk := D.nx } σ' H1 else D.nx σ' H1) : tWhile c tb D σ H :=
  ⟨W, ⟨m0, h0⟩, hs⟩
end
end L2
namespace L2
open PySem PySem.Spec PyProof.Rows Evl
def rFor (J : It) (g : TG) (tb : TS) (D : Ends) (σ : L2.St) (H1 : Hp) : Prop := ∃ W : Nat → Nat → L2.St → Hp → Prop, (∃ m, W 0 m σ H1) ∧ ∀ i m σ H, W i m σ H →
  (J.stop i H ∧ D.nx σ H) ∨ (J.go i H ∧ ∃ N : L2.St → Hp → Prop, (∀ σ' H', N σ' H' → ∃ m', m' < m ∧ W (i + 1) m' σ' H') ∧ ∀ x H', J.yld i H x H' → g x σ H' fun σ2 H2 => tb { D with nx := N, ct := N, bk := D.nx } σ2 H2)
def rLc (J : It) (g : TG) (tt : TT) (te : TE) (vs : List Nat) (σ : L2.St) (Q : VK) (H1 : Hp) : Prop := ∀ D, H1 D = none → ∃ W : Nat → Nat → Hp → Prop, (∃ m, W 0 m (upd H1 D (.lst []))) ∧ ∀ i m H, W i m H →
  (J.stop i H ∧ Q (.ref D) H) ∨ (J.go i H ∧ ∃ Nx : Hp → Prop, (∀ H', Nx H' → ∃ m', m' < m ∧ W (i + 1) m' H') ∧ ∀ x H', J.yld i H x H' → g x (wipe σ vs) H' fun σ2 H2 => wipe σ2 vs = wipe σ vs ∧ tt σ2 H2 fun b H3 =>
    if b = true then te σ2 H3 fun y H4 => ∃ acc, H4 D = some (.lst acc) ∧ acc.length < sizeLine ∧ Nx (upd H4 D (.lst (acc ++ [y]))) else Nx H3)
def rRng1 (vs : List V) (R : It → Hp → Prop) (H1 : Hp) : Prop := ∃ j : Int, vs = [.int j] ∧ -(2 ^ 62) ≤ j ∧ j < 2 ^ 62 ∧ R (Itr 0 j.toNat) H1
def rRng2 (vs : List V) (R : It → Hp → Prop) (H1 : Hp) : Prop := ∃ i j : Int, vs = [.int i, .int j] ∧ (-(2 ^ 62) ≤ i ∧ i < 2 ^ 62 ∧ -(2 ^ 62) ≤ j ∧ j < 2 ^ 62) ∧ R (Itr i (j - i).toNat) H1
def rItL (K : PySem.W.Frag) (x : V) (R : It → Hp → Prop) (H1 : Hp) : Prop := ∃ a, x = .ref a ∧ (∃ xs, SqL K H1 a xs) ∧ R (Itl K a) H1
def rItT (K : PySem.W.Frag) (x : V) (R : It → Hp → Prop) (H1 : Hp) : Prop := ∃ a, x = .ref a ∧ (∃ xs, SqT K H1 a xs) ∧ R (Itt K a) H1
def rRev (K : PySem.W.Frag) (x : V) (H1 : Hp) (Q : VK) : Prop := (∃ a xs, x = .ref a ∧ SqL K H1 a xs ∧ ∀ p, H1 p = none → Q (.ref p) (upd H1 p (.lst xs.reverse))) ∨ (∃ a xs, x = .ref a ∧ SqT K H1 a xs ∧ ∀ p, H1 p = none → Q (.ref p) (upd H1 p (.tup xs.reverse)))
def rApp (K : PySem.W.Frag) (T : String) (r : V → List V → Hp → VK → Prop) (t : TA) (σ : L2.St) (x : V) (H1 : Hp) (Q : VK) : Prop := tyV K T x H1 ∧ t σ H1 fun xs H2 => r x xs H2 Q
def rApp0 (K : PySem.W.Frag) (T : String) (r : V → List V → Hp → VK → Prop) (x : V) (H1 : Hp) (Q : VK) : Prop := tyV K T x H1 ∧ r x [] H1 Q
section
variable {K : PySem.W.Frag} {σ : L2.St} {H : Hp} {Q : VK} {D : Ends} {g : TG} {tb : TS} {wi : TI} {ta : TA} {te tl : TE} {tt : TT} {vs : List Nat} {R : It → Hp → Prop} {a : Addr} {xs ys : List V} {j : Nat} {n lo : Int}
theorem st_for (h : wi σ H fun J H1 => rFor J g tb D σ H1) : tFor wi g tb D σ H := h
theorem st_lc (h : wi σ H fun J H1 => rLc J g tt te vs σ Q H1) : tLc wi g tt te vs σ H Q := h
theorem st_rng1 (h : ta σ H fun us H1 => rRng1 us R H1) : iRng1 ta σ H R := h
theorem st_rng2 (h : ta σ H fun us H1 => rRng2 us R H1) : iRng2 ta σ H R := h
theorem st_itL (h : tl σ H fun x H1 => rItL K x R H1) : iList K tl σ H R := h
theorem st_itT (h : tl σ H fun x H1 => rItT K x R H1) : iTup K tl σ H R := h
theorem st_rev (h : te σ H fun x H1 => rRev K x H1 Q) : tRevU K te σ H Q := h
theorem st_bm {T : String} {r : V → List V → Hp → VK → Prop} {t : TA} (h : te σ H fun x H1 => rApp K T r t σ x H1 Q) : tBM K T r te t σ H Q := h
theorem st_bm0 {T : String} {r : V → List V → Hp → VK → Prop} (h : te σ H fun x H1 => rApp0 K T r x H1 Q) : tBM0 K T r te σ H Q := h
theorem r_rng1 (h1 : n < 2 ^ 62) (h0 : -(2 ^ 62) ≤ n) (q : R (Itr 0 n.toNat) H) : rRng1 [.int n] R H := ⟨n, rfl, h0, h1, q⟩
theorem r_rng2 (h : -(2 ^ 62) ≤ lo ∧ lo < 2 ^ 62 ∧ -(2 ^ 62) ≤ n ∧ n < 2 ^ 62) (q : R (Itr lo (n - lo).toNat) H) : rRng2 [.int lo, .int n] R H := ⟨lo, n, rfl, h, q⟩
theorem r_itL (h : SqL K H a xs) (q : R (Itl K a) H) : rItL K (.ref a) R H := ⟨a, rfl, ⟨xs, h⟩, q⟩
theorem r_itT (h : SqT K H a xs) (q : R (Itt K a) H) : rItT K (.ref a) R H := ⟨a, rfl, ⟨xs, h⟩, q⟩
/-- xs.append(v): the argument is read first -/
theorem r_app {t : TA} (h : SqL K H a xs) (q : t σ H fun us H2 => rAppend (.ref a) us H2 Q) : rApp K "list" rAppend t σ (.ref a) H Q := ⟨.inl ⟨rfl, xs, h⟩, q⟩
theorem r_appd {v : V} (h : H a = some (.lst xs)) (hz : xs.length < 100000) (q : ∀ H1, ExW a H H1 → H1 a = some (.lst (xs ++ [v])) → Q .non H1) : rAppend (.ref a) [v] H Q := ⟨a, xs, v, rfl, rfl, h, sz_lt hz, q _ ExW.upd upd_same⟩
theorem r_pop {v : V} (h : H a = some (.lst (xs ++ [v]))) (q : ∀ H1, ExW a H H1 → H1 a = some (.lst xs) → Q v H1) : rApp0 K "list" rPop (.ref a) H Q := by
  refine ⟨.inl ⟨rfl, _, l_of h⟩, a, _, v, rfl, rfl, h, by simp, ?_⟩
  refine q _ ExW.upd ?_
  rw [upd_same]
  simp
theorem r_forR {m : Nat} (Pv : Nat → L2.St → Hp → Prop) (h0 : Pv 0 σ H) (hs : ∀ i σ' H', i < m → Pv i σ' H' → g (.int (lo + i)) σ' H' fun σ2 H2 => tb { D with nx := Pv (i + 1), ct := Pv (i + 1), bk := D.nx } σ2 H2)
    (hd : ∀ σ' H', Pv m σ' H' → D.nx σ' H') : rFor (Itr lo m) g tb D σ H := for_range (lo := lo) (n := m) Pv h0 hs hd
theorem r_forL (Pv : Nat → L2.St → Hp → Prop) (h0 : Pv 0 σ H) (hl : ∀ i σ' H', i ≤ xs.length → Pv i σ' H' → SqL K H' a xs)
    (hs : ∀ i x σ' H', xs[i]? = some x → Pv i σ' H' → g x σ' H' fun σ2 H2 => tb { D with nx := Pv (i + 1), ct := Pv (i + 1), bk := D.nx } σ2 H2) (hd : ∀ σ' H', Pv xs.length σ' H' → D.nx σ' H') : rFor (Itl K a) g tb D σ H := for_list Pv h0 hl hs hd
theorem r_forT (Pv : Nat → L2.St → Hp → Prop) (h0 : Pv 0 σ H) (hl : ∀ i σ' H', i ≤ xs.length → Pv i σ' H' → SqT K H' a xs)
    (hs : ∀ i x σ' H', xs[i]? = some x → Pv i σ' H' → g x σ' H' fun σ2 H2 => tb { D with nx := Pv (i + 1), ct := Pv (i + 1), bk := D.nx } σ2 H2) (hd : ∀ σ' H', Pv xs.length σ' H' → D.nx σ' H') : rFor (Itt K a) g tb D σ H := for_tup Pv h0 hl hs hd
theorem r_cmT (ht : SqT K H a xs) (hxy : ys.length = xs.length) (hz : ys.length ≤ 100000) (hw : ∀ x, wipe ((wipe σ vs).set j (some x)) vs = wipe σ vs)
    (he : ∀ (i : Nat) (x y : V) (H1 : Hp), xs[i]? = some x → ys[i]? = some y → Ex H H1 → ∀ Q' : VK, (∀ H2, Ex H1 H2 → Q' y H2) → te ((wipe σ vs).set j (some x)) H1 Q')
    (q : ∀ p H1, H p = none → Ex H H1 → H1 p = some (.lst ys) → Q (.ref p) H1) : rLc (Itt K a) (gName j) tYes te vs σ Q H := fun D hD =>
  lc_tup (K := K) (a := a) (xs := xs) (fun i H' => Ex H H' ∧ H' D = some (.lst (ys.take i))) ⟨Ex.new hD, by rw [upd_same]; rfl⟩ (fun i H' _ p => ex_t p.1 ht) (fun i x H' hx p => ⟨hw x, by
    have hi : i < ys.length := by rw [hxy]; exact (List.getElem?_eq_some_iff.mp hx).1
    exact cm_turn (List.getElem?_eq_getElem hi) hz hD p fun Q' k => he i x _ H' hx (List.getElem?_eq_getElem hi) p.1 Q' k⟩) (fun H' p => q D H' hD p.1 (by rw [p.2, ← hxy, List.take_length]))
theorem r_cmL (ht : SqL K H a xs) (hxy : ys.length = xs.length) (hz : ys.length ≤ 100000) (hw : ∀ x, wipe ((wipe σ vs).set j (some x)) vs = wipe σ vs)
    (he : ∀ (i : Nat) (x y : V) (H1 : Hp), xs[i]? = some x → ys[i]? = some y → Ex H H1 → ∀ Q' : VK, (∀ H2, Ex H1 H2 → Q' y H2) → te ((wipe σ vs).set j (some x)) H1 Q')
    (q : ∀ p H1, H p = none → Ex H H1 → H1 p = some (.lst ys) → Q (.ref p) H1) : rLc (Itl K a) (gName j) tYes te vs σ Q H := fun D hD =>
  lc_list (K := K) (a := a) (xs := xs) (fun i H' => Ex H H' ∧ H' D = some (.lst (ys.take i))) ⟨Ex.new hD, by rw [upd_same]; rfl⟩ (fun i H' _ p => ex_l p.1 ht) (fun i x H' hx p => ⟨hw x, by
    have hi : i < ys.length := by rw [hxy]; exact (List.getElem?_eq_some_iff.mp hx).1
    exact cm_turn (List.getElem?_eq_getElem hi) hz hD p fun Q' k => he i x _ H' hx (List.getElem?_eq_getElem hi) p.1 Q' k⟩) (fun H' p => q D H' hD p.1 (by rw [p.2, ← hxy, List.take_length]))
theorem r_cmR {m : Nat} (hxy : ys.length = m) (hz : ys.length ≤ 100000) (hw : ∀ x, wipe ((wipe σ vs).set j (some x)) vs = wipe σ vs)
    (he : ∀ (i : Nat) (y : V) (H1 : Hp), i < m → ys[i]? = some y → Ex H H1 → ∀ Q' : VK, (∀ H2, Ex H1 H2 → Q' y H2) → te ((wipe σ vs).set j (some (.int (lo + (i : Int))))) H1 Q')
    (q : ∀ p H1, H p = none → Ex H H1 → H1 p = some (.lst ys) → Q (.ref p) H1) : rLc (Itr lo m) (gName j) tYes te vs σ Q H := fun D hD =>
  lc_range (lo := lo) (n := m) (fun i H' => Ex H H' ∧ H' D = some (.lst (ys.take i))) ⟨Ex.new hD, by rw [upd_same]; rfl⟩ (fun i H' hi' p => ⟨hw _, by
    have hi : i < ys.length := by rw [hxy]; exact hi'
    exact cm_turn (List.getElem?_eq_getElem hi) hz hD p fun Q' k => he i _ H' hi' (List.getElem?_eq_getElem hi) p.1 Q' k⟩) (fun H' p => q D H' hD p.1 (by rw [p.2, ← hxy, List.take_length]))
/-- [e for i in range(..) if t] -/
theorem r_cmRF {m : Nat} (f : Nat → Bool) (v : Nat → V) (hz : m ≤ 100000) (hw : ∀ x, wipe ((wipe σ vs).set j (some x)) vs = wipe σ vs)
    (ht : ∀ (i : Nat) H1, i < m → Ex H H1 → ∀ Q' : Bool → Hp → Prop, (∀ H2, Ex H1 H2 → Q' (f i) H2) → tt ((wipe σ vs).set j (some (.int (lo + (i : Int))))) H1 Q')
    (he : ∀ (i : Nat) H1, i < m → f i = true → Ex H H1 → ∀ Q' : VK, (∀ H2, Ex H1 H2 → Q' (v i) H2) → te ((wipe σ vs).set j (some (.int (lo + (i : Int))))) H1 Q')
    (q : ∀ p H1, H p = none → Ex H H1 → H1 p = some (.lst (given m f v)) → Q (.ref p) H1) : rLc (Itr lo m) (gName j) tt te vs σ Q H := fun D hD => by
  refine lc_range (lo := lo) (n := m) (fun i H' => Ex H H' ∧ H' D = some (.lst (given i f v))) ⟨Ex.new hD, by rw [upd_same]; rfl⟩ (fun i H' hi p => ⟨hw _, ?_⟩) (fun H' p => q D H' hD p.1 p.2)
  refine ht i H' hi p.1 _ fun H2 e2 => ?_
  cases hf : f i with
  | false =>
    refine if_F ⟨p.1.trans e2, ?_⟩
    rw [given_no hf]
    exact e2 _ _ p.2
  | true =>
    refine if_T (he i H2 hi hf (p.1.trans e2) _ fun H3 e3 => ⟨given i f v, e3 _ _ (e2 _ _ p.2), ?_, Ex.mut ((p.1.trans e2).trans e3) hD, ?_⟩)
    · have := given_len i f v
      exact Nat.lt_of_le_of_lt this (Nat.lt_of_lt_of_le hi (sz_of hz))
    · rw [upd_same, given_yes hf]
end
end L2
namespace L2
open PySem PySem.Spec PyProof.Rows Evl
section
variable {K : PySem.W.Frag} {H : Hp} {Q : VK} {a : Addr} {xs : List V}
theorem r_repL {k : Int} (h : H a = some (.lst xs)) (h0 : 0 ≤ k) (hk : k ≤ 100000) (hz : xs.length * k.toNat ≤ 100000) (q : ∀ p H1, H p = none → Ex H H1 → H1 p = some (.lst (List.replicate k.toNat xs).flatten) → Q (.ref p) H1) : rMulU K (.ref a) (.int k) H Q :=
  .inr (.inr (.inl ⟨a, k, xs, rfl, rfl, h, by omega, by omega, sz_of hz, alloc q⟩))
/-- all but the well is as it was; n draws are done -/
structure DrS (w : Addr) (H0 : Hp) (n : Nat) (H : Hp) : Prop where
  ex : ExW w H0 H
  well : Well H w n
theorem Well.upd {H : Hp} {w D : Addr} {n : Nat} {o : HO} (h : Well H w n) (hD : D ≠ w) : Well (upd H D o) w n := by
  obtain ⟨a, b, c, h1, h2⟩ := h.ex
  exact ⟨a, b, c, by rw [upd_ne hD.symm]; exact h1, h2⟩
theorem DrS.new {w D : Addr} {H0 H : Hp} {n : Nat} {o : HO} (h : DrS w H0 n H) (hD : H D = none) : DrS w H0 n (upd H D o) :=
  ⟨fun a u e ha => by rw [upd_ne (ne_of_none (h.ex a u e ha) hD)]; exact h.ex a u e ha, h.well.upd (h.well.ne hD)⟩
theorem DrS.at {w D : Addr} {H0 H : Hp} {n : Nat} (h : ∀ o, DrS w H0 n (L2.upd H D o)) : D ≠ w ∧ H0 D = none := by
  have hw : D ≠ w := fun e => by
    obtain ⟨a, b, c, h1, _⟩ := (h (.lst [])).well.ex
    rw [← e, upd_same] at h1
    cases h1
  refine ⟨hw, ?_⟩
  cases e : H0 D with
  | none => rfl
  | some u =>
    have h1 := (h (.lst [])).ex D u e hw
    have h2 := (h (.tup [])).ex D u e hw
    rw [upd_same] at h1 h2
    rw [← h1] at h2
    cases h2
theorem DrS.put {w D : Addr} {H0 H : Hp} {n : Nat} {o : HO} (h : DrS w H0 n H) (hD : D ≠ w) (h0 : H0 D = none) : DrS w H0 n (L2.upd H D o) :=
  ⟨fun a u e ha => by rw [upd_ne (ne_of_none e h0)]; exact h.ex a u e ha, h.well.upd hD⟩
theorem DrS.on {w : Addr} {H0 H H1 : Hp} {n m : Nat} (h : DrS w H0 n H) (e : ExW w H H1) (k : Well H1 w m) : DrS w H0 m H1 := ⟨h.ex.trans e, k⟩
theorem DrS.ext {w : Addr} {H0 H H1 : Hp} {n : Nat} (h : DrS w H0 n H) (e : Ex H H1) : DrS w H0 n H1 := ⟨h.ex.trans (.of e), h.well.mono e⟩
theorem DrS.more {w : Addr} {H0 H : Hp} {n m : Nat} (h : DrS w H0 n H) (e : n ≤ m) : DrS w H0 m H := ⟨h.ex, h.well.more e⟩
end
end L2
namespace Fg
abbrev Wk := List Int
/-- what is kept, the last one first -/
def stp (st : Wk) (x : Int) : Wk := match st with
  | [] => [x]
  | y :: r => if y = -x then r else x :: y :: r
def run (st : Wk) (u : Wk) : Wk := u.foldl stp st
def rd (u : Wk) : Wk := (run [] u).reverse
def bk (u : Wk) : Wk := (u.map fun x => -x).reverse
/-- no step beside its opposite one (of what is kept) -/
def Red : Wk → Prop
  | [] => True
  | [_] => True
  | x :: y :: r => y ≠ -x ∧ Red (y :: r)
theorem Red.tail {x : Int} {r : Wk} (h : Red (x :: r)) : Red r := by
  cases r with
  | nil => trivial
  | cons y r => exact h.2
theorem red_stp {st : Wk} (x : Int) (h : Red st) : Red (stp st x) := by
  cases st with
  | nil => trivial
  | cons y r =>
    show Red (if y = -x then r else x :: y :: r)
    by_cases e : y = -x
    · rw [if_pos e]
      exact h.tail
    · rw [if_neg e]
      exact ⟨e, h⟩
theorem red_run : ∀ (u : Wk) {st : Wk}, Red st → Red (run st u)
  | [], _, h => h
  | x :: u, _, h => red_run u (red_stp x h)
theorem run_append (st u v : Wk) : run st (u ++ v) = run (run st u) v := List.foldl_append
/-- a step and its opposite one are as nothing -/
theorem stp_pair {st : Wk} (x : Int) (h : Red st) : stp (stp st x) (-x) = st := by
  cases st with
  | nil =>
    show (if x = - -x then [] else [-x, x]) = []
    rw [if_pos (by omega)]
  | cons y r =>
    show stp (if y = -x then r else x :: y :: r) (-x) = y :: r
    by_cases e : y = -x
    · rw [if_pos e]
      cases r with
      | nil => rw [e]; rfl
      | cons z r =>
        show (if z = - -x then r else -x :: z :: r) = y :: z :: r
        have hz : z ≠ -y := h.1
        rw [if_neg (by rw [e] at hz; exact hz), e]
    · rw [if_neg e]
      show (if x = - -x then y :: r else -x :: x :: y :: r) = y :: r
      rw [if_pos (by omega)]
/-- the same from all -/
def Eqv (u v : Wk) : Prop := ∀ st, Red st → run st u = run st v
theorem Eqv.refl (u : Wk) : Eqv u u := fun _ _ => rfl
theorem Eqv.symm {u v : Wk} (h : Eqv u v) : Eqv v u := fun st r => (h st r).symm
theorem Eqv.trans {u v w : Wk} (h : Eqv u v) (k : Eqv v w) : Eqv u w := fun st r => (h st r).trans (k st r)
theorem Eqv.app {u v a b : Wk} (h : Eqv u v) (k : Eqv a b) : Eqv (u ++ a) (v ++ b) := fun st r => by
  rw [run_append, run_append, h st r]
  exact k _ (red_run v r)
theorem eqv_pair (x : Int) : Eqv [x, -x] [] := fun st r => stp_pair x r
theorem eqv_cut (u v : Wk) (x : Int) : Eqv (u ++ [x, -x] ++ v) (u ++ v) := by
  have h := ((Eqv.refl u).app (eqv_pair x)).app (Eqv.refl v)
  rw [List.append_nil] at h
  exact h
theorem rd_eq {u v : Wk} (h : Eqv u v) : rd u = rd v := by
  unfold rd
  rw [h [] trivial]
theorem rd_snoc (u : Wk) (x : Int) : rd (u ++ [x]) = (stp (rd u).reverse x).reverse := by
  unfold rd
  rw [run_append, List.reverse_reverse]
  rfl
theorem run_snoc (st u : Wk) (x : Int) : run st (u ++ [x]) = stp (run st u) x := by
  rw [run_append]
  rfl
/-- what is left is the same -/
theorem eqv_rd : ∀ (n : Nat) (u : Wk), u.length = n → Eqv (rd u) u
  | 0, u, h => by
    have e : u = [] := List.eq_nil_of_length_eq_zero h
    subst e
    exact .refl _
  | n + 1, u, h => by
    obtain ⟨m, x, rfl⟩ : ∃ m x, u = m ++ [x] := ⟨u.dropLast, u.getLast (by intro e; subst e; cases h), (List.dropLast_concat_getLast _).symm⟩
    have ih := eqv_rd n m (by rw [List.length_append] at h; simpa using h)
    have hr : Red (rd m).reverse := by
      unfold rd
      rw [List.reverse_reverse]
      exact red_run m trivial
    intro st r
    rw [rd_snoc, run_snoc, ← ih st r]
    generalize hq : (rd m).reverse = q at hr
    have hm : rd m = q.reverse := by rw [← hq, List.reverse_reverse]
    rw [hm]
    cases q with
    | nil => rfl
    | cons y q =>
      show run st (if y = -x then q else x :: y :: q).reverse = stp (run st (y :: q).reverse) x
      by_cases e : y = -x
      · rw [if_pos e, List.reverse_cons, run_snoc, e]
        have k := stp_pair (-x) (red_run q.reverse r)
        rw [Int.neg_neg] at k
        exact k.symm
      · rw [if_neg e, List.reverse_cons, run_snoc]
theorem eqv_of_rd {u v : Wk} (h : rd u = rd v) : Eqv u v := (eqv_rd _ u rfl).symm.trans (h ▸ eqv_rd _ v rfl)
theorem rd_app (u v : Wk) : rd (rd u ++ rd v) = rd (u ++ v) := rd_eq ((eqv_rd _ u rfl).app (eqv_rd _ v rfl))
theorem bk_app (u v : Wk) : bk (u ++ v) = bk v ++ bk u := by unfold bk; rw [List.map_append, List.reverse_append]
theorem bk_bk (u : Wk) : bk (bk u) = u := by
  unfold bk
  rw [List.map_reverse, List.reverse_reverse, List.map_map]
  have e : ((fun x : Int => -x) ∘ fun x => -x) = id := funext fun x => by show - -x = x; omega
  rw [e, List.map_id]
theorem bk_len (u : Wk) : (bk u).length = u.length := by unfold bk; rw [List.length_reverse, List.length_map]
theorem eqv_bk : ∀ u : Wk, Eqv (u ++ bk u) []
  | [] => .refl _
  | x :: u => by
    have e : bk (x :: u) = bk u ++ [-x] := by
      unfold bk
      rw [List.map_cons, List.reverse_cons]
    rw [e]
    have h := ((Eqv.refl [x]).app (eqv_bk u)).app (Eqv.refl [-x])
    rw [List.append_nil] at h
    refine Eqv.trans ?_ (eqv_pair x)
    have e2 : (x :: u) ++ (bk u ++ [-x]) = [x] ++ (u ++ bk u) ++ [-x] := by simp
    rw [e2]
    exact h
theorem eqv_kb (u : Wk) : Eqv (bk u ++ u) [] := by
  have h := eqv_bk (bk u)
  rw [bk_bk] at h
  exact h
theorem Eqv.bk {u v : Wk} (h : Eqv u v) : Eqv (Fg.bk u) (Fg.bk v) := by
  -- back u ~ back u, v, back v ~ back u, u, back v ~ back v
  have h1 : Eqv (Fg.bk u) (Fg.bk u ++ (v ++ Fg.bk v)) := by
    have k := (Eqv.refl (Fg.bk u)).app (eqv_bk v).symm
    rw [List.append_nil] at k
    exact k
  have h2 : Eqv (Fg.bk u ++ (v ++ Fg.bk v)) (Fg.bk u ++ (u ++ Fg.bk v)) := (Eqv.refl _).app (h.symm.app (.refl _))
  have h3 : Eqv (Fg.bk u ++ (u ++ Fg.bk v)) (Fg.bk v) := by
    rw [← List.append_assoc]
    have k := (eqv_kb u).app (Eqv.refl (Fg.bk v))
    exact k
  exact (h1.trans h2).trans h3
/-- straight: no pair side by side -/
def Str (u : Wk) : Prop := ∀ i x, u[i]? = some x → u[i + 1]? ≠ some (-x)
theorem str_nil : Str [] := fun i x h => by simp at h
theorem str_snoc {u : Wk} {x : Int} (h : Str u) (hl : u.getLast? ≠ some (-x)) : Str (u ++ [x]) := by
  intro i z hz e
  by_cases hi : i + 1 < u.length
  · rw [List.getElem?_append_left (by omega)] at hz
    rw [List.getElem?_append_left hi] at e
    exact h i z hz e
  · by_cases hi2 : i + 1 = u.length
    · rw [List.getElem?_append_left (by omega)] at hz
      rw [List.getElem?_append_right (by omega), hi2, Nat.sub_self] at e
      have e' : x = -z := Option.some.inj e
      apply hl
      rw [List.getLast?_eq_getElem?]
      have e3 : u.length - 1 = i := by omega
      rw [e3, hz, e']
      congr 1
      omega
    · rw [List.getElem?_eq_none (by rw [List.length_append]; simp; omega)] at e
      cases e
theorem str_init {u : Wk} {x : Int} (h : Str (u ++ [x])) : Str u ∧ u.getLast? ≠ some (-x) := by
  refine ⟨fun i z hz e => ?_, fun e => ?_⟩
  · have l2 : i + 1 < u.length := (List.getElem?_eq_some_iff.mp e).1
    refine h i z ?_ ?_
    · rw [List.getElem?_append_left (by omega)]
      exact hz
    · rw [List.getElem?_append_left l2]
      exact e
  · rw [List.getLast?_eq_getElem?] at e
    have l1 : u.length - 1 < u.length := (List.getElem?_eq_some_iff.mp e).1
    refine h (u.length - 1) (-x) ?_ ?_
    · rw [List.getElem?_append_left l1]
      exact e
    · rw [show u.length - 1 + 1 = u.length by omega, List.getElem?_append_right (Nat.le_refl _), Nat.sub_self, Int.neg_neg]
      rfl
/-- a straight one stays -/
theorem rd_of_str : ∀ (n : Nat) (u : Wk), u.length = n → Str u → rd u = u
  | 0, u, h, _ => by
    have e : u = [] := List.eq_nil_of_length_eq_zero h
    subst e
    rfl
  | n + 1, u, h, s => by
    obtain ⟨m, x, rfl⟩ : ∃ m x, u = m ++ [x] := ⟨u.dropLast, u.getLast (by intro e; subst e; cases h), (List.dropLast_concat_getLast _).symm⟩
    obtain ⟨s1, s2⟩ := str_init s
    have ih := rd_of_str n m (by rw [List.length_append] at h; simpa using h) s1
    rw [rd_snoc, ih]
    generalize hq : m.reverse = q
    have hm : m = q.reverse := by rw [← hq, List.reverse_reverse]
    cases q with
    | nil => rw [hm]; rfl
    | cons y q =>
      have hl : m.getLast? = some y := by rw [hm, List.reverse_cons, List.getLast?_append]; rfl
      have hy : y ≠ -x := fun e => s2 (by rw [hl, e])
      show (if y = -x then q else x :: y :: q).reverse = m ++ [x]
      rw [if_neg hy, List.reverse_cons, ← hm]
theorem str_of_red : ∀ {st : Wk}, Red st → Str st.reverse
  | [], _ => str_nil
  | [x], _ => str_snoc (u := []) (x := x) str_nil (by simp)
  | x :: y :: r, h => by
    rw [List.reverse_cons]
    refine str_snoc (str_of_red h.2) ?_
    rw [List.reverse_cons, List.getLast?_append]
    intro e
    exact h.1 (Option.some.inj e)
theorem str_rd (u : Wk) : Str (rd u) := str_of_red (red_run u trivial)
theorem rd_str {u : Wk} (h : Str u) : rd u = u := rd_of_str _ u rfl h
theorem str_bk {u : Wk} (h : Str u) : Str (bk u) := by
  intro i x hx e
  unfold bk at hx e
  have l1 : i + 1 < u.length := by
    have := (List.getElem?_eq_some_iff.mp e).1
    simpa using this
  rw [List.getElem?_reverse (by simpa using (by omega : i < u.length)), List.getElem?_map] at hx
  rw [List.getElem?_reverse (by simpa using l1), List.getElem?_map] at e
  simp only [List.length_map] at hx e
  cases h1 : u[u.length - 1 - i]? with
  | none => rw [h1] at hx; cases hx
  | some z =>
    rw [h1] at hx
    have ez : -z = x := Option.some.inj hx
    cases h2 : u[u.length - 1 - (i + 1)]? with
    | none => rw [h2] at e; cases e
    | some y =>
      rw [h2] at e
      have ey : -y = -x := Option.some.inj e
      refine h (u.length - 1 - (i + 1)) y h2 ?_
      rw [show u.length - 1 - (i + 1) + 1 = u.length - 1 - i by omega, h1]
      congr 1
      omega
theorem rd_bk (u : Wk) : rd (bk u) = bk (rd u) := by
  rw [← rd_str (str_bk (str_rd u))]
  exact rd_eq (eqv_rd _ u rfl).symm.bk
theorem rd_len_le : ∀ (n : Nat) (u : Wk), u.length = n → (rd u).length ≤ u.length
  | 0, u, h => by
    have e : u = [] := List.eq_nil_of_length_eq_zero h
    subst e
    exact Nat.le_refl _
  | n + 1, u, h => by
    obtain ⟨m, x, rfl⟩ : ∃ m x, u = m ++ [x] := ⟨u.dropLast, u.getLast (by intro e; subst e; cases h), (List.dropLast_concat_getLast _).symm⟩
    have ih := rd_len_le n m (by rw [List.length_append] at h; simpa using h)
    rw [rd_snoc]
    generalize hq : (rd m).reverse = q
    have hm : rd m = q.reverse := by rw [← hq, List.reverse_reverse]
    rw [hm] at ih
    rw [List.length_append]
    cases q with
    | nil =>
      show 1 ≤ m.length + 1
      omega
    | cons y q =>
      show (if y = -x then q else x :: y :: q).reverse.length ≤ m.length + 1
      rw [List.length_reverse] at ih ⊢
      rw [List.length_cons] at ih
      split
      · omega
      · simp only [List.length_cons]
        omega
theorem rd_len (u : Wk) : (rd u).length ≤ u.length := rd_len_le _ u rfl
/-- u so many times -/
def rep : Nat → Wk → Wk
  | 0, _ => []
  | k + 1, u => rep k u ++ u
theorem rep_flat (k : Nat) (u : Wk) : (List.replicate k u).flatten = rep k u := by
  induction k with
  | zero => rfl
  | succ k ih =>
    rw [List.replicate_succ', List.flatten_append, ih]
    show rep k u ++ (u ++ []) = rep k u ++ u
    rw [List.append_nil]
theorem rep_len (k : Nat) (u : Wk) : (rep k u).length = k * u.length := by
  induction k with
  | zero => simp [rep]
  | succ k ih =>
    show (rep k u ++ u).length = (k + 1) * u.length
    rw [List.length_append, ih, Nat.succ_mul]
end Fg
namespace Fg
theorem str_take {u : Wk} (n : Nat) (h : Str u) : Str (u.take n) := by
  intro i x hx e
  have l2 : i + 1 < (u.take n).length := (List.getElem?_eq_some_iff.mp e).1
  rw [List.length_take] at l2
  rw [List.getElem?_take, if_pos (by omega)] at hx e
  exact h i x hx e
theorem str_drop {u : Wk} (n : Nat) (h : Str u) : Str (u.drop n) := by
  intro i x hx e
  rw [List.getElem?_drop] at hx e
  exact h (n + i) x hx (by rw [← e]; congr 1)
theorem str_app {u v : Wk} (hu : Str u) (hv : Str v) (h : ∀ x y, u.getLast? = some x → v.head? = some y → y ≠ -x) : Str (u ++ v) := by
  intro i x hx e
  by_cases h1 : i + 1 < u.length
  · rw [List.getElem?_append_left (by omega)] at hx
    rw [List.getElem?_append_left h1] at e
    exact hu i x hx e
  · by_cases h2 : i < u.length
    · rw [List.getElem?_append_left h2] at hx
      rw [List.getElem?_append_right (by omega)] at e
      have e0 : i + 1 - u.length = 0 := by omega
      rw [e0] at e
      refine h x (-x) ?_ ?_ rfl
      · rw [List.getLast?_eq_getElem?, show u.length - 1 = i by omega, hx]
      · rw [List.head?_eq_getElem?, e]
    · rw [List.getElem?_append_right (by omega)] at hx
      rw [List.getElem?_append_right (by omega)] at e
      have e0 : i + 1 - u.length = (i - u.length) + 1 := by omega
      rw [e0] at e
      exact hv _ x hx e
theorem rd_app_l (u v : Wk) : rd (rd u ++ v) = rd (u ++ v) := rd_eq ((eqv_rd _ u rfl).app (.refl v))
theorem rd_app_r (u v : Wk) : rd (u ++ rd v) = rd (u ++ v) := rd_eq ((Eqv.refl u).app (eqv_rd _ v rfl))
/-- one pair out -/
theorem rd_out {u : Wk} {i : Nat} {x y : Int} (hx : u[i]? = some x) (hy : u[i + 1]? = some y) (e : x = -y) : rd (u.take i ++ u.drop (i + 2)) = rd u := by
  have h1 := (List.getElem?_eq_some_iff.mp hx).1
  have h2 := (List.getElem?_eq_some_iff.mp hy).1
  have e1 : u = u.take i ++ [x, -x] ++ u.drop (i + 2) := by
    have k : u.drop i = x :: y :: u.drop (i + 2) := by
      rw [List.drop_eq_getElem_cons h1, List.drop_eq_getElem_cons h2]
      rw [List.getElem?_eq_getElem h1] at hx
      rw [List.getElem?_eq_getElem h2] at hy
      rw [Option.some.inj hx, Option.some.inj hy]
    have k2 : -x = y := by omega
    rw [k2]
    conv => lhs; rw [← List.take_append_drop i u, k]
    simp
  conv => rhs; rw [e1]
  exact (rd_eq (eqv_cut _ _ x)).symm
theorem mem_stp {st : Wk} {x y : Int} (h : y ∈ stp st x) : y ∈ st ∨ y = x := by
  cases st with
  | nil => exact .inr (List.mem_singleton.mp h)
  | cons z r =>
    have h' : y ∈ (if z = -x then r else x :: z :: r) := h
    split at h'
    · exact .inl (List.mem_cons_of_mem _ h')
    · rcases List.mem_cons.mp h' with e | e
      · exact .inr e
      · exact .inl e
theorem mem_run : ∀ (u : Wk) {st : Wk} {y : Int}, y ∈ run st u → y ∈ st ∨ y ∈ u
  | [], _, _, h => .inl h
  | x :: u, st, y, h => by
    rcases mem_run u (st := stp st x) h with k | k
    · rcases mem_stp k with k | k
      · exact .inl k
      · exact .inr (by rw [k]; exact List.mem_cons_self)
    · exact .inr (List.mem_cons_of_mem _ k)
theorem mem_rd {u : Wk} {y : Int} (h : y ∈ rd u) : y ∈ u := by
  rcases mem_run u (List.mem_reverse.mp h) with k | k
  · cases k
  · exact k
theorem rep_one (u : Wk) : rep 1 u = u := by
  show [] ++ u = u
  rfl
end Fg
namespace L2
open PySem PySem.Spec PyProof.Rows Evl
/-- steps of so many letters -/
def Stp (l : Int) (ns : List Int) : Prop := ∀ x ∈ ns, x ≠ 0 ∧ -l ≤ x ∧ x ≤ l
theorem bk_rev (ns : List Int) : Fg.bk ns = ns.reverse.map fun x => -x := by unfold Fg.bk; rw [List.map_reverse]
theorem bk_get {ns : List Int} {k : Nat} {x y : V} (hx : ((ns.map V.int).reverse)[k]? = some x) (hy : ((Fg.bk ns).map V.int)[k]? = some y) : ∃ z, x = .int z ∧ y = .int (-z) := by
  rw [← List.map_reverse, List.getElem?_map] at hx
  rw [List.getElem?_map, bk_rev, List.getElem?_map] at hy
  cases hn : ns.reverse[k]? with
  | none => rw [hn] at hx; cases hx
  | some z =>
    rw [hn] at hx hy
    cases hx
    cases hy
    exact ⟨z, rfl, rfl⟩
end L2
namespace Fg
theorem tw_len {p : Nat → Bool} : ∀ (m s : Nat), s ≤ m → (∀ j, j < s → p j = true) → (s < m → p s = false) → ((List.range m).takeWhile p).length = s := by
  intro m s hs h1 h2
  have e : List.range m = List.range s ++ (List.range (m - s)).map (s + ·) := by
    have k : m = s + (m - s) := by omega
    conv => lhs; rw [k]
    rw [List.range_add]
  rw [e, List.takeWhile_append_of_pos (fun a ha => h1 a (List.mem_range.mp ha)), List.length_append, List.length_range]
  by_cases h : s < m
  · have k : m - s = (m - s - 1) + 1 := by omega
    rw [k, List.range_succ_eq_map, List.map_cons, List.takeWhile_cons_of_neg (by rw [Nat.add_zero, h2 h]; exact Bool.false_ne_true)]
    rfl
  · have k : m - s = 0 := by omega
    rw [k]
    rfl
def mt (u : Wk) (j : Nat) : Bool := decide (u.getD j 0 = -(u.getD (u.length - 1 - j) 0))
/-- how many steps the lead has -/
def ld (u : Wk) : Nat := ((List.range (u.length / 2)).takeWhile (mt u)).length
theorem ld_eq {u : Wk} {s : Nat} (h : s ≤ u.length / 2) (h1 : ∀ j, j < s → mt u j = true) (h2 : s < u.length / 2 → mt u s = false) : ld u = s := tw_len _ s h h1 h2
theorem ld_le (u : Wk) : ld u ≤ u.length / 2 := by
  unfold ld
  have h := (List.takeWhile_sublist (mt u) (l := List.range (u.length / 2))).length_le
  rw [List.length_range] at h
  exact h
theorem ld_mt {u : Wk} {j : Nat} (h : j < ld u) : mt u j = true := by
  have hl := ld_le u
  have hs := List.takeWhile_prefix (mt u) (l := List.range (u.length / 2))
  have hm : ((List.range (u.length / 2)).takeWhile (mt u))[j]'h ∈ (List.range (u.length / 2)).takeWhile (mt u) := List.getElem_mem h
  have e : ((List.range (u.length / 2)).takeWhile (mt u))[j]'h = j := by
    rw [hs.getElem h, List.getElem_range]
  have hall := List.all_takeWhile (p := mt u) (l := List.range (u.length / 2))
  rw [List.all_eq_true] at hall
  have k := hall _ hm
  rw [e] at k
  exact k
theorem mt_of {u : Wk} {j : Nat} {x y : Int} (hx : u[j]? = some x) (hy : u[u.length - 1 - j]? = some y) : mt u j = decide (x = -y) := by
  unfold mt
  rw [List.getD_eq_getElem?_getD, List.getD_eq_getElem?_getD, hx, hy]
  rfl
/-- beyond the lead nothing fits -/
theorem ld_end {u : Wk} (h : ld u < u.length / 2) : mt u (ld u) = false := by
  refine Qt.drp ?_ ?_
  · cases e : mt u (ld u) with
    | false => rfl
    | true =>
      exfalso
      -- then the lead would be longer
      have hmono : ∀ j, j < ld u + 1 → mt u j = true := fun j hj => by
        rcases Nat.lt_or_ge j (ld u) with k | k
        · exact ld_mt k
        · have : j = ld u := by omega
          rw [this]
          exact e
      -- the first s that does not fit, or the half
      have : ∃ s, ld u + 1 ≤ s ∧ s ≤ u.length / 2 ∧ (∀ j, j < s → mt u j = true) ∧ (s < u.length / 2 → mt u s = false) := by
        have go : ∀ (d s : Nat), u.length / 2 - s = d → ld u + 1 ≤ s → s ≤ u.length / 2 → (∀ j, j < s → mt u j = true) → ∃ s, ld u + 1 ≤ s ∧ s ≤ u.length / 2 ∧ (∀ j, j < s → mt u j = true) ∧ (s < u.length / 2 → mt u s = false) := by
          intro d
          induction d with
          | zero => exact fun s hd h1 h2 h3 => ⟨s, h1, h2, h3, fun z => absurd z (by omega)⟩
          | succ d ih =>
            intro s hd h1 h2 h3
            cases k : mt u s with
            | false => exact ⟨s, h1, h2, h3, fun _ => k⟩
            | true =>
              refine ih (s + 1) (by omega) (by omega) (by omega) fun j hj => ?_
              rcases Nat.lt_or_ge j s with z | z
              · exact h3 j z
              · have : j = s := by omega
                rw [this]
                exact k
        exact go _ (ld u + 1) rfl (Nat.le_refl _) h hmono
      obtain ⟨s, s1, s2, s3, s4⟩ := this
      have := ld_eq s2 s3 s4
      omega
  walk_at "end"
theorem ld_str {u : Wk} (h : Str u) (hn : u ≠ []) : ld u ≤ (u.length - 1) / 2 := by
  have hl := ld_le u
  have hp : 0 < u.length := List.length_pos_iff.mpr hn
  refine Nat.le_of_not_lt fun z => ?_
  -- then it is the half of an even number
  have e1 : ld u = u.length / 2 := by omega
  have e2 : u.length = 2 * (u.length / 2) := by omega
  have hj : u.length / 2 - 1 < ld u := by omega
  have k := ld_mt hj
  have l1 : u.length / 2 - 1 < u.length := by omega
  have l2 : u.length - 1 - (u.length / 2 - 1) < u.length := by omega
  rw [mt_of (List.getElem?_eq_getElem l1) (List.getElem?_eq_getElem l2)] at k
  have k2 := of_decide_eq_true k
  refine h (u.length / 2 - 1) _ (List.getElem?_eq_getElem l1) ?_
  have e3 : u.length / 2 - 1 + 1 = u.length - 1 - (u.length / 2 - 1) := by omega
  rw [e3, List.getElem?_eq_getElem l2, k2, Int.neg_neg]
def lead (u : Wk) : Wk := u.take (ld u)
def mid (u : Wk) : Wk := (u.drop (ld u)).take (u.length - ld u - ld u)
/-- so many steps ahead are those at the end turned back -/
theorem take_bk {u : Wk} {s : Nat} (hs : s ≤ u.length) : u.take s = bk (u.drop (u.length - s)) ↔ ∀ j, j < s → mt u j = true := by
  refine Qt.drp ?_ ?_
  · have len1 : (u.take s).length = s := by rw [List.length_take]; omega
    have len2 : (bk (u.drop (u.length - s))).length = s := by rw [bk_len, List.length_drop]; omega
    have at2 : ∀ j, j < s → (bk (u.drop (u.length - s)))[j]? = (u[u.length - 1 - j]?).map fun x => -x := fun j hj => by
      unfold bk
      rw [List.getElem?_reverse (by rw [List.length_map, List.length_drop]; omega), List.getElem?_map, List.length_map, List.length_drop, List.getElem?_drop]
      congr 2
      omega
    constructor
    · intro e j hj
      have l1 : j < u.length := by omega
      have l2 : u.length - 1 - j < u.length := by omega
      rw [mt_of (List.getElem?_eq_getElem l1) (List.getElem?_eq_getElem l2)]
      have k : (u.take s)[j]? = (bk (u.drop (u.length - s)))[j]? := by rw [e]
      rw [at2 j hj, List.getElem?_take, if_pos hj, List.getElem?_eq_getElem l1, List.getElem?_eq_getElem l2] at k
      exact decide_eq_true (Option.some.inj k)
    · intro h
      apply List.ext_getElem?
      intro j
      by_cases hj : j < s
      · have l1 : j < u.length := by omega
        have l2 : u.length - 1 - j < u.length := by omega
        have k := h j hj
        rw [mt_of (List.getElem?_eq_getElem l1) (List.getElem?_eq_getElem l2)] at k
        rw [at2 j hj, List.getElem?_take, if_pos hj, List.getElem?_eq_getElem l1, List.getElem?_eq_getElem l2, of_decide_eq_true k]
        rfl
      · rw [List.getElem?_eq_none (by omega), List.getElem?_eq_none (by omega)]
  walk_at "end"
theorem take_bk_ld {u : Wk} {s : Nat} (hs : s ≤ u.length / 2) : (u.take s = bk (u.drop (u.length - s))) ↔ s ≤ ld u := by
  rw [take_bk (by omega)]
  constructor
  · intro h
    refine Nat.le_of_not_lt fun z => ?_
    have := ld_end (u := u) (by omega)
    rw [h (ld u) z] at this
    cases this
  · exact fun h j hj => ld_mt (by omega)
def Per (u : Wk) (l : Nat) : Prop := rep (u.length / l) (u.take l) = u
instance (u : Wk) (l : Nat) : Decidable (Per u l) := inferInstanceAs (Decidable (_ = _))
structure Om (u : Wk) (l : Nat) : Prop where
  pos : 1 ≤ l
  le : l ≤ u.length
  per : Per u l
  least : ∀ k, 1 ≤ k → k < l → ¬ Per u k
/-- so many times the part -/
def Tm (u : Wk) (t : Nat) : Prop := rep t (u.take (u.length / t)) = u
end Fg
namespace L2
open PySem PySem.Spec PyProof.Rows Evl
section
variable {K : PySem.W.Frag} {σ : L2.St} {H H' : Hp} {Q : VK} {D : Ends} {te : TE} {a : Addr} {xs : List V}
def rAug (i : Nat) (x : V) (ti : TIp) (D : Ends) (σ : L2.St) (y : V) (H1 : Hp) : Prop := ti x y H1 fun z H2 => D.nx (σ.set i (some z)) H2
theorem st_aug {i : Nat} {x : V} {ti : TIp} (hx : σ[i]? = some (some x)) (h : te σ H fun y H1 => rAug i x ti D σ y H1) : tAug i te ti D σ H := ⟨x, hx, h⟩
theorem r_augI {i : Nat} {x y : Int} {f : Int → Int → Int} (h : D.nx (σ.set i (some (.int (f x y)))) H) : rAug i (.int x) (ipI f) D σ (.int y) H := ⟨x, y, rfl, rfl, h⟩
/-- a, b = t -/
theorem r_tup2 {i j : Nat} {x y : V} {R : L2.St → Hp → Prop} (h : SqT K H a [x, y]) (q : R ((σ.set i (some x)).set j (some y)) H) : gTup K 2 (gCons (gName i) (gCons (gName j) gNil)) (.ref a) σ H R := ⟨a, _, rfl, h, rfl, x, [y], rfl, y, [], rfl, rfl, q⟩
theorem r_eqB {x y : Bool} (q : Q (.bl (decide (x = y))) H) : rEqU K (.bl x) (.bl y) H Q := .inl ⟨rfl, by
  have e : decide ((V.bl x) = V.bl y) = decide (x = y) := by simp
  rw [e]
  exact q⟩
/-- a tuple of two walks -/
structure P2 (K : PySem.W.Frag) (H : Hp) (q : Addr) (u v : List Int) : Prop where
  ex : ∃ a b, SqT K H q [.ref a, .ref b] ∧ IT K H a u ∧ IT K H b v
theorem P2.mono {q : Addr} {u v : List Int} (h : P2 K H q u v) (e : Ex H H') : P2 K H' q u v := by
  obtain ⟨a, b, h1, h2, h3⟩ := h.ex
  exact ⟨a, b, ex_t e h1, ex_t e h2, ex_t e h3⟩
/-- a tuple of a walk and a number -/
structure P1N (K : PySem.W.Frag) (H : Hp) (q : Addr) (u : List Int) (t : Int) : Prop where
  ex : ∃ a, SqT K H q [.ref a, .int t] ∧ IT K H a u
theorem P1N.mono {q : Addr} {u : List Int} {t : Int} (h : P1N K H q u t) (e : Ex H H') : P1N K H' q u t := by
  obtain ⟨a, h1, h2⟩ := h.ex
  exact ⟨a, ex_t e h1, ex_t e h2⟩
/-- the tuples stay -/
def TX (H H' : Hp) : Prop := ∀ a xs, H a = some (.tup xs) ∨ (∃ o, H a = some (.frz o (.tup xs))) → H' a = H a
theorem TX.refl (H : Hp) : TX H H := fun _ _ _ => rfl
theorem TX.trans {H H1 H2 : Hp} (a : TX H H1) (b : TX H1 H2) : TX H H2 := fun x xs h => by
  have e := a x xs h
  rw [← e] at h
  rw [b x xs h, e]
theorem TX.of (e : Ex H H') : TX H H' := fun a xs h => by
  rcases h with h | ⟨o, h⟩
  · rw [h, e _ _ h]
  · rw [h, e _ _ h]
theorem TX.w {w : Addr} {n : Nat} (e : ExW w H H') (k : Well H w n) : TX H H' := fun a xs h => by
  obtain ⟨_, _, _, h1, _⟩ := k.ex
  rcases h with h | ⟨o, h⟩
  · rw [h, e _ _ h (ne_of h h1 (by intro z; cases z))]
  · rw [h, e _ _ h (ne_of h h1 (by intro z; cases z))]
theorem tx_t (e : TX H H') (h : SqT K H a xs) : SqT K H' a xs := by
  rcases h with (h | ⟨o, h⟩) | h
  · exact .inl (.inl (by rw [e _ _ (.inl h)]; exact h))
  · exact .inl (.inr ⟨o, by rw [e _ _ (.inr ⟨o, h⟩)]; exact h⟩)
  · exact .inr h
theorem DrS.tx {w : Addr} {n k : Nat} (h : DrS w H n H') (h0 : Well H w k) : TX H H' := .w h.ex h0
end
end L2
namespace L2
open PySem PySem.Spec PyProof.Rows
end L2
namespace L2
open PySem PySem.Spec PyProof.Rows Evl
/-- a kind of sequence: how it stands in the abstract heap and in the heap, and its iterator -/
structure SK where
  Sq : PySem.W.Frag → Hp → Addr → List V → Prop
  Is : Heap → Addr → Array Value → Prop
  It : Heap → Addr → Addr → Nat → Prop
  o : Addr → Obj
  seen : ∀ {X : Cx} {pins : List (Addr × Obj)} {σ : L2.St} {H : Hp} {s : Shared} {a : Addr} {xs : List V}, Inv X pins σ H s → Sq X.K H a xs → ∃ its : List Value, Vals xs its ∧ Is s.heap a its.toArray
  one : ∀ {X : Cx} {pins : List (Addr × Obj)} {σ : L2.St} {H : Hp} {s : Shared} {a : Addr} {xs ys : List V}, Inv X pins σ H s → Sq X.K H a xs → Sq X.K H a ys → xs = ys
  lt : ∀ {h : Heap} {a : Addr} {its : Array Value}, Is h a its → a < h.objs.size
  draws : ∀ {P : Program} {w : World} {A : Around} (_ : A.handled = none) (it a : Addr) (_ : a ≠ it) (its : Array Value), Draws P w A it [it, a] its.size (fun i v => its[i]? = some v) (fun i h => It h it a i ∧ Is h a its)
  begins : ∀ (a : Addr) (its : Array Value), Begins (.ref a) (o a) fun h => Is h a its
  it0 : ∀ {h : Heap} {it a : Addr}, h.get? it = some (o a) → It h it a 0
  live : ∀ {h : Heap} {it a : Addr} {i : Nat}, It h it a i → ∃ ob, h.get? it = some ob ∧ ∀ v, ob.data ≠ .cell v
  keep : ∀ {h h' : Heap} {it a : Addr} {i : Nat}, It h it a i → (∀ ob, h.get? it = some ob → h'.get? it = some ob) → It h' it a i
def skT : SK where
  Sq := SqT
  Is := fun h a its => h.IsTuple a its
  It := fun h it a i => h.IsTupleIter it a i
  o := fun a => { cls := .type "tuple_iterator", data := .fields #[.ref a, .int 0 0] }
  seen := fun I q => let ⟨its, rv, p, _⟩ := I.tuple q; ⟨its, rv, p⟩
  one := fun I q r => I.tuple_inj q r
  lt := fun h => let ⟨_, e, _⟩ := h; Heap.lt_size e
  draws := fun hh it a hne its => Draws.tuple hh it a hne its
  begins := fun a its => begins_tuple a its
  it0 := fun e => ⟨_, e, rfl, rfl⟩
  live := fun h => let ⟨ob, e, _, d⟩ := h; ⟨ob, e, fun v q => nomatch d.symm.trans q⟩
  keep := fun h k => h.at k
/-- the items, counted from k0, in new pairs -/
def ItE (k : SK) (K : PySem.W.Frag) (k0 : Int) (a : Addr) : It where
  go := fun i H => ∃ (xs : List V) (x : V), k.Sq K H a xs ∧ xs[i]? = some x
  yld := fun i H v H' => ∃ T x, v = .ref T ∧ H T = none ∧ H' = upd H T (.tup [.int (k0 + (i : Int)), x]) ∧ ∀ xs, k.Sq K H a xs → xs[i]? = some x
  stop := fun i H => ∃ xs : List V, k.Sq K H a xs ∧ xs.length = i
/-- a new tuple, the iterators' cells turned -/
theorem Inv.pairNew {X : Cx} {pins : List (Addr × Obj)} {σ : L2.St} {H : Hp} {s : Shared} {h' : Heap} {tk : Nat} {ch : List Addr} {T : Addr} {xs : List V} {us : List Value} (I : Inv X pins σ H s)
    (hk : ∀ b o, b ∉ ch → s.heap.get? b = some o → h'.get? b = some o) (hf : ∀ b ∈ ch, FpOk X pins H b) (hT : s.heap.objs.size ≤ T) (hz : xs.length ≤ 100) (rv : Vals xs us) (ht : h'.IsTuple T us.toArray) :
    Inv X pins σ (upd H T (.tup xs)) { s with heap := h', toks := tk } :=
  I.turnedNew (t' := tk) (ch := ch) hk hf hT ⟨Nat.le_trans hz (by decide), us, rv, ht⟩
theorem turn_enumE {P : Program} {w : World} {K : PySem.W.Frag} {elts : List Expr} {kk : Nat} {tpos : Pos} (k : SK) (k0 : Int) (a e it : Addr) :
    Turn P w K (.Tuple elts kk tpos) (ItE k K k0 a) [e, it] e (fun i h => (∃ old, IsEnum h e it (k0 + (i : Int)) old) ∧ k.It h it a i ∧ e ≠ it ∧ a ≠ it ∧ e ≠ a) where
  mem := List.mem_cons_self ..
  obj := by
    rintro i h ⟨⟨old, he⟩, hi, _⟩ b hb
    rcases List.mem_cons.mp hb with z | hb
    · subst z; exact ⟨_, he, fun v q => nomatch q⟩
    · cases List.mem_singleton.mp hb
      exact k.live hi
  keep := by
    rintro i h h' ⟨⟨old, he⟩, hi, hne⟩ q
    exact ⟨⟨old, q e (List.mem_cons_self ..) _ he⟩, k.keep hi fun o z => q it (List.mem_cons_of_mem _ (List.mem_cons_self ..)) o z, hne⟩
  item := by
    intro X hP hw hK hc i pins s σ H E I hf st hg
    cases hP; cases hw; cases hK
    obtain ⟨⟨old, he⟩, hi, n1, n2, n3⟩ := st
    obtain ⟨xs, x, hq, hx⟩ := hg
    obtain ⟨its, rv, p⟩ := k.seen I hq
    obtain ⟨u, hu, ru⟩ := rv.get hx
    have hlt : i < its.toArray.size := by
      obtain ⟨z, _⟩ := List.getElem?_eq_some_iff.mp hu
      simpa using z
    have D := k.draws (P := X.prog) (w := X.w) (A := X.A.in1) (I.ok.hd hc) it a n2 its.toArray
    have W := GoesN.enumFrom (elts := elts) (x1 := kk) (pos := tpos) k0 D e n1 (by simp [n1, n3]) (List.mem_cons_self ..)
    refine W.goes i s _ E hlt ⟨⟨old, he⟩, hi, p⟩ fun v h' tk hY hS hk _ => ?_
    obtain ⟨T, t, y, rfl, hT, hy, ht⟩ := hY
    have hy' : its[i]? = some y := by simpa using hy
    cases hu.symm.trans hy'
    have el : e < s.heap.objs.size := Heap.lt_size he
    have il : it < s.heap.objs.size := by obtain ⟨ob, z, _⟩ := k.live hi; exact Heap.lt_size z
    refine ⟨.ref T, _, I.pairNew (ch := [e, it]) (xs := [.int (k0 + (i : Int)), x]) hk hf hT (show 2 ≤ 100 by decide) (.cons ⟨t, rfl⟩ (.cons ru .nil)) ht, rfl, ⟨T, x, rfl, I.hok.fresh hT, rfl, fun ys hys => by rw [k.one I hys hq]; exact hx⟩, ⟨?_, hS.2.1, n1, n2, n3⟩, fun b hb => ?_⟩
    · exact hS.1
    · have bl : b < s.heap.objs.size := by
        rcases List.mem_cons.mp hb with z | hb
        · exact z ▸ el
        · exact (List.mem_singleton.mp hb) ▸ il
      rw [upd_ne (Nat.ne_of_lt (Nat.lt_of_lt_of_le bl hT))]
      exact (hf b hb).1
  done := by
    intro X hP hw hK hc i pins s σ H E I hf st hg
    cases hP; cases hw; cases hK
    obtain ⟨⟨old, he⟩, hi, n1, n2, n3⟩ := st
    obtain ⟨xs, hq, rfl⟩ := hg
    obtain ⟨its, rv, p⟩ := k.seen I hq
    have D := k.draws (P := X.prog) (w := X.w) (A := X.A.in1) (I.ok.hd hc) it a n2 its.toArray
    have W := GoesN.enumFrom (elts := elts) (x1 := kk) (pos := tpos) k0 D e n1 (by simp [n1, n3]) (List.mem_cons_self ..)
    have hl : its.toArray.size = xs.length := by rw [List.size_toArray, rv.length]
    exact W.stops s (fun s1 => Inv X pins σ H s1) E (by rw [hl]; exact ⟨⟨old, he⟩, hi, p⟩) fun h' tk hk _ => I.turnedL (t' := tk) hk hf
  self := fun A i s Q E st h => let ⟨⟨_, he⟩, _⟩ := st; wpAny_pyIter_enum he h
theorem enum1_typeCall (v : Value) : checkTypeCall "enumerate" ⟨[v], []⟩ = pure () := F.typeCall_enumerate_1 v
set_option maxHeartbeats 1000000 in
theorem enum1_meets {v : Value} {o : Obj} {G : Heap → Prop} (B : Begins v o G) :
    Meets (Builtin.«enumerate.__new__» ⟨[.type "enumerate", v], []⟩) (fun _ R s => G s.heap ∧
      R (.ok (.ret (.ref (s.heap.push o).objs.size)))
        { s with heap := (s.heap.push o).push { cls := .type "enumerate", data := .fields #[.none, .bool false, .ref s.heap.objs.size, rawInt 0, .none, .none] } }) := by
  refine .of_wp fun prog w A R s hs => ?_
  obtain ⟨hp, gens, drawn, tk, os⟩ := s
  obtain ⟨hG, hR⟩ := hs
  have hsub := sub_enumerate
  have q1 : ∀ {A' : Around} {E' : Value → Shared → Prop} {R' : Value → Shared → Prop}, R' (.ref hp.objs.size) ⟨hp.push o, gens, drawn, tk, os⟩ → wpAny (model prog w) A' (pyIter v) R' E' ⟨hp, gens, drawn, tk, os⟩ :=
    fun q => B.iter prog w _ _ ⟨hp, gens, drawn, tk, os⟩ _ hG q
  wp_walk using q1
  refine wpAny_stack_any fun st => wpAny_pure ?_
  split
  · rename_i c _ _ _ _ _
    cases (c == Value.type "enumerate")
    all_goals
      wp_walk using q1
      exact ⟨_, rfl, hR⟩
  · wp_walk using q1
    exact ⟨_, rfl, hR⟩
section
variable {prog : Program} {w : World} {A : Around} {E : Value → Shared → Prop} {s : Shared}
theorem enum1_call {v : Value} {o : Obj} {G : Heap → Prop} {Q : Value → Shared → Prop} (B : Begins v o G) (hG : G s.heap)
    (h : ∀ h', IsEnum h' (s.heap.objs.size + 1) s.heap.objs.size 0 .none → h'.get? s.heap.objs.size = some o →
      (∀ b ob, s.heap.get? b = some ob → h'.get? b = some ob) → Q (.ref (s.heap.objs.size + 1)) { s with heap := h' }) :
    wpAny (model prog w) A (call (.type "enumerate") [v]) Q E s := by
  refine callType_new F.called_enumerate (by decide) (enum1_typeCall _) (F.newCall_enumerate_1 _) (fun ob => F.args_object_init_2 ob _) F.entry_enumerate_new (enum1_meets B) ⟨hG, ?_⟩
  have z1 : (s.heap.push o).objs.size = s.heap.objs.size + 1 := Heap.size_push ..
  let oe : Obj := { cls := .type "enumerate", data := .fields #[.none, .bool false, .ref s.heap.objs.size, rawInt 0, .none, .none] }
  have he : ((s.heap.push o).push oe).get? (s.heap.push o).objs.size = some oe := Heap.get?_push_size (s.heap.push o) rfl
  rw [z1] at he
  show _ ∧ _
  rw [z1]
  exact ⟨⟨oe, he, rfl⟩, h _ he (Heap.get?_push_of_some _ (Heap.get?_push_size _ B.free)) fun b ob e => Heap.get?_push_of_some _ (Heap.get?_push_of_some _ e)⟩
end
def iEnumE (k : SK) (K : PySem.W.Frag) (ta : TA) : TI := fun σ H R => ta σ H fun vs H1 => ∃ a xs, vs = [.ref a] ∧ k.Sq K H1 a xs ∧ R (ItE k K 0 a) H1
theorem pi_enumE {X : Cx} (K : PySem.W.Frag) (k : SK) {e : Expr} {ta : TA} {p pos tpos : Pos} {elts : List Expr} {kk : Nat} (hg : Gl X "enumerate") (hm : X.mg "enumerate" = none) (ha : PA X [e] ta)
    (hs : starEach [e] X.env = [(false, eval e X.env)] := by rfl) (h : X.K = K := by rfl) :
    PI X (.Tuple elts kk tpos) (.Call (.Name "enumerate" p) [e] [] pos) (iEnumE k K ta) := by
  cases h
  constructor
  intro pins s σ H R I h
  refine Call_ (ld_blt I hg hm boot_enumerate (PyProof.Rows.callWith_type1 (thn (ha.run pos pins s σ H _ I h) fun us s1 got => ?_) hs rfl))
  obtain ⟨vs, H1, J, r, a, xs, ex, hq, q⟩ := got
  subst ex
  obtain ⟨u, rfl, ru⟩ : ∃ u, us = [u] ∧ u = Value.ref a := by
    cases r with
    | cons r0 rr =>
      cases rr
      exact ⟨_, rfl, r0⟩
  subst ru
  obtain ⟨its, rv, p'⟩ := k.seen J hq
  have al := k.lt p'
  refine enum1_call (k.begins a its.toArray) p' fun h' he hi hk => wpAny_pyIter_enum he ?_
  refine ⟨s1.heap.objs.size + 1, [s1.heap.objs.size + 1, s1.heap.objs.size], _, _, H1, rfl, J.kept (t' := s1.toks) hk, turn_enumE k 0 a (s1.heap.objs.size + 1) s1.heap.objs.size,
    ⟨⟨.none, he⟩, k.it0 hi, Nat.succ_ne_self _, Nat.ne_of_lt al, Nat.ne_of_gt (Nat.lt_succ_of_lt al)⟩, fun b hb => ?_, q⟩
  have hle : s1.heap.objs.size ≤ b := by
    rcases List.mem_cons.mp hb with z | hb
    · exact z ▸ Nat.le_succ _
    · exact (List.mem_singleton.mp hb) ▸ Nat.le_refl _
  exact J.fpOk hle (J.hok.fresh hle)
def ItZ3 (k1 k2 k3 : SK) (K : PySem.W.Frag) (a b c : Addr) : It where
  go := fun i H => ∃ (xs ys zs : List V) (x y z : V), (k1.Sq K H a xs ∧ k2.Sq K H b ys ∧ k3.Sq K H c zs) ∧ xs[i]? = some x ∧ ys[i]? = some y ∧ zs[i]? = some z
  yld := fun i H v H' => ∃ T x y z, v = .ref T ∧ H T = none ∧ H' = upd H T (.tup [x, y, z]) ∧ (∀ xs, k1.Sq K H a xs → xs[i]? = some x) ∧ (∀ ys, k2.Sq K H b ys → ys[i]? = some y) ∧ ∀ zs, k3.Sq K H c zs → zs[i]? = some z
  stop := fun i H => ∃ xs ys zs : List V, (k1.Sq K H a xs ∧ k2.Sq K H b ys ∧ k3.Sq K H c zs) ∧ min (min xs.length ys.length) zs.length = i
structure Z3 (k1 k2 k3 : SK) (z TI TO i1 i2 i3 a b c : Addr) (i : Nat) (h : Heap) : Prop where
  zp : IsZip h z TI TO .none
  its : IsTupOf3 h TI (.ref i1) (.ref i2) (.ref i3)
  outs : ∃ v1 v2 v3, IsTupOf3 h TO v1 v2 v3
  one : k1.It h i1 a i
  two : k2.It h i2 b i
  three : k3.It h i3 c i
theorem mem6 {b z t o x y u : Addr} (h : b ∈ [z, t, o, x, y, u]) : b = z ∨ b = t ∨ b = o ∨ b = x ∨ b = y ∨ b = u := by simpa using h
theorem Z3.lt {k1 k2 k3 : SK} {z TI TO i1 i2 i3 a b c : Addr} {i : Nat} {h : Heap} (t : Z3 k1 k2 k3 z TI TO i1 i2 i3 a b c i h) : ∀ q ∈ [z, TI, TO, i1, i2, i3], q < h.objs.size := fun q hq => by
  obtain ⟨v1, v2, v3, ho⟩ := t.outs
  rcases mem6 hq with e | e | e | e | e | e
  · exact e ▸ Heap.lt_size t.zp
  · exact e ▸ Heap.lt_size t.its
  · exact e ▸ Heap.lt_size ho
  · obtain ⟨o, g, _⟩ := k1.live t.one
    exact e ▸ Heap.lt_size g
  · obtain ⟨o, g, _⟩ := k2.live t.two
    exact e ▸ Heap.lt_size g
  · obtain ⟨o, g, _⟩ := k3.live t.three
    exact e ▸ Heap.lt_size g
def iZip3 (k1 k2 k3 : SK) (K : PySem.W.Frag) (ta : TA) : TI := fun σ H R => ta σ H fun vs H1 => ∃ a b c xs ys zs, vs = [.ref a, .ref b, .ref c] ∧ (k1.Sq K H1 a xs ∧ k2.Sq K H1 b ys ∧ k3.Sq K H1 c zs) ∧ R (ItZ3 k1 k2 k3 K a b c) H1
section
variable {K : PySem.W.Frag} {σ : L2.St} {H : Hp} {Q : VK} {D : Ends} {tb : TS} {ta : TA} {R : It → Hp → Prop} {k k1 k2 k3 : SK} {a b c : Addr} {xs ys zs : List V} {k0 : Int} {m n o : Nat}
def rItE (k : SK) (K : PySem.W.Frag) (vs : List V) (R : It → Hp → Prop) (H1 : Hp) : Prop := ∃ a xs, vs = [.ref a] ∧ k.Sq K H1 a xs ∧ R (ItE k K 0 a) H1
def rItZ3 (k1 k2 k3 : SK) (K : PySem.W.Frag) (vs : List V) (R : It → Hp → Prop) (H1 : Hp) : Prop := ∃ a b c xs ys zs, vs = [.ref a, .ref b, .ref c] ∧ (k1.Sq K H1 a xs ∧ k2.Sq K H1 b ys ∧ k3.Sq K H1 c zs) ∧ R (ItZ3 k1 k2 k3 K a b c) H1
theorem st_enumE (h : ta σ H fun us H1 => rItE k K us R H1) : iEnumE k K ta σ H R := h
theorem st_zip3 (h : ta σ H fun us H1 => rItZ3 k1 k2 k3 K us R H1) : iZip3 k1 k2 k3 K ta σ H R := h
theorem r_enumE (h : k.Sq K H a xs) (q : R (ItE k K 0 a) H) : rItE k K [.ref a] R H := ⟨a, xs, rfl, h, q⟩
theorem r_tup3 {i j l : Nat} {x y z : V} {R : L2.St → Hp → Prop} (h : SqT K H a [x, y, z]) (q : R (((σ.set i (some x)).set j (some y)).set l (some z)) H) : gTup K 3 (gCons (gName i) (gCons (gName j) (gCons (gName l) gNil))) (.ref a) σ H R :=
  ⟨a, _, rfl, h, rfl, x, [y, z], rfl, y, [z], rfl, z, [], rfl, rfl, q⟩
/-- for i, x in enumerate(xs) -/
theorem r_forE (Pv : Nat → L2.St → Hp → Prop) (h0 : Pv 0 σ H) (hl : ∀ i σ' H', i ≤ xs.length → Pv i σ' H' → k.Sq K H' a xs)
    (hs : ∀ i x σ' H' H1, xs[i]? = some x → Pv i σ' H' → Ex H' H1 → tb { D with nx := Pv (i + 1), ct := Pv (i + 1), bk := D.nx } ((σ'.set m (some (.int (k0 + (i : Int))))).set n (some x)) H1)
    (hd : ∀ σ' H', Pv xs.length σ' H' → D.nx σ' H') : rFor (ItE k K k0 a) (gTup K 2 (gCons (gName m) (gCons (gName n) gNil))) tb D σ H := by
  refine ⟨fun i d σ H => d = xs.length - i ∧ i ≤ xs.length ∧ Pv i σ H, ⟨_, rfl, Nat.zero_le _, h0⟩, ?_⟩
  rintro i d σ H ⟨rfl, hi, p⟩
  have hq := hl i σ H hi p
  rcases Nat.lt_or_ge i xs.length with lt | ge
  · have hx := List.getElem?_eq_getElem lt
    refine .inr ⟨⟨xs, _, hq, hx⟩, Pv (i + 1), fun σ' H' q => ⟨xs.length - (i + 1), by omega, rfl, lt, q⟩, ?_⟩
    rintro v H' ⟨T, x, rfl, hT, rfl, e⟩
    exact r_tup2 (t_of upd_same) (hs i x σ H _ (e xs hq) p (Ex.new hT))
  · have e : xs.length = i := by omega
    refine .inl ⟨⟨xs, hq, e⟩, hd σ H (by rw [e]; exact p)⟩
end
/-- the text of data that fits -/
structure Shows (d : PyData) : Prop where
  can : PyData.showable d = true
  plain : PyData.hasDict d = false
  depth : PyData.depth d ≤ 50
  fits : d.shown.length ≤ sizeLine
section
variable {K : PySem.W.Frag} {σ : L2.St} {H : Hp} {Q : VK} {ta tb : TE} {te : L2.St → Hp → (Int → Int → Hp → Prop) → Prop} {R : Int → Int → Hp → Prop} {i j : Int}
def rLstRg (a b : Int) (H1 : Hp) (Q : VK) : Prop := RgOk a b ∧ ∀ q, H1 q = none → Q (.ref q) (upd H1 q (.lst (rgV a b)))
def rTwoI (x y : V) (H2 : Hp) (R : Int → Int → Hp → Prop) : Prop := ∃ i j, x = .int i ∧ y = .int j ∧ R i j H2
theorem st_lstRg (h : te σ H fun a b H1 => rLstRg a b H1 Q) : tLstRg te σ H Q := h
theorem st_rg2 (h : ta σ H fun x H1 => tb σ H1 fun y H2 => rTwoI x y H2 R) : tRg2 ta tb σ H R := h
theorem r_twoI (q : R i j H) : rTwoI (.int i) (.int j) H R := ⟨i, j, rfl, rfl, q⟩
/-- the ints from a on, below b -/
def rgI (a b : Int) : List Int := (List.range (b - a).toNat).map fun i => a + (i : Nat)
theorem r_lstRg (h0 : 0 ≤ i) (h1 : j ≤ 16777216) (h2 : i ≤ 16777216) (h3 : 0 ≤ j) (q : ∀ p H1, H p = none → Ex H H1 → H1 p = some (.lst ((rgI i j).map V.int)) → Q (.ref p) H1) : rLstRg i j H Q := by
  refine ⟨RgOk.of_le h0 h1 h2 h3, fun p hp => ?_⟩
  refine q p _ hp (Ex.new hp) ?_
  rw [upd_same]
  unfold rgV rgI
  rw [List.map_map]
  rfl
end
end L2
namespace L2
open PySem PySem.Spec PyProof.Rows Evl
section
variable {K : PySem.W.Frag} {σ : L2.St} {H H' : Hp} {Q : VK} {a : Addr} {xs ys : List V} {ws us : List (List Int)} {x : V} {u : List Int}
/-- a tuple of ints -/
def WkV (K : PySem.W.Frag) (H : Hp) (x : V) (w : List Int) : Prop := ∃ a, x = .ref a ∧ IT K H a w
/-- such tuples, one behind the other -/
structure WkA (K : PySem.W.Frag) (H : Hp) (xs : List V) (ws : List (List Int)) : Prop where
  len : xs.length = ws.length
  at' : ∀ (i : Nat) x w, xs[i]? = some x → ws[i]? = some w → WkV K H x w
theorem WkV.tx (h : WkV K H x u) (e : TX H H') : WkV K H' x u := by
  obtain ⟨a, rfl, h1⟩ := h
  exact ⟨a, rfl, tx_t e h1⟩
theorem WkA.tx (h : WkA K H xs ws) (e : TX H H') : WkA K H' xs ws := ⟨h.len, fun i x w h1 h2 => (h.at' i x w h1 h2).tx e⟩
theorem WkA.ex (h : WkA K H xs ws) (e : Ex H H') : WkA K H' xs ws := h.tx (.of e)
theorem WkA.nil : WkA K H [] [] := ⟨rfl, fun i x w h => by simp at h⟩
theorem WkA.get (h : WkA K H xs ws) {i : Nat} (hx : xs[i]? = some x) : ∃ w, ws[i]? = some w ∧ WkV K H x w := by
  have hi := (List.getElem?_eq_some_iff.mp hx).1
  rw [h.len] at hi
  exact ⟨_, List.getElem?_eq_getElem hi, h.at' i _ _ hx (List.getElem?_eq_getElem hi)⟩
theorem WkA.snoc (h : WkA K H xs ws) (hx : WkV K H x u) : WkA K H (xs ++ [x]) (ws ++ [u]) := by
  refine ⟨by rw [List.length_append, List.length_append, h.len]; rfl, fun i y w h1 h2 => ?_⟩
  rcases Nat.lt_or_ge i xs.length with lt | ge
  · rw [List.getElem?_append_left lt] at h1
    rw [List.getElem?_append_left (h.len ▸ lt)] at h2
    exact h.at' i y w h1 h2
  · rw [List.getElem?_append_right ge] at h1
    rw [List.getElem?_append_right (h.len ▸ ge)] at h2
    have e : i - xs.length = 0 := by
      have := (List.getElem?_eq_some_iff.mp h1).1
      simp at this
      omega
    rw [e] at h1
    rw [← h.len, e] at h2
    cases h1
    cases h2
    exact hx
theorem WkA.set (h : WkA K H xs ws) (hx : WkV K H x u) (k : Nat) : WkA K H (xs.set k x) (ws.set k u) := by
  refine ⟨by rw [List.length_set, List.length_set, h.len], fun i y w h1 h2 => ?_⟩
  rw [List.getElem?_set] at h1 h2
  by_cases e : k = i
  · rw [if_pos e] at h1 h2
    split at h1
    · cases h1
      split at h2
      · cases h2
        exact hx
      · cases h2
    · cases h1
  · rw [if_neg e] at h1 h2
    exact h.at' i y w h1 h2
theorem WkA.app {us : List (List Int)} (h : WkA K H xs ws) (k : WkA K H ys us) : WkA K H (xs ++ ys) (ws ++ us) := by
  refine ⟨by rw [List.length_append, List.length_append, h.len, k.len], fun i y w h1 h2 => ?_⟩
  rcases Nat.lt_or_ge i xs.length with lt | ge
  · rw [List.getElem?_append_left lt] at h1
    rw [List.getElem?_append_left (h.len ▸ lt)] at h2
    exact h.at' i y w h1 h2
  · rw [List.getElem?_append_right ge] at h1
    rw [List.getElem?_append_right (h.len ▸ ge), ← h.len] at h2
    exact k.at' _ y w h1 h2
/-- what stood at a list is written anew: the tuples stay -/
theorem TX.upd {D : Addr} {o : HO} (h : H D = some (.lst xs)) : TX H (upd H D o) := fun a ys q => by
  rw [upd_ne (fun e => by subst e; rcases q with q | ⟨o', q⟩ <;> (rw [h] at q; cases q))]
theorem TX.w2 {D : Addr} (h : H D = some (.lst xs)) (e : ExW D H H') : TX H H' := fun a ys q => by
  have hne : a ≠ D := fun e => by subst e; rcases q with q | ⟨o', q⟩ <;> (rw [h] at q; cases q)
  rcases q with q | ⟨o', q⟩
  · rw [q, e a _ q hne]
  · rw [q, e a _ q hne]
/-- [e for i in range(..)], a turn may change the heap: S tells of the items so far -/
theorem r_cmRA {vs : List Nat} {j : Nat} {te : TE} {lo : Int} {m : Nat} (S : Nat → List V → Hp → Prop) (hm : m ≤ 100000) (hw : ∀ x, wipe ((wipe σ vs).set j (some x)) vs = wipe σ vs)
    (h0 : ∀ D, H D = none → ∀ o, S 0 [] (L2.upd H D o))
    (he : ∀ i H1 D acc, i < m → acc.length = i → H1 D = some (.lst acc) → (∀ o, S i acc (L2.upd H1 D o)) →
      ∀ Q' : VK, (∀ y H2, H2 D = some (.lst acc) → (∀ o, S (i + 1) (acc ++ [y]) (L2.upd H2 D o)) → Q' y H2) → te ((wipe σ vs).set j (some (.int (lo + (i : Int))))) H1 Q')
    (q : ∀ D H1 ys, H D = none → ys.length = m → H1 D = some (.lst ys) → (∀ o, S m ys (L2.upd H1 D o)) → Q (.ref D) H1) : rLc (Itr lo m) (gName j) tYes te vs σ Q H := fun D hD => by
  refine lc_range (lo := lo) (n := m) (fun i H' => ∃ ys : List V, ys.length = i ∧ (∀ o, S i ys (L2.upd H' D o)) ∧ H' D = some (.lst ys)) ⟨[], rfl, fun o => by rw [upd_upd]; exact h0 D hD o, upd_same⟩ (fun i H' hi p => ?_) (fun H' p => ?_)
  · obtain ⟨ys, h1, h4, h5⟩ := p
    refine ⟨hw _, ?_⟩
    refine he i H' D ys hi h1 h5 h4 _ fun y H2 z2 z3 => ?_
    exact ⟨ys, z2, sz_lt (by omega), ys ++ [y], by rw [List.length_append, h1]; rfl, fun o => by rw [upd_upd]; exact z3 o, upd_same⟩
  · obtain ⟨ys, h1, h4, h5⟩ := p
    exact q D H' ys hD h1 h5 h4
end
theorem upd_id {H : Hp} {D : Addr} {o : HO} (h : H D = some o) : upd H D o = H := by
  funext a
  by_cases e : a = D
  · subst e
    rw [upd_same, h]
  · rw [upd_ne e]
theorem Shows.of {d : PyData} (h1 : PyData.showable d = true) (h2 : PyData.hasDict d = false) (h3 : PyData.depth d ≤ 50) (h4 : PyData.leavesShort 13 d = true) (h5 : PyData.bulk d ≤ 2 ^ 20) : Shows d :=
  ⟨h1, h2, h3, by
    have h := PyData.shown_le_bulk 13 (by decide) d h4
    have e : sizeLine = 16777216 := by decide
    omega⟩
theorem DrS.refl {w : Addr} {H : Hp} {n : Nat} (h : Well H w n) : DrS w H n H := ⟨ExW.refl H, h⟩
/-- something of our own is changed between the draws -/
theorem DrS.mut {w f : Addr} {H0 H H1 : Hp} {n : Nat} (h : DrS w H0 n H) (e : ExW f H H1) (h0 : H0 f = none) (hf : f ≠ w) : DrS w H0 n H1 := by
  refine ⟨fun a o ha hw => e a o (h.ex a o ha hw) (ne_of_none ha h0), ?_⟩
  obtain ⟨a, b, c, h1, h2⟩ := h.well.ex
  exact ⟨a, b, c, e w _ h1 (Ne.symm hf), h2⟩
theorem fresh_w {w p : Addr} {H H1 : Hp} (e : ExW w H H1) (hw : p ≠ w) (hp : H1 p = none) : H p = none := by
  cases h : H p with
  | none => rfl
  | some o =>
    rw [e p o h hw] at hp
    cases hp
theorem DrS.fresh {w p : Addr} {H0 H : Hp} {n : Nat} (h : DrS w H0 n H) (hp : H p = none) : H0 p = none := fresh_w h.ex (h.well.ne hp) hp
theorem ixN_in {n : Nat} {i : Int} (h0 : 0 ≤ i) (h : i.toNat < n) : ixN n i = some i.toNat := by
  unfold ixN
  rw [if_pos h0, if_pos (by omega)]
theorem atI_at {xs : List V} {i : Int} {x : V} (h0 : 0 ≤ i) (hx : xs[i.toNat]? = some x) : atI xs i = some x := by
  have e : i = ((i.toNat : Nat) : Int) := by omega
  rw [e]
  exact atI_nat hx
def CmP (S : Nat → List V → Hp → Prop) (D : Addr) (i : Nat) (H' : Hp) : Prop := ∃ ys : List V, ys.length ≤ i ∧ (∀ o, S i ys (upd H' D o)) ∧ H' D = some (.lst ys)
def CmY (S : Nat → List V → Hp → Prop) (D : Addr) (i : Nat) (y : V) (H' : Hp) : Prop := ∃ acc, H' D = some (.lst acc) ∧ acc.length < sizeLine ∧ CmP S D (i + 1) (upd H' D (.lst (acc ++ [y])))
theorem cm_yes {S : Nat → List V → Hp → Prop} {D : Addr} {i : Nat} {y : V} {H' : Hp} {acc : List V} (h : H' D = some (.lst acc)) (hz : acc.length ≤ i) (hi : i < 100000) (s : ∀ o, S (i + 1) (acc ++ [y]) (upd H' D o)) : CmY S D i y H' :=
  ⟨acc, h, sz_lt (by omega), acc ++ [y], by rw [List.length_append]; simpa using hz, fun o => by rw [upd_upd]; exact s o, upd_same⟩
theorem cm_no {S : Nat → List V → Hp → Prop} {D : Addr} {i : Nat} {H' : Hp} {acc : List V} (h : H' D = some (.lst acc)) (hz : acc.length ≤ i) (s : ∀ o, S (i + 1) acc (upd H' D o)) : CmP S D (i + 1) H' := ⟨acc, by omega, s, h⟩
section
variable {K : PySem.W.Frag} {σ : L2.St} {H : Hp} {Q : VK} {a : Addr} {xs : List V} {vs : List Nat} {j : Nat} {tt : TT} {te : TE}
theorem r_cmLA (S : Nat → List V → Hp → Prop) (hz : xs.length ≤ 100000) (hw : ∀ x, wipe ((wipe σ vs).set j (some x)) vs = wipe σ vs) (hl : ∀ i ys H', S i ys H' → SqL K H' a xs)
    (h0 : ∀ D, H D = none → ∀ o, S 0 [] (upd H D o))
    (he : ∀ i x H1 D acc, xs[i]? = some x → acc.length ≤ i → H1 D = some (.lst acc) → S i acc H1 → (∀ o, S i acc (upd H1 D o)) →
      tt ((wipe σ vs).set j (some x)) H1 fun b H2 => if b = true then te ((wipe σ vs).set j (some x)) H2 (fun y H3 => CmY S D i y H3) else CmP S D (i + 1) H2)
    (q : ∀ D H1 ys, H D = none → H1 D = some (.lst ys) → S xs.length ys H1 → (∀ o, S xs.length ys (upd H1 D o)) → Q (.ref D) H1) : rLc (Itl K a) (gName j) tt te vs σ Q H := fun D hD => by
  have at1 : ∀ {i : Nat} {ys : List V} {H' : Hp}, (∀ o, S i ys (upd H' D o)) → H' D = some (.lst ys) → S i ys H' := fun {i ys H'} h e => by
    have z := h (.lst ys)
    rw [upd_id e] at z
    exact z
  refine lc_list (K := K) (a := a) (xs := xs) (fun i H' => CmP S D i H') ⟨[], Nat.le_refl _, fun o => by rw [upd_upd]; exact h0 D hD o, upd_same⟩ (fun i H' _ p => ?_) (fun i x H' hx p => ⟨hw x, ?_⟩) (fun H' p => ?_)
  · obtain ⟨ys, h1, h2, h3⟩ := p
    exact hl i ys H' (at1 h2 h3)
  · obtain ⟨ys, h1, h2, h3⟩ := p
    exact he i x H' D ys hx h1 h3 (at1 h2 h3) h2
  · obtain ⟨ys, h1, h2, h3⟩ := p
    exact q D H' ys hD h3 (at1 h2 h3) h2
end
theorem ex_none {H H1 : Hp} {D : Addr} (h : ∀ o, Ex H (upd H1 D o)) : H D = none := by
  cases e : H D with
  | none => rfl
  | some u =>
    have h1 := h (.lst []) D u e
    have h2 := h (.tup []) D u e
    rw [upd_same] at h1 h2
    rw [← h1] at h2
    cases h2
theorem ex_put {H H1 : Hp} {D : Addr} {o : HO} (e : Ex H H1) (h : H D = none) : Ex H (upd H1 D o) := fun a u q => by
  rw [upd_ne (ne_of_none q h)]
  exact e a u q
theorem WkA.init {K : PySem.W.Frag} {H : Hp} {xs : List V} {ws : List (List Int)} {x : V} {w : List Int} (h : WkA K H (xs ++ [x]) (ws ++ [w])) : WkA K H xs ws := by
  have e : xs.length = ws.length := by
    have := h.len
    rw [List.length_append, List.length_append] at this
    simpa using this
  refine ⟨e, fun i y u h1 h2 => h.at' i y u ?_ ?_⟩
  · rw [List.getElem?_append_left (List.getElem?_eq_some_iff.mp h1).1]
    exact h1
  · rw [List.getElem?_append_left (List.getElem?_eq_some_iff.mp h2).1]
    exact h2
theorem WkA.split {K : PySem.W.Frag} {H : Hp} {xs : List V} {ws : List (List Int)} {w : List Int} (h : WkA K H xs (ws ++ [w])) : ∃ ys y, xs = ys ++ [y] ∧ WkA K H ys ws := by
  rcases List.eq_nil_or_concat xs with e | ⟨ys, y, e⟩
  · have := h.len
    rw [e, List.length_append] at this
    simp at this
  · rw [List.concat_eq_append] at e
    subst e
    exact ⟨ys, y, rfl, h.init⟩
end L2
namespace L2
open PySem PySem.Spec PyProof.Rows Evl
section
variable {X : Cx}
theorem mt_indexK (K : PySem.W.Frag) (h : X.K = K := by rfl) : MtR X "list.index" (rIndex K) := h ▸ mt_index
end
theorem idxOf_le : ∀ {ns : List Int} {m : Nat} {x : Int}, ns[m]? = some x → ns.idxOf x ≤ m
  | [], _, _, h => by simp at h
  | n :: ns, 0, x, h => by
    cases h
    rw [List.idxOf_cons_self]
    exact Nat.le_refl 0
  | n :: ns, m + 1, x, h => by
    have ih := idxOf_le (ns := ns) (m := m) (x := x) (by simpa using h)
    rw [List.idxOf_cons]
    cases n == x with
    | true => exact Nat.zero_le _
    | false => exact Nat.succ_le_succ ih
section
variable {K : PySem.W.Frag} {σ : L2.St} {H : Hp} {Q : VK} {D : Ends} {a : Addr} {ns : List Int} {x y : Int}
/-- xs.index(x), a list of ints -/
theorem r_index (h : IL K H a ns) (hx : x ∈ ns) (q : Q (.int ((ns.idxOf x : Nat) : Int)) H) : rIndex K (.ref a) [.int x] H Q := by
  have hi := List.idxOf_lt_length_of_mem hx
  refine ⟨a, _, .int x, ns.idxOf x, .int x, rfl, rfl, h, rfl, ?_, ?_, ?_, fun m z' hm hz => ?_, q⟩
  · rw [List.all_eq_true]
    intro v hv
    obtain ⟨n, _, rfl⟩ := List.mem_map.mp hv
    rfl
  · rw [List.getElem?_map, List.getElem?_eq_getElem hi, List.getElem_idxOf]
    rfl
  · show decide (x = x) = true
    exact decide_eq_true rfl
  · rw [List.getElem?_map] at hz
    cases e : ns[m]? with
    | none => rw [e] at hz; cases hz
    | some n =>
      rw [e] at hz
      cases hz
      show decide (n = x) = false
      refine decide_eq_false fun e2 => ?_
      subst e2
      exact absurd (idxOf_le e) (by omega)
/-- x in xs, a list of ints -/
theorem inV_int (x : Int) (ns : List Int) : inV (.int x) (ns.map V.int) = decide (x ∈ ns) := by
  unfold inV
  induction ns with
  | nil => rfl
  | cons n ns ih =>
    rw [List.map_cons, List.any_cons, ih]
    show ((n == x) || decide (x ∈ ns)) = _
    by_cases e : n = x
    · subst e; simp
    · have e2 : ¬ x = n := fun z => e z.symm
      simp [e, e2]
theorem flat_ints (ns : List Int) : (ns.map V.int).all flatV = true := by
  rw [List.all_eq_true]
  intro v hv
  obtain ⟨n, _, rfl⟩ := List.mem_map.mp hv
  rfl
theorem r_ninL (h : IL K H a ns) (q : Q (.bl (!decide (x ∈ ns))) H) : rIn K true (.int x) (.ref a) H Q :=
  ⟨a, _, rfl, .inl h, rfl, flat_ints ns, by rw [if_pos rfl, inV_int]; exact q⟩
end
def rLc2 (J : It) (g : TG) (tt : TT) (wi1 : TI) (g1 : TG) (tt1 : TT) (te : TE) (vs vs1 : List Nat) (σ : L2.St) (Q : VK) (H1 : Hp) : Prop := ∀ D, H1 D = none → ∃ W : Nat → Nat → Hp → Prop, (∃ m, W 0 m (upd H1 D (.lst []))) ∧ ∀ i m H, W i m H →
  (J.stop i H ∧ Q (.ref D) H) ∨ (J.go i H ∧ ∃ Nx : Hp → Prop, (∀ H', Nx H' → ∃ m', m' < m ∧ W (i + 1) m' H') ∧ ∀ x H', J.yld i H x H' → g x (wipe σ vs) H' fun σ2 H2 => wipe σ2 vs = wipe σ vs ∧ tt σ2 H2 fun b H3 =>
    if b = true then wi1 σ2 H3 fun J1 H4 => ∃ W1 : Nat → Nat → Hp → Prop, (∃ m, W1 0 m H4) ∧ ∀ j k H, W1 j k H →
      (J1.stop j H ∧ Nx H) ∨ (J1.go j H ∧ ∃ Nx1 : Hp → Prop, (∀ H', Nx1 H' → ∃ k', k' < k ∧ W1 (j + 1) k' H') ∧ ∀ x H', J1.yld j H x H' → g1 x (wipe σ2 vs1) H' fun σ3 H5 => wipe σ3 vs1 = wipe σ2 vs1 ∧ tt1 σ3 H5 fun b H6 =>
        if b = true then te σ3 H6 fun y H7 => ∃ acc, H7 D = some (.lst acc) ∧ acc.length < sizeLine ∧ Nx1 (upd H7 D (.lst (acc ++ [y]))) else Nx1 H6)
    else Nx H3)
theorem st_lc2 {wi : TI} {g : TG} {tt : TT} {wi1 : TI} {g1 : TG} {tt1 : TT} {te : TE} {vs vs1 : List Nat} {σ : L2.St} {H : Hp} {Q : VK} (h : wi σ H fun J H1 => rLc2 J g tt wi1 g1 tt1 te vs vs1 σ Q H1) : tLc2 wi g tt wi1 g1 tt1 te vs vs1 σ H Q := h
section
variable {K : PySem.W.Frag} {σ : L2.St} {H : Hp} {Q : VK} {vs vs1 : List Nat} {j j1 m : Nat} {lo : Int} {wi1 : TI} {te : TE}
theorem t_yes {R : Bool → Hp → Prop} (h : R true H) : tYes σ H R := h
def flat (f : Nat → List V) (i : Nat) : List V := (List.range i).flatMap f
theorem flat_succ (f : Nat → List V) (i : Nat) : flat f (i + 1) = flat f i ++ f i := by
  unfold flat
  rw [List.range_succ, List.flatMap_append]
  simp
/-- [e for i in range(..) for x in (.., ..)], the turns change nothing; f i: what is told at the turn i -/
theorem r_lc2R (f : Nat → List V) (hf : ∀ i, i ≤ m → (flat f i).length ≤ 10000) (hk : ∀ i, i < m → (f i).length ≤ 10000) (hw : ∀ x, wipe ((wipe σ vs).set j (some x)) vs = wipe σ vs) (hw1 : ∀ x y, wipe ((wipe ((wipe σ vs).set j (some x)) vs1).set j1 (some y)) vs1 = wipe ((wipe σ vs).set j (some x)) vs1)
    (h1 : ∀ (i : Nat) (H1 : Hp) (R : It → Hp → Prop), i < m → Ex H H1 → (∀ a H2, Ex H1 H2 → SqT K H2 a (f i) → R (Itt K a) H2) → wi1 ((wipe σ vs).set j (some (.int (lo + (i : Int))))) H1 R)
    (he : ∀ (i : Nat) (y : V) (H1 : Hp) (Q' : VK), i < m → y ∈ f i → Ex H H1 → (∀ H2, Ex H1 H2 → Q' y H2) → te ((wipe ((wipe σ vs).set j (some (.int (lo + (i : Int))))) vs1).set j1 (some y)) H1 Q')
    (q : ∀ p H1, H p = none → Ex H H1 → H1 p = some (.lst (flat f m)) → Q (.ref p) H1) : rLc2 (Itr lo m) (gName j) tYes wi1 (gName j1) tYes te vs vs1 σ Q H := fun D hD => by
  refine ⟨fun i d H' => d = m - i ∧ i ≤ m ∧ Ex H H' ∧ H' D = some (.lst (flat f i)), ⟨m, by simp, Nat.zero_le _, Ex.new hD, upd_same⟩, ?_⟩
  rintro i d H' ⟨rfl, hi, e, h⟩
  rcases Nat.lt_or_ge i m with lt | ge
  · refine .inr ⟨lt, fun H'' => Ex H H'' ∧ H'' D = some (.lst (flat f (i + 1))), fun H'' p => ⟨m - (i + 1), by omega, rfl, lt, p⟩, ?_⟩
    rintro x H'' ⟨rfl, rfl⟩
    refine ⟨hw _, t_yes ?_⟩
    dsimp only
    rw [if_pos rfl]
    refine h1 i _ _ lt e fun a H4 e4 ha => ?_
    refine ⟨fun k d H' => d = (f i).length - k ∧ k ≤ (f i).length ∧ Ex H H' ∧ SqT K H' a (f i) ∧ H' D = some (.lst (flat f i ++ (f i).take k)), ⟨(f i).length, by simp, Nat.zero_le _, e.trans e4, ha, by rw [List.take_zero, List.append_nil]; exact e4 _ _ h⟩, ?_⟩
    rintro k d H5 ⟨rfl, hk', e5, ha5, h5⟩
    rcases Nat.lt_or_ge k (f i).length with lt2 | ge2
    · have hx := List.getElem?_eq_getElem lt2
      refine .inr ⟨⟨_, _, ha5, hx⟩, fun H'' => Ex H H'' ∧ SqT K H'' a (f i) ∧ H'' D = some (.lst (flat f i ++ (f i).take (k + 1))), fun H'' p => ⟨(f i).length - (k + 1), by omega, rfl, lt2, p⟩, ?_⟩
      rintro y H6 ⟨rfl, hy⟩
      have hy' := hy _ ha5
      refine ⟨hw1 _ _, t_yes ?_⟩
      dsimp only
      rw [if_pos rfl]
      refine he i y H6 _ lt (List.mem_of_getElem? hy') e5 fun H7 e7 => ?_
      have h7 := e7 _ _ h5
      have z1 := hf i hi
      have z2 := hk i lt
      refine ⟨_, h7, sz_lt (by rw [List.length_append, List.length_take]; omega), Ex.mut (e5.trans e7) hD, ?_, ?_⟩
      · exact tx_t (TX.upd h7) (ex_t e7 ha5)
      · rw [upd_same, take_snoc hy', List.append_assoc]
    · have e2 : k = (f i).length := by omega
      subst e2
      refine .inl ⟨⟨_, ha5, Nat.le_refl _⟩, e5, ?_⟩
      rw [h5, List.take_length, flat_succ]
  · have e2 : i = m := by omega
    subst e2
    exact .inl ⟨Nat.le_refl _, q D H' hD e h⟩
end
/-- draws from up to 2 ^ 220 -/
def spTakeW : Sp := fun vs H Q _ => ∃ w n m, vs = [.ref w, .int m] ∧ 0 < m ∧ m < 2 ^ 220 ∧ Well H w n ∧ n < 2 ^ 30 ∧ ∀ r H', 0 ≤ r → r < m → ExW w H H' → Well H' w (n + 1) → Q (.int r) H'
section
variable {σ : L2.St} {H : Hp} {D : Ends} {g : TG} {tb : TS} {ta : TA} {R : It → Hp → Prop} {i j lo c : Int} {m : Nat}
def rRng3 (vs : List V) (R : It → Hp → Prop) (H1 : Hp) : Prop := ∃ (i j c : Int) (n : Nat), vs = [.int i, .int j, .int c] ∧ RgC i j c n ∧ R (Itc i c n) H1
theorem st_rng3 (h : ta σ H fun us H1 => rRng3 us R H1) : iRng3 ta σ H R := h
end
section
variable {K : PySem.W.Frag} {σ : L2.St} {H : Hp} {Q : VK} {a : Addr} {xs : List V} {ns : List Int} {vs : List Nat} {j : Nat} {tt : TT} {te : TE}
theorem r_cmTA (S : Nat → List V → Hp → Prop) (hz : xs.length ≤ 100000) (hw : ∀ x, wipe ((wipe σ vs).set j (some x)) vs = wipe σ vs) (hl : ∀ i ys H', S i ys H' → SqT K H' a xs)
    (h0 : ∀ D, H D = none → ∀ o, S 0 [] (upd H D o))
    (he : ∀ i x H1 D acc, xs[i]? = some x → acc.length ≤ i → H1 D = some (.lst acc) → S i acc H1 → (∀ o, S i acc (upd H1 D o)) →
      tt ((wipe σ vs).set j (some x)) H1 fun b H2 => if b = true then te ((wipe σ vs).set j (some x)) H2 (fun y H3 => CmY S D i y H3) else CmP S D (i + 1) H2)
    (q : ∀ D H1 ys, H D = none → H1 D = some (.lst ys) → S xs.length ys H1 → (∀ o, S xs.length ys (upd H1 D o)) → Q (.ref D) H1) : rLc (Itt K a) (gName j) tt te vs σ Q H := fun D hD => by
  have at1 : ∀ {i : Nat} {ys : List V} {H' : Hp}, (∀ o, S i ys (upd H' D o)) → H' D = some (.lst ys) → S i ys H' := fun {i ys H'} h e => by
    have z := h (.lst ys)
    rw [upd_id e] at z
    exact z
  refine lc_tup (K := K) (a := a) (xs := xs) (fun i H' => CmP S D i H') ⟨[], Nat.le_refl _, fun o => by rw [upd_upd]; exact h0 D hD o, upd_same⟩ (fun i H' _ p => ?_) (fun i x H' hx p => ⟨hw x, ?_⟩) (fun H' p => ?_)
  · obtain ⟨ys, h1, h2, h3⟩ := p
    exact hl i ys H' (at1 h2 h3)
  · obtain ⟨ys, h1, h2, h3⟩ := p
    exact he i x H' D ys hx h1 h3 (at1 h2 h3) h2
  · obtain ⟨ys, h1, h2, h3⟩ := p
    exact q D H' ys hD h3 (at1 h2 h3) h2
end
end L2
namespace Od
open L2
/-- the steps of so many letters, in their order -/
def steps (L : Nat) : List Int := (List.range L).flatMap fun (i : Nat) => [(i : Int) + 1, -((i : Int) + 1)]
theorem mem_steps {L : Nat} {x : Int} : x ∈ steps L ↔ (x ≠ 0 ∧ -(L : Int) ≤ x ∧ x ≤ L) := by
  unfold steps
  rw [List.mem_flatMap]
  constructor
  · rintro ⟨i, hi, hx⟩
    have := List.mem_range.mp hi
    have e : x = (i : Int) + 1 ∨ x = -((i : Int) + 1) := by simpa using hx
    omega
  · rintro ⟨h0, h1, h2⟩
    refine ⟨x.natAbs - 1, List.mem_range.mpr (by omega), ?_⟩
    have e : x = ((x.natAbs - 1 : Nat) : Int) + 1 ∨ x = -(((x.natAbs - 1 : Nat) : Int) + 1) := by omega
    simpa using e
theorem steps_succ (L : Nat) : steps (L + 1) = steps L ++ [(L : Int) + 1, -((L : Int) + 1)] := by
  unfold steps
  rw [List.range_succ, List.flatMap_append]
  rfl
theorem steps_len : ∀ L : Nat, (steps L).length = 2 * L
  | 0 => rfl
  | L + 1 => by
    rw [steps_succ, List.length_append, steps_len L]
    rfl
theorem steps_nodup : ∀ L : Nat, (steps L).Nodup
  | 0 => List.nodup_nil
  | L + 1 => by
    rw [steps_succ, List.nodup_append]
    refine ⟨steps_nodup L, by simp; omega, fun a ha b hb => ?_⟩
    have h1 := mem_steps.mp ha
    have e : b = (L : Int) + 1 ∨ b = -((L : Int) + 1) := by simpa using hb
    omega
/-- the steps that may stand behind -/
def bh (L : Nat) (p : Option Int) : List Int := (steps L).filter fun s => decide (p ≠ some (-s))
theorem mem_bh {L : Nat} {p : Option Int} {x : Int} : x ∈ bh L p ↔ (x ∈ steps L ∧ p ≠ some (-x)) := by
  unfold bh
  rw [List.mem_filter, decide_eq_true_eq]
theorem at_idx {l : List Int} {x : Int} (h : x ∈ l) : l[l.idxOf x]? = some x := by
  have hi := List.idxOf_lt_length_of_mem h
  rw [List.getElem?_eq_getElem hi, List.getElem_idxOf]
/-- straight walks of the letters that may stand behind p -/
def G (L : Nat) : Option Int → List Int → Prop
  | _, [] => True
  | p, s :: w => s ∈ bh L p ∧ G L (some s) w
/-- the number of such of a length -/
def tot (L : Nat) (p : Option Int) : Nat → Nat
  | 0 => 1
  | z + 1 => (bh L p).length * (2 * L - 1) ^ z
/-- its number among those of its length -/
def V (L : Nat) : Option Int → List Int → Nat
  | _, [] => 0
  | p, s :: w => (bh L p).idxOf s * (2 * L - 1) ^ w.length + V L (some s) w
theorem bh_steps {L : Nat} {p : Option Int} {x : Int} (h : x ∈ bh L p) : x ∈ steps L := (mem_bh.mp h).1
/-- the last step, or what stands ahead -/
def lst (p : Option Int) (w : List Int) : Option Int := match w.getLast? with | some x => some x | none => p
theorem lst_nil (p : Option Int) : lst p [] = p := rfl
theorem lst_snoc (p : Option Int) (w : List Int) (s : Int) : lst p (w ++ [s]) = some s := by
  unfold lst
  rw [List.getLast?_concat]
theorem lst_cons (p : Option Int) (s : Int) (w : List Int) : lst p (s :: w) = lst (some s) w := by
  unfold lst
  cases w with
  | nil => rfl
  | cons t w => rw [List.getLast?_cons_cons]; rw [List.getLast?_eq_some_getLast (List.cons_ne_nil t w)]
theorem G_snoc {L : Nat} : ∀ {w : List Int} {p : Option Int} {s : Int}, G L p (w ++ [s]) ↔ (G L p w ∧ s ∈ bh L (lst p w))
  | [], p, s => by simp [G, lst_nil]
  | t :: w, p, s => by
    rw [List.cons_append, G, G, G_snoc, lst_cons, and_assoc]
theorem G_mem {L : Nat} : ∀ {w : List Int} {p : Option Int}, G L p w → ∀ x ∈ w, x ∈ steps L
  | [], _, _, _, h => by cases h
  | s :: w, p, h, x, hx => by
    rcases List.mem_cons.mp hx with e | hx
    · rw [e]; exact bh_steps h.1
    · exact G_mem h.2 x hx
/-- all shorter ones -/
def S (L : Nat) : Nat → Nat
  | 0 => 0
  | z + 1 => S L z + tot L none z
def place (L : Nat) (w : List Int) : Nat := S L w.length + V L none w
theorem snoc_ind {α : Type} {C : List α → Prop} (h0 : C []) (h1 : ∀ u x, C u → C (u ++ [x])) (w : List α) : C w := by
  have h : ∀ (n : Nat) (w : List α), w.length = n → C w := by
    intro n
    induction n with
    | zero =>
      intro w h
      rw [List.eq_nil_of_length_eq_zero h]
      exact h0
    | succ n ih =>
      intro w h
      rcases List.eq_nil_or_concat w with e | ⟨u, x, e⟩
      · rw [e]; exact h0
      · rw [List.concat_eq_append] at e
        subst e
        exact h1 u x (ih u (by simpa using h))
  exact h _ w rfl
/-- such walks are the straight ones -/
theorem G_of {L : Nat} : ∀ {w : List Int} , Stp L w → Fg.Str w → G L none w := by
  intro w
  refine snoc_ind (C := fun w => Stp L w → Fg.Str w → G L none w) (fun _ _ => trivial) (fun u x ih => ?_) w
  · intro h1 h2
    obtain ⟨s1, s2⟩ := Fg.str_init h2
    refine G_snoc.mpr ⟨ih (fun y hy => h1 y (List.mem_append_left _ hy)) s1, mem_bh.mpr ⟨mem_steps.mpr (h1 x (by simp)), ?_⟩⟩
    unfold lst
    cases e : u.getLast? with
    | none => simp
    | some y => rw [e] at s2; exact s2
theorem of_G {L : Nat} : ∀ {w : List Int}, G L none w → Stp L w ∧ Fg.Str w := by
  intro w
  refine snoc_ind (C := fun w => G L none w → Stp L w ∧ Fg.Str w) (fun _ => ⟨fun x hx => (nomatch hx), Fg.str_nil⟩) (fun u x ih => ?_) w
  · intro h
    obtain ⟨g, hx⟩ := G_snoc.mp h
    obtain ⟨a, b⟩ := ih g
    obtain ⟨h3, h4⟩ := mem_bh.mp hx
    refine ⟨fun y hy => ?_, Fg.str_snoc b ?_⟩
    · rcases List.mem_append.mp hy with hy | hy
      · exact a y hy
      · rw [List.mem_singleton.mp hy]
        exact mem_steps.mp h3
    · intro e
      unfold lst at h4
      rw [e] at h4
      exact h4 rfl
/-- what is left to choose behind i of z steps -/
def left (L z i : Nat) : Nat := if i = 0 then tot L none z else (2 * L - 1) ^ (z - i)
/-- all to a length -/
structure Fd (L z : Nat) (ws : List (List Int)) : Prop where
  len : ws.length = S L (z + 1)
  at' : ∀ q w, ws[q]? = some w → G L none w ∧ w.length ≤ z ∧ place L w = q
end Od
namespace L2
open PySem PySem.Spec PyProof.Rows Evl
section
variable {X : Cx} {K : PySem.W.Frag} {σ : L2.St} {H : Hp} {Q : VK} {D : Ends}
theorem st_par3 {i j l : Nat} {t : TA} (h : t σ H fun vs H1 => ∃ u v w, vs = [u, v, w] ∧ D.nx (((σ.set i (some u)).set j (some v)).set l (some w)) H1) : tPar3 i j l t D σ H := h
end
end L2
namespace L2
open PySem PySem.Spec PyProof.Rows Evl
def rValsL : V → Hp → VK → Prop := fun x H Q => ∃ (d : Addr) (kvs : List (Key × V)), x = .ref d ∧ H d = some (.dK kvs) ∧ ∀ p, H p = none → Q (.ref p) (upd H p (.lst (kvs.map (·.2))))
def tListVals (te : TE) : TE := fun σ H Q => te σ H fun x H1 => rValsL x H1 Q
def dm (l : List Int) (f : Int → V) : List (Key × V) := l.map fun s => (Sum.inl s, f s)
theorem dm_len (l : List Int) (f : Int → V) : (dm l f).length = l.length := by unfold dm; rw [List.length_map]
theorem valV_dm {f : Int → V} : ∀ {l : List Int} {x : Int}, x ∈ l → valV (dm l f) (Sum.inl x) = some (f x)
  | y :: l, x, h => by
    show valV ((Sum.inl y, f y) :: dm l f) (Sum.inl x) = _
    by_cases e : y = x
    · subst e
      exact valV_pos rfl
    · rw [valV_neg (fun z => e (Sum.inl.inj z))]
      rcases List.mem_cons.mp h with h | h
      · exact absurd h.symm e
      · exact valV_dm h
theorem valV_dm_no {f : Int → V} : ∀ {l : List Int} {x : Int}, x ∉ l → valV (dm l f) (Sum.inl x) = none
  | [], _, _ => rfl
  | y :: l, x, h => by
    show valV ((Sum.inl y, f y) :: dm l f) (Sum.inl x) = _
    rw [valV_neg (fun z => h (by rw [Sum.inl.inj z]; exact List.mem_cons_self))]
    exact valV_dm_no fun z => h (List.mem_cons_of_mem _ z)
theorem putK_dm {f : Int → V} {l : List Int} {x : Int} (h : x ∈ l) (y : V) : putK (dm l f) (Sum.inl x) y = dm l fun s => if s = x then y else f s := by
  have e : ((dm l f).any fun kv => decide (kv.1 = Sum.inl x)) = true := by rw [valV_any, valV_dm h]; rfl
  unfold putK
  rw [if_pos e]
  unfold dm
  rw [List.map_map]
  refine List.map_congr_left fun s _ => ?_
  show (if (Sum.inl s : Key) = Sum.inl x then ((Sum.inl s : Key), y) else (Sum.inl s, f s)) = _
  by_cases e2 : s = x
  · rw [if_pos (by rw [e2])]
    show _ = (Sum.inl s, if s = x then y else f s)
    rw [if_pos e2]
  · rw [if_neg (fun z => e2 (Sum.inl.inj z))]
    show _ = (Sum.inl s, if s = x then y else f s)
    rw [if_neg e2]
theorem putK_dm_new {f : Int → V} {l : List Int} {x : Int} (h : x ∉ l) (y : V) : putK (dm l f) (Sum.inl x) y = dm l f ++ [(Sum.inl x, y)] := putK_new y (valV_dm_no h)
theorem dm_snoc (f : Int → V) (l : List Int) (x : Int) : dm (l ++ [x]) f = dm l f ++ [(Sum.inl x, f x)] := by unfold dm; rw [List.map_append]; rfl
def rDc (J : It) (g : TG) (tt : TT) (tk tv : TE) (vs : List Nat) (σ : L2.St) (Q : VK) (H1 : Hp) : Prop := ∀ D, H1 D = none → ∃ W : Nat → Nat → Hp → Prop, (∃ m, W 0 m (upd H1 D (.dK []))) ∧ ∀ i m H, W i m H →
  (J.stop i H ∧ Q (.ref D) H) ∨ (J.go i H ∧ ∃ Nx : Hp → Prop, (∀ H', Nx H' → ∃ m', m' < m ∧ W (i + 1) m' H') ∧ ∀ x H', J.yld i H x H' → g x (wipe σ vs) H' fun σ2 H2 => wipe σ2 vs = wipe σ vs ∧ tt σ2 H2 fun b H3 =>
    if b = true then tk σ2 H3 fun y H4 => tv σ2 H4 fun z H5 => ∃ kvs k, y = kV k ∧ H5 D = some (.dK kvs) ∧ kvs.length < sizeLine ∧ Nx (upd H5 D (.dK (putK kvs k z))) else Nx H3)
def rKeys (x : V) (R : It → Hp → Prop) (H1 : Hp) : Prop := ∃ d o, x = .ref d ∧ ((∃ kvs, H1 d = some (.frz o (.dK kvs)) ∧ R (Itk d o kvs) H1) ∨ ∃ kvs, H1 d = some (.frz o (.dT kvs)) ∧ R (Itkt d o kvs) H1)
def rDGet (x y : V) (H2 : Hp) (Q : VK) : Prop := ∃ a v, x = .ref a ∧ DGet H2 a y (some v) ∧ Q v H2
def rDIn (neg : Bool) (x y : V) (H2 : Hp) (Q : VK) : Prop := ∃ a o, x = .ref a ∧ DGet H2 a y o ∧ Q (.bl (if neg then !o.isSome else o.isSome)) H2
def rDPut (x y v : V) (H3 : Hp) (R : Hp → Prop) : Prop := ∃ a H4, x = .ref a ∧ DPut H3 a y v H4 ∧ R H4
def rNewD (H : Hp) (Q : VK) : Prop := ∀ p, H p = none → Q (.ref p) (upd H p (.dK []))
section
variable {K : PySem.W.Frag} {σ : L2.St} {H : Hp} {Q : VK} {D : Ends} {g : TG} {tt : TT} {wi : TI} {td ty tv tk : TE} {vs : List Nat} {a d : Addr} {j : Nat} {R : It → Hp → Prop} {ns l : List Int} {f : Int → V} {x : Int} {kvs : List (Key × V)}
theorem st_lvals (h : td σ H fun x H1 => rValsL x H1 Q) : tListVals td σ H Q := h
theorem st_dc (h : wi σ H fun J H1 => rDc J g tt tk tv vs σ Q H1) : tDc wi g tt tk tv vs σ H Q := h
theorem st_keys (h : td σ H fun x H1 => rKeys x R H1) : iKeys td σ H R := h
theorem st_dget (h : td σ H fun x H1 => ty σ H1 fun y H2 => rDGet x y H2 Q) : tDGet td ty σ H Q := h
theorem st_din (h : ty σ H fun y H1 => td σ H1 fun x H2 => rDIn false x y H2 Q) : tDIn ty td σ H Q := h
theorem st_dnin (h : ty σ H fun y H1 => td σ H1 fun x H2 => rDIn true x y H2 Q) : tDNotIn ty td σ H Q := h
theorem st_dput (h : tv σ H fun v H1 => td σ H1 fun x H2 => ty σ H2 fun y H3 => rDPut x y v H3 fun H4 => D.nx σ H4) : sDPut td ty tv D σ H := h
theorem st_dnew (h : rNewD H Q) : tDNewK σ H Q := h
theorem r_dnew (q : ∀ p H1, H p = none → Ex H H1 → H1 p = some (.dK []) → Q (.ref p) H1) : rNewD H Q := alloc q
theorem r_dget {v : V} (h : Rd H d (.dK kvs)) (e : valV kvs (Sum.inl x) = some v) (q : Q v H) : rDGet (.ref d) (.int x) H Q := ⟨d, v, rfl, .inl ⟨kvs, Sum.inl x, h, rfl, e.symm⟩, q⟩
theorem r_dput {v : V} {R : Hp → Prop} (h : H d = some (.dK kvs)) (hz : kvs.length < 100000) (q : ∀ H1, ExW d H H1 → H1 d = some (.dK (putK kvs (Sum.inl x) v)) → R H1) : rDPut (.ref d) (.int x) v H R :=
  ⟨d, _, rfl, DPut.k (k := Sum.inl x) h (sz_lt hz), q _ ExW.upd upd_same⟩
end
end L2
namespace L2
open PySem PySem.Spec PyProof.Rows Evl
section
variable {M : Model} {A : Around} {E : Value → Shared → Prop} {s : Shared} {env : Env}
theorem callWith_type_kwB {pos : Pos} {T : String} {first : List Value} {args : List (Bool × Sem Value)} {keywords : List (Option Str × Sem Value)} {Q : Value → Shared → Prop}
    (hplain : args.any (·.1) = false) (hkw : keywords.any (·.1.isNone) = false)
    (h : wpAny M A (evalArgs (.type T) true args keywords) (fun a s₁ => wpAny M A (call (.type T) (first ++ a.pos) a.kw) Q E s₁) E s) :
    wpAny M A (callWith pos (.type T) first args keywords) Q E s := by
  unfold callWith
  refine wpAny_bind (wpAny_holding (wpAny_mono h (fun a s₁ h₁ => wpAny_bind (wpAny_standAt ?_)) fun _ _ x => x))
  simp only [hplain, hkw, Bool.or_false]
  refine wpAny_bind (wpAny_pure ?_)
  exact wpAny_bind (wpAny_mono h₁ (fun r s₂ hr => wpAny_bind (wpAny_holding (wpAny_point (wpAny_pure hr)))) fun _ _ x => x)
theorem callWith_typeKw {pos : Pos} {T : String} {e : Expr} {rest : List Expr} {kws : List Keyword} {Q : Value → Shared → Prop}
    (h : wpAny M A (spliced (backTo pos (starEach (e :: rest) env))) (fun vs s₁ => wpAny M A (evalAll ((backToKw pos (keywordEach kws env)).map (·.2)))
      (fun kvs s₂ => wpAny M A (call (.type T) vs (((backToKw pos (keywordEach kws env)).filterMap (·.1)).zip kvs)) Q E s₂) E s₁) E s)
    (he : backTo pos (starEach (e :: rest) env) = (false, eval e env) :: backTo pos (starEach rest env) := by rfl)
    (hplain : (backTo pos (starEach (e :: rest) env)).any (·.1) = false := by rfl)
    (hall : (backToKw pos (keywordEach kws env)).all (·.1.isSome) = true := by rfl)
    (hkw : (backToKw pos (keywordEach kws env)).any (·.1.isNone) = false := by rfl) :
    wpAny M A (callWith pos (.type T) [] (backTo pos (starEach (e :: rest) env)) (backToKw pos (keywordEach kws env))) Q E s := by
  refine callWith_type_kwB hplain hkw ?_
  rw [he] at h ⊢
  exact evalArgs_kwB hall h
end
def iEnumS (k : SK) (K : PySem.W.Frag) (ta : TA) (te : TE) : TI := fun σ H R => ta σ H fun vs H1 => te σ H1 fun y H2 => ∃ a xs k0, vs = [.ref a] ∧ y = .int k0 ∧ -(2 ^ 62) ≤ k0 ∧ k0 < 2 ^ 62 ∧ k.Sq K H2 a xs ∧ R (ItE k K k0 a) H2
theorem pi_enumS {X : Cx} (K : PySem.W.Frag) (k : SK) {e e2 : Expr} {ta : TA} {te : TE} {p pos tpos kp : Pos} {elts : List Expr} {kk : Nat} (hg : Gl X "enumerate") (hm : X.mg "enumerate" = none) (ha : PA X [e] ta) (he2 : PE X e2 te)
    (he : backTo pos (starEach [e] X.env) = (false, eval e X.env) :: backTo pos (starEach [] X.env) := by rfl)
    (hplain : (backTo pos (starEach [e] X.env)).any (·.1) = false := by rfl)
    (hall : (backToKw pos (keywordEach [⟨some "start", e2, kp⟩] X.env)).all (·.1.isSome) = true := by rfl)
    (hkw : (backToKw pos (keywordEach [⟨some "start", e2, kp⟩] X.env)).any (·.1.isNone) = false := by rfl)
    (hnm : (backToKw pos (keywordEach [⟨some "start", e2, kp⟩] X.env)).filterMap (·.1) = [Str.ofString "start"] := by rfl)
    (h : X.K = K := by rfl) :
    PI X (.Tuple elts kk tpos) (.Call (.Name "enumerate" p) [e] [⟨some "start", e2, kp⟩] pos) (iEnumS k K ta te) := by
  cases h
  constructor
  intro pins s σ H R I h
  refine wpAny_Call_Name_kw (ld_blt I hg hm boot_enumerate ?_)
  refine callWith_typeKw (thn (ha.run pos pins s σ H _ I h) fun us s1 got => ?_) he hplain hall hkw
  obtain ⟨vs, H1, J, r, q1⟩ := got
  refine kws_cons (thn (he2.run pins s1 σ H1 _ J q1) fun v2 s2 got2 => ?_)
  obtain ⟨y, H2, J2, ry, a, xs, k0, ex, ey, hk0, hk1, hq, q⟩ := got2
  subst ex ey
  obtain ⟨u, rfl, ru⟩ : ∃ u, us = [u] ∧ u = Value.ref a := by
    cases r with
    | cons r0 rr =>
      cases rr
      exact ⟨_, rfl, r0⟩
  subst ru
  obtain ⟨t0, rfl⟩ := ry
  refine kws_nil ?_
  rw [hnm]
  obtain ⟨its, rv, p'⟩ := k.seen J2 hq
  have al := k.lt p'
  refine enum_begins_start (k.begins a its.toArray) p' (by omega) (by omega) fun h' he hi _ hk => wpAny_pyIter_enum he ?_
  refine ⟨s2.heap.objs.size + 1, [s2.heap.objs.size + 1, s2.heap.objs.size], _, _, H2, rfl, J2.kept (t' := s2.toks) hk, turn_enumE k k0 a (s2.heap.objs.size + 1) s2.heap.objs.size,
    ⟨⟨.none, by rw [show k0 + ((0 : Nat) : Int) = k0 by omega]; exact he⟩, k.it0 hi, Nat.succ_ne_self _, Nat.ne_of_lt al, Nat.ne_of_gt (Nat.lt_succ_of_lt al)⟩, fun b hb => ?_, q⟩
  have hle : s2.heap.objs.size ≤ b := by
    rcases List.mem_cons.mp hb with z | hb
    · exact z ▸ Nat.le_succ _
    · exact (List.mem_singleton.mp hb) ▸ Nat.le_refl _
  exact J2.fpOk hle (J2.hok.fresh hle)
def rEnumS (k : SK) (K : PySem.W.Frag) (te : TE) (σ : L2.St) (vs : List V) (R : It → Hp → Prop) (H1 : Hp) : Prop := te σ H1 fun y H2 => ∃ a xs k0, vs = [.ref a] ∧ y = .int k0 ∧ -(2 ^ 62) ≤ k0 ∧ k0 < 2 ^ 62 ∧ k.Sq K H2 a xs ∧ R (ItE k K k0 a) H2
theorem st_enumS {k : SK} {K : PySem.W.Frag} {ta : TA} {te : TE} {σ : L2.St} {H : Hp} {R : It → Hp → Prop} (h : ta σ H fun vs H1 => rEnumS k K te σ vs R H1) : iEnumS k K ta te σ H R := h
theorem r_enumS {k : SK} {K : PySem.W.Frag} {σ : L2.St} {H : Hp} {R : It → Hp → Prop} {a : Addr} {xs : List V} {i : Int} (h0 : -(2 ^ 62) ≤ i) (h1 : i < 2 ^ 62) (h : k.Sq K H a xs) (q : R (ItE k K i a) H) : rEnumS k K (tC (.int i)) σ [.ref a] R H :=
  ⟨a, xs, i, rfl, rfl, h0, h1, h, q⟩
def DI (kvs : List (Key × V)) (f : Int → Option V) : Prop := ∃ l : List Int, l.Nodup ∧ (∀ x, x ∈ l ↔ (f x).isSome = true) ∧ kvs = dm l fun x => (f x).getD .non
theorem DI.nil : DI [] fun _ => none := ⟨[], List.nodup_nil, fun x => by simp, rfl⟩
theorem DI.get {kvs : List (Key × V)} {f : Int → Option V} (h : DI kvs f) (x : Int) : valV kvs (Sum.inl x) = f x := by
  obtain ⟨l, hn, hm, rfl⟩ := h
  by_cases e : x ∈ l
  · rw [valV_dm e]
    have := (hm x).mp e
    cases hf : f x with
    | none => rw [hf] at this; cases this
    | some v => rfl
  · rw [valV_dm_no e]
    cases hf : f x with
    | none => rfl
    | some v => exact absurd ((hm x).mpr (by rw [hf]; rfl)) e
theorem dm_congr {l : List Int} {f g : Int → V} (h : ∀ x ∈ l, f x = g x) : dm l f = dm l g := List.map_congr_left fun x hx => by rw [h x hx]
theorem DI.put {kvs : List (Key × V)} {f : Int → Option V} (h : DI kvs f) (x : Int) (v : V) : DI (putK kvs (Sum.inl x) v) fun t => if t = x then some v else f t := by
  refine Qt.drp ?_ ?_
  · obtain ⟨l, hn, hm, rfl⟩ := h
    by_cases e : x ∈ l
    · refine ⟨l, hn, fun t => ?_, ?_⟩
      · by_cases et : t = x
        · subst et
          simp [e]
        · simp only [if_neg et]
          exact hm t
      · rw [putK_dm e]
        refine dm_congr fun t _ => ?_
        show (if t = x then v else (f t).getD .non) = (if t = x then some v else f t).getD .non
        split <;> rfl
    · refine ⟨l ++ [x], ?_, fun t => ?_, ?_⟩
      · rw [List.nodup_append]
        refine ⟨hn, by simp, fun a ha b hb => ?_⟩
        rw [List.mem_singleton.mp hb]
        exact fun z => e (by rw [← z]; exact ha)
      · rw [List.mem_append, List.mem_singleton]
        by_cases et : t = x
        · subst et
          simp
        · simp only [if_neg et]
          exact ⟨fun z => (hm t).mp (z.resolve_right et), fun z => .inl ((hm t).mpr z)⟩
      · rw [putK_dm_new e, dm_snoc]
        congr 1
        · refine dm_congr fun t ht => ?_
          show (f t).getD .non = (if t = x then some v else f t).getD .non
          rw [if_neg fun z => e (by rw [← z]; exact ht)]
        · simp
  walk_at "end"
theorem DI.drop {kvs : List (Key × V)} {f : Int → Option V} (h : DI kvs f) (x : Int) : DI (dropK kvs (Sum.inl x)) fun t => if t = x then none else f t := by
  obtain ⟨l, hn, hm, rfl⟩ := h
  refine ⟨l.filter fun t => decide (t ≠ x), hn.filter _, fun t => ?_, ?_⟩
  · rw [List.mem_filter]
    by_cases et : t = x
    · simp [et]
    · simp only [if_neg et, decide_eq_true et, and_true]
      exact hm t
  · unfold dropK dm
    rw [List.filter_map]
    have e : (l.filter ((fun kv : Key × V => decide (kv.1 ≠ Sum.inl x)) ∘ fun s => ((Sum.inl s : Key), (f s).getD .non))) = l.filter fun t => decide (t ≠ x) := by
      refine List.filter_congr fun t _ => ?_
      show decide ((Sum.inl t : Key) ≠ Sum.inl x) = decide (t ≠ x)
      congr 1
      exact propext ⟨fun h z => h (by rw [z]), fun h z => h (Sum.inl.inj z)⟩
    rw [e]
    refine List.map_congr_left fun t ht => ?_
    have := of_decide_eq_true (List.mem_filter.mp ht).2
    simp only [if_neg this]
theorem DI.congr {kvs : List (Key × V)} {f g : Int → Option V} (h : DI kvs f) (e : ∀ x, f x = g x) : DI kvs g := by
  have : f = g := funext e
  rw [← this]
  exact h
/-- the keys, by what else tells them -/
theorem perm_of {l m : List Int} (hl : l.Nodup) (hm : m.Nodup) (h : ∀ x, x ∈ l ↔ x ∈ m) : l.Perm m := (List.perm_ext_iff_of_nodup hl hm).mpr fun x => h x
theorem DI.len {kvs : List (Key × V)} {f : Int → Option V} (h : DI kvs f) {m : List Int} (hm : m.Nodup) (e : ∀ x, x ∈ m ↔ (f x).isSome = true) : kvs.length = m.length := by
  obtain ⟨l, hn, hl, rfl⟩ := h
  rw [dm_len]
  exact (perm_of hn hm fun x => (hl x).trans (e x).symm).length_eq
def rDG1 (ty : TE) (σ : L2.St) (x : V) (H1 : Hp) (Q : VK) : Prop := ∃ a, x = .ref a ∧ IsD H1 a ∧ ty σ H1 fun y H2 => ∃ o, DGet H2 a y o ∧ Q (o.getD .non) H2
def rDG1b (a : Addr) (y : V) (H2 : Hp) (Q : VK) : Prop := ∃ o, DGet H2 a y o ∧ Q (o.getD .non) H2
def rDG2 (ty tx : TE) (σ : L2.St) (x : V) (H1 : Hp) (Q : VK) : Prop := ∃ a, x = .ref a ∧ IsD H1 a ∧ ty σ H1 fun y H2 => tx σ H2 fun z H3 => ∃ o, DGet H3 a y o ∧ Q (o.getD z) H3
def rDG2b (a : Addr) (y z : V) (H2 : Hp) (Q : VK) : Prop := ∃ o, DGet H2 a y o ∧ Q (o.getD z) H2
def rDPop (ty : TE) (σ : L2.St) (x : V) (H1 : Hp) (Q : VK) : Prop := ∃ a, x = .ref a ∧ IsD H1 a ∧ ty σ H1 fun y H2 => ∃ kvs k v, H2 a = some (.dK kvs) ∧ y = kV k ∧ valV kvs k = some v ∧ Q v (upd H2 a (.dK (dropK kvs k)))
def rDPopb (a : Addr) (y : V) (H2 : Hp) (Q : VK) : Prop := ∃ kvs k v, H2 a = some (.dK kvs) ∧ y = kV k ∧ valV kvs k = some v ∧ Q v (upd H2 a (.dK (dropK kvs k)))
def rDSet (ty tx : TE) (σ : L2.St) (x : V) (H1 : Hp) (Q : VK) : Prop := ∃ a, x = .ref a ∧ IsD H1 a ∧ ty σ H1 fun y H2 => tx σ H2 fun z H3 => ∃ (kvs : List (Key × V)) (k : Key), H3 a = some (.dK kvs) ∧ y = kV k ∧ kvs.length < sizeLine ∧ (∀ v, valV kvs k = some v → Q v H3) ∧ (valV kvs k = none → Q z (upd H3 a (.dK (putK kvs k z))))
def rDSetb (a : Addr) (y z : V) (H3 : Hp) (Q : VK) : Prop := ∃ (kvs : List (Key × V)) (k : Key), H3 a = some (.dK kvs) ∧ y = kV k ∧ kvs.length < sizeLine ∧ (∀ v, valV kvs k = some v → Q v H3) ∧ (valV kvs k = none → Q z (upd H3 a (.dK (putK kvs k z))))
def rDictC : List V → Hp → VK → Prop := fun xs H Q => ∃ (a : Addr) (kvs : List (Key × V)), xs = [.ref a] ∧ Rd H a (.dK kvs) ∧ ∀ p, H p = none → Q (.ref p) (upd H p (.dK kvs))
def rLenD : List V → Hp → VK → Prop := fun xs H Q => ∃ a kvs, xs = [V.ref a] ∧ H a = some (.dK kvs) ∧ Q (.int kvs.length) H
theorem dict_C {X : Cx} : CallR X (.type "dict") rDictC := call_dictD
theorem len_D {X : Cx} : CallR X (.builtin "len") rLenD := call_lenD
theorem list_D {X : Cx} (hc : X.calm = true) : CallR X (.type "list") rListD := call_list_dK hc
section
variable {K : PySem.W.Frag} {σ : L2.St} {H : Hp} {Q : VK} {D : Ends} {td ty tx : TE} {d : Addr} {x : Int} {z v : V} {kvs : List (Key × V)} {f : Int → Option V}
theorem st_dg1 (h : td σ H fun x H1 => rDG1 ty σ x H1 Q) : tDGet1 td ty σ H Q := h
theorem st_dg2 (h : td σ H fun x H1 => rDG2 ty tx σ x H1 Q) : tDGet2 td ty tx σ H Q := h
theorem st_dpop (h : td σ H fun x H1 => rDPop ty σ x H1 Q) : tDPop1 td ty σ H Q := h
theorem st_dset (h : td σ H fun x H1 => rDSet ty tx σ x H1 Q) : tDSetd td ty tx σ H Q := h
theorem r_dg1 (h : Rd H d (.dK kvs)) (q : ty σ H fun y H2 => rDG1b d y H2 Q) : rDG1 ty σ (.ref d) H Q := ⟨d, rfl, .inl ⟨kvs, h⟩, q⟩
theorem r_dg1b (h : Rd H d (.dK kvs)) (k : DI kvs f) (q : Q ((f x).getD .non) H) : rDG1b d (.int x) H Q := ⟨_, .inl ⟨kvs, Sum.inl x, h, rfl, (k.get x).symm⟩, q⟩
theorem r_dg2 (h : Rd H d (.dK kvs)) (q : ty σ H fun y H2 => tx σ H2 fun z H3 => rDG2b d y z H3 Q) : rDG2 ty tx σ (.ref d) H Q := ⟨d, rfl, .inl ⟨kvs, h⟩, q⟩
theorem r_dg2b (h : Rd H d (.dK kvs)) (k : DI kvs f) (q : Q ((f x).getD z) H) : rDG2b d (.int x) z H Q := ⟨_, .inl ⟨kvs, Sum.inl x, h, rfl, (k.get x).symm⟩, q⟩
theorem r_dpop (h : Rd H d (.dK kvs)) (q : ty σ H fun y H2 => rDPopb d y H2 Q) : rDPop ty σ (.ref d) H Q := ⟨d, rfl, .inl ⟨kvs, h⟩, q⟩
theorem r_dpopb (h : H d = some (.dK kvs)) (k : DI kvs f) (e : f x = some v) (q : ∀ H1 kvs', ExW d H H1 → H1 d = some (.dK kvs') → DI kvs' (fun t => if t = x then none else f t) → Q v H1) : rDPopb d (.int x) H Q :=
  ⟨kvs, Sum.inl x, v, h, rfl, (k.get x).trans e, q _ _ ExW.upd upd_same (k.drop x)⟩
theorem r_dset (h : Rd H d (.dK kvs)) (q : ty σ H fun y H2 => tx σ H2 fun z H3 => rDSetb d y z H3 Q) : rDSet ty tx σ (.ref d) H Q := ⟨d, rfl, .inl ⟨kvs, h⟩, q⟩
theorem r_dsetb (h : H d = some (.dK kvs)) (k : DI kvs f) (hz : kvs.length < 100000) (q1 : ∀ v, f x = some v → Q v H) (q2 : f x = none → ∀ H1 kvs', ExW d H H1 → H1 d = some (.dK kvs') → DI kvs' (fun t => if t = x then some z else f t) → Q z H1) : rDSetb d (.int x) z H Q :=
  ⟨kvs, Sum.inl x, h, rfl, sz_lt hz, fun v e => q1 v ((k.get x).symm.trans e), fun e => q2 ((k.get x).symm.trans e) _ _ ExW.upd upd_same (k.put x z)⟩
theorem r_dinI (h : Rd H d (.dK kvs)) (k : DI kvs f) (q : Q (.bl (f x).isSome) H) : rDIn false (.ref d) (.int x) H Q := ⟨d, _, rfl, .inl ⟨kvs, Sum.inl x, h, rfl, (k.get x).symm⟩, q⟩
theorem r_dputI {R : Hp → Prop} (h : H d = some (.dK kvs)) (k : DI kvs f) (hz : kvs.length < 100000) (q : ∀ H1 kvs', ExW d H H1 → H1 d = some (.dK kvs') → DI kvs' (fun t => if t = x then some v else f t) → R H1) : rDPut (.ref d) (.int x) v H R :=
  r_dput h hz fun H1 e h1 => q H1 _ e h1 (k.put x v)
theorem r_dictC (h : Rd H d (.dK kvs)) (q : ∀ p H1, H p = none → Ex H H1 → H1 p = some (.dK kvs) → Q (.ref p) H1) : rDictC [.ref d] H Q := ⟨d, kvs, rfl, h, alloc q⟩
theorem r_lenD (h : H d = some (.dK kvs)) (q : Q (.int (kvs.length : Int)) H) : rLenD [.ref d] H Q := ⟨d, kvs, rfl, h, q⟩
theorem r_lstD (h : H d = some (.dK kvs)) (q : ∀ p H1, H p = none → Ex H H1 → H1 p = some (.lst (kvs.map fun kv => kV kv.1)) → Q (.ref p) H1) : rListD [.ref d] H Q := ⟨d, kvs, rfl, h, alloc q⟩
end
end L2
namespace Wb
open L2
/-- where a step leads from a room -/
abbrev Gm := Nat → Int → Option Nat
structure Gr (L n : Nat) (d : Gm) : Prop where
  dom : ∀ r s g, d r s = some g → r < n ∧ g < n ∧ s ∈ Od.steps L
  sym : ∀ r s g, d r s = some g → d g (-s) = some r
theorem Gr.back {L n : Nat} {d : Gm} (G : Gr L n d) {r g : Nat} {s : Int} : d r s = some g ↔ d g (-s) = some r :=
  ⟨G.sym r s g, fun h => by have := G.sym g (-s) r h; rw [Int.neg_neg] at this; exact this⟩
/-- rooms found, each with what leads there -/
abbrev Fd := List (Nat × Option (Nat × Int))
def adv (d : Gm) (r : Nat) (fd : Fd) (s : Int) : Fd := match d r s with
  | some g => if g ∈ fd.map (·.1) then fd else fd ++ [(g, some (r, s))]
  | none => fd
def look (d : Gm) (r : Nat) (S : List Int) (fd : Fd) : Fd := S.foldl (adv d r) fd
theorem look_snoc (d : Gm) (r : Nat) (S : List Int) (s : Int) (fd : Fd) : look d r (S ++ [s]) fd = adv d r (look d r S fd) s := by unfold look; rw [List.foldl_append]; rfl
def run (d : Gm) (S : List Int) : Nat → Nat → Fd → Fd
  | 0, _, fd => fd
  | k + 1, p, fd => match fd[p]? with
    | some (r, _) => run d S k (p + 1) (look d r S fd)
    | none => fd
theorem run_on {d : Gm} {S : List Int} {k p r : Nat} {x : Option (Nat × Int)} {fd : Fd} (h : fd[p]? = some (r, x)) : run d S (k + 1) p fd = run d S k (p + 1) (look d r S fd) := by rw [run, h]
theorem run_end {d : Gm} {S : List Int} {k p : Nat} {fd : Fd} (h : fd.length ≤ p) : run d S k p fd = fd := by
  cases k with
  | zero => rfl
  | succ k => rw [run, List.getElem?_eq_none h]
def bfs (L n : Nat) (d : Gm) (home : Nat) : Fd := run d (Od.steps L) (n + 1) 0 [(home, none)]
/-- the rooms found are rooms, each once -/
structure Ok (n : Nat) (fd : Fd) : Prop where
  nodup : (fd.map (·.1)).Nodup
  lt : ∀ g ∈ fd.map (·.1), g < n
theorem nodup_lt {n : Nat} : ∀ {l : List Nat}, l.Nodup → (∀ x ∈ l, x < n) → l.length ≤ n := by
  induction n with
  | zero =>
    intro l _ h
    cases l with
    | nil => exact Nat.le_refl _
    | cons x l => exact absurd (h x List.mem_cons_self) (Nat.not_lt_zero _)
  | succ n ih =>
    intro l hn h
    by_cases hm : n ∈ l
    · have e := List.perm_cons_erase hm
      have hn2 : (l.erase n).Nodup := hn.erase n
      have z := ih (l := l.erase n) hn2 fun x hx => by
        have h1 := h x (List.mem_of_mem_erase hx)
        have h2 : x ≠ n := fun z => by
          subst z
          exact (List.Nodup.not_mem_erase hn) hx
        omega
      have := e.length_eq
      rw [List.length_cons] at this
      omega
    · have z := ih (l := l) hn fun x hx => by
        have h1 := h x hx
        have h2 : x ≠ n := fun z => by
          subst z
          exact hm hx
        omega
      omega
theorem Ok.len {n : Nat} {fd : Fd} (h : Ok n fd) : fd.length ≤ n := by
  have := nodup_lt h.nodup h.lt
  rwa [List.length_map] at this
theorem adv_ok {L n : Nat} {d : Gm} {r : Nat} {s : Int} {fd : Fd} (G : Gr L n d) (h : Ok n fd) : Ok n (adv d r fd s) := by
  unfold adv
  cases e : d r s with
  | none => exact h
  | some g =>
    show Ok n (if g ∈ fd.map (·.1) then fd else fd ++ [(g, some (r, s))])
    split
    · exact h
    · rename_i hg
      refine ⟨?_, fun x hx => ?_⟩
      · rw [List.map_append, List.nodup_append]
        refine ⟨h.nodup, by simp, fun a ha b hb => ?_⟩
        simp only [List.map_cons, List.map_nil, List.mem_singleton] at hb
        rw [hb]
        exact fun z => hg (by rw [← z]; exact ha)
      · rw [List.map_append, List.mem_append] at hx
        rcases hx with hx | hx
        · exact h.lt x hx
        · simp only [List.map_cons, List.map_nil, List.mem_singleton] at hx
          rw [hx]
          exact (G.dom _ _ _ e).2.1
theorem look_ok {L n : Nat} {d : Gm} {r : Nat} (G : Gr L n d) : ∀ (S : List Int) {fd : Fd}, Ok n fd → Ok n (look d r S fd)
  | [], _, h => h
  | s :: S, _, h => look_ok G S (adv_ok G h)
/-- what is found stays, in its place -/
theorem adv_pre (d : Gm) (r : Nat) (fd : Fd) (s : Int) : ∃ m, adv d r fd s = fd ++ m := by
  unfold adv
  cases e : d r s with
  | none => exact ⟨[], (List.append_nil _).symm⟩
  | some g =>
    show ∃ m, (if g ∈ fd.map (·.1) then fd else fd ++ [(g, some (r, s))]) = fd ++ m
    split
    · exact ⟨[], (List.append_nil _).symm⟩
    · exact ⟨_, rfl⟩
theorem look_pre (d : Gm) (r : Nat) : ∀ (S : List Int) (fd : Fd), ∃ m, look d r S fd = fd ++ m
  | [], fd => ⟨[], (List.append_nil _).symm⟩
  | s :: S, fd => by
    obtain ⟨m, e⟩ := adv_pre d r fd s
    obtain ⟨m2, e2⟩ := look_pre d r S (adv d r fd s)
    refine ⟨m ++ m2, ?_⟩
    show look d r S (adv d r fd s) = _
    rw [e2, e, List.append_assoc]
/-- all that steps lead to is found behind the look -/
theorem adv_in {d : Gm} {r g : Nat} {s : Int} (fd : Fd) (h : d r s = some g) : g ∈ (adv d r fd s).map (·.1) := by
  unfold adv
  rw [h]
  show g ∈ (if g ∈ fd.map (·.1) then fd else fd ++ [(g, some (r, s))]).map (·.1)
  split
  · assumption
  · simp
theorem pre_in {g : Nat} {fd m : Fd} (h : g ∈ fd.map (·.1)) : g ∈ (fd ++ m).map (·.1) := by
  rw [List.map_append]
  exact List.mem_append_left _ h
theorem look_in {d : Gm} {r g : Nat} {s : Int} : ∀ {S : List Int} (fd : Fd), s ∈ S → d r s = some g → g ∈ (look d r S fd).map (·.1)
  | t :: S, fd, hs, h => by
    show g ∈ (look d r S (adv d r fd t)).map (·.1)
    rcases List.mem_cons.mp hs with e | hs
    · subst e
      obtain ⟨m, e⟩ := look_pre d r S (adv d r fd s)
      rw [e]
      exact pre_in (adv_in fd h)
    · exact look_in _ hs h
/-- from whence each is found -/
def Par (d : Gm) (home : Nat) (fd : Fd) : Prop := ∀ (i : Nat) (g : Nat) (x : Option (Nat × Int)), fd[i]? = some (g, x) → (i = 0 ∧ g = home ∧ x = none) ∨ ∃ r s j y, x = some (r, s) ∧ d r s = some g ∧ j < i ∧ fd[j]? = some (r, y)
theorem adv_par {d : Gm} {home r : Nat} {s : Int} {fd : Fd} (h : Par d home fd) (hr : ∃ (j : Nat) (y : Option (Nat × Int)), fd[j]? = some (r, y)) : Par d home (adv d r fd s) ∧ ∃ (j : Nat) (y : Option (Nat × Int)), (adv d r fd s)[j]? = some (r, y) := by
  refine Qt.drp ?_ ?_
  · unfold adv
    cases e : d r s with
    | none => exact ⟨h, hr⟩
    | some g =>
      show Par d home (if g ∈ fd.map (·.1) then fd else fd ++ [(g, some (r, s))]) ∧ ∃ (j : Nat) (y : Option (Nat × Int)), (if g ∈ fd.map (·.1) then fd else fd ++ [(g, some (r, s))])[j]? = some (r, y)
      split
      · exact ⟨h, hr⟩
      · obtain ⟨j, y, hj⟩ := hr
        have lj := (List.getElem?_eq_some_iff.mp hj).1
        refine ⟨fun i g' x hi => ?_, j, y, by rw [List.getElem?_append_left lj]; exact hj⟩
        rcases Nat.lt_or_ge i fd.length with lt | ge
        · rw [List.getElem?_append_left lt] at hi
          rcases h i g' x hi with k | ⟨r', s', j', y', k1, k2, k3, k4⟩
          · exact .inl k
          · exact .inr ⟨r', s', j', y', k1, k2, k3, by rw [List.getElem?_append_left (by omega)]; exact k4⟩
        · rw [List.getElem?_append_right ge] at hi
          have e0 : i - fd.length = 0 := by
            have := (List.getElem?_eq_some_iff.mp hi).1
            simp at this
            omega
          rw [e0] at hi
          cases hi
          exact .inr ⟨r, s, j, y, rfl, e, by omega, by rw [List.getElem?_append_left lj]; exact hj⟩
  walk_at "end"
theorem look_par {d : Gm} {home r : Nat} : ∀ (S : List Int) {fd : Fd}, Par d home fd → (∃ (j : Nat) (y : Option (Nat × Int)), fd[j]? = some (r, y)) → Par d home (look d r S fd)
  | [], _, h, _ => h
  | s :: S, _, h, hr => look_par S (adv_par h hr).1 (adv_par h hr).2
/-- what stands between two turns: the rooms ahead of the place are done with -/
structure Rn (L n : Nat) (d : Gm) (home : Nat) (p : Nat) (fd : Fd) : Prop where
  ok : Ok n fd
  par : Par d home fd
  hd : fd[0]? = some (home, none)
  done : ∀ (i r : Nat) (x : Option (Nat × Int)) (s : Int) (g : Nat), i < p → fd[i]? = some (r, x) → d r s = some g → g ∈ fd.map (·.1)
theorem rn_start {L n : Nat} {d : Gm} {home : Nat} (h : home < n) : Rn L n d home 0 [(home, none)] := by
  refine ⟨⟨by simp, fun g hg => ?_⟩, fun i g x hi => ?_, rfl, fun i r x s g hi => by omega⟩
  · simp only [List.map_cons, List.map_nil, List.mem_singleton] at hg
    omega
  · cases i with
    | zero => cases hi; exact .inl ⟨rfl, rfl, rfl⟩
    | succ i => simp at hi
theorem rn_next {L n : Nat} {d : Gm} {home p r : Nat} {x : Option (Nat × Int)} {fd : Fd} (G : Gr L n d) (R : Rn L n d home p fd) (hp : fd[p]? = some (r, x)) : Rn L n d home (p + 1) (look d r (Od.steps L) fd) := by
  obtain ⟨m, e⟩ := look_pre d r (Od.steps L) fd
  have lp := (List.getElem?_eq_some_iff.mp hp).1
  refine ⟨look_ok G _ R.ok, look_par _ R.par ⟨p, x, hp⟩, ?_, fun i r' x' s g hi hr hd => ?_⟩
  · rw [e, List.getElem?_append_left (by omega)]
    exact R.hd
  · have li : i < fd.length := by omega
    rw [e, List.getElem?_append_left li] at hr
    rcases Nat.lt_or_ge i p with lt | ge
    · rw [e]
      exact pre_in (R.done i r' x' s g lt hr hd)
    · have : i = p := by omega
      subst this
      rw [hp] at hr
      cases hr
      exact look_in _ (G.dom _ _ _ hd).2.2 hd
theorem rn_run {L n : Nat} {d : Gm} {home : Nat} (G : Gr L n d) : ∀ (k p : Nat) (fd : Fd), n < p + k → Rn L n d home p fd → ∃ q, (run d (Od.steps L) k p fd).length ≤ q ∧ Rn L n d home q (run d (Od.steps L) k p fd)
  | 0, p, fd, hk, R => ⟨p, by have := R.ok.len; show fd.length ≤ p; omega, R⟩
  | k + 1, p, fd, hk, R => by
    cases hp : fd[p]? with
    | none =>
      have : fd.length ≤ p := by
        rcases Nat.lt_or_ge p fd.length with lt | ge
        · rw [List.getElem?_eq_getElem lt] at hp
          cases hp
        · exact ge
      rw [run_end this]
      exact ⟨p, this, R⟩
    | some y =>
      obtain ⟨r, x⟩ := y
      rw [run_on hp]
      exact rn_run G k (p + 1) _ (by omega) (rn_next G R hp)
/-- all that is reached -/
theorem bfs_all {L n : Nat} {d : Gm} {home : Nat} (G : Gr L n d) (h : home < n) : ∃ q, (bfs L n d home).length ≤ q ∧ Rn L n d home q (bfs L n d home) := rn_run G (n + 1) 0 _ (by omega) (rn_start h)
theorem bfs_ok {L n : Nat} {d : Gm} {home : Nat} (G : Gr L n d) (h : home < n) : Ok n (bfs L n d home) := (bfs_all G h).choose_spec.2.ok
theorem bfs_closed {L n : Nat} {d : Gm} {home r g : Nat} {s : Int} (G : Gr L n d) (h : home < n) (hr : r ∈ (bfs L n d home).map (·.1)) (hd : d r s = some g) : g ∈ (bfs L n d home).map (·.1) := by
  obtain ⟨q, hq, R⟩ := bfs_all G h
  obtain ⟨i, hi⟩ := List.mem_iff_getElem?.mp hr
  rw [List.getElem?_map] at hi
  cases e : (bfs L n d home)[i]? with
  | none => rw [e] at hi; cases hi
  | some y =>
    rw [e] at hi
    cases hi
    exact R.done i y.1 y.2 s g (by have := (List.getElem?_eq_some_iff.mp e).1; omega) e hd
def ren (φ : Nat → Nat) (fd : Fd) : Fd := fd.map fun y => (φ y.1, y.2.map fun z => (φ z.1, z.2))
theorem ren_keys (φ : Nat → Nat) (fd : Fd) : (ren φ fd).map (·.1) = (fd.map (·.1)).map φ := by unfold ren; rw [List.map_map, List.map_map]; rfl
structure Sim (d d' : Gm) (φ : Nat → Nat) (P : Nat → Prop) : Prop where
  inj : ∀ a b, P a → P b → φ a = φ b → a = b
  go : ∀ r s, P r → d' (φ r) s = (d r s).map φ
  on : ∀ r s g, P r → d r s = some g → P g
theorem adv_ren {d d' : Gm} {φ : Nat → Nat} {P : Nat → Prop} (I : Sim d d' φ P) {r : Nat} {s : Int} {fd : Fd} (hr : P r) (hf : ∀ g ∈ fd.map (·.1), P g) : adv d' (φ r) (ren φ fd) s = ren φ (adv d r fd s) ∧ ∀ g ∈ (adv d r fd s).map (·.1), P g := by
  refine Qt.drp ?_ ?_
  · unfold adv
    rw [I.go r s hr]
    cases e : d r s with
    | none => exact ⟨rfl, hf⟩
    | some g =>
      have pg := I.on r s g hr e
      show (if φ g ∈ (ren φ fd).map (·.1) then ren φ fd else ren φ fd ++ [(φ g, some (φ r, s))]) = ren φ (if g ∈ fd.map (·.1) then fd else fd ++ [(g, some (r, s))]) ∧ ∀ g' ∈ (if g ∈ fd.map (·.1) then fd else fd ++ [(g, some (r, s))]).map (·.1), P g'
      rw [ren_keys]
      have iff : φ g ∈ (fd.map (·.1)).map φ ↔ g ∈ fd.map (·.1) := by
        refine ⟨fun h => ?_, fun h => List.mem_map_of_mem h⟩
        obtain ⟨a, ha, e2⟩ := List.mem_map.mp h
        rw [← I.inj a g (hf a ha) pg e2]
        exact ha
      by_cases hg : g ∈ fd.map (·.1)
      · rw [if_pos (iff.mpr hg), if_pos hg]
        exact ⟨rfl, hf⟩
      · rw [if_neg (fun z => hg (iff.mp z)), if_neg hg]
        refine ⟨by unfold ren; rw [List.map_append]; rfl, fun x hx => ?_⟩
        rw [List.map_append, List.mem_append] at hx
        rcases hx with hx | hx
        · exact hf x hx
        · simp only [List.map_cons, List.map_nil, List.mem_singleton] at hx
          rw [hx]
          exact pg
  walk_at "end"
theorem look_ren {d d' : Gm} {φ : Nat → Nat} {P : Nat → Prop} (I : Sim d d' φ P) {r : Nat} (hr : P r) : ∀ (S : List Int) {fd : Fd}, (∀ g ∈ fd.map (·.1), P g) → look d' (φ r) S (ren φ fd) = ren φ (look d r S fd) ∧ ∀ g ∈ (look d r S fd).map (·.1), P g
  | [], _, hf => ⟨rfl, hf⟩
  | s :: S, fd, hf => by
    have a := adv_ren I (s := s) hr hf
    have b := look_ren I hr S a.2
    refine ⟨?_, b.2⟩
    show look d' (φ r) S (adv d' (φ r) (ren φ fd) s) = _
    rw [a.1]
    exact b.1
theorem run_ren {d d' : Gm} {φ : Nat → Nat} {P : Nat → Prop} (I : Sim d d' φ P) (S : List Int) : ∀ (k p : Nat) {fd : Fd}, (∀ g ∈ fd.map (·.1), P g) → run d' S k p (ren φ fd) = ren φ (run d S k p fd)
  | 0, _, _, _ => rfl
  | k + 1, p, fd, hf => by
    cases hp : fd[p]? with
    | none =>
      have h2 : (ren φ fd)[p]? = none := by unfold ren; rw [List.getElem?_map, hp]; rfl
      have e1 : run d' S (k + 1) p (ren φ fd) = ren φ fd := by rw [run, h2]
      have e2 : run d S (k + 1) p fd = fd := by rw [run, hp]
      rw [e1, e2]
    | some y =>
      obtain ⟨r, x⟩ := y
      have h2 : (ren φ fd)[p]? = some (φ r, x.map fun z => (φ z.1, z.2)) := by unfold ren; rw [List.getElem?_map, hp]; rfl
      have hr : P r := hf r (List.mem_map.mpr ⟨_, List.mem_of_getElem? hp, rfl⟩)
      have a := look_ren I hr S hf
      rw [run_on hp, run_on h2, a.1]
      exact run_ren I S k (p + 1) a.2
/-- more turns than needed change nothing -/
theorem run_more {d : Gm} {S : List Int} {L n : Nat} {home : Nat} (G : Gr L n d) (hS : S = Od.steps L) : ∀ (k j p : Nat) (fd : Fd), n < p + k → Rn L n d home p fd → run d S (k + j) p fd = run d S k p fd
  | 0, j, p, fd, hk, R => by
    have := R.ok.len
    rw [run_end (by omega), run_end (by omega)]
  | k + 1, j, p, fd, hk, R => by
    cases hp : fd[p]? with
    | none =>
      have : fd.length ≤ p := by
        rcases Nat.lt_or_ge p fd.length with lt | ge
        · rw [List.getElem?_eq_getElem lt] at hp
          cases hp
        · exact ge
      rw [run_end this, run_end this]
    | some y =>
      obtain ⟨r, x⟩ := y
      rw [show k + 1 + j = (k + j) + 1 by omega, run_on hp, run_on hp]
      subst hS
      exact run_more G rfl k j (p + 1) _ (by omega) (rn_next G R hp)
/-- how many doors a room has -/
def deg (L : Nat) (d : Gm) (r : Nat) : Nat := ((Od.steps L).filter fun s => (d r s).isSome).length
structure Web (L n : Nat) (d : Gm) : Prop where
  l1 : 1 ≤ L
  l4 : L ≤ 4
  pos : 0 < n
  gr : Gr L n d
  two : ∀ r, 0 < r → r < n → 2 ≤ deg L d r
  ord : (bfs L n d 0).map (·.1) = List.range n
/-- the rows that tell of it -/
def row (L : Nat) (d : Gm) (r : Nat) : List Int := (List.range L).map fun (l : Nat) => match d r ((l : Int) + 1) with
  | some g => (g : Int)
  | none => -1
def rows (L n : Nat) (d : Gm) : List (List Int) := (List.range n).map (row L d)
/-- all that is reached, numbered as it is reached, is a web -/
theorem web_of_bfs {L n : Nat} {d' : Gm} (l1 : 1 ≤ L) (l4 : L ≤ 4) (hn : 0 < n) (G : Gr L n d') (leaf : ∀ r, 0 < r → r < n → deg L d' r ≠ 1) :
    ∃ d : Gm, Web L (bfs L n d' 0).length d ∧ ∀ r, r < (bfs L n d' 0).length → ∀ s, d r s = (d' (((bfs L n d' 0).map (·.1)).getD r 0) s).map ((bfs L n d' 0).map (·.1)).idxOf := by
  refine Qt.drp ?_ ?_
  · obtain ⟨ord, ho⟩ : ∃ ord, (bfs L n d' 0).map (·.1) = ord := ⟨_, rfl⟩
    obtain ⟨m, hm⟩ : ∃ m, (bfs L n d' 0).length = m := ⟨_, rfl⟩
    have lm : ord.length = m := by rw [← ho, List.length_map, hm]
    have ok := bfs_ok G hn
    have nd : ord.Nodup := ho ▸ ok.nodup
    have lt : ∀ g ∈ ord, g < n := fun g hg => ok.lt g (ho ▸ hg)
    have cl : ∀ r s g, r ∈ ord → d' r s = some g → g ∈ ord := fun r s g hr hd => by
      rw [← ho] at hr ⊢
      exact bfs_closed G hn hr hd
    rw [ho, hm]
    have at_in : ∀ r, r < m → ord.getD r 0 ∈ ord := fun r hr => by
      rw [List.getD_eq_getElem?_getD, List.getElem?_eq_getElem (by omega)]
      exact List.getElem_mem _
    have at_idx : ∀ g ∈ ord, ord.getD (ord.idxOf g) 0 = g := fun g hg => by
      have h1 := List.idxOf_lt_length_of_mem hg
      rw [List.getD_eq_getElem?_getD, List.getElem?_eq_getElem h1, Option.getD_some, List.getElem_idxOf]
    have idx_at : ∀ r, r < m → ord.idxOf (ord.getD r 0) = r := fun r hr => by
      have h1 := List.idxOf_lt_length_of_mem (at_in r hr)
      have a : ord[ord.idxOf (ord.getD r 0)]? = some (ord.getD r 0) := by rw [List.getElem?_eq_getElem h1, List.getElem_idxOf]
      have b : ord[r]? = some (ord.getD r 0) := by
        rw [List.getD_eq_getElem?_getD, List.getElem?_eq_getElem (by omega : r < ord.length)]
        rfl
      exact (List.getElem?_inj h1 nd).mp (a.trans b.symm)
    refine ⟨fun r s => if r < m then (d' (ord.getD r 0) s).map ord.idxOf else none, ?_, fun r hr s => if_pos hr⟩
    have get : ∀ {r : Nat} {s : Int} {g : Nat}, (if r < m then (d' (ord.getD r 0) s).map ord.idxOf else none) = some g → r < m ∧ g < m ∧ d' (ord.getD r 0) s = some (ord.getD g 0) := fun {r s g} h => by
      by_cases hr : r < m
      · rw [if_pos hr] at h
        cases e : d' (ord.getD r 0) s with
        | none => rw [e] at h; cases h
        | some g' =>
          rw [e] at h
          cases h
          have hg := cl _ _ _ (at_in r hr) e
          exact ⟨hr, by rw [← lm]; exact List.idxOf_lt_length_of_mem hg, by rw [at_idx _ hg]⟩
      · rw [if_neg hr] at h
        cases h
    have put : ∀ {r g : Nat} {s : Int}, r < m → g < m → d' (ord.getD r 0) s = some (ord.getD g 0) → (if r < m then (d' (ord.getD r 0) s).map ord.idxOf else none) = some g := fun {r g s} hr hg h => by
      rw [if_pos hr, h]
      show some (ord.idxOf (ord.getD g 0)) = some g
      rw [idx_at g hg]
    have G2 : Gr L m fun r s => if r < m then (d' (ord.getD r 0) s).map ord.idxOf else none := by
      refine ⟨fun r s g h => ?_, fun r s g h => ?_⟩
      · obtain ⟨h1, h2, h3⟩ := get h
        exact ⟨h1, h2, (G.dom _ _ _ h3).2.2⟩
      · obtain ⟨h1, h2, h3⟩ := get h
        exact put h2 h1 (G.sym _ _ _ h3)
    have pos : 0 < m := by
      obtain ⟨q, hq, R⟩ := bfs_all (home := 0) G hn
      have := (List.getElem?_eq_some_iff.mp R.hd).1
      omega
    have home : ord.getD 0 0 = 0 := by
      obtain ⟨q, hq, R⟩ := bfs_all (home := 0) G hn
      rw [← ho, List.getD_eq_getElem?_getD, List.getElem?_map, R.hd]
      rfl
    have I : Sim (fun r s => if r < m then (d' (ord.getD r 0) s).map ord.idxOf else none) d' (fun r => ord.getD r 0) (· < m) := by
      refine ⟨fun a b ha hb e => ?_, fun r s hr => ?_, fun r s g _ h => (get h).2.1⟩
      · rw [← idx_at a ha, ← idx_at b hb]
        exact congrArg ord.idxOf e
      · rw [if_pos hr]
        cases e : d' (ord.getD r 0) s with
        | none => rfl
        | some g =>
          show some g = some (ord.getD (ord.idxOf g) 0)
          rw [at_idx _ (cl _ _ _ (at_in r hr) e)]
    have mn : m ≤ n := by
      have := ok.len
      omega
    have bf : (bfs L n d' 0) = ren (fun r => ord.getD r 0) (bfs L m (fun r s => if r < m then (d' (ord.getD r 0) s).map ord.idxOf else none) 0) := by
      have a := run_ren I (Od.steps L) (n + 1) 0 (fd := [(0, none)]) fun g hg => by
        simp only [List.map_cons, List.map_nil, List.mem_singleton] at hg
        omega
      have b : ren (fun r => ord.getD r 0) [(0, none)] = [(0, none)] := by
        show [(ord.getD 0 0, none)] = _
        rw [home]
      rw [b] at a
      have c := run_more (home := 0) G2 rfl (m + 1) (n - m) 0 [(0, none)] (by omega) (rn_start pos)
      rw [show m + 1 + (n - m) = n + 1 by omega] at c
      rw [c] at a
      exact a
    refine ⟨l1, l4, pos, G2, fun r hr0 hr => ?_, ?_⟩
    · have same : deg L (fun r s => if r < m then (d' (ord.getD r 0) s).map ord.idxOf else none) r = deg L d' (ord.getD r 0) := by
        unfold deg
        congr 1
        refine List.filter_congr fun s _ => ?_
        show (if r < m then (d' (ord.getD r 0) s).map ord.idxOf else none).isSome = _
        rw [if_pos hr]
        cases d' (ord.getD r 0) s <;> rfl
      rw [same]
      have hin := at_in r hr
      have ne0 : ord.getD r 0 ≠ 0 := fun z => by
        have := idx_at r hr
        rw [z, ← home, idx_at 0 pos] at this
        omega
      have d1 := leaf _ (by omega) (lt _ hin)
      obtain ⟨q, hq, R⟩ := bfs_all (home := 0) G hn
      obtain ⟨i, hi⟩ := List.mem_iff_getElem?.mp (ho ▸ hin)
      rw [List.getElem?_map] at hi
      cases e : (bfs L n d' 0)[i]? with
      | none => rw [e] at hi; cases hi
      | some y =>
        rw [e] at hi
        have hy : y.1 = ord.getD r 0 := by
          rw [ho] at hi
          exact Option.some.inj hi
        rcases R.par i y.1 y.2 e with ⟨_, k, _⟩ | ⟨r', s, j, y', _, k, _⟩
        · exact absurd (hy.symm.trans k) ne0
        · rw [hy] at k
          have k2 := G.sym _ _ _ k
          have : 0 < deg L d' (ord.getD r 0) := by
            unfold deg
            exact List.length_pos_of_mem (List.mem_filter.mpr ⟨(G.dom _ _ _ k2).2.2, by rw [k2]; rfl⟩)
          omega
    · obtain ⟨ks, hks⟩ : ∃ ks, (bfs L m (fun r s => if r < m then (d' (ord.getD r 0) s).map ord.idxOf else none) 0).map (·.1) = ks := ⟨_, rfl⟩
      have e1 : ord = ks.map fun r => ord.getD r 0 := by rw [← hks, ← ren_keys, ← bf, ho]
      have ok2 := bfs_ok G2 pos
      have lk : ks.length = m := by
        have := congrArg List.length e1
        rw [List.length_map, lm] at this
        exact this.symm
      rw [hks]
      refine List.ext_getElem? fun i => ?_
      rcases Nat.lt_or_ge i m with h | h
      · have hk := List.getElem?_eq_getElem (l := ks) (i := i) (by omega)
        have e2 := congrArg (fun l => l[i]?) e1
        simp only [List.getElem?_map] at e2
        rw [hk] at e2
        have klt : ks[i]'(by omega) < m := ok2.lt _ (by rw [hks]; exact List.getElem_mem _)
        have e3 : ord.getD i 0 = ord.getD (ks[i]'(by omega)) 0 := by
          rw [List.getD_eq_getElem?_getD, e2]
          rfl
        have := congrArg ord.idxOf e3
        rw [idx_at i h, idx_at _ klt] at this
        rw [hk, List.getElem?_range h, ← this]
      · rw [List.getElem?_eq_none (by omega), List.getElem?_eq_none (by rw [List.length_range]; omega)]
  walk_at "end"
/-- those up to a letter of a room -/
def laid (d : Gm) (i j : Nat) : Gm := fun x s => match d x s with
  | none => none
  | some g => if 0 < s then (if x < i ∨ (x = i ∧ s ≤ (j : Int)) then some g else none) else (if g < i ∨ (g = i ∧ -s ≤ (j : Int)) then some g else none)
theorem laid_no {d : Gm} {i j x : Nat} {s : Int} (h : d x s = none) : laid d i j x s = none := by unfold laid; rw [h]
theorem laid_pos {d : Gm} {i j x g : Nat} {s : Int} (h : d x s = some g) (hs : 0 < s) : laid d i j x s = if x < i ∨ (x = i ∧ s ≤ (j : Int)) then some g else none := by
  unfold laid
  rw [h]
  exact if_pos hs
theorem laid_neg {d : Gm} {i j x g : Nat} {s : Int} (h : d x s = some g) (hs : ¬ 0 < s) : laid d i j x s = if g < i ∨ (g = i ∧ -s ≤ (j : Int)) then some g else none := by
  unfold laid
  rw [h]
  exact if_neg hs
theorem ite_same {c c' : Prop} [Decidable c] [Decidable c'] {α : Type} {a b : α} (h : c ↔ c') : (if c then a else b) = if c' then a else b := by
  by_cases hc : c
  · rw [if_pos hc, if_pos (h.mp hc)]
  · rw [if_neg hc, if_neg fun z => hc (h.mpr z)]
theorem step_ne {L n : Nat} {d : Gm} (G : Gr L n d) {x g : Nat} {s : Int} (h : d x s = some g) : s ≠ 0 ∧ -(L : Int) ≤ s ∧ s ≤ L := Od.mem_steps.mp (G.dom _ _ _ h).2.2
theorem laid_none {L n : Nat} {d : Gm} (G : Gr L n d) {i j : Nat} (h : d i ((j : Int) + 1) = none) (x : Nat) (s : Int) : laid d i (j + 1) x s = laid d i j x s := by
  refine Qt.drp ?_ ?_
  · cases e : d x s with
    | none => rw [laid_no e, laid_no e]
    | some g =>
      by_cases hs : 0 < s
      · rw [laid_pos e hs, laid_pos e hs]
        refine ite_same ⟨fun z => ?_, fun z => by omega⟩
        rcases z with z | ⟨z1, z2⟩
        · exact .inl z
        · refine .inr ⟨z1, ?_⟩
          rcases Decidable.em ((j : Int) < s) with q | q
          · exfalso
            have : s = (j : Int) + 1 := by omega
            rw [this, z1, h] at e
            cases e
          · omega
      · rw [laid_neg e hs, laid_neg e hs]
        refine ite_same ⟨fun z => ?_, fun z => by omega⟩
        rcases z with z | ⟨z1, z2⟩
        · exact .inl z
        · refine .inr ⟨z1, ?_⟩
          rcases Decidable.em ((j : Int) < -s) with q | q
          · exfalso
            have k := G.sym _ _ _ e
            have : -s = (j : Int) + 1 := by omega
            rw [this, z1, h] at k
            cases k
          · omega
  walk_at "end"
theorem laid_some {L n : Nat} {d : Gm} (G : Gr L n d) {i j g : Nat} (h : d i ((j : Int) + 1) = some g) (x : Nat) (s : Int) : laid d i (j + 1) x s = if x = g ∧ s = -((j : Int) + 1) then some i else if x = i ∧ s = (j : Int) + 1 then some g else laid d i j x s := by
  refine Qt.drp ?_ ?_
  · by_cases c1 : x = g ∧ s = -((j : Int) + 1)
    · rw [if_pos c1, c1.1, c1.2, laid_neg (G.sym _ _ _ h) (by omega), if_pos (.inr ⟨rfl, by omega⟩)]
    rw [if_neg c1]
    by_cases c2 : x = i ∧ s = (j : Int) + 1
    · rw [if_pos c2, c2.1, c2.2, laid_pos h (by omega), if_pos (.inr ⟨rfl, by omega⟩)]
    rw [if_neg c2]
    cases e : d x s with
    | none => rw [laid_no e, laid_no e]
    | some g' =>
      by_cases hs : 0 < s
      · rw [laid_pos e hs, laid_pos e hs]
        refine ite_same ⟨fun z => ?_, fun z => by omega⟩
        rcases z with z | ⟨z1, z2⟩
        · exact .inl z
        · refine .inr ⟨z1, ?_⟩
          rcases Decidable.em ((j : Int) < s) with q | q
          · exact absurd ⟨z1, by omega⟩ c2
          · omega
      · rw [laid_neg e hs, laid_neg e hs]
        refine ite_same ⟨fun z => ?_, fun z => by omega⟩
        rcases z with z | ⟨z1, z2⟩
        · exact .inl z
        · refine .inr ⟨z1, ?_⟩
          rcases Decidable.em ((j : Int) < -s) with q | q
          · have k := G.sym _ _ _ e
            have e3 : -s = (j : Int) + 1 := by omega
            rw [e3, z1, h] at k
            exact absurd ⟨(Option.some.inj k).symm, by omega⟩ c1
          · omega
  walk_at "end"
theorem laid_start {L n : Nat} {d : Gm} (G : Gr L n d) (x : Nat) (s : Int) : laid d 0 0 x s = none := by
  cases e : d x s with
  | none => exact laid_no e
  | some g =>
    have := step_ne G e
    by_cases hs : 0 < s
    · rw [laid_pos e hs, if_neg (by omega)]
    · rw [laid_neg e hs, if_neg (by omega)]
theorem laid_row {L n : Nat} {d : Gm} (G : Gr L n d) {i : Nat} (x : Nat) (s : Int) : laid d i L x s = laid d (i + 1) 0 x s := by
  cases e : d x s with
  | none => rw [laid_no e, laid_no e]
  | some g =>
    have := step_ne G e
    by_cases hs : 0 < s
    · rw [laid_pos e hs, laid_pos e hs]
      exact ite_same (by omega)
    · rw [laid_neg e hs, laid_neg e hs]
      exact ite_same (by omega)
theorem laid_all {L n : Nat} {d : Gm} (G : Gr L n d) (x : Nat) (s : Int) : laid d n 0 x s = d x s := by
  cases e : d x s with
  | none => exact laid_no e
  | some g =>
    have := G.dom _ _ _ e
    by_cases hs : 0 < s
    · rw [laid_pos e hs, if_pos (by omega)]
    · rw [laid_neg e hs, if_pos (by omega)]
/-- what is not laid yet -/
theorem laid_new {L n : Nat} {d : Gm} (G : Gr L n d) {i j g : Nat} (h : d i ((j : Int) + 1) = some g) : laid d i j g (-((j : Int) + 1)) = none := by
  rw [laid_neg (G.sym _ _ _ h) (by omega), if_neg (by omega)]
theorem laid_sub {d : Gm} {i j x : Nat} {s : Int} (h : (laid d i j x s).isSome = true) : (d x s).isSome = true := by
  cases e : d x s with
  | none => rw [laid_no e] at h; cases h
  | some g => rfl
theorem row_at {L r l : Nat} {d : Gm} (h : l < L) : (row L d r)[l]? = some (match d r ((l : Int) + 1) with
  | some g => (g : Int)
  | none => -1) := by
  unfold row
  rw [List.getElem?_map, List.getElem?_range h]
  rfl
theorem rows_at {L n r : Nat} {d : Gm} (h : r < n) : (rows L n d)[r]? = some (row L d r) := by
  unfold rows
  rw [List.getElem?_map, List.getElem?_range h]
  rfl
theorem row_len (L : Nat) (d : Gm) (r : Nat) : (row L d r).length = L := by unfold row; rw [List.length_map, List.length_range]
theorem rows_len (L n : Nat) (d : Gm) : (rows L n d).length = n := by unfold rows; rw [List.length_map, List.length_range]
/-- by first steps, and all of them -/
def hw (L : Nat) (d : Gm) : Nat → (Nat → Int → Int) × (Nat → Int)
  | 0 => (fun _ _ => 0, fun r => if r = 0 then 1 else 0)
  | k + 1 => (fun r s => match d r s with
      | some g => (hw L d k).2 g - (hw L d k).1 g (-s)
      | none => 0, fun r => ((Od.steps L).map fun s => match d r s with
      | some g => (hw L d k).2 g - (hw L d k).1 g (-s)
      | none => 0).sum)
/-- how many walks of a length lead from home to home -/
def mem (L : Nat) (d : Gm) (k : Nat) : Int := (hw L d k).2 0
end Wb
namespace L2
open PySem PySem.Spec PyProof.Rows Evl
/-- a room, if there is one -/
def vN (o : Option Nat) : Option V := o.map fun (g : Nat) => V.int (g : Int)
theorem vN_some {o : Option Nat} : (vN o).isSome = o.isSome := by cases o <;> rfl
/-- a web: (letters, rows) -/
structure WebH (K : PySem.W.Frag) (H : Hp) (a : Addr) (L n : Nat) (d : Wb.Gm) : Prop where
  ex : ∃ (r : Addr) (xs : List V), SqT K H a [.int (L : Int), .ref r] ∧ SqT K H r xs ∧ WkA K H xs (Wb.rows L n d)
theorem WebH.mono {K : PySem.W.Frag} {H H1 : Hp} {a : Addr} {L n : Nat} {d : Wb.Gm} (h : WebH K H a L n d) (e : Ex H H1) : WebH K H1 a L n d := by
  obtain ⟨r, xs, h1, h2, h3⟩ := h.ex
  exact ⟨r, xs, ex_t e h1, ex_t e h2, h3.ex e⟩
theorem WebH.tx {K : PySem.W.Frag} {H H1 : Hp} {a : Addr} {L n : Nat} {d : Wb.Gm} (h : WebH K H a L n d) (e : TX H H1) : WebH K H1 a L n d := by
  obtain ⟨r, xs, h1, h2, h3⟩ := h.ex
  exact ⟨r, xs, tx_t e h1, tx_t e h2, h3.tx e⟩
/-- a list of dicts with numbers for keys: new ones behind H0 -/
structure DL (H0 H : Hp) (a : Addr) (n : Nat) (f : Nat → Int → Option V) : Prop where
  ex : ∃ ds : List Addr, ds.length = n ∧ ds.Nodup ∧ a ∉ ds ∧ (∀ x ∈ ds, H0 x = none) ∧ H0 a = none ∧ H a = some (.lst (ds.map V.ref)) ∧ ∀ i x, ds[i]? = some x → ∃ kvs, H x = some (.dK kvs) ∧ DI kvs (f i)
theorem DL.mono {H0 H H1 : Hp} {a : Addr} {n : Nat} {f : Nat → Int → Option V} (h : DL H0 H a n f) (e : Ex H H1) : DL H0 H1 a n f := by
  obtain ⟨ds, h1, h2, h3, h4, h5, h6, h7⟩ := h.ex
  refine ⟨ds, h1, h2, h3, h4, h5, e _ _ h6, fun i x hx => ?_⟩
  obtain ⟨kvs, k1, k2⟩ := h7 i x hx
  exact ⟨kvs, e _ _ k1, k2⟩
theorem DL.congr {H0 H : Hp} {a : Addr} {n : Nat} {f g : Nat → Int → Option V} (h : DL H0 H a n f) (e : ∀ i, i < n → ∀ x, f i x = g i x) : DL H0 H a n g := by
  obtain ⟨ds, h1, h2, h3, h4, h5, h6, h7⟩ := h.ex
  refine ⟨ds, h1, h2, h3, h4, h5, h6, fun i x hx => ?_⟩
  obtain ⟨kvs, k1, k2⟩ := h7 i x hx
  exact ⟨kvs, k1, k2.congr (e i (by rw [← h1]; exact (List.getElem?_eq_some_iff.mp hx).1))⟩
/-- the dict at a place -/
theorem DL.at' {H0 H : Hp} {a : Addr} {n : Nat} {f : Nat → Int → Option V} (h : DL H0 H a n f) {i : Nat} (hi : i < n) : ∃ xs x kvs, H a = some (.lst xs) ∧ xs[i]? = some (.ref x) ∧ H x = some (.dK kvs) ∧ DI kvs (f i) ∧ x ≠ a ∧ H0 x = none ∧
    ∀ H1 kvs' g, ExW x H H1 → H1 x = some (.dK kvs') → DI kvs' g → DL H0 H1 a n (fun j => if j = i then g else f j) := by
  obtain ⟨ds, h1, h2, h3, h4, h5, h6, h7⟩ := h.ex
  have hx := List.getElem?_eq_getElem (l := ds) (i := i) (by omega)
  obtain ⟨kvs, k1, k2⟩ := h7 i _ hx
  have xin := List.mem_of_getElem? hx
  have xa : ds[i] ≠ a := fun z => h3 (z ▸ xin)
  refine ⟨_, ds[i], kvs, h6, by rw [List.getElem?_map, hx]; rfl, k1, k2, xa, h4 _ xin, fun H1 kvs' g e q1 q2 => ?_⟩
  refine ⟨ds, h1, h2, h3, h4, h5, e _ _ h6 xa.symm, fun j y hy => ?_⟩
  by_cases ej : j = i
  · subst ej
    rw [hx] at hy
    cases hy
    exact ⟨kvs', q1, by rw [if_pos rfl]; exact q2⟩
  · obtain ⟨kv2, m1, m2⟩ := h7 j y hy
    have ne : y ≠ ds[i] := fun z => by
      subst z
      exact ej ((List.getElem?_inj (List.getElem?_eq_some_iff.mp hy).1 h2).mp (hy.trans hx.symm))
    exact ⟨kv2, e _ _ m1 ne, by rw [if_neg ej]; exact m2⟩
theorem DL.ex0 {H0 H H1 : Hp} {x : Addr} (e : Ex H0 H) (w : ExW x H H1) (hx : H0 x = none) : Ex H0 H1 := fun a o ha => w a o (e a o ha) (ne_of_none ha hx)
theorem DI.le {kvs : List (Key × V)} {f : Int → Option V} (h : DI kvs f) {m : List Int} (hm : m.Nodup) (e : ∀ x, (f x).isSome = true → x ∈ m) : kvs.length ≤ m.length := by
  rw [h.len (hm.filter fun x => (f x).isSome) fun x => by rw [List.mem_filter]; exact ⟨fun z => z.2, fun z => ⟨e x z, z⟩⟩]
  exact List.length_filter_le _ _
/-- a table of steps: for each room a dict -/
structure TabH (H : Hp) (a : Addr) (n : Nat) (d : Wb.Gm) : Prop where
  ex : ∃ ds : List Addr, ds.length = n ∧ H a = some (.lst (ds.map V.ref)) ∧ ∀ i x, ds[i]? = some x → ∃ kvs, H x = some (.dK kvs) ∧ DI kvs fun s => vN (d i s)
theorem TabH.mono {H H1 : Hp} {a : Addr} {n : Nat} {d : Wb.Gm} (h : TabH H a n d) (e : Ex H H1) : TabH H1 a n d := by
  obtain ⟨ds, h1, h6, h7⟩ := h.ex
  refine ⟨ds, h1, e _ _ h6, fun i x hx => ?_⟩
  obtain ⟨kvs, k1, k2⟩ := h7 i x hx
  exact ⟨kvs, e _ _ k1, k2⟩
theorem TabH.of {H0 H : Hp} {a : Addr} {n : Nat} {f : Nat → Int → Option V} {d : Wb.Gm} (h : DL H0 H a n f) (e : ∀ i, i < n → ∀ s, f i s = vN (d i s)) : TabH H a n d := by
  obtain ⟨ds, h1, h2, h3, h4, h5, h6, h7⟩ := (h.congr e).ex
  exact ⟨ds, h1, h6, h7⟩
theorem TabH.at' {H : Hp} {a : Addr} {n : Nat} {d : Wb.Gm} (h : TabH H a n d) {i : Nat} (hi : i < n) : ∃ xs x kvs, H a = some (.lst xs) ∧ xs.length = n ∧ xs[i]? = some (.ref x) ∧ H x = some (.dK kvs) ∧ DI kvs fun s => vN (d i s) := by
  obtain ⟨ds, h1, h6, h7⟩ := h.ex
  have hx := List.getElem?_eq_getElem (l := ds) (i := i) (by omega)
  obtain ⟨kvs, k1, k2⟩ := h7 i _ hx
  exact ⟨_, _, kvs, h6, by rw [List.length_map]; exact h1, by rw [List.getElem?_map, hx]; rfl, k1, k2⟩
/-- all the rooms reached, each with what leads there -/
structure RchH (K : PySem.W.Frag) (H : Hp) (kvs : List (Key × V)) (fd : Wb.Fd) : Prop where
  len : kvs.length = fd.length
  at' : ∀ (i : Nat) kv y, kvs[i]? = some kv → fd[i]? = some y → kv.1 = Sum.inl (y.1 : Int) ∧ match y.2 with
    | none => kv.2 = .non
    | some (r, s) => WkV K H kv.2 [(r : Int), s]
theorem RchH.mono {K : PySem.W.Frag} {H H1 : Hp} {kvs : List (Key × V)} {fd : Wb.Fd} (h : RchH K H kvs fd) (e : TX H H1) : RchH K H1 kvs fd := by
  refine ⟨h.len, fun i kv y h1 h2 => ?_⟩
  obtain ⟨a, b⟩ := h.at' i kv y h1 h2
  refine ⟨a, ?_⟩
  cases e2 : y.2 with
  | none => rw [e2] at b; exact b
  | some z => rw [e2] at b; exact b.tx e
theorem RchH.keys {K : PySem.W.Frag} {H : Hp} {kvs : List (Key × V)} {fd : Wb.Fd} (h : RchH K H kvs fd) : kvs.map (·.1) = (fd.map (·.1)).map fun (g : Nat) => (Sum.inl (g : Int) : Key) := by
  refine List.ext_getElem? fun i => ?_
  rw [List.getElem?_map, List.getElem?_map, List.getElem?_map]
  rcases Nat.lt_or_ge i kvs.length with lt | ge
  · have a := List.getElem?_eq_getElem lt
    have b := List.getElem?_eq_getElem (l := fd) (i := i) (h.len ▸ lt)
    rw [a, b]
    exact congrArg some (h.at' i _ _ a b).1
  · rw [List.getElem?_eq_none ge, List.getElem?_eq_none (h.len ▸ ge)]
    rfl
theorem RchH.mem {K : PySem.W.Frag} {H : Hp} {kvs : List (Key × V)} {fd : Wb.Fd} (h : RchH K H kvs fd) (g : Nat) : (valV kvs (Sum.inl (g : Int))).isSome = decide (g ∈ fd.map (·.1)) := by
  have iff : (Sum.inl (g : Int) : Key) ∈ kvs.map (·.1) ↔ g ∈ fd.map (·.1) := by
    rw [h.keys]
    refine ⟨fun z => ?_, fun z => List.mem_map_of_mem z⟩
    obtain ⟨x, hx, e⟩ := List.mem_map.mp z
    have := Sum.inl.inj e
    have : x = g := by omega
    rw [← this]
    exact hx
  cases e : valV kvs (Sum.inl (g : Int)) with
  | none => exact (decide_eq_false fun z => valV_not e (iff.mpr z)).symm
  | some v => exact (decide_eq_true (iff.mp (valV_in e))).symm
section
variable {K : PySem.W.Frag} {σ : L2.St} {H : Hp} {Q : VK} {vs : List Nat} {j : Nat} {a : Addr} {xs : List V}
/-- so many new dicts -/
def NewDs (H0 : Hp) (i : Nat) (ys : List V) (H' : Hp) : Prop := ∃ ds : List Addr, ys = ds.map V.ref ∧ ds.length = i ∧ ds.Nodup ∧ (∀ x ∈ ds, H0 x = none) ∧ (∀ x ∈ ds, H' x = some (.dK [])) ∧ Ex H0 H'
theorem newDs_off {H0 H1 : Hp} {i : Nat} {acc : List V} {D : Addr} (hall : ∀ o, NewDs H0 i acc (upd H1 D o)) : H0 D = none ∧ ∃ ds : List Addr, acc = ds.map V.ref ∧ ds.length = i ∧ ds.Nodup ∧ D ∉ ds ∧ (∀ x ∈ ds, H0 x = none) ∧ (∀ x ∈ ds, H1 x = some (.dK [])) := by
  refine ⟨ex_none fun o => (hall o).choose_spec.2.2.2.2.2, ?_⟩
  obtain ⟨ds, h1, h2, h3, h4, h5, h6⟩ := hall (.lst [])
  have hD : D ∉ ds := fun z => by
    have := h5 D z
    rw [upd_same] at this
    cases this
  refine ⟨ds, h1, h2, h3, hD, h4, fun x hx => ?_⟩
  have := h5 x hx
  have ne : x ≠ D := fun z => hD (z ▸ hx)
  rwa [upd_ne ne] at this
theorem newDs_turn {H0 H1 : Hp} {i : Nat} {acc : List V} {D : Addr} {σ : L2.St} (hall : ∀ o, NewDs H0 i acc (upd H1 D o)) (hacc : H1 D = some (.lst acc)) (e : Ex H0 H1) (R : VK)
    (k : ∀ y H2, H2 D = some (.lst acc) → (∀ o, NewDs H0 (i + 1) (acc ++ [y]) (upd H2 D o)) → R y H2) : tDNewK σ H1 R := by
  refine Qt.drp ?_ ?_
  · obtain ⟨hD0, ds, rfl, h2, h3, hD, h4, h5⟩ := newDs_off hall
    refine st_dnew (r_dnew fun p H2 hp e2 k2 => ?_)
    have hpD : p ≠ D := fun z => by rw [z, hacc] at hp; cases hp
    have hpd : p ∉ ds := fun z => by rw [h5 p z] at hp; cases hp
    refine k _ H2 (e2 _ _ hacc) fun o => ⟨ds ++ [p], by rw [List.map_append]; rfl, by rw [List.length_append, h2]; rfl, ?_, fun x hx => ?_, fun x hx => ?_, ex_put (e.trans e2) hD0⟩
    · rw [List.nodup_append]
      refine ⟨h3, by simp, fun x hx y hy => ?_⟩
      rw [List.mem_singleton.mp hy]
      exact fun z => hpd (z ▸ hx)
    · rcases List.mem_append.mp hx with hx | hx
      · exact h4 x hx
      · rw [List.mem_singleton.mp hx]
        exact fresh_back e hp
    · rcases List.mem_append.mp hx with hx | hx
      · have ne : x ≠ D := fun z => hD (z ▸ hx)
        rw [upd_ne ne]
        exact e2 _ _ (h5 x hx)
      · rw [List.mem_singleton.mp hx, upd_ne hpD]
        exact k2
  walk_at "end"
theorem newDs_end {H0 H1 : Hp} {i : Nat} {acc : List V} {D : Addr} (hall : ∀ o, NewDs H0 i acc (upd H1 D o)) (hacc : H1 D = some (.lst acc)) (e : Ex H0 H1) : DL H0 H1 D i fun _ _ => none := by
  obtain ⟨hD0, ds, rfl, h2, h3, hD, h4, h5⟩ := newDs_off hall
  exact ⟨ds, h2, h3, hD, h4, hD0, hacc, fun k x hx => ⟨[], h5 x (List.mem_of_getElem? hx), DI.nil⟩⟩
theorem dl_T (hl : SqT K H a xs) (hz : xs.length ≤ 10000) (hw : ∀ x, wipe ((wipe σ vs).set j (some x)) vs = wipe σ vs)
    (q : ∀ p H1, H p = none → Ex H H1 → DL H H1 p xs.length (fun _ _ => none) → Q (.ref p) H1) : rLc (Itt K a) (gName j) tYes tDNewK vs σ Q H := by
  refine r_cmTA (xs := xs) (fun i ys H' => NewDs H i ys H') (by omega) hw (fun i ys H' p => ex_t p.choose_spec.2.2.2.2.2 hl) (fun D hD o => ⟨[], rfl, rfl, List.nodup_nil, (fun x hx => nomatch hx), (fun x hx => nomatch hx), Ex.new hD⟩) (fun i x H1 D acc hx hz' hacc p hall => ?_) fun D H1 ys hD h p hall => ?_
  · have hi := (List.getElem?_eq_some_iff.mp hx).1
    refine t_yes (if_T ?_)
    exact newDs_turn hall hacc p.choose_spec.2.2.2.2.2 _ fun y H2 z1 z2 => cm_yes z1 hz' (by omega) z2
  · exact q D H1 hD p.choose_spec.2.2.2.2.2 (newDs_end hall h p.choose_spec.2.2.2.2.2)
theorem dl_R {lo : Int} {m : Nat} (hz : m ≤ 10000) (hw : ∀ x, wipe ((wipe σ vs).set j (some x)) vs = wipe σ vs)
    (q : ∀ p H1, H p = none → Ex H H1 → DL H H1 p m (fun _ _ => none) → Q (.ref p) H1) : rLc (Itr lo m) (gName j) tYes tDNewK vs σ Q H := by
  have at1 : ∀ {i : Nat} {ys : List V} {H' : Hp} {D : Addr}, (∀ o, NewDs H i ys (upd H' D o)) → H' D = some (.lst ys) → NewDs H i ys H' := fun {i ys H' D} h e => by
    have z := h (.lst ys)
    rw [upd_id e] at z
    exact z
  refine r_cmRA (m := m) (fun i ys H' => NewDs H i ys H') (by omega) hw (fun D hD o => ⟨[], rfl, rfl, List.nodup_nil, (fun x hx => nomatch hx), (fun x hx => nomatch hx), Ex.new hD⟩) (fun i H1 D acc hi hz' hacc hall Q' k => ?_) fun D H1 ys hD zy h hall => ?_
  · exact newDs_turn hall hacc (at1 hall hacc).choose_spec.2.2.2.2.2 _ fun y H2 z1 z2 => k y H2 z1 z2
  · have e := (at1 hall h).choose_spec.2.2.2.2.2
    exact q D H1 hD e (newDs_end hall h e)
end
theorem RchH.snoc {K : PySem.W.Frag} {H : Hp} {kvs : List (Key × V)} {fd : Wb.Fd} {g r : Nat} {s : Int} {x : V} (h : RchH K H kvs fd) (hx : WkV K H x [(r : Int), s]) : RchH K H (kvs ++ [(Sum.inl (g : Int), x)]) (fd ++ [(g, some (r, s))]) := by
  refine ⟨by rw [List.length_append, List.length_append, h.len]; rfl, fun i kv y h1 h2 => ?_⟩
  rcases Nat.lt_or_ge i kvs.length with lt | ge
  · rw [List.getElem?_append_left lt] at h1
    rw [List.getElem?_append_left (h.len ▸ lt)] at h2
    exact h.at' i kv y h1 h2
  · rw [List.getElem?_append_right ge] at h1
    rw [List.getElem?_append_right (h.len ▸ ge)] at h2
    have e : i - kvs.length = 0 := by
      have := (List.getElem?_eq_some_iff.mp h1).1
      simp at this
      omega
    rw [e] at h1
    rw [← h.len, e] at h2
    cases h1
    cases h2
    exact ⟨rfl, hx⟩
theorem r_dninV {H : Hp} {Q : VK} {d : Addr} {x : Int} {kvs : List (Key × V)} (h : Rd H d (.dK kvs)) (q : Q (.bl (!(valV kvs (Sum.inl x)).isSome)) H) : rDIn true (.ref d) (.int x) H Q := ⟨d, _, rfl, .inl ⟨kvs, Sum.inl x, h, rfl, rfl⟩, q⟩
theorem FunD.okN {P : Program} {w : World} {K : PySem.W.Frag} {mg : Str → Option Value} {base : Heap} {x qual : Str} {params : Arguments} {body : List Stmt} {scope : Scope} {dvs : List V} {kws : List (Str × V)} {f : Addr} {fd : FuncData} {N ps : List Str} {k : Nat} {sp : Sp} (F : FunD K x qual params body scope dvs kws f fd) (S : FnScope N ps scope)
    (len : ∀ xs H Q E, sp xs H Q E → xs.length = ps.length)
    (inner : ∀ (cdv : Value) (A : Around) (outer : List Env) (s : Shared) (H : Hp) (xs : List V) (Q : VK) (E : XK),
      Room k (A.deeper (envOfC qual scope s.heap.objs.size f cdv)) → sp xs H Q E →
      ∃ t, PSs (cxOf CX0 P w K mg base N qual scope f cdv A outer s H E).nox body t ∧ t { nx := fun _ H' => Q .non H', rt := Q } (start N xs) H) :
    FnOk P w K mg base CX0 (k + 1) f fd ps sp :=
  F.ok S len fun cdv A outer s H xs Q E hr hsp => by
    obtain ⟨t, b, q⟩ := inner cdv A outer s H xs Q E hr hsp
    exact ⟨t, b.nox, q⟩
end L2
namespace L2
open PySem PySem.Spec PyProof.Rows Evl
def rFld (K : PySem.W.Frag) (f : Str) (x : V) (H1 : Hp) (Q : VK) : Prop := ∃ a C dx fs v, x = .ref a ∧ H1 a = some (.ins C dx fs) ∧ Cls K C ∧ NoAttr K C f ∧ fs.lookup f = some v ∧ Q v H1
def rSFld (K : PySem.W.Frag) (f : Str) (y x : V) (H2 : Hp) (R : Hp → Prop) : Prop := ∃ a C dx fs, x = .ref a ∧ H2 a = some (.ins C dx fs) ∧ Cls K C ∧ NoAttr K C f ∧ fs.length < 1000 ∧ R (upd H2 a (.ins C dx (putF f y fs)))
def rMeth (C : Addr) (m : Str) (sp : Sp) (dvs : List V) (E : XK) (t : TA) (σ : L2.St) (x : V) (H1 : Hp) (Q : VK) : Prop := ∃ a dx fs, x = .ref a ∧ H1 a = some (.ins C dx fs) ∧ fs.lookup m = none ∧ t σ H1 fun vs H2 => sp (x :: (vs ++ dvs)) H2 Q E
def rMake (C : Addr) (sp : Sp) (dvs : List V) (E : XK) (vs : List V) (H1 : Hp) (Q : VK) : Prop := ∀ x dx, H1 x = none → H1 dx = none → dx ≠ x → sp (.ref x :: (vs ++ dvs)) (upd (upd H1 dx (.own x)) x (.ins C dx [])) (fun v H2 => v = .non ∧ Q (.ref x) H2) E
section
variable {K : PySem.W.Frag} {σ : L2.St} {H : Hp} {Q : VK} {D : Ends} {ta tv : TE} {t : TA} {f m : Str} {a C dx : Addr} {fs : List (Str × V)} {v y : V} {sp : Sp} {dvs vs : List V} {E : XK}
theorem st_fld (h : ta σ H fun x H1 => rFld K f x H1 Q) : tFld K ta f σ H Q := h
theorem st_sfld (h : tv σ H fun y H1 => ta σ H1 fun x H2 => rSFld K f y x H2 fun H3 => D.nx σ H3) : sFld K ta tv f D σ H := h
theorem st_meth (h : ta σ H fun x H1 => rMeth C m sp dvs E t σ x H1 Q) : tMeth C m sp dvs E ta t σ H Q := h
theorem st_make (h : t σ H fun vs H1 => rMake C sp dvs E vs H1 Q) : tMake C sp dvs E t σ H Q := h
end
theorem st_rg1 {ta : TE} {σ : L2.St} {H : Hp} {R : Int → Int → Hp → Prop} (h : ta σ H fun x H1 => ∃ n, x = .int n ∧ R 0 n H1) : tRg1 ta σ H R := h
def NewDf (H0 : Hp) (f : Nat → Int → Option V) (i : Nat) (ys : List V) (H' : Hp) : Prop := ∃ ds : List Addr, ys = ds.map V.ref ∧ ds.length = i ∧ ds.Nodup ∧ (∀ x ∈ ds, H0 x = none) ∧ (∀ k x, ds[k]? = some x → ∃ kvs, H' x = some (.dK kvs) ∧ DI kvs (f k)) ∧ Ex H0 H'
section
variable {K : PySem.W.Frag} {σ : L2.St} {H : Hp} {Q : VK} {vs : List Nat} {j : Nat} {a : Addr} {xs : List V} {te : TE} {f : Nat → Int → Option V}
theorem newDf_off {H0 H1 : Hp} {i : Nat} {acc : List V} {D : Addr} (hall : ∀ o, NewDf H0 f i acc (upd H1 D o)) : H0 D = none ∧ ∃ ds : List Addr, acc = ds.map V.ref ∧ ds.length = i ∧ ds.Nodup ∧ D ∉ ds ∧ (∀ x ∈ ds, H0 x = none) ∧ (∀ k x, ds[k]? = some x → ∃ kvs, H1 x = some (.dK kvs) ∧ DI kvs (f k)) := by
  refine ⟨ex_none fun o => (hall o).choose_spec.2.2.2.2.2, ?_⟩
  obtain ⟨ds, h1, h2, h3, h4, h5, h6⟩ := hall (.lst [])
  have hD : D ∉ ds := fun z => by
    obtain ⟨k, hk⟩ := List.mem_iff_getElem?.mp z
    obtain ⟨kvs, q, _⟩ := h5 k D hk
    rw [upd_same] at q
    cases q
  refine ⟨ds, h1, h2, h3, hD, h4, fun k x hx => ?_⟩
  obtain ⟨kvs, q1, q2⟩ := h5 k x hx
  have ne : x ≠ D := fun z => hD (z ▸ List.mem_of_getElem? hx)
  exact ⟨kvs, by rwa [upd_ne ne] at q1, q2⟩
theorem newDf_next {H0 H1 H2 : Hp} {i : Nat} {acc : List V} {D p : Addr} {kvs : List (Key × V)} (hall : ∀ o, NewDf H0 f i acc (upd H1 D o)) (hacc : H1 D = some (.lst acc)) (e : Ex H0 H1) (hp : H1 p = none) (e2 : Ex H1 H2) (k2 : H2 p = some (.dK kvs)) (hd : DI kvs (f i)) : ∀ o, NewDf H0 f (i + 1) (acc ++ [.ref p]) (upd H2 D o) := fun o => by
  obtain ⟨hD0, ds, rfl, h2, h3, hD, h4, h5⟩ := newDf_off hall
  have hpD : p ≠ D := fun z => by rw [z, hacc] at hp; cases hp
  have hpd : p ∉ ds := fun z => by
    obtain ⟨k, hk⟩ := List.mem_iff_getElem?.mp z
    obtain ⟨_, q, _⟩ := h5 k p hk
    rw [q] at hp
    cases hp
  refine ⟨ds ++ [p], by rw [List.map_append]; rfl, by rw [List.length_append, h2]; rfl, ?_, fun x hx => ?_, fun k x hx => ?_, ex_put (e.trans e2) hD0⟩
  · rw [List.nodup_append]
    refine ⟨h3, by simp, fun x hx y hy => ?_⟩
    rw [List.mem_singleton.mp hy]
    exact fun z => hpd (z ▸ hx)
  · rcases List.mem_append.mp hx with hx | hx
    · exact h4 x hx
    · rw [List.mem_singleton.mp hx]
      exact fresh_back e hp
  · rcases Nat.lt_or_ge k ds.length with lt | ge
    · rw [List.getElem?_append_left lt] at hx
      obtain ⟨kv, q1, q2⟩ := h5 k x hx
      have ne : x ≠ D := fun z => hD (z ▸ List.mem_of_getElem? hx)
      exact ⟨kv, by rw [upd_ne ne]; exact e2 _ _ q1, q2⟩
    · rw [List.getElem?_append_right ge] at hx
      have ek : k = i := by
        have := (List.getElem?_eq_some_iff.mp hx).1
        simp at this
        omega
      rw [ek, h2, Nat.sub_self] at hx
      cases hx
      rw [ek]
      exact ⟨kvs, by rw [upd_ne hpD]; exact k2, hd⟩
theorem newDf_end {H0 H1 : Hp} {i : Nat} {acc : List V} {D : Addr} (hall : ∀ o, NewDf H0 f i acc (upd H1 D o)) (hacc : H1 D = some (.lst acc)) : DL H0 H1 D i f := by
  obtain ⟨hD0, ds, rfl, h2, h3, hD, h4, h5⟩ := newDf_off hall
  exact ⟨ds, h2, h3, hD, h4, hD0, hacc, h5⟩
/-- [e for x in xs], each e a new dict -/
theorem dlf_L (hl : SqL K H a xs) (hz : xs.length ≤ 10000) (hw : ∀ x, wipe ((wipe σ vs).set j (some x)) vs = wipe σ vs)
    (he : ∀ i x H1 (R : VK), xs[i]? = some x → Ex H H1 → (∀ p kvs H2, H1 p = none → Ex H1 H2 → H2 p = some (.dK kvs) → DI kvs (f i) → R (.ref p) H2) → te ((wipe σ vs).set j (some x)) H1 R)
    (q : ∀ p H1, H p = none → Ex H H1 → DL H H1 p xs.length f → Q (.ref p) H1) : rLc (Itl K a) (gName j) tYes te vs σ Q H := by
  refine r_cmLA (xs := xs) (fun i ys H' => NewDf H f i ys H') (by omega) hw (fun i ys H' p => ex_l p.choose_spec.2.2.2.2.2 hl) (fun D hD o => ⟨[], rfl, rfl, List.nodup_nil, (fun x hx => nomatch hx), (fun k x hx => by simp at hx), Ex.new hD⟩) (fun i x H1 D acc hx hz' hacc p hall => ?_) fun D H1 ys hD h p hall => ?_
  · have hi := (List.getElem?_eq_some_iff.mp hx).1
    have e := p.choose_spec.2.2.2.2.2
    refine t_yes (if_T ?_)
    exact he i x H1 _ hx e fun p' kvs H2 hp e2 k2 hd => cm_yes (e2 _ _ hacc) hz' (by omega) (newDf_next hall hacc e hp e2 k2 hd)
  · exact q D H1 hD p.choose_spec.2.2.2.2.2 (newDf_end hall h)
end
/-- what a dict is, by its keys -/
theorem DI.dm {kvs : List (Key × V)} {f : Int → Option V} (h : DI kvs f) : ∃ l : List Int, l.Nodup ∧ (∀ x, x ∈ l ↔ (f x).isSome = true) ∧ kvs = L2.dm l fun x => (f x).getD .non := h
def ExI (H H1 : Hp) : Prop := ∀ a o, H a = some o → (∀ C dx fs, o ≠ .ins C dx fs) → H1 a = some o
theorem ExI.refl (H : Hp) : ExI H H := fun _ _ h _ => h
theorem ExI.of {H H1 : Hp} (e : Ex H H1) : ExI H H1 := fun a o h _ => e a o h
theorem ExI.trans {H H1 H2 : Hp} (a : ExI H H1) (b : ExI H1 H2) : ExI H H2 := fun x o h n => b x o (a x o h n) n
theorem ExI.w {H H1 : Hp} {x C dx : Addr} {fs : List (Str × V)} (e : ExW x H H1) (hx : H x = some (.ins C dx fs)) : ExI H H1 := fun a o h n => e a o h fun z => by
  rw [z, hx] at h
  exact n _ _ _ (Option.some.inj h).symm
theorem ExI.lst {H H1 : Hp} (e : ExI H H1) {a : Addr} {xs : List V} (h : H a = some (.lst xs)) : H1 a = some (.lst xs) := e _ _ h fun _ _ _ z => nomatch z
theorem ExI.dk {H H1 : Hp} (e : ExI H H1) {a : Addr} {kvs : List (Key × V)} (h : H a = some (.dK kvs)) : H1 a = some (.dK kvs) := e _ _ h fun _ _ _ z => nomatch z
theorem ExI.tx {H H1 : Hp} (e : ExI H H1) : TX H H1 := fun a xs h => by
  rcases h with h | ⟨o, h⟩
  · rw [h, e _ _ h fun _ _ _ z => nomatch z]
  · rw [h, e _ _ h fun _ _ _ z => nomatch z]
/-- a list of dicts that is read -/
structure DR (H : Hp) (a : Addr) (n : Nat) (f : Nat → Int → Option V) : Prop where
  ex : ∃ ds : List Addr, ds.length = n ∧ H a = some (.lst (ds.map V.ref)) ∧ ∀ i x, ds[i]? = some x → ∃ kvs, H x = some (.dK kvs) ∧ DI kvs (f i)
theorem DR.i {H H1 : Hp} {a : Addr} {n : Nat} {f : Nat → Int → Option V} (h : DR H a n f) (e : ExI H H1) : DR H1 a n f := by
  obtain ⟨ds, h1, h2, h3⟩ := h.ex
  refine ⟨ds, h1, e.lst h2, fun i x hx => ?_⟩
  obtain ⟨kvs, k1, k2⟩ := h3 i x hx
  exact ⟨kvs, e.dk k1, k2⟩
theorem DR.of {H0 H : Hp} {a : Addr} {n : Nat} {f : Nat → Int → Option V} (h : DL H0 H a n f) : DR H a n f := by
  obtain ⟨ds, h1, h2, h3, h4, h5, h6, h7⟩ := h.ex
  exact ⟨ds, h1, h6, h7⟩
theorem DR.at' {H : Hp} {a : Addr} {n : Nat} {f : Nat → Int → Option V} (h : DR H a n f) {i : Nat} (hi : i < n) : ∃ xs x kvs, H a = some (.lst xs) ∧ xs.length = n ∧ xs[i]? = some (.ref x) ∧ H x = some (.dK kvs) ∧ DI kvs (f i) := by
  obtain ⟨ds, h1, h6, h7⟩ := h.ex
  have hx := List.getElem?_eq_getElem (l := ds) (i := i) (by omega)
  obtain ⟨kvs, k1, k2⟩ := h7 i _ hx
  exact ⟨_, _, kvs, h6, by rw [List.length_map]; exact h1, by rw [List.getElem?_map, hx]; rfl, k1, k2⟩
end L2
namespace Wb
theorem flt_le {α : Type} {p q : α → Bool} : ∀ {l : List α}, (∀ x ∈ l, p x = true → q x = true) → (l.filter p).length ≤ (l.filter q).length
  | [], _ => Nat.le_refl _
  | x :: l, h => by
    have ih := flt_le (l := l) fun y hy => h y (List.mem_cons_of_mem _ hy)
    have hx := h x List.mem_cons_self
    cases hp : p x with
    | true => rw [List.filter_cons_of_pos hp, List.filter_cons_of_pos (hx hp), List.length_cons, List.length_cons]; omega
    | false =>
      rw [List.filter_cons_of_neg (by rw [hp]; decide)]
      cases hq : q x with
      | true => rw [List.filter_cons_of_pos hq, List.length_cons]; omega
      | false => rw [List.filter_cons_of_neg (by rw [hq]; decide)]; exact ih
theorem flt_lt {α : Type} {p q : α → Bool} : ∀ {l : List α} {a : α}, (∀ x ∈ l, p x = true → q x = true) → a ∈ l → p a = false → q a = true → (l.filter p).length < (l.filter q).length
  | [], a, _, ha, _, _ => (List.not_mem_nil ha).elim
  | x :: l, a, h, ha, hp, hq => by
    have hl := fun y hy => h y (List.mem_cons_of_mem x hy)
    rcases List.mem_cons.mp ha with e | e
    · subst e
      rw [List.filter_cons_of_neg (by rw [hp]; decide), List.filter_cons_of_pos hq, List.length_cons]
      exact Nat.lt_succ_of_le (flt_le hl)
    · have ih := flt_lt hl e hp hq
      have hx := h x List.mem_cons_self
      cases hp2 : p x with
      | true => rw [List.filter_cons_of_pos hp2, List.filter_cons_of_pos (hx hp2), List.length_cons, List.length_cons]; omega
      | false =>
        rw [List.filter_cons_of_neg (by rw [hp2]; decide)]
        cases hq2 : q x with
        | true => rw [List.filter_cons_of_pos hq2, List.length_cons]; omega
        | false => rw [List.filter_cons_of_neg (by rw [hq2]; decide)]; exact ih
theorem flt_one {p q : Nat → Bool} {a : Nat} : ∀ {l : List Nat}, l.Nodup → (∀ x ∈ l, p x = true → q x = true ∨ x = a) → (l.filter p).length ≤ (l.filter q).length + 1
  | [], _, _ => Nat.zero_le _
  | x :: l, hn, h => by
    have hl := fun y hy => h y (List.mem_cons_of_mem x hy)
    have hx := h x List.mem_cons_self
    obtain ⟨n1, n2⟩ := List.nodup_cons.mp hn
    cases hp : p x with
    | false =>
      rw [List.filter_cons_of_neg (by rw [hp]; decide)]
      have ih := flt_one n2 hl
      cases hq : q x with
      | true => rw [List.filter_cons_of_pos hq, List.length_cons]; omega
      | false => rw [List.filter_cons_of_neg (by rw [hq]; decide)]; exact ih
    | true =>
      rw [List.filter_cons_of_pos hp, List.length_cons]
      rcases hx hp with hq | e
      · rw [List.filter_cons_of_pos hq, List.length_cons]
        have ih := flt_one n2 hl
        omega
      · subst e
        have := flt_le (p := p) (q := q) (l := l) fun y hy hpy => (hl y hy hpy).elim id fun e => absurd hy (e ▸ n1)
        cases hq : q x with
        | true => rw [List.filter_cons_of_pos hq, List.length_cons]; omega
        | false => rw [List.filter_cons_of_neg (by rw [hq]; decide)]; omega
def cut (d : Gm) (r g : Nat) (s : Int) : Gm := fun x t => if (x = r ∧ t = s) ∨ (x = g ∧ t = -s) then none else d x t
theorem cut_sub {d : Gm} {r g x y : Nat} {s t : Int} (h : cut d r g s x t = some y) : ¬ ((x = r ∧ t = s) ∨ (x = g ∧ t = -s)) ∧ d x t = some y := by
  unfold cut at h
  by_cases c : (x = r ∧ t = s) ∨ (x = g ∧ t = -s)
  · rw [if_pos c] at h
    cases h
  · rw [if_neg c] at h
    exact ⟨c, h⟩
theorem cut_gr {L n : Nat} {d : Gm} {r g : Nat} {s : Int} (G : Gr L n d) (h : d r s = some g) : Gr L n (cut d r g s) := by
  refine ⟨fun x t y e => G.dom x t y (cut_sub e).2, fun x t y e => ?_⟩
  obtain ⟨c, e⟩ := cut_sub e
  unfold cut
  rw [if_neg, G.sym _ _ _ e]
  intro z
  apply c
  have e2 := G.sym _ _ _ e
  have h2 := G.sym _ _ _ h
  rcases z with ⟨z1, z2⟩ | ⟨z1, z2⟩
  · subst z1
    rw [z2, h] at e2
    cases e2
    exact .inr ⟨rfl, by omega⟩
  · subst z1
    rw [z2, h2] at e2
    cases e2
    exact .inl ⟨rfl, by omega⟩
theorem cut_some {d : Gm} {r g x : Nat} {s t : Int} (h : (cut d r g s x t).isSome = true) : (d x t).isSome = true := by
  cases e : cut d r g s x t with
  | none => rw [e] at h; cases h
  | some y => rw [(cut_sub e).2]; rfl
theorem cut_deg {L : Nat} {d : Gm} {r g : Nat} {s : Int} (x : Nat) : deg L (cut d r g s) x ≤ deg L d x := flt_le fun t _ h => cut_some h
theorem cut_zero {L n : Nat} {d : Gm} {r g : Nat} {s : Int} (G : Gr L n d) (h : d r s = some g) (h1 : deg L d r = 1) : deg L (cut d r g s) r = 0 := by
  have : deg L (cut d r g s) r < deg L d r := flt_lt (a := s) (fun t _ z => cut_some z) (G.dom _ _ _ h).2.2 (by
    have : cut d r g s r s = none := if_pos (.inl ⟨rfl, rfl⟩)
    rw [this]
    rfl) (by rw [h]; rfl)
  omega
/-- rooms but home with any way -/
def pot (L n : Nat) (d : Gm) : Nat := ((List.range n).filter fun r => decide (r ≠ 0) && decide (0 < deg L d r)).length
theorem cut_pot {L n : Nat} {d : Gm} {r g : Nat} {s : Int} (G : Gr L n d) (h : d r s = some g) (h1 : deg L d r = 1) (hr : 0 < r) : pot L n (cut d r g s) + 1 ≤ pot L n d := by
  refine flt_lt (a := r) (fun x _ z => ?_) (List.mem_range.mpr (G.dom _ _ _ h).1) ?_ ?_
  · rw [Bool.and_eq_true, decide_eq_true_eq, decide_eq_true_eq] at z ⊢
    exact ⟨z.1, Nat.lt_of_lt_of_le z.2 (cut_deg x)⟩
  · rw [cut_zero G h h1]
    simp
  · rw [h1]
    simp
    omega
theorem pot_start {L n : Nat} {d : Gm} (hn : 0 < n) : pot L n d + 1 ≤ n := by
  have := flt_lt (l := List.range n) (p := fun r => decide (r ≠ 0) && decide (0 < deg L d r)) (q := fun _ => true) (a := 0) (fun _ _ _ => rfl) (List.mem_range.mpr hn) (by simp) rfl
  rw [List.filter_eq_self.mpr fun _ _ => rfl, List.length_range] at this
  exact this
def NoEnd (L n : Nat) (d : Gm) : Prop := ∀ r, 0 < r → r < n → deg L d r ≠ 1
def TrimI (L n t j : Nat) (d : Gm) : Prop := ((∀ r, 0 < r → r < j → deg L d r ≠ 1) ∧ pot L n d + t + 1 ≤ n) ∨ pot L n d + t + 2 ≤ n ∨ NoEnd L n d
def TrimO (L n t : Nat) (d : Gm) : Prop := NoEnd L n d ∨ pot L n d + t + 1 ≤ n
theorem trim_first {L n : Nat} {d : Gm} (hn : 0 < n) : TrimO L n 0 d := .inr (by have := pot_start (L := L) (d := d) hn; omega)
theorem trim_start {L n t : Nat} {d : Gm} (h : TrimO L n t d) : TrimI L n t 1 d := h.elim (fun h => .inr (.inr h)) fun h => .inl ⟨fun r h1 h2 => by omega, h⟩
theorem trim_no {L n t j : Nat} {d : Gm} (h : TrimI L n t j d) (hj : deg L d j ≠ 1) : TrimI L n t (j + 1) d := by
  rcases h with ⟨h1, h2⟩ | h
  · refine .inl ⟨fun r r0 rj => ?_, h2⟩
    rcases Nat.lt_or_ge r j with z | z
    · exact h1 r r0 z
    · rwa [show r = j by omega]
  · exact .inr h
theorem trim_yes {L n t j g : Nat} {d : Gm} {s : Int} (h : TrimI L n t j d) (G : Gr L n d) (e : d j s = some g) (hj : deg L d j = 1) (j0 : 0 < j) : TrimI L n t (j + 1) (cut d j g s) := by
  have z := cut_pot G e hj j0
  rcases h with ⟨h1, h2⟩ | h | h
  · exact .inr (.inl (by omega))
  · exact .inr (.inl (by omega))
  · exact absurd hj (h j j0 (G.dom _ _ _ e).1)
theorem trim_round {L n t : Nat} {d : Gm} (h : TrimI L n t n d) : TrimO L n (t + 1) d := by
  rcases h with ⟨h1, h2⟩ | h | h
  · exact .inl h1
  · exact .inr (by omega)
  · exact .inl h
theorem trim_end {L n : Nat} {d : Gm} (h : TrimO L n n d) : NoEnd L n d := h.elim id fun h => by omega
abbrev Ways := List (Nat × Int × Nat)
structure WaysOk (L n : Nat) (ws : Ways) : Prop where
  dom : ∀ a s b, (a, s, b) ∈ ws → a < n ∧ b < n ∧ s ∈ Od.steps L
  rev : ∀ a s b, (a, s, b) ∈ ws → (b, -s, a) ∈ ws
structure HeadsOk (n : Nat) (h : List Nat) : Prop where
  len : h.length = n
  lt : ∀ x ∈ h, x < n
def at0 (h : List Nat) (a : Nat) : Nat := h.getD a 0
theorem HeadsOk.in {n a : Nat} {h : List Nat} (k : HeadsOk n h) (ha : a < n) : at0 h a ∈ h := by
  unfold at0
  rw [List.getD_eq_getElem?_getD, List.getElem?_eq_getElem (by rw [k.len]; exact ha)]
  exact List.getElem_mem _
def lab (n : Nat) (h : List Nat) : Nat := ((List.range n).filter fun x => decide (x ∈ h)).length
def merge (h : List Nat) (lo hi : Nat) : List Nat := h.map fun x => if x = hi then lo else x
theorem mem_merge {h : List Nat} {lo hi x : Nat} (k : x ∈ merge h lo hi) : (x = lo ∧ hi ∈ h) ∨ (x ∈ h ∧ x ≠ hi) := by
  obtain ⟨y, hy, e⟩ := List.mem_map.mp k
  by_cases c : y = hi
  · rw [if_pos c] at e
    exact .inl ⟨e.symm, c ▸ hy⟩
  · rw [if_neg c] at e
    subst e
    exact .inr ⟨hy, c⟩
theorem merge_ok {n : Nat} {h : List Nat} {lo hi : Nat} (k : HeadsOk n h) (hl : lo < n) : HeadsOk n (merge h lo hi) := by
  refine ⟨by unfold merge; rw [List.length_map]; exact k.len, fun x hx => ?_⟩
  rcases mem_merge hx with ⟨e, _⟩ | ⟨e, _⟩
  · omega
  · exact k.lt _ e
theorem lab_lt {n : Nat} {h : List Nat} {lo hi : Nat} (k : HeadsOk n h) (hl : lo ∈ h) (hh : hi ∈ h) (ne : lo ≠ hi) : lab n (merge h lo hi) + 1 ≤ lab n h := by
  refine flt_lt (a := hi) (fun x _ z => ?_) (List.mem_range.mpr (k.lt _ hh)) (decide_eq_false fun z => ?_) (decide_eq_true hh)
  · rw [decide_eq_true_eq] at z ⊢
    rcases mem_merge z with ⟨e, _⟩ | ⟨e, _⟩
    · rw [e]; exact hl
    · exact e
  · rcases mem_merge z with ⟨e, _⟩ | ⟨_, e⟩
    · exact ne e.symm
    · exact e rfl
theorem lab_le {n : Nat} {h : List Nat} {lo hi : Nat} (k : HeadsOk n h) : lab n (merge h lo hi) ≤ lab n h := by
  refine Qt.drp ?_ ?_
  · by_cases hh : hi ∈ h
    · have z1 : ((List.range n).filter fun x => decide (x ∈ merge h lo hi)).length ≤ ((List.range n).filter fun x => decide (x ∈ h) && decide (x ≠ hi)).length + 1 :=
        flt_one (a := lo) List.nodup_range fun x _ z => by
          rw [decide_eq_true_eq] at z
          rcases mem_merge z with ⟨e, _⟩ | ⟨e, e2⟩
          · exact .inr e
          · exact .inl (by rw [Bool.and_eq_true, decide_eq_true_eq, decide_eq_true_eq]; exact ⟨e, e2⟩)
      have z2 : ((List.range n).filter fun x => decide (x ∈ h) && decide (x ≠ hi)).length < ((List.range n).filter fun x => decide (x ∈ h)).length :=
        flt_lt (a := hi) (fun x _ z => by rw [Bool.and_eq_true] at z; exact z.1) (List.mem_range.mpr (k.lt _ hh)) (by simp) (decide_eq_true hh)
      unfold lab
      omega
    · refine flt_le fun x _ z => ?_
      rw [decide_eq_true_eq] at z ⊢
      rcases mem_merge z with ⟨_, e⟩ | ⟨e, _⟩
      · exact absurd e hh
      · exact e
  walk_at "end"
theorem lab_pos {n : Nat} {h : List Nat} (k : HeadsOk n h) (hn : 0 < n) : 1 ≤ lab n h := by
  have h0 := k.in hn
  exact List.length_pos_of_mem (List.mem_filter.mpr ⟨List.mem_range.mpr (k.lt _ h0), decide_eq_true h0⟩)
theorem lab_top {n : Nat} {h : List Nat} : lab n h ≤ n := by
  have := List.length_filter_le (fun x => decide (x ∈ h)) (List.range n)
  rwa [List.length_range] at this
def Stab (ws : Ways) (h : List Nat) : Prop := ∀ a s b a' b', (a, s, b) ∈ ws → (a', s, b') ∈ ws → at0 h a = at0 h a' → at0 h b = at0 h b'
structure Dof (d : Gm) (ws : Ways) (h : List Nat) : Prop where
  to : ∀ a s b, (a, s, b) ∈ ws → d (at0 h a) s = some (at0 h b)
  fro : ∀ x s v, d x s = some v → ∃ a b, (a, s, b) ∈ ws ∧ at0 h a = x ∧ at0 h b = v
def Dom (L n : Nat) (d : Gm) : Prop := ∀ x s v, d x s = some v → x < n ∧ v < n ∧ s ∈ Od.steps L
def RI (n : Nat) (all ws : Ways) (h0 h : List Nat) (d : Gm) : Prop := (h = h0 ∧ Dof d ws h0) ∨ (lab n h + 1 ≤ lab n h0 ∧ ¬ Stab all h0)
def RO (n : Nat) (ws : Ways) (t : Nat) (h : List Nat) (d : Gm) : Prop := (Stab ws h ∧ Dof d ws h) ∨ lab n h + t ≤ n
def set1 (d : Gm) (x : Nat) (s : Int) (v : Nat) : Gm := fun y t => if y = x ∧ t = s then some v else d y t
theorem ri_start {n : Nat} {all : Ways} {h : List Nat} : RI n all [] h h fun _ _ => none := .inl ⟨rfl, fun a s b e => (List.not_mem_nil e).elim, fun x s v e => by cases e⟩
theorem ri_new {n a b : Nat} {s : Int} {all ws : Ways} {h0 h : List Nat} {d : Gm} (k : RI n all ws h0 h d) (e : d (at0 h a) s = none) : RI n all (ws ++ [(a, s, b)]) h0 h (set1 d (at0 h a) s (at0 h b)) := by
  rcases k with ⟨rfl, k1, k2⟩ | k
  · refine .inl ⟨rfl, fun a' s' b' m => ?_, fun x s' v m => ?_⟩
    · unfold set1
      rcases List.mem_append.mp m with m | m
      · rw [if_neg, k1 _ _ _ m]
        intro z
        have := k1 _ _ _ m
        rw [z.1, z.2] at this
        rw [e] at this
        cases this
      · cases List.mem_singleton.mp m
        rw [if_pos ⟨rfl, rfl⟩]
    · unfold set1 at m
      by_cases c : x = at0 h a ∧ s' = s
      · rw [if_pos c] at m
        cases m
        exact ⟨a, b, List.mem_append_right _ (by rw [c.2]; exact List.mem_singleton.mpr rfl), c.1.symm, rfl⟩
      · rw [if_neg c] at m
        obtain ⟨a', b', m1, m2⟩ := k2 _ _ _ m
        exact ⟨a', b', List.mem_append_left _ m1, m2⟩
  · exact .inr k
theorem ri_same {n a b : Nat} {s : Int} {all ws : Ways} {h0 h : List Nat} {d : Gm} (k : RI n all ws h0 h d) (e : d (at0 h a) s = some (at0 h b)) : RI n all (ws ++ [(a, s, b)]) h0 h d := by
  rcases k with ⟨rfl, k1, k2⟩ | k
  · refine .inl ⟨rfl, fun a' s' b' m => ?_, fun x s' v m => ?_⟩
    · rcases List.mem_append.mp m with m | m
      · exact k1 _ _ _ m
      · cases List.mem_singleton.mp m
        exact e
    · obtain ⟨a', b', m1, m2⟩ := k2 _ _ _ m
      exact ⟨a', b', List.mem_append_left _ m1, m2⟩
  · exact .inr k
theorem ri_merge {n a b v lo hi : Nat} {s : Int} {all ws rest : Ways} {h0 h : List Nat} {d : Gm} (k : RI n all ws h0 h d) (ho : HeadsOk n h) (hall : ∀ w ∈ ws, w ∈ all) (hm : (a, s, b) ∈ all) (ha : ∀ a s b, (a, s, b) ∈ all → a < n ∧ b < n) (e : d (at0 h a) s = some v) (ne : v ≠ at0 h b) (hlo : lo = min v (at0 h b)) (hhi : hi = max v (at0 h b)) (ws' : Ways) :
    RI n all ws' h0 (merge h lo hi) d := by
  rcases k with ⟨rfl, k1, k2⟩ | ⟨k1, k2⟩
  · obtain ⟨a', b', m1, m2, m3⟩ := k2 _ _ _ e
    have i1 : at0 h b ∈ h := ho.in (ha _ _ _ hm).2
    have i2 : v ∈ h := m3 ▸ ho.in (ha _ _ _ (hall _ m1)).2
    refine .inr ⟨lab_lt ho ?_ ?_ (by omega), fun z => ne ?_⟩
    · rw [hlo, Nat.min_def]; split <;> assumption
    · rw [hhi, Nat.max_def]; split <;> assumption
    · rw [← m3]
      exact z _ _ _ _ _ (hall _ m1) hm m2
  · exact .inr ⟨Nat.le_trans (Nat.succ_le_succ (lab_le ho)) k1, k2⟩
theorem ro_turn {n t : Nat} {ws : Ways} {h0 h : List Nat} {d0 d : Gm} (k : RO n ws t h0 d0) (r : RI n ws ws h0 h d) : RO n ws (t + 1) h d := by
  rcases r with ⟨rfl, k1⟩ | ⟨k1, k2⟩
  · refine .inl ⟨fun a s b a' b' m m' e => ?_, k1⟩
    have z1 := k1.to _ _ _ m
    have z2 := k1.to _ _ _ m'
    rw [e, z2] at z1
    exact (Option.some.inj z1).symm
  · rcases k with ⟨s, _⟩ | k
    · exact absurd s k2
    · exact .inr (by omega)
theorem ro_first {n : Nat} {ws : Ways} {h : List Nat} {d : Gm} : RO n ws 0 h d := .inr (by have := lab_top (n := n) (h := h); omega)
theorem ro_end {L n : Nat} {ws : Ways} {h : List Nat} {d : Gm} (k : RO n ws n h d) (ho : HeadsOk n h) (hw : WaysOk L n ws) (hn : 0 < n) : Gr L n d := by
  have hp := lab_pos ho hn
  rcases k with ⟨s, k⟩ | k
  · refine ⟨fun x s v e => ?_, fun x s v e => ?_⟩
    · obtain ⟨a, b, m, rfl, rfl⟩ := k.fro _ _ _ e
      obtain ⟨d1, d2, d3⟩ := hw.dom _ _ _ m
      exact ⟨ho.lt _ (ho.in d1), ho.lt _ (ho.in d2), d3⟩
    · obtain ⟨a, b, m, rfl, rfl⟩ := k.fro _ _ _ e
      exact k.to _ _ _ (hw.rev _ _ _ m)
  · omega
end Wb
namespace L2
open PySem PySem.Spec PyProof.Rows Evl
theorem dl_set {H0 H : Hp} {a : Addr} {n i : Nat} {d : Wb.Gm} (h : DL H0 H a n fun x s => vN (d x s)) (hi : i < n) (hs : ∀ s, (d i s).isSome = true → s ∈ Od.steps 4) :
    ∃ xs p kvs, H a = some (.lst xs) ∧ xs[i]? = some (.ref p) ∧ H p = some (.dK kvs) ∧ DI kvs (fun s => vN (d i s)) ∧ kvs.length < 100000 ∧ p ≠ a ∧ H0 p = none ∧
      ∀ H1 kvs' s0 (g : Nat), ExW p H H1 → H1 p = some (.dK kvs') → DI kvs' (fun t => if t = s0 then some (.int (g : Int)) else vN (d i t)) → DL H0 H1 a n fun x s => vN (if x = i ∧ s = s0 then some g else d x s) := by
  refine Qt.drp ?_ ?_
  · obtain ⟨xs, p, kvs, h1, h2, h3, h4, h5, h6, h7⟩ := h.at' hi
    refine ⟨xs, p, kvs, h1, h2, h3, h4, ?_, h5, h6, fun H1 kvs' s0 g e q1 q2 => (h7 H1 kvs' _ e q1 q2).congr fun x _ s => ?_⟩
    · have := h4.le (Od.steps_nodup 4) fun s z => hs s (by rw [← vN_some]; exact z)
      rw [Od.steps_len] at this
      omega
    · by_cases c1 : x = i
      · subst c1
        refine (congrFun (if_pos rfl) s).trans ?_
        by_cases c2 : s = s0
        · refine (if_pos c2).trans ?_
          have e2 : (if x = x ∧ s = s0 then some g else d x s) = some g := if_pos ⟨rfl, c2⟩
          rw [e2]
          rfl
        · refine (if_neg c2).trans ?_
          have e2 : (if x = x ∧ s = s0 then some g else d x s) = d x s := if_neg fun z => c2 z.2
          rw [e2]
      · refine (congrFun (if_neg c1) s).trans ?_
        have e2 : (if x = i ∧ s = s0 then some g else d x s) = d x s := if_neg fun z => c1 z.1
        rw [e2]
  walk_at "end"
theorem dl_pop {H0 H : Hp} {a : Addr} {n i : Nat} {d : Wb.Gm} (h : DL H0 H a n fun x s => vN (d x s)) (hi : i < n) :
    ∃ xs p kvs, H a = some (.lst xs) ∧ xs[i]? = some (.ref p) ∧ H p = some (.dK kvs) ∧ DI kvs (fun s => vN (d i s)) ∧ p ≠ a ∧ H0 p = none ∧
      ∀ H1 kvs' s0, ExW p H H1 → H1 p = some (.dK kvs') → DI kvs' (fun t => if t = s0 then none else vN (d i t)) → DL H0 H1 a n fun x s => vN (if x = i ∧ s = s0 then none else d x s) := by
  obtain ⟨xs, p, kvs, h1, h2, h3, h4, h5, h6, h7⟩ := h.at' hi
  refine ⟨xs, p, kvs, h1, h2, h3, h4, h5, h6, fun H1 kvs' s0 e q1 q2 => (h7 H1 kvs' _ e q1 q2).congr fun x _ s => ?_⟩
  by_cases c1 : x = i
  · subst c1
    refine (congrFun (if_pos rfl) s).trans ?_
    by_cases c2 : s = s0
    · refine (if_pos c2).trans ?_
      have e2 : (if x = x ∧ s = s0 then none else d x s) = none := if_pos ⟨rfl, c2⟩
      rw [e2]
      rfl
    · refine (if_neg c2).trans ?_
      have e2 : (if x = x ∧ s = s0 then none else d x s) = d x s := if_neg fun z => c2 z.2
      rw [e2]
  · refine (congrFun (if_neg c1) s).trans ?_
    have e2 : (if x = i ∧ s = s0 then none else d x s) = d x s := if_neg fun z => c1 z.1
    rw [e2]
theorem di_deg {L n r : Nat} {d : Wb.Gm} {kvs : List (Key × V)} (h : DI kvs fun s => vN (d r s)) (G : Wb.Gr L n d) : kvs.length = Wb.deg L d r :=
  h.len ((Od.steps_nodup L).filter _) fun x => by
    rw [List.mem_filter, vN_some]
    exact ⟨fun z => z.2, fun z => ⟨by
      cases e : d r x with
      | none => rw [e] at z; cases z
      | some g => exact (G.dom _ _ _ e).2.2, z⟩⟩
/-- the one way of an idle end -/
theorem di_one {r : Nat} {d : Wb.Gm} {kvs : List (Key × V)} (h : DI kvs fun s => vN (d r s)) (h1 : kvs.length = 1) : ∃ s g, d r s = some g ∧ kvs.map (fun kv => kV kv.1) = [V.int s] := by
  obtain ⟨l, hn, hl, rfl⟩ := h.dm
  rw [dm_len] at h1
  obtain ⟨s, rfl⟩ := List.length_eq_one_iff.mp h1
  have hs := (hl s).mp (List.mem_singleton.mpr rfl)
  rw [vN_some] at hs
  cases e : d r s with
  | none => rw [e] at hs; cases hs
  | some g => exact ⟨s, g, e, rfl⟩
/-- numbers of rooms -/
def nI (l : List Nat) : List Int := l.map fun (g : Nat) => (g : Int)
theorem nI_mem {l : List Nat} {g : Nat} : (g : Int) ∈ nI l ↔ g ∈ l := by
  unfold nI
  rw [List.mem_map]
  exact ⟨fun ⟨x, hx, e⟩ => (show x = g by omega) ▸ hx, fun h => ⟨g, h, rfl⟩⟩
theorem nI_idx {g : Nat} : ∀ {l : List Nat}, (nI l).idxOf (g : Int) = l.idxOf g
  | [] => rfl
  | x :: l => by
    show ((x : Int) :: nI l).idxOf (g : Int) = _
    rw [List.idxOf_cons, List.idxOf_cons, nI_idx (l := l)]
    have : ((x : Int) == (g : Int)) = (x == g) := by
      by_cases e : x = g
      · subst e
        rw [beq_self_eq_true, beq_self_eq_true]
      · rw [beq_false_of_ne (show ¬ (x : Int) = g by omega), beq_false_of_ne e]
    rw [this]
theorem nI_len {l : List Nat} : (nI l).length = l.length := by unfold nI; rw [List.length_map]
theorem nI_at {l : List Nat} {i g : Nat} (h : l[i]? = some g) : (nI l)[i]? = some (g : Int) := by unfold nI; rw [List.getElem?_map, h]; rfl
/-- what else changes -/
theorem dl_w {H0 H H1 : Hp} {a w : Addr} {n : Nat} {f : Nat → Int → Option V} (h : DL H0 H a n f) (e : ExW w H H1) (hw : H0 w ≠ none) : DL H0 H1 a n f := by
  obtain ⟨ds, h1, h2, h3, h4, h5, h6, h7⟩ := h.ex
  refine ⟨ds, h1, h2, h3, h4, h5, e _ _ h6 fun z => hw (z ▸ h5), fun i x hx => ?_⟩
  obtain ⟨kvs, k1, k2⟩ := h7 i x hx
  exact ⟨kvs, e _ _ k1 (fun z => hw (z ▸ h4 x (List.mem_of_getElem? hx))), k2⟩
/-- a new list changes -/
theorem dl_l {H0 H H1 : Hp} {a l : Addr} {n : Nat} {f : Nat → Int → Option V} {ns : List V} (h : DL H0 H a n f) (e : ExW l H H1) (hl : H l = some (.lst ns)) (ha : l ≠ a) : DL H0 H1 a n f := by
  obtain ⟨ds, h1, h2, h3, h4, h5, h6, h7⟩ := h.ex
  refine ⟨ds, h1, h2, h3, h4, h5, e _ _ h6 ha.symm, fun i x hx => ?_⟩
  obtain ⟨kvs, k1, k2⟩ := h7 i x hx
  exact ⟨kvs, e _ _ k1 (fun z => by rw [z, hl] at k1; cases k1), k2⟩
end L2
namespace L2
open PySem PySem.Spec PyProof.Rows Evl
section
variable {K : PySem.W.Frag} {σ : L2.St} {H : Hp} {Q : VK} {a : Addr} {xs : List V} {t : TA}
theorem r_pa (h : SqL K H a xs) (q : t σ H fun us H2 => rPopAt (.ref a) us H2 Q) : rApp K "list" rPopAt t σ (.ref a) H Q := ⟨.inl ⟨rfl, xs, h⟩, q⟩
theorem seq_ix {i : Int} {n : Nat} (h0 : 0 ≤ i) (h1 : i < n) : seqIndex? i n = some i.toNat := by
  unfold seqIndex?
  try simp only [h0, if_true, not_lt_of_ge]
  split <;> simp_all <;> omega
theorem r_popA {i : Int} {v : V} (h : H a = some (.lst xs)) (h0 : 0 ≤ i) (hz : xs.length < 100000) (hx : xs[i.toNat]? = some v) (q : ∀ H1, ExW a H H1 → H1 a = some (.lst (xs.eraseIdx i.toNat)) → Q v H1) : rPopAt (.ref a) [.int i] H Q := by
  have hi := (List.getElem?_eq_some_iff.mp hx).1
  exact ⟨a, xs, i, i.toNat, v, rfl, rfl, h, by omega, by omega, seq_ix h0 (by omega), hx, q _ ExW.upd upd_same⟩
end
end L2
namespace L2
open PySem PySem.Spec PyProof.Rows Evl
theorem dl_back {H0 H H1 : Hp} {a : Addr} {n : Nat} {f : Nat → Int → Option V} (h : DL H H1 a n f) (e : Ex H0 H) : DL H0 H1 a n f := by
  obtain ⟨ds, h1, h2, h3, h4, h5, h6, h7⟩ := h.ex
  exact ⟨ds, h1, h2, h3, fun x hx => fresh_back e (h4 x hx), fresh_back e h5, h6, h7⟩
theorem tx_dk {H H1 : Hp} {b : Addr} {kvs : List (Key × V)} (hb : H b = some (.dK kvs)) (e : ExW b H H1) : TX H H1 := fun q ys hq => by
  have ne : q ≠ b := fun z => by
    rw [z, hb] at hq
    rcases hq with hq | ⟨_, hq⟩ <;> cases hq
  rcases hq with hq | ⟨o, hq⟩
  · rw [hq, e _ _ hq ne]
  · rw [hq, e _ _ hq ne]
end L2
namespace Od
open L2
def cd (x : Int) : Int := 2 * (x.natAbs : Int) + (if x < 0 then 1 else 0)
theorem cd_inj {x y : Int} (h : cd x = cd y) : x = y := by
  unfold cd at h
  split at h <;> split at h <;> omega
end Od
namespace Wb
abbrev Pl := Nat × Int
/-- how many straight walks lead from home to a room by a last step -/
def lst (L : Nat) (d : Gm) : Nat → Pl → Int
  | 0 => fun k => if k = (0, 0) then 1 else 0
  | n + 1 => fun k => (hw L d (n + 1)).1 k.1 (-k.2)
end Wb
namespace L2
open PySem PySem.Spec PyProof.Rows Evl
def tDispT (tk tv : TE) : TE := fun σ H Q => ∀ p, H p = none → tk σ (upd H p (.dT [])) fun x H1 => tv σ H1 fun y H2 => H2 p = some (.dT []) ∧ ∃ (k : List Key) (b : Addr), x = .ref b ∧ H2 b = some (.tup (k.map kV)) ∧ Q (.ref p) (upd H2 p (.dT [(k, y)]))
theorem pe_dispT {X : Cx} {k v : Expr} {tk tv : TE} {pos : Pos} (hu : X.A.units + 1 < cLine) (hk : PE X k tk) (hv : PE X v tv) : PE X (.Dict [some k] [v] pos) (tDispT tk tv) := by
  refine Qt.drp ?_ ?_
  · refine ⟨fun pins s σ H Q I q => ?_⟩
    have hn := I.hok.fresh (Nat.le_refl s.heap.objs.size)
    have I1 := I.laid (a := s.heap.objs.size) (o := .dT []) (h' := s.heap.push { cls := .type "dict", data := .dict #[] }) (t' := s.toks) (fun _ _ q => Heap.get?_push_of_some _ q) (Nat.le_refl _) (dt_empty s.heap I.big)
    have hz := zip_pairTrees [some k] [v] X.env pos rfl rfl
    have hl := pairTrees_length [some k] [v] X.env pos rfl rfl
    rw [arm_eval_Dict, hz, dictDisplay_pairs _ (by intro z; rw [z] at hl; exact absurd hl (by simp)) (by rw [hl]; simp)]
    refine wpAny_bind (wpAny_standAt (wpAny_bind (wpAny_subDictH (knd := tupleKind (mixKind X.prog X.w)) (Q := fun d s' => wpAny (model X.prog X.w) X.A (pure (Value.ref d)) _ X.xe s') ?_ (by rw [hl]; simp) ?_)))
    · exact Nat.lt_of_succ_lt hu
    · have q2 := q _ hn
      refine thn ((pps_cons hk hv (pps_nil (pos := pos))).run pins _ σ _ (fun ps H2 => match ps with
        | [(x, y)] => H2 s.heap.objs.size = some (.dT []) ∧ ∃ (k : List Key) (b : Addr), x = .ref b ∧ H2 b = some (.tup (k.map kV)) ∧ Q (.ref s.heap.objs.size) (upd H2 s.heap.objs.size (.dT [(k, y)]))
        | _ => False) I1 q2) fun ws s2 ⟨ps, H2, I2, rel, q3⟩ => ?_
      match ps, q3 with
      | [(x, y)], q3 =>
        obtain ⟨e, k, b, ex, eb, q4⟩ := q3
        cases rel with
        | @cons a c as cs r0 r1 =>
          cases r1
          obtain ⟨kv, vv⟩ := c
          obtain ⟨rx, ry⟩ := r0
          subst ex
          obtain rfl : kv = Value.ref b := rx
          obtain ⟨z, hd, xs, rel, dd⟩ := dt_of I2.hok e
          cases rel
          refine ⟨[(k, b, vv)], ⟨rfl, rfl, key_of I2.hok eb, trivial⟩, dd, fun h' tk dd' hs => wpAny_pure ?_⟩
          obtain ⟨o, es, ep, hq, h2, h3, h4, _, h5⟩ := dd'
          refine ⟨.ref _, _, d_write (ob := .dT [(k, y)]) I2 (by rw [e]; exact True.intro) hs ⟨o, hq⟩ ⟨by simp [sizeLine_eq], hd, [(k, b, vv)], ?_, o, es, ep, hq, h2, h3, h4, h5⟩, rfl, q4⟩
          refine .cons ⟨rfl, ?_, ry⟩ .nil
          rw [upd_ne (ne_of eb e (fun z => nomatch z))]
          exact eb
  walk_at "end"
abbrev Pl := Nat × Int
def ky (x : Pl) : List Key := [Sum.inl (x.1 : Int), Sum.inl x.2]
theorem ky_inj {x y : Pl} (h : ky x = ky y) : x = y := by
  obtain ⟨a, b⟩ := x
  obtain ⟨c, d⟩ := y
  unfold ky at h
  have h1 := (List.cons.inj h).1
  have h2 := (List.cons.inj (List.cons.inj h).2).1
  have h3 : (a : Int) = (c : Int) := Sum.inl.inj h1
  have h4 : b = d := Sum.inl.inj h2
  rw [h4, show a = c by omega]
section
variable {K : PySem.W.Frag} {σ : L2.St} {H : Hp} {Q : VK} {D : Ends} {tb : TS} {te ty tx : TE} {tt : TT} {vs : List Nat} {d b : Addr} {j j2 i0 : Nat} {ps : List Pl} {f : Pl → Int} {x : Pl}
/-- for x in d, d locked, its keys numbers -/
theorem r_lockK {ns : List Int} {f0 : Int → V} (hd : H d = some (.dK (dm ns f0))) (hte : ∀ od H1 (R : VK), ExW d H H1 → H1 d = some (.frz od (.dK (dm ns f0))) → R (.ref d) H1 → te σ H1 R) (Pv : Nat → L2.St → Hp → Prop) (h0 : ∀ od H1, ExW d H H1 → H1 d = some (.frz od (.dK (dm ns f0))) → Pv 0 σ H1)
    (hs : ∀ od i x σ' H' rt bk, ns[i]? = some x → Pv i σ' H' → H' d = some (.frz od (.dK (dm ns f0))) →
      tb ⟨fun σ2 H2 => Pv (i + 1) σ2 H2 ∧ H2 d = some (.frz od (.dK (dm ns f0))), rt, bk, fun σ2 H2 => Pv (i + 1) σ2 H2 ∧ H2 d = some (.frz od (.dK (dm ns f0)))⟩ (σ'.set j (some (.int x))) H')
    (hq : ∀ od σ' H', Pv ns.length σ' H' → H' d = some (.frz od (.dK (dm ns f0))) → D.nx σ' (upd H' d (.dK (dm ns f0)))) :
    tLock (tFor (iKeys te) (gName j) tb) D σ H := by
  refine Qt.drp ?_ ?_
  · refine ⟨d, _, hd, trivial, fun od => ?_⟩
    have fr : (upd H d (.frz od (.dK (dm ns f0)))) d = some (.frz od (.dK (dm ns f0))) := upd_same
    refine hte od _ _ ExW.upd fr ⟨d, od, rfl, .inl ⟨dm ns f0, fr, ?_⟩⟩
    refine ⟨fun i m σ' H' => m = ns.length - i ∧ i ≤ ns.length ∧ Pv i σ' H' ∧ H' d = some (.frz od (.dK (dm ns f0))), ⟨ns.length, by simp, Nat.zero_le _, h0 od _ ExW.upd fr, fr⟩, ?_⟩
    rintro i m σ' H' ⟨rfl, hi, p, fr'⟩
    rcases Nat.lt_or_ge i ns.length with lt | ge
    · have hx := List.getElem?_eq_getElem lt
      refine .inr ⟨⟨fr', by rw [dm_len]; exact lt⟩, fun σ2 H2 => Pv (i + 1) σ2 H2 ∧ H2 d = some (.frz od (.dK (dm ns f0))), fun σ2 H2 p => ⟨ns.length - (i + 1), by omega, rfl, lt, p.1, p.2⟩, ?_⟩
      rintro y H6 ⟨rfl, k, v, hy, rfl⟩
      unfold dm at hy
      rw [List.getElem?_map, hx] at hy
      cases hy
      exact hs od i _ σ' H6 _ _ hx p fr'
    · have e2 : i = ns.length := by omega
      subst e2
      exact .inl ⟨⟨fr', by rw [dm_len]; exact Nat.le_refl _⟩, fr', hq od σ' H' p fr'⟩
  walk_at "end"
end
end L2
namespace L2
open PySem PySem.Spec PyProof.Rows Evl
end L2
namespace Wb
open L2
def go (d : Gm) : Nat → List Int → Option Nat
  | r, [] => some r
  | r, s :: w => match d r s with
    | some g => go d g w
    | none => none
theorem go_cons {d : Gm} {r g : Nat} {s : Int} {w : List Int} (h : d r s = some g) : go d r (s :: w) = go d g w := by rw [go, h]
theorem go_stop {d : Gm} {r : Nat} {s : Int} {w : List Int} (h : d r s = none) : go d r (s :: w) = none := by rw [go, h]
theorem go_app (d : Gm) : ∀ (u v : List Int) (r : Nat), go d r (u ++ v) = (go d r u).bind fun g => go d g v
  | [], v, r => rfl
  | s :: u, v, r => by
    cases h : d r s with
    | none => rw [List.cons_append, go_stop h, go_stop h]; rfl
    | some g => rw [List.cons_append, go_cons h, go_cons h]; exact go_app d u v g
theorem go_snoc (d : Gm) (u : List Int) (s : Int) (r : Nat) : go d r (u ++ [s]) = (go d r u).bind fun g => d g s := by
  rw [go_app]
  congr 1
  funext g
  cases h : d g s with
  | none => exact go_stop h
  | some x => exact go_cons h
theorem go_lt {L n : Nat} {d : Gm} (G : Gr L n d) : ∀ {w : List Int} {r g : Nat}, r < n → go d r w = some g → g < n
  | [], r, g, hr, h => by cases h; exact hr
  | s :: w, r, g, hr, h => by
    cases e : d r s with
    | none => rw [go_stop e] at h; cases h
    | some x => rw [go_cons e] at h; exact go_lt G (G.dom _ _ _ e).2.1 h
theorem go_bk {L n : Nat} {d : Gm} (G : Gr L n d) : ∀ {w : List Int} {r g : Nat}, go d r w = some g → go d g (Fg.bk w) = some r
  | [], r, g, h => by cases h; rfl
  | s :: w, r, g, h => by
    cases e : d r s with
    | none => rw [go_stop e] at h; cases h
    | some x =>
      rw [go_cons e] at h
      rw [show s :: w = [s] ++ w from rfl, Fg.bk_app, go_app, go_bk G h]
      show go d x [-s] = some r
      rw [go_cons (G.sym _ _ _ e)]
      rfl
/-- as far as it can be gone -/
def gone (d : Gm) : Nat → List Int → Nat × Nat
  | r, [] => (r, 0)
  | r, s :: w => match d r s with
    | some g => ((gone d g w).1, (gone d g w).2 + 1)
    | none => (r, 0)
theorem gone_cons {d : Gm} {r g : Nat} {s : Int} {w : List Int} (h : d r s = some g) : gone d r (s :: w) = ((gone d g w).1, (gone d g w).2 + 1) := by rw [gone, h]
theorem gone_stop {d : Gm} {r : Nat} {s : Int} {w : List Int} (h : d r s = none) : gone d r (s :: w) = (r, 0) := by rw [gone, h]
theorem gone_of {d : Gm} : ∀ {u v : List Int} {r g : Nat}, go d r u = some g → (∀ s, v.head? = some s → d g s = none) → gone d r (u ++ v) = (g, u.length)
  | [], [], r, g, h, _ => by cases h; rfl
  | [], s :: v, r, g, h, k => by cases h; exact gone_stop (k s rfl)
  | s :: u, v, r, g, h, k => by
    cases e : d r s with
    | none => rw [go_stop e] at h; cases h
    | some x =>
      rw [go_cons e] at h
      rw [List.cons_append, gone_cons e, gone_of h k]
      rfl
theorem gone_ex (d : Gm) : ∀ (w : List Int) (r : Nat), ∃ u v, w = u ++ v ∧ go d r u = some (gone d r w).1 ∧ (gone d r w).2 = u.length ∧ ∀ s, v.head? = some s → d (gone d r w).1 s = none
  | [], r => ⟨[], [], rfl, rfl, rfl, fun s h => by cases h⟩
  | s :: w, r => by
    cases e : d r s with
    | none => rw [gone_stop e]; exact ⟨[], s :: w, rfl, rfl, rfl, fun t h => by cases h; exact e⟩
    | some x =>
      obtain ⟨u, v, h1, h2, h3, h4⟩ := gone_ex d w x
      rw [gone_cons e]
      refine ⟨s :: u, v, by rw [h1]; rfl, by rw [go_cons e]; exact h2, by rw [h3]; rfl, h4⟩
def tc (L r : Nat) (s : Int) : Nat := r * (2 * L) + (Od.steps L).idxOf s
structure Tm (L : Nat) (d : Gm) (B : Nat) (fd : Fd) : Prop where
  a : ∀ r s g, d r s = some g → tc L r s < B → ∃ x, (g, x) ∈ fd ∧ ∀ r' s', x = some (r', s') → tc L r' s' ≤ tc L r s
  b : ∀ g r s, (g, some (r, s)) ∈ fd → tc L r s < B ∧ s ∈ Od.steps L
  c : fd.Pairwise fun y z => ∀ r s r' s', y.2 = some (r, s) → z.2 = some (r', s') → tc L r s < tc L r' s'
def fstep (ws : List (List Int)) (y : Nat × Option (Nat × Int)) : List (List Int) := ws ++ [match y.2 with
  | none => []
  | some (r, s) => ws.getD r [] ++ [s]]
def fwl (fd : Fd) : List (List Int) := fd.foldl fstep []
theorem fwl_snoc (fd : Fd) (y : Nat × Option (Nat × Int)) : fwl (fd ++ [y]) = fstep (fwl fd) y := by
  unfold fwl
  rw [List.foldl_append]
  rfl
theorem fwl_len (fd : Fd) : (fwl fd).length = fd.length := by
  refine Od.snoc_ind (C := fun fd => (fwl fd).length = fd.length) rfl (fun u x ih => ?_) fd
  rw [fwl_snoc]
  unfold fstep
  rw [List.length_append, List.length_append, ih]
  rfl
theorem fwl_pre (fd m : Fd) : ∃ k, fwl (fd ++ m) = fwl fd ++ k := by
  refine Od.snoc_ind (C := fun m => ∃ k, fwl (fd ++ m) = fwl fd ++ k) ⟨[], by rw [List.append_nil, List.append_nil]⟩ (fun u x ih => ?_) m
  obtain ⟨k, e⟩ := ih
  rw [← List.append_assoc, fwl_snoc, e]
  unfold fstep
  rw [List.append_assoc]
  exact ⟨_, rfl⟩
theorem getD_app {α : Type} {a b : List α} {i : Nat} {x : α} (h : i < a.length) : (a ++ b).getD i x = a.getD i x := by
  rw [List.getD_eq_getElem?_getD, List.getD_eq_getElem?_getD, List.getElem?_append_left h]
theorem fwl_at {fd : Fd} {i g r : Nat} {s : Int} (h : fd[i]? = some (g, some (r, s))) (hr : r < i) : (fwl fd)[i]? = some ((fwl fd).getD r [] ++ [s]) := by
  have hi := (List.getElem?_eq_some_iff.mp h).1
  have e : fd = (fd.take i ++ [(g, some (r, s))]) ++ fd.drop (i + 1) := by
    rw [← L2.take_snoc h, List.take_append_drop]
  obtain ⟨k, ek⟩ := fwl_pre (fd.take i ++ [(g, some (r, s))]) (fd.drop (i + 1))
  rw [← e, fwl_snoc] at ek
  have l1 : (fwl (fd.take i)).length = i := by rw [fwl_len, List.length_take]; omega
  unfold fstep at ek
  rw [ek, List.getElem?_append_left (by rw [List.length_append, l1]; simp), List.getElem?_append_right (by rw [l1]; exact Nat.le_refl _), l1, Nat.sub_self]
  rw [getD_app (by rw [List.length_append, l1]; simp; omega), getD_app (by omega)]
  rfl
theorem fwl_zero {fd : Fd} {g : Nat} (h : fd[0]? = some (g, none)) : (fwl fd)[0]? = some [] := by
  cases fd with
  | nil => cases h
  | cons y fd =>
    cases h
    obtain ⟨k, e⟩ := fwl_pre [(g, none)] fd
    rw [show (g, none) :: fd = [(g, none)] ++ fd from rfl, e]
    rfl
def fw (L n : Nat) (d : Gm) (g : Nat) : List Int := (fwl (bfs L n d 0)).getD g []
def fws (L n : Nat) (d : Gm) : List (List Int) := fwl (bfs L n d 0)
theorem web_len {L n : Nat} {d : Gm} (W : Web L n d) : (bfs L n d 0).length = n := by
  have := congrArg List.length W.ord
  rwa [List.length_map, List.length_range] at this
theorem fws_len {L n : Nat} {d : Gm} (W : Web L n d) : (fws L n d).length = n := by unfold fws; rw [fwl_len, web_len W]
theorem fws_at {L n : Nat} {d : Gm} (W : Web L n d) {g : Nat} (hg : g < n) : (fws L n d)[g]? = some (fw L n d g) := by
  unfold fw
  rw [List.getD_eq_getElem?_getD]
  have := List.getElem?_eq_getElem (l := fws L n d) (i := g) (by rw [fws_len W]; exact hg)
  unfold fws at this ⊢
  rw [this]
  rfl
/-- what stands at a room -/
theorem web_ent {L n : Nat} {d : Gm} (W : Web L n d) {g : Nat} (hg : g < n) : ∃ x, (bfs L n d 0)[g]? = some (g, x) := by
  have h := W.ord
  have l := web_len W
  have e := List.getElem?_eq_getElem (l := bfs L n d 0) (i := g) (by omega)
  have h2 := congrArg (fun l => l[g]?) h
  simp only [List.getElem?_map] at h2
  rw [e, List.getElem?_range hg] at h2
  refine ⟨(bfs L n d 0)[g].2, ?_⟩
  rw [e]
  have := Option.some.inj h2
  show some _ = some _
  congr 1
  exact Prod.ext this rfl
theorem web_idx {L n : Nat} {d : Gm} (W : Web L n d) {i g : Nat} {x : Option (Nat × Int)} (h : (bfs L n d 0)[i]? = some (g, x)) : i = g ∧ g < n := by
  have hi := (List.getElem?_eq_some_iff.mp h).1
  have l := web_len W
  have h2 := congrArg (fun l => l[i]?) W.ord
  simp only [List.getElem?_map] at h2
  rw [h, List.getElem?_range (by omega)] at h2
  have := Option.some.inj h2
  dsimp only at this
  omega
theorem web_par {L n : Nat} {d : Gm} (W : Web L n d) {g : Nat} (h0 : 0 < g) (hg : g < n) : ∃ r s, (bfs L n d 0)[g]? = some (g, some (r, s)) ∧ d r s = some g ∧ r < g ∧ fw L n d g = fw L n d r ++ [s] := by
  obtain ⟨x, hx⟩ := web_ent W hg
  obtain ⟨q, hq, R⟩ := bfs_all (home := 0) W.gr W.pos
  rcases R.par g g x hx with ⟨k, _⟩ | ⟨r, s, j, y, k1, k2, k3, k4⟩
  · omega
  · subst k1
    have := (web_idx W k4).1
    subst this
    refine ⟨j, s, hx, k2, k3, ?_⟩
    have e := fwl_at hx k3
    unfold fw
    rw [List.getD_eq_getElem?_getD, e]
    rfl
theorem fw_zero {L n : Nat} {d : Gm} (W : Web L n d) : fw L n d 0 = [] := by
  obtain ⟨q, hq, R⟩ := bfs_all (home := 0) W.gr W.pos
  unfold fw
  rw [List.getD_eq_getElem?_getD, fwl_zero R.hd]
  rfl
theorem fw_go {L n : Nat} {d : Gm} (W : Web L n d) : ∀ (g : Nat), g < n → go d 0 (fw L n d g) = some g ∧ Od.G L none (fw L n d g) ∧ (fw L n d g).length ≤ g := by
  refine Qt.drp ?_ ?_
  · intro g
    induction g using Nat.strongRecOn with
    | _ g ih =>
      intro hg
      rcases Nat.eq_zero_or_pos g with e | h0
      · subst e
        rw [fw_zero W]
        exact ⟨rfl, trivial, Nat.le_refl _⟩
      · obtain ⟨r, s, h1, h2, h3, h4⟩ := web_par W h0 hg
        obtain ⟨i1, i2, i3⟩ := ih r h3 (by omega)
        rw [h4]
        refine ⟨by rw [go_snoc, i1]; exact h2, Od.G_snoc.mpr ⟨i2, Od.mem_bh.mpr ⟨(W.gr.dom _ _ _ h2).2.2, fun z => ?_⟩⟩, by rw [List.length_append]; simp; omega⟩
        -- the last step ahead would be the way back
        rcases Nat.eq_zero_or_pos r with e | r0
        · subst e
          rw [fw_zero W] at z
          cases z
        · obtain ⟨r2, s2, k1, k2, k3, k4⟩ := web_par W r0 (by omega)
          rw [k4, Od.lst_snoc] at z
          have z := Option.some.inj z
          subst z
          have := W.gr.sym _ _ _ k2
          rw [Int.neg_neg, h2] at this
          have := Option.some.inj this
          omega
  walk_at "end"
end Wb
namespace Wb
open L2
end Wb
namespace Wb
open L2
def sw (h x : Nat) : Nat := if x = 0 then h else if x = h then 0 else x
def NoEndH (L n h : Nat) (d : Gm) : Prop := ∀ r, r ≠ h → r < n → deg L d r ≠ 1
theorem deg_zero {L n r : Nat} {d : Gm} (G : Gr L n d) (h : deg L d r = 0) (s : Int) : d r s = none := by
  cases e : d r s with
  | none => rfl
  | some g =>
    unfold deg at h
    have := List.length_eq_zero_iff.mp h
    have i1 : s ∈ (Od.steps L).filter fun s => (d r s).isSome := List.mem_filter.mpr ⟨(G.dom _ _ _ e).2.2, by rw [e]; rfl⟩
    rw [this] at i1
    cases i1
end Wb
namespace L2
open PySem PySem.Spec PyProof.Rows Evl
/-- only new dicts change -/
def ExD (H0 H H1 : Hp) : Prop := ∀ p o, H p = some o → (H0 p ≠ none ∨ ∀ kvs, o ≠ .dK kvs) → H1 p = some o
theorem ExD.refl (H0 H : Hp) : ExD H0 H H := fun _ _ h _ => h
theorem ExD.of {H0 H H1 : Hp} (e : Ex H H1) : ExD H0 H H1 := fun p o h _ => e p o h
theorem ExD.trans {H0 H H1 H2 : Hp} (a : ExD H0 H H1) (b : ExD H0 H1 H2) : ExD H0 H H2 := fun p o h c => b p o (a p o h c) c
theorem ExD.w {H0 H H1 : Hp} {x : Addr} {kvs : List (Key × V)} (e : ExW x H H1) (hx : H x = some (.dK kvs)) (h0 : H0 x = none) : ExD H0 H H1 := fun p o h c => e p o h fun z => by
  subst z
  rw [hx] at h
  cases h
  rcases c with c | c
  · exact c h0
  · exact c kvs rfl
theorem ExD.mut {H0 H Hx H3 H4 : Hp} {b : Addr} (e : ExD H0 H H3) (w : ExW b H3 H4) (ex : ExD H0 H Hx) (hb : Hx b = none) : ExD H0 H H4 := fun p o h c => w p o (e p o h c) fun z => by
  subst z
  have := ex _ _ h c
  rw [hb] at this
  cases this
theorem ExD.lst {H0 H H1 : Hp} (e : ExD H0 H H1) {a : Addr} {xs : List V} (h : H a = some (.lst xs)) : H1 a = some (.lst xs) := e _ _ h (.inr fun _ z => nomatch z)
theorem ExD.tx {H0 H H1 : Hp} (e : ExD H0 H H1) : TX H H1 := fun a xs h => by
  rcases h with h | ⟨o, h⟩
  · rw [h, e _ _ h (.inr fun _ z => nomatch z)]
  · rw [h, e _ _ h (.inr fun _ z => nomatch z)]
end L2
namespace L2
open PySem PySem.Spec PyProof.Rows Evl
theorem valV_at {kvs : List (Key × V)} (hn : (kvs.map (·.1)).Nodup) {i : Nat} {kv : Key × V} (h : kvs[i]? = some kv) : valV kvs kv.1 = some kv.2 := by
  induction kvs generalizing i with
  | nil => cases h
  | cons p r ih =>
    rw [List.map_cons, List.nodup_cons] at hn
    cases i with
    | zero =>
      cases h
      exact valV_pos rfl
    | succ i =>
      have h : r[i]? = some kv := h
      rw [valV_neg fun z => hn.1 (z ▸ List.mem_map.mpr ⟨kv, List.mem_of_getElem? h, rfl⟩)]
      exact ih hn.2 h
/-- rooms reached, each with its first way -/
structure FwH (K : PySem.W.Frag) (H : Hp) (kvs : List (Key × V)) (fd : Wb.Fd) : Prop where
  len : kvs.length = fd.length
  at' : ∀ (i : Nat) kv y, kvs[i]? = some kv → fd[i]? = some y → kv.1 = Sum.inl (y.1 : Int) ∧ WkV K H kv.2 ((Wb.fwl fd).getD i [])
theorem FwH.mono {K : PySem.W.Frag} {H H1 : Hp} {kvs : List (Key × V)} {fd : Wb.Fd} (h : FwH K H kvs fd) (e : TX H H1) : FwH K H1 kvs fd :=
  ⟨h.len, fun i kv y h1 h2 => ⟨(h.at' i kv y h1 h2).1, (h.at' i kv y h1 h2).2.tx e⟩⟩
theorem FwH.keys {K : PySem.W.Frag} {H : Hp} {kvs : List (Key × V)} {fd : Wb.Fd} (h : FwH K H kvs fd) : kvs.map (·.1) = (fd.map (·.1)).map fun (g : Nat) => (Sum.inl (g : Int) : Key) := by
  refine List.ext_getElem? fun i => ?_
  rw [List.getElem?_map, List.getElem?_map, List.getElem?_map]
  rcases Nat.lt_or_ge i kvs.length with lt | ge
  · have a := List.getElem?_eq_getElem lt
    have b := List.getElem?_eq_getElem (l := fd) (i := i) (h.len ▸ lt)
    rw [a, b]
    exact congrArg some (h.at' i _ _ a b).1
  · rw [List.getElem?_eq_none ge, List.getElem?_eq_none (h.len ▸ ge)]
    rfl
theorem FwH.mem {K : PySem.W.Frag} {H : Hp} {kvs : List (Key × V)} {fd : Wb.Fd} (h : FwH K H kvs fd) (g : Nat) : (valV kvs (Sum.inl (g : Int))).isSome = decide (g ∈ fd.map (·.1)) := by
  have iff : (Sum.inl (g : Int) : Key) ∈ kvs.map (·.1) ↔ g ∈ fd.map (·.1) := by
    rw [h.keys]
    refine ⟨fun z => ?_, fun z => List.mem_map_of_mem z⟩
    obtain ⟨x, hx, e⟩ := List.mem_map.mp z
    have := Sum.inl.inj e
    have : x = g := by omega
    rw [← this]
    exact hx
  cases e : valV kvs (Sum.inl (g : Int)) with
  | none => exact (decide_eq_false fun z => valV_not e (iff.mpr z)).symm
  | some v => exact (decide_eq_true (iff.mp (valV_in e))).symm
theorem nodup_keys {l : List Nat} (h : l.Nodup) : (l.map fun (g : Nat) => (Sum.inl (g : Int) : Key)).Nodup := by
  refine List.Pairwise.map _ (fun a b hab z => hab ?_) h
  have := Sum.inl.inj z
  omega
theorem FwH.get {K : PySem.W.Frag} {H : Hp} {kvs : List (Key × V)} {fd : Wb.Fd} (h : FwH K H kvs fd) (hn : (fd.map (·.1)).Nodup) {i g : Nat} {x : Option (Nat × Int)} (hi : fd[i]? = some (g, x)) : ∃ v, valV kvs (Sum.inl (g : Int)) = some v ∧ WkV K H v ((Wb.fwl fd).getD i []) := by
  have lt := (List.getElem?_eq_some_iff.mp hi).1
  have a := List.getElem?_eq_getElem (l := kvs) (i := i) (h.len.symm ▸ lt)
  obtain ⟨k1, k2⟩ := h.at' i _ _ a hi
  have nd : (kvs.map (·.1)).Nodup := by rw [h.keys]; exact nodup_keys hn
  have z := valV_at nd a
  rw [k1] at z
  exact ⟨_, z, k2⟩
theorem FwH.snoc {K : PySem.W.Frag} {H : Hp} {kvs : List (Key × V)} {fd : Wb.Fd} {g r : Nat} {s : Int} {x : V} (h : FwH K H kvs fd) (hx : WkV K H x ((Wb.fwl fd).getD r [] ++ [s])) : FwH K H (kvs ++ [(Sum.inl (g : Int), x)]) (fd ++ [(g, some (r, s))]) := by
  refine Qt.drp ?_ ?_
  · refine ⟨by rw [List.length_append, List.length_append, h.len]; rfl, fun i kv y h1 h2 => ?_⟩
    rw [Wb.fwl_snoc]
    unfold Wb.fstep
    have lf := Wb.fwl_len fd
    rcases Nat.lt_or_ge i kvs.length with lt | ge
    · rw [List.getElem?_append_left lt] at h1
      have lt2 := h.len ▸ lt
      rw [List.getElem?_append_left lt2] at h2
      rw [Wb.getD_app (by omega)]
      exact h.at' i kv y h1 h2
    · rw [List.getElem?_append_right ge] at h1
      rw [List.getElem?_append_right (h.len ▸ ge)] at h2
      have e : i - kvs.length = 0 := by
        have := (List.getElem?_eq_some_iff.mp h1).1
        simp at this
        omega
      rw [e] at h1
      rw [← h.len, e] at h2
      cases h1
      cases h2
      refine ⟨rfl, ?_⟩
      have ei : i = (Wb.fwl fd).length := by have := h.len; omega
      rw [List.getD_eq_getElem?_getD, ei, List.getElem?_append_right (Nat.le_refl _), Nat.sub_self]
      exact hx
  walk_at "end"
/-- what stands at a room reached -/
theorem RchH.get {K : PySem.W.Frag} {H : Hp} {kvs : List (Key × V)} {fd : Wb.Fd} (h : RchH K H kvs fd) (hn : (fd.map (·.1)).Nodup) {i g r : Nat} {s : Int} (hi : fd[i]? = some (g, some (r, s))) : ∃ v, valV kvs (Sum.inl (g : Int)) = some v ∧ WkV K H v [(r : Int), s] := by
  have lt := (List.getElem?_eq_some_iff.mp hi).1
  have a := List.getElem?_eq_getElem (l := kvs) (i := i) (h.len.symm ▸ lt)
  obtain ⟨k1, k2⟩ := h.at' i _ _ a hi
  have nd : (kvs.map (·.1)).Nodup := by rw [h.keys]; exact nodup_keys hn
  have z := valV_at nd a
  rw [k1] at z
  exact ⟨_, z, k2⟩
end L2
namespace Wb
end Wb
namespace L2
open PySem PySem.Spec PyProof.Rows Evl
end L2
namespace L2
open PySem PySem.Spec PyProof.Rows Evl
section
variable {K : PySem.W.Frag} {H : Hp} {Q : VK} {σ : L2.St} {v : V} {d : PyData}
theorem r_isiB {b c : Bool} {n : String} (hb : PySem.W.kitOne K (.type "bool") (.type n) = some c) (q : Q (.bl c) H) : rIsi K [.bl b, .ty n] H Q := ⟨_, _, _, _, c, rfl, .ty _, .base (.bl b), hb, q⟩
end
end L2
namespace Wb
theorem go_rd {L n : Nat} {d : Gm} (G : Gr L n d) {r g : Nat} : ∀ (w : List Int), go d r w = some g → go d r (Fg.rd w) = some g := by
  refine Qt.drp ?_ ?_
  · intro w
    refine Od.snoc_ind (C := fun w => ∀ g, go d r w = some g → go d r (Fg.rd w) = some g) (fun g h => h) (fun u x ih g h => ?_) w g
    rw [go_snoc] at h
    cases e : go d r u with
    | none => rw [e] at h; cases h
    | some y =>
      rw [e] at h
      have h : d y x = some g := h
      have i1 := ih y e
      rw [Fg.rd_snoc]
      rcases List.eq_nil_or_concat (Fg.rd u) with k | ⟨v, z, k⟩
      · rw [k] at i1 ⊢
        show go d r [x] = some g
        cases i1
        rw [go_cons h]
        rfl
      · rw [List.concat_eq_append] at k
        rw [k] at i1 ⊢
        rw [List.reverse_append]
        show go d r (if z = -x then v.reverse else x :: z :: v.reverse).reverse = some g
        by_cases c : z = -x
        · rw [if_pos c, List.reverse_reverse]
          rw [go_snoc] at i1
          cases e2 : go d r v with
          | none => rw [e2] at i1; cases i1
          | some t =>
            rw [e2] at i1
            have i1 : d t z = some y := i1
            have b := G.sym _ _ _ i1
            rw [c, Int.neg_neg, h] at b
            exact b.symm
        · rw [if_neg c, List.reverse_cons, List.reverse_cons, List.reverse_reverse, go_snoc, i1]
          exact h
  walk_at "end"
end Wb
namespace L2
open PySem PySem.Spec PyProof.Rows Evl
theorem TabH.w {H H1 : Hp} {w p : Addr} {k n : Nat} {d : Wb.Gm} (h : TabH H p n d) (hw : Well H w k) (e : ExW w H H1) : TabH H1 p n d := by
  obtain ⟨a, b, c, h1, _⟩ := hw.ex
  obtain ⟨ds, q1, q2, q3⟩ := h.ex
  refine ⟨ds, q1, e _ _ q2 fun z => ?_, fun i x hx => ?_⟩
  · rw [z, h1] at q2
    have q2 := HO.lst.inj (Option.some.inj q2)
    cases ds with
    | nil => cases q2
    | cons y l => cases q2
  · obtain ⟨kvs, z1, z2⟩ := q3 i x hx
    exact ⟨kvs, e _ _ z1 (fun z => by rw [z, h1] at z1; cases z1), z2⟩
end L2
namespace Wb
open L2
end Wb
namespace Fg
theorem rep_comm (u : Wk) : ∀ k, rep k u ++ u = u ++ rep k u
  | 0 => (List.append_nil u).symm
  | k + 1 => (congrArg (· ++ u) (rep_comm u k)).trans (List.append_assoc _ _ _)
theorem rep_add (u : Wk) (i : Nat) : ∀ j, rep (i + j) u = rep i u ++ rep j u
  | 0 => (List.append_nil _).symm
  | j + 1 => by
    show rep (i + j) u ++ u = rep i u ++ (rep j u ++ u)
    rw [rep_add u i j, List.append_assoc]
theorem rep_mul (u : Wk) (j : Nat) : ∀ i, rep i (rep j u) = rep (j * i) u
  | 0 => rfl
  | i + 1 => by
    show rep i (rep j u) ++ rep j u = rep (j * i + j) u
    rw [rep_mul u j i, rep_add]
theorem rep_take (u : Wk) {k : Nat} (h : 0 < k) : (rep k u).take u.length = u := by
  obtain ⟨j, rfl⟩ : ∃ j, k = j + 1 := ⟨k - 1, by omega⟩
  show (rep j u ++ u).take _ = _
  rw [rep_comm, List.take_left']
  rfl
theorem comm_words : ∀ (n : Nat) (x y : Wk), x.length + y.length ≤ n → x ++ y = y ++ x → ∃ e i j, x = rep i e ∧ y = rep j e := by
  refine Qt.drp ?_ ?_
  · intro n
    induction n with
    | zero =>
      intro x y h _
      exact ⟨[], 0, 0, List.length_eq_zero_iff.mp (by omega), List.length_eq_zero_iff.mp (by omega)⟩
    | succ n ih =>
      intro x y hl h
      by_cases hx : x = []
      · exact ⟨y, 0, 1, hx, (rep_one y).symm⟩
      by_cases hy : y = []
      · exact ⟨x, 1, 0, (rep_one x).symm, hy⟩
      have px := List.length_pos_iff.mpr hx
      have py := List.length_pos_iff.mpr hy
      rcases Nat.le_total x.length y.length with le | le
      · have e : x = y.take x.length := by
          have := congrArg (List.take x.length) h
          rwa [List.take_left' rfl, List.take_append_of_le_length le] at this
        obtain ⟨y2, hy2⟩ : ∃ y2, y = x ++ y2 := ⟨y.drop x.length, by conv => lhs; rw [← List.take_append_drop x.length y, ← e]⟩
        subst hy2
        rw [List.append_assoc, List.append_cancel_left_eq] at h
        obtain ⟨z, i, j, h1, h2⟩ := ih x y2 (by rw [List.length_append] at hl; omega) h
        exact ⟨z, i, i + j, h1, by rw [rep_add, ← h1, ← h2]⟩
      · have e : y = x.take y.length := by
          have := congrArg (List.take y.length) h
          rw [List.take_append_of_le_length le, List.take_left' rfl] at this
          exact this.symm
        obtain ⟨x2, hx2⟩ : ∃ x2, x = y ++ x2 := ⟨x.drop y.length, by conv => lhs; rw [← List.take_append_drop y.length x, ← e]⟩
        subst hx2
        have h := h.symm
        rw [List.append_assoc, List.append_cancel_left_eq] at h
        obtain ⟨z, i, j, h1, h2⟩ := ih x2 y (by rw [List.length_append] at hl; omega) h.symm
        exact ⟨z, j + i, j, by rw [rep_add, ← h1, ← h2], h2⟩
  walk_at "end"
theorem comm_rep {y m : Wk} (h : y ++ m = m ++ y) : ∀ N, y ++ rep N m = rep N m ++ y
  | 0 => List.append_nil y
  | N + 1 => by
    show y ++ (rep N m ++ m) = rep N m ++ m ++ y
    rw [← List.append_assoc, comm_rep h N, List.append_assoc, h, List.append_assoc]
theorem pre_of_comm {y m : Wk} (h : y ++ m = m ++ y) {N : Nat} (hN : y.length ≤ N * m.length) : y = (rep N m).take y.length := by
  have := congrArg (List.take y.length) (comm_rep h N)
  rwa [List.take_left' rfl, List.take_append_of_le_length (by rw [rep_len]; exact hN)] at this
theorem om_ne {m : Wk} {l : Nat} (h : Om m l) : m ≠ [] := fun z => by
  have := h.pos
  have := h.le
  rw [z] at this
  simp at this
  omega
theorem om_len {m : Wk} {l : Nat} (h : Om m l) : (m.take l).length = l := by rw [List.length_take]; exact Nat.min_eq_left h.le
theorem om_rep {m : Wk} {l : Nat} (h : Om m l) : ∃ t, 0 < t ∧ m = rep t (m.take l) := by
  have := h.le
  have := h.pos
  exact ⟨m.length / l, Nat.div_pos (by omega) (by omega), h.per.symm⟩
theorem comm_root {z m : Wk} {l : Nat} (hO : Om m l) (h : z ++ m = m ++ z) : ∃ s, z = rep s (m.take l) := by
  refine Qt.drp ?_ ?_
  · obtain ⟨t, t0, ht⟩ := om_rep hO
    obtain ⟨c, hc⟩ : ∃ c, m.take l = c := ⟨_, rfl⟩
    have lc : c.length = l := hc ▸ om_len hO
    rw [hc] at ht ⊢
    have l1 := hO.pos
    have cm : c ++ m = m ++ c := by rw [ht, rep_comm]
    have pm := List.length_pos_iff.mpr (om_ne hO)
    have h1 : (c ++ z) ++ m = m ++ (c ++ z) := by rw [List.append_assoc, h, ← List.append_assoc, cm, List.append_assoc]
    have h2 : (z ++ c) ++ m = m ++ (z ++ c) := by rw [List.append_assoc, cm, ← List.append_assoc, h, List.append_assoc]
    have e1 := pre_of_comm h1 (N := (c ++ z).length) (Nat.le_mul_of_pos_right _ pm)
    have e2 := pre_of_comm h2 (N := (c ++ z).length) (by rw [show (z ++ c).length = (c ++ z).length by simp; omega]; exact Nat.le_mul_of_pos_right _ pm)
    rw [show (z ++ c).length = (c ++ z).length by simp; omega] at e2
    obtain ⟨e, i, j, q1, q2⟩ := comm_words _ c z (Nat.le_refl _) (e1.trans e2.symm)
    have li : i * e.length = l := by rw [← rep_len, ← q1, lc]
    have i0 : 0 < i := Nat.pos_of_ne_zero fun z => by rw [z] at li; omega
    have pe : 0 < e.length := Nat.pos_of_ne_zero fun z => by rw [z] at li; omega
    have me : m = rep (i * t) e := by rw [ht, q1, rep_mul]
    have le : l ≤ e.length := by
      refine Nat.le_of_not_lt fun lt => hO.least _ pe lt ?_
      unfold Per
      rw [me, rep_len, Nat.mul_div_cancel _ pe, rep_take _ (Nat.mul_pos i0 t0)]
    have i1 : i = 1 := by
      refine Nat.le_antisymm (Nat.le_of_not_lt fun z => ?_) i0
      have : 2 * e.length ≤ i * e.length := Nat.mul_le_mul_right _ z
      omega
    rw [i1, rep_one] at q1
    exact ⟨j, by rw [q1]; exact q2⟩
  walk_at "end"
structure Cyc (m : Wk) : Prop where
  str : Str m
  ends : ∀ x y, m.getLast? = some x → m.head? = some y → y ≠ -x
theorem head_bk (z : Wk) : (bk z).head? = z.getLast?.map fun x => -x := by
  unfold bk
  rw [List.head?_reverse, List.getLast?_map]
theorem last_bk (z : Wk) : (bk z).getLast? = z.head?.map fun x => -x := by
  unfold bk
  rw [List.getLast?_reverse, List.head?_map]
theorem str_len {u : Wk} (h : (rd u).length = u.length) : Str u := fun i x hx e => by
  have r := rd_out hx e (by omega)
  have := rd_len (u.take i ++ u.drop (i + 2))
  rw [r, h, List.length_append, List.length_take, List.length_drop] at this
  have := (List.getElem?_eq_some_iff.mp e).1
  omega
theorem str_not {u v : Wk} (hu : Str u) (hv : Str v) (h : ¬ Str (u ++ v)) : ∃ x y, u.getLast? = some x ∧ v.head? = some y ∧ y = -x := by
  refine Classical.byContradiction fun z => h (str_app hu hv fun x y hx hy e => z ⟨x, y, hx, hy, e⟩)
theorem str_l {u v : Wk} (h : Str (u ++ v)) : Str u := by
  have := str_take u.length h
  rwa [List.take_left' rfl] at this
theorem str_r {u v : Wk} (h : Str (u ++ v)) : Str v := by
  have := str_drop u.length h
  rwa [List.drop_left' rfl] at this
/-- where two words meet -/
theorem str_meet {u v : Wk} (h : Str (u ++ v)) : ∀ x y, u.getLast? = some x → v.head? = some y → y ≠ -x := fun x y hx hy e => by
  have pu : 0 < u.length := by
    cases u with
    | nil => cases hx
    | cons => exact Nat.succ_pos _
  rw [List.getLast?_eq_getElem?] at hx
  rw [List.head?_eq_getElem?] at hy
  refine h (u.length - 1) x (by rw [List.getElem?_append_left (by omega)]; exact hx) ?_
  rw [show u.length - 1 + 1 = u.length by omega, List.getElem?_append_right (Nat.le_refl _), Nat.sub_self, hy, e]
theorem comm_cyc {z m : Wk} (hz : Str z) (cm : Cyc m) (hm : m ≠ []) (h : rd (z ++ m) = rd (m ++ z)) : z ++ m = m ++ z ∨ bk z ++ m = m ++ bk z := by
  refine Qt.drp ?_ ?_
  · have two : ∀ {p q : Wk}, Str (p ++ q) → rd (p ++ q) = rd (q ++ p) → p ++ q = q ++ p := fun {p q} s e => by
      have s2 : Str (q ++ p) := str_len (by rw [← e, rd_str s, List.length_append, List.length_append, Nat.add_comm])
      rw [rd_str s, rd_str s2] at e
      exact e
    by_cases s1 : Str (z ++ m)
    · exact .inl (two s1 h)
    · obtain ⟨x, y, h1, h2, h3⟩ := str_not hz cm.str s1
      have s2 : ¬ Str (m ++ z) := fun s => s1 (by rw [← two s h.symm]; exact s)
      obtain ⟨x', y', k1, k2, k3⟩ := str_not cm.str hz s2
      refine .inr (two (str_app (str_bk hz) cm.str fun p q hp hq => ?_) ?_)
      · rw [last_bk, k2] at hp
        cases hp
        have := cm.ends x' q k1 hq
        show q ≠ -(-y')
        omega
      · have e := eqv_of_rd h
        refine rd_eq ?_
        have a := ((Eqv.refl (bk z ++ m)).app (eqv_bk z)).symm
        rw [List.append_nil] at a
        refine a.trans ?_
        have b := ((Eqv.refl (bk z)).app e.symm).app (Eqv.refl (bk z))
        rw [show bk z ++ m ++ (z ++ bk z) = bk z ++ (m ++ z) ++ bk z by simp]
        refine b.trans ?_
        have c := ((eqv_kb z).app (Eqv.refl (m ++ bk z)))
        rw [List.nil_append] at c
        rw [show bk z ++ (z ++ m) ++ bk z = bk z ++ z ++ (m ++ bk z) by simp]
        exact c
  walk_at "end"
/-- a walk's parts -/
theorem core_parts {u : Wk} (h : Str u) (hn : u ≠ []) (nz : ∀ x ∈ u, x ≠ 0) : u = lead u ++ mid u ++ bk (lead u) ∧ mid u ≠ [] ∧ Cyc (mid u) := by
  refine Qt.drp ?_ ?_
  · have l1 := ld_le u
    have l2 := ld_str h hn
    have pu := List.length_pos_iff.mpr hn
    have tb := (take_bk_ld (u := u) (s := ld u) l1).mpr (Nat.le_refl _)
    have e : u = lead u ++ mid u ++ bk (lead u) := by
      have b : bk (lead u) = u.drop (u.length - ld u) := by
        unfold lead
        rw [tb, bk_bk]
      rw [b]
      unfold lead mid
      rw [List.append_assoc]
      conv => lhs; rw [← List.take_append_drop (ld u) u, ← List.take_append_drop (u.length - ld u - ld u) (u.drop (ld u)), List.drop_drop]
      congr 3
      omega
    have zm : (mid u).length = u.length - ld u - ld u := by
      unfold mid
      rw [List.length_take, List.length_drop]
      omega
    refine ⟨e, fun z => by rw [z] at zm; simp at zm; omega, ⟨str_take _ (str_drop _ h), fun x y hx hy => ?_⟩⟩
    have hx' : u[u.length - 1 - ld u]? = some x := by
      rw [List.getLast?_eq_getElem?, zm] at hx
      unfold mid at hx
      rw [List.getElem?_take_of_lt (by omega), List.getElem?_drop] at hx
      rw [← hx]
      congr 1
      omega
    have hy' : u[ld u]? = some y := by
      rw [List.head?_eq_getElem?] at hy
      unfold mid at hy
      rw [List.getElem?_take_of_lt (by omega), List.getElem?_drop] at hy
      exact hy
    intro e
    by_cases lt : ld u < u.length / 2
    · have := ld_end lt
      rw [mt_of hy' hx', decide_eq_true e] at this
      cases this
    · have : u.length - 1 - ld u = ld u := by omega
      rw [this, hy'] at hx'
      cases hx'
      exact nz x (List.mem_of_getElem? hy') (by omega)
  walk_at "end"
def rotn (m : Wk) (k : Nat) : Wk := m.drop k ++ m.take k
end Fg
namespace Wb
/-- (room, letter less 1, room) -/
abbrev W3 := Nat × Nat × Nat
def wayL (L : Nat) (d : Gm) (a : Nat) : List W3 := (List.range L).filterMap fun (l : Nat) => (d a ((l : Int) + 1)).map fun b => (a, l, b)
def ways3 (L n : Nat) (d : Gm) : List W3 := (List.range n).flatMap (wayL L d)
theorem mem_wayL {L n : Nat} {d : Gm} (G : Gr L n d) {a : Nat} {x : W3} : x ∈ wayL L d a ↔ x.1 = a ∧ d x.1 ((x.2.1 : Int) + 1) = some x.2.2 := by
  unfold wayL
  rw [List.mem_filterMap]
  constructor
  · rintro ⟨l, hl, h⟩
    obtain ⟨b, h1, rfl⟩ := Option.map_eq_some_iff.mp h
    exact ⟨rfl, h1⟩
  · rintro ⟨h1, h2⟩
    obtain ⟨a', l, b⟩ := x
    subst h1
    have m : ((l : Int) + 1) ≠ 0 ∧ -(L : Int) ≤ (l : Int) + 1 ∧ (l : Int) + 1 ≤ L := Od.mem_steps.mp (G.dom _ _ _ h2).2.2
    have hl : l < L := by omega
    exact ⟨l, List.mem_range.mpr hl, by rw [show d a' ((l : Int) + 1) = some b from h2]; rfl⟩
theorem mem_ways {L n : Nat} {d : Gm} (G : Gr L n d) {x : W3} : x ∈ ways3 L n d ↔ d x.1 ((x.2.1 : Int) + 1) = some x.2.2 := by
  unfold ways3
  rw [List.mem_flatMap]
  constructor
  · rintro ⟨a, _, h⟩
    exact ((mem_wayL G).mp h).2
  · intro h
    exact ⟨x.1, List.mem_range.mpr (G.dom _ _ _ h).1, (mem_wayL G).mpr ⟨rfl, h⟩⟩
theorem ways_bd {L n : Nat} {d : Gm} (G : Gr L n d) {x : W3} (h : x ∈ ways3 L n d) : x.1 < n ∧ x.2.1 < L ∧ x.2.2 < n := by
  have := G.dom _ _ _ ((mem_ways G).mp h)
  have m := Od.mem_steps.mp this.2.2
  omega
def key (x : W3) : Nat := (x.1 * 4096 + (x.2.1 + 1)) * 4096 + x.2.2
def isT (L n : Nat) (d : Gm) (x : W3) : Bool := decide (fw L n d x.2.2 = fw L n d x.1 ++ [(x.2.1 : Int) + 1]) || decide (fw L n d x.1 = fw L n d x.2.2 ++ [-((x.2.1 : Int) + 1)])
def treeT (L n : Nat) (d : Gm) : List W3 := (ways3 L n d).filter (isT L n d)
def restT (L n : Nat) (d : Gm) : List W3 := (ways3 L n d).filter fun x => !isT L n d x
def tw (L n : Nat) (d : Gm) (g : Nat) : W3 := match (bfs L n d 0)[g]? with
  | some (_, some (r, s)) => if 0 < s then (r, (s - 1).toNat, g) else (g, (-s - 1).toNat, r)
  | _ => (0, 0, 0)
theorem tw_eq {L n : Nat} {d : Gm} {g r : Nat} {s : Int} (h : (bfs L n d 0)[g]? = some (g, some (r, s))) : tw L n d g = if 0 < s then (r, (s - 1).toNat, g) else (g, (-s - 1).toNat, r) := by
  unfold tw
  rw [h]
theorem fw_inj {L n : Nat} {d : Gm} (W : Web L n d) {a b : Nat} (ha : a < n) (hb : b < n) (h : fw L n d a = fw L n d b) : a = b := by
  have h1 := (fw_go W a ha).1
  rw [h, (fw_go W b hb).1] at h1
  exact (Option.some.inj h1).symm
theorem tw_mem {L n : Nat} {d : Gm} (W : Web L n d) {g : Nat} (h0 : 0 < g) (hg : g < n) : tw L n d g ∈ treeT L n d := by
  obtain ⟨r, s, h1, h2, h3, h4⟩ := web_par W h0 hg
  have m := Od.mem_steps.mp (W.gr.dom _ _ _ h2).2.2
  rw [tw_eq h1]
  unfold treeT
  rw [List.mem_filter, mem_ways W.gr]
  by_cases c : 0 < s
  · rw [if_pos c]
    have e : (((s - 1).toNat : Nat) : Int) + 1 = s := by omega
    refine ⟨by show d r _ = some g; rw [e]; exact h2, ?_⟩
    unfold isT
    simp only
    rw [e, decide_eq_true h4]
    rfl
  · rw [if_neg c]
    have e : (((-s - 1).toNat : Nat) : Int) + 1 = -s := by omega
    refine ⟨by show d g _ = some r; rw [e]; exact W.gr.sym _ _ _ h2, ?_⟩
    unfold isT
    simp only
    rw [e, Int.neg_neg, decide_eq_true h4, Bool.or_true]
theorem tw_inj {L n : Nat} {d : Gm} (W : Web L n d) {g k : Nat} (h0 : 0 < g) (hg : g < n) (k0 : 0 < k) (hk : k < n) (h : tw L n d g = tw L n d k) : g = k := by
  obtain ⟨r, s, h1, h2, h3, h4⟩ := web_par W h0 hg
  obtain ⟨r2, s2, k1, k2, k3, k4⟩ := web_par W k0 hk
  rw [tw_eq h1, tw_eq k1] at h
  by_cases c : 0 < s <;> by_cases c2 : 0 < s2
  · rw [if_pos c, if_pos c2] at h
    exact (Prod.mk.inj (Prod.mk.inj h).2).2
  · rw [if_pos c, if_neg c2] at h
    have e1 := (Prod.mk.inj h).1
    have e2 := (Prod.mk.inj (Prod.mk.inj h).2).2
    omega
  · rw [if_neg c, if_pos c2] at h
    have e1 := (Prod.mk.inj h).1
    have e2 := (Prod.mk.inj (Prod.mk.inj h).2).2
    omega
  · rw [if_neg c, if_neg c2] at h
    exact (Prod.mk.inj h).1
theorem tw_all {L n : Nat} {d : Gm} (W : Web L n d) {x : W3} (hx : x ∈ treeT L n d) : ∃ g, 0 < g ∧ g < n ∧ tw L n d g = x := by
  refine Qt.drp ?_ ?_
  · unfold treeT at hx
    rw [List.mem_filter] at hx
    obtain ⟨hw, ht⟩ := hx
    have bd := ways_bd W.gr hw
    obtain ⟨a, l, b⟩ := x
    unfold isT at ht
    simp only at ht bd
    rw [Bool.or_eq_true, decide_eq_true_iff, decide_eq_true_iff] at ht
    have last : ∀ {u v : List Int} {s t : Int}, u ++ [s] = v ++ [t] → u = v ∧ s = t := fun h => by
      obtain ⟨h1, h2⟩ := List.append_inj' h rfl
      exact ⟨h1, (List.cons.inj h2).1⟩
    rcases ht with h | h
    · have b0 : 0 < b := by
        rcases Nat.eq_zero_or_pos b with z | z
        · rw [z, fw_zero W] at h
          have := congrArg List.length h
          rw [List.length_append] at this
          simp at this
        · exact z
      obtain ⟨r, s, h1, h2, h3, h4⟩ := web_par W b0 bd.2.2
      rw [h4] at h
      obtain ⟨e1, e2⟩ := last h
      have e3 := fw_inj W (by omega) bd.1 e1
      refine ⟨b, b0, bd.2.2, ?_⟩
      rw [tw_eq h1, if_pos (by omega), e3, e2, show ((l : Int) + 1 - 1).toNat = l by omega]
    · have a0 : 0 < a := by
        rcases Nat.eq_zero_or_pos a with z | z
        · rw [z, fw_zero W] at h
          have := congrArg List.length h
          rw [List.length_append] at this
          simp at this
        · exact z
      obtain ⟨r, s, h1, h2, h3, h4⟩ := web_par W a0 bd.1
      rw [h4] at h
      obtain ⟨e1, e2⟩ := last h
      have e3 := fw_inj W (by omega) bd.2.2 e1
      refine ⟨a, a0, bd.1, ?_⟩
      rw [tw_eq h1, if_neg (by omega), e3, e2, show (-(-((l : Int) + 1)) - 1).toNat = l by omega]
  walk_at "end"
/-- the tree, as the rooms tell it -/
def treeU (L n : Nat) (d : Gm) : List W3 := (List.range (n - 1)).map fun i => tw L n d (1 + i)
theorem treeU_nodup {L n : Nat} {d : Gm} (W : Web L n d) : (treeU L n d).Nodup := by
  unfold treeU
  rw [List.Nodup, List.pairwise_map]
  have nd : (List.range (n - 1)).Nodup := List.nodup_range
  refine (List.Pairwise.and_mem.mp nd).imp fun {i j} ⟨hi, hj, ne⟩ e => ?_
  have hi := List.mem_range.mp hi
  have hj := List.mem_range.mp hj
  have := tw_inj W (by omega) (by omega) (by omega) (by omega) e
  omega
theorem mem_treeU {L n : Nat} {d : Gm} (W : Web L n d) {x : W3} : x ∈ treeU L n d ↔ x ∈ treeT L n d := by
  unfold treeU
  rw [List.mem_map]
  constructor
  · rintro ⟨i, hi, rfl⟩
    have := List.mem_range.mp hi
    exact tw_mem W (by omega) (by omega)
  · intro h
    obtain ⟨g, h1, h2, h3⟩ := tw_all W h
    exact ⟨g - 1, List.mem_range.mpr (by omega), by rw [show 1 + (g - 1) = g by omega]; exact h3⟩
theorem treeT_len {L n : Nat} {d : Gm} (W : Web L n d) : (treeT L n d).length = n - 1 := by
  refine Qt.drp ?_ ?_
  · have l4 := W.l4
    have h : (treeU L n d).length = n - 1 := by unfold treeU; rw [List.length_map, List.length_range]
    rw [← h]
    have nd2 : (treeT L n d).Nodup := by
      unfold treeT
      refine List.Pairwise.filter _ ?_
      unfold ways3
      rw [List.pairwise_flatMap]
      refine ⟨fun a ha => ?_, ?_⟩
      · unfold wayL
        rw [List.pairwise_filterMap]
        refine List.Pairwise.imp ?_ (List.pairwise_lt_range (n := L))
        intro l l2 lt x hx y hy e
        obtain ⟨b, h1, rfl⟩ := Option.map_eq_some_iff.mp hx
        obtain ⟨b2, h2, rfl⟩ := Option.map_eq_some_iff.mp hy
        have := (Prod.mk.inj (Prod.mk.inj e).2).1
        omega
      · refine List.Pairwise.imp ?_ (List.pairwise_lt_range (n := n))
        intro a a2 lt x hx y hy e
        obtain ⟨e1, h1⟩ := (mem_wayL W.gr).mp hx
        obtain ⟨e2, h2⟩ := (mem_wayL W.gr).mp hy
        rw [e] at e1
        omega
    have p1 := (treeU_nodup W)
    exact Nat.le_antisymm (List.Nodup.length_le_of_subset nd2 fun z hz => (mem_treeU W).mpr hz) (List.Nodup.length_le_of_subset p1 fun z hz => (mem_treeU W).mp hz)
  walk_at "end"
def word (L n : Nat) (d : Gm) (x : W3) : List Int := fw L n d x.1 ++ [(x.2.1 : Int) + 1] ++ Fg.bk (fw L n d x.2.2)
theorem last_par {L n : Nat} {d : Gm} (W : Web L n d) {a : Nat} {s : Int} (ha : a < n) (h : (fw L n d a).getLast? = some s) : ∃ r, r < n ∧ d r s = some a ∧ fw L n d a = fw L n d r ++ [s] := by
  have a0 : 0 < a := by
    rcases Nat.eq_zero_or_pos a with z | z
    · rw [z, fw_zero W] at h
      cases h
    · exact z
  obtain ⟨r, t, h1, h2, h3, h4⟩ := web_par W a0 ha
  rw [h4, List.getLast?_append] at h
  have e : t = s := by simpa using h
  subst e
  exact ⟨r, by omega, h2, h4⟩
theorem word_str {L n : Nat} {d : Gm} (W : Web L n d) {x : W3} (hx : x ∈ restT L n d) : Fg.Str (word L n d x) := by
  refine Qt.drp ?_ ?_
  · unfold restT at hx
    rw [List.mem_filter] at hx
    obtain ⟨hw, ht⟩ := hx
    have bd := ways_bd W.gr hw
    have hd := (mem_ways W.gr).mp hw
    unfold isT at ht
    rw [Bool.not_eq_true', Bool.or_eq_false_iff, decide_eq_false_iff_not, decide_eq_false_iff_not] at ht
    obtain ⟨t1, t2⟩ := ht
    unfold word
    obtain ⟨a, l, b⟩ := x
    simp only at bd hd t1 t2 ⊢
    have sa := (Od.of_G (fw_go W a bd.1).2.1).2
    have sb := (Od.of_G (fw_go W b bd.2.2).2.1).2
    refine Fg.str_app (Fg.str_snoc sa fun z => ?_) (Fg.str_bk sb) fun x y hx hy => ?_
    · obtain ⟨r, h1, h2, h3⟩ := last_par W bd.1 z
      have e := W.gr.sym _ _ _ h2
      rw [Int.neg_neg, hd] at e
      cases e
      exact t2 h3
    · rw [List.getLast?_append] at hx
      have ex : x = (l : Int) + 1 := by simpa using hx.symm
      intro ey
      have hl : (fw L n d b).getLast? = some ((l : Int) + 1) := by
        unfold Fg.bk at hy
        rw [List.head?_reverse, List.getLast?_map] at hy
        obtain ⟨z, h1, h2⟩ := Option.map_eq_some_iff.mp hy
        rw [h1]
        congr 1
        omega
      obtain ⟨r, h1, h2, h3⟩ := last_par W bd.2.2 hl
      have e := W.gr.sym _ _ _ h2
      have e2 := W.gr.sym _ _ _ hd
      rw [e] at e2
      cases e2
      exact t1 h3
  walk_at "end"
end Wb
namespace L2
open PySem PySem.Spec PyProof.Rows Evl
structure TpA (H : Hp) (xs : List V) (ws : List (List Int)) : Prop where
  len : xs.length = ws.length
  at' : ∀ (i : Nat) x w, xs[i]? = some x → ws[i]? = some w → ∃ a, x = .ref a ∧ H a = some (.tup (w.map V.int))
theorem TpA.nil {H : Hp} : TpA H [] [] := ⟨rfl, fun i x w h => by simp at h⟩
theorem TpA.tx {H H1 : Hp} {xs : List V} {ws : List (List Int)} (h : TpA H xs ws) (e : TX H H1) : TpA H1 xs ws := ⟨h.len, fun i x w h1 h2 => by
  obtain ⟨a, q1, q2⟩ := h.at' i x w h1 h2
  exact ⟨a, q1, (e a _ (.inl q2)).trans q2⟩⟩
theorem TpA.ex {H H1 : Hp} {xs : List V} {ws : List (List Int)} (h : TpA H xs ws) (e : Ex H H1) : TpA H1 xs ws := h.tx (.of e)
theorem TpA.snoc {H : Hp} {xs : List V} {ws : List (List Int)} {a : Addr} {w : List Int} (h : TpA H xs ws) (hx : H a = some (.tup (w.map V.int))) : TpA H (xs ++ [.ref a]) (ws ++ [w]) := by
  refine ⟨by rw [List.length_append, List.length_append, h.len]; rfl, fun i y u h1 h2 => ?_⟩
  rcases Nat.lt_or_ge i xs.length with lt | ge
  · rw [List.getElem?_append_left lt] at h1
    rw [List.getElem?_append_left (h.len ▸ lt)] at h2
    exact h.at' i y u h1 h2
  · rw [List.getElem?_append_right ge] at h1
    rw [List.getElem?_append_right (h.len ▸ ge), ← h.len] at h2
    cases z : i - xs.length with
    | zero =>
      rw [z] at h1 h2
      cases h1
      cases h2
      exact ⟨a, rfl, hx⟩
    | succ k => rw [z] at h1; simp at h1
theorem TpA.app {H : Hp} {xs ys : List V} {ws us : List (List Int)} (h : TpA H xs ws) (k : TpA H ys us) : TpA H (xs ++ ys) (ws ++ us) := by
  refine ⟨by rw [List.length_append, List.length_append, h.len, k.len], fun i y w h1 h2 => ?_⟩
  rcases Nat.lt_or_ge i xs.length with lt | ge
  · rw [List.getElem?_append_left lt] at h1
    rw [List.getElem?_append_left (h.len ▸ lt)] at h2
    exact h.at' i y w h1 h2
  · rw [List.getElem?_append_right ge] at h1
    rw [List.getElem?_append_right (h.len ▸ ge), ← h.len] at h2
    exact k.at' _ y w h1 h2
theorem TpA.get {H : Hp} {xs : List V} {ws : List (List Int)} (h : TpA H xs ws) {i : Nat} {x : V} (hx : xs[i]? = some x) : ∃ w a, ws[i]? = some w ∧ x = .ref a ∧ H a = some (.tup (w.map V.int)) := by
  have hi := (List.getElem?_eq_some_iff.mp hx).1
  rw [h.len] at hi
  obtain ⟨a, q⟩ := h.at' i x _ hx (List.getElem?_eq_getElem hi)
  exact ⟨_, a, List.getElem?_eq_getElem hi, q⟩
theorem TpA.tail {H : Hp} {x : V} {xs : List V} {w : List Int} {ws : List (List Int)} (h : TpA H (x :: xs) (w :: ws)) : (∃ a, x = .ref a ∧ H a = some (.tup (w.map V.int))) ∧ TpA H xs ws :=
  ⟨h.at' 0 x w rfl rfl, by simpa using h.len, fun i y u h1 h2 => h.at' (i + 1) y u h1 h2⟩
theorem TpA.cons {H : Hp} {x : V} {xs : List V} {w : List Int} {ws : List (List Int)} (hx : ∃ a, x = .ref a ∧ H a = some (.tup (w.map V.int))) (h : TpA H xs ws) : TpA H (x :: xs) (w :: ws) := by
  refine ⟨by rw [List.length_cons, List.length_cons, h.len], fun i y u h1 h2 => ?_⟩
  cases i with
  | zero => cases h1; cases h2; exact hx
  | succ i => exact h.at' i y u h1 h2
section
variable {K : PySem.W.Frag} {σ : L2.St} {H : Hp} {Q : VK} {a : Addr} {xs : List V} {vs : List Nat} {j m n o : Nat} {wi : TI} {g : TG} {tt : TT} {tk tv te : TE} {ws : List (List Int)}
def tkey (w : List Int) : List Key := w.map Sum.inl
theorem tkey_inj {u w : List Int} (h : tkey u = tkey w) : u = w := (List.map_inj_right fun _ _ z => Sum.inl.inj z).mp h
theorem tkey_V (w : List Int) : (tkey w).map kV = w.map V.int := by unfold tkey; rw [List.map_map]; rfl
end
end L2
namespace L2
open PySem PySem.Spec PyProof.Rows Evl
section
variable {prog : Program} {w : World} {A : Around} {E Q : Value → Shared → Prop} {s : Shared} {it d : Addr} {i n ep : Nat} {od : Obj} {es : Array DictEntry} {en : DictEntry}
/-- the next key, asked by another iterator -/
theorem keyOf_item (I : s.heap.IsKeyIter it d i n ep) (ho : s.heap.get? d = some od) (hd : od.data = .dict es ep) (hn : es.size = n) (hx : es[i]? = some en)
    (q : ∀ h', h'.IsKeyIter it d (i + 1) n ep → Heap.SameBut it s.heap h' → Q en.key { s with heap := h' }) : wpAny (model prog w) A (Builtin.SmallTypes.nextOf (.ref it)) Q E s := by
  refine Qt.drp ?_ ?_
  · obtain ⟨o, o1, o2, o3⟩ := id I
    have T := I.typeIs
    have own : Builtin.Dict_items.ownsTuple "dict_keyiterator" = false := by decide
    have at' := Array.getElem?_eq_some_iff.mp hx
    have J : (s.heap.update it (Obj.mapFields (·.setIfInBounds 1 (rawInt ((i : Int) + 1))))).IsKeyIter it d (i + 1) n ep := by
      refine ⟨_, Heap.get?_update_self _ o1 (Obj.isFreed_of_fields (Obj.data_mapFields o3 _)), ?_, ?_⟩
      · rw [Obj.cls_mapFields]; exact o2
      · rw [Obj.data_mapFields o3]; simp [rawInt]
    have bs : ∀ {R : Nat → Shared → Prop} {s0 : Shared}, s0.TypeIs (.ref it) "dict_keyiterator" → R 0 s0 →
        wpAny (model prog w) A.in1 (typeNameOfWhole (.ref it) >>= fun nm => pure (if Builtin.Dict_items.ownsTuple nm then 2 else 0)) R E s0 := fun t r => by
      refine wpAny_bind (wpAny_typeNameOfWhole_keyiter t (wpAny_pure ?_))
      rw [own]
      exact r
    unfold Builtin.SmallTypes.nextOf
    refine wpAny_bind (wpAny_callSpecial?_slot (name := Str.ofString "__next__") T F.slot_dict_keyiterator_next ?_)
    refine wpAny_call_entry F.slot_dict_keyiterator_next T F.entry_dict_keyiterator_next ?_ (F.args_dict_keyiterator_next_1 _)
    refine wpAny_bind (wpAny_pure (wpAny_bind (wpAny_bind (bs T (wpAny_bind (wpAny_fieldsOf o1 o3 ?_))))))
    show wpAny _ _ (if (Value.ref d == Value.none) = true then _ else _ >>= _) _ _ s
    have z0 : ¬ ((Value.ref d == Value.none) = true) := Bool.false_ne_true
    rw [if_neg z0]
    refine wpAny_bind (wpAny_pure (wpAny_bind (wpAny_dictEntries ho hd ?_)))
    have z1 : ¬ (((es.size : Int) != (n : Int)) = true) := by rw [hn]; simp
    rw [if_neg z1]
    refine wpAny_bind (wpAny_pure (wpAny_bind (wpAny_dictEpoch ho hd ?_)))
    have z2 : ¬ (((ep : Int) != (ep : Int)) = true) := by simp
    rw [if_neg z2]
    refine wpAny_pure ?_
    obtain ⟨at1, at2⟩ := at'
    have z3 : ¬ ((i : Int) < 0) := by omega
    have z4 := Array.getElem?_eq_getElem at1
    simp only [z3, if_false, Int.toNat_natCast, z4]
    refine wpAny_bind (bs T (wpAny_bind (wpAny_isOneOf_keyiter T ?_)))
    refine wpAny_bind (wpAny_setField (x := rawInt ((i : Int) + 1)) o1 o3 (by simp) ?_)
    refine wpAny_bind (wpAny_holding (wpAny_bind (wpAny_isOneOf_keyiter J.typeIs ?_)))
    rw [at2]
    exact wpAny_pure (wpAny_pure ⟨_, rfl, wpAny_pure (q _ J (Heap.SameBut.update ..))⟩)
  walk_at "end"
/-- none is left -/
theorem keyOf_end (hh : A.handled = none) (I : s.heap.IsKeyIter it d i n ep) (ho : s.heap.get? d = some od) (hd : od.data = .dict es ep) (hn : es.size = n) (hi : n ≤ i)
    (q : ∀ h' e, Heap.ExtBut it s.heap h' → (∃ o, h'.get? e = some o ∧ o.cls = .type "StopIteration") → E (.ref e) { s with heap := h' }) : wpAny (model prog w) A (Builtin.SmallTypes.nextOf (.ref it)) Q E s := by
  refine Qt.drp ?_ ?_
  · obtain ⟨o, o1, o2, o3⟩ := id I
    have T := I.typeIs
    have own : Builtin.Dict_items.ownsTuple "dict_keyiterator" = false := by decide
    have bs : ∀ {R : Nat → Shared → Prop} {s0 : Shared}, s0.TypeIs (.ref it) "dict_keyiterator" → R 0 s0 →
        wpAny (model prog w) A.in1 (typeNameOfWhole (.ref it) >>= fun nm => pure (if Builtin.Dict_items.ownsTuple nm then 2 else 0)) R E s0 := fun t r => by
      refine wpAny_bind (wpAny_typeNameOfWhole_keyiter t (wpAny_pure ?_))
      rw [own]
      exact r
    unfold Builtin.SmallTypes.nextOf
    refine wpAny_bind (wpAny_callSpecial?_slot (name := Str.ofString "__next__") T F.slot_dict_keyiterator_next ?_)
    refine wpAny_call_entry F.slot_dict_keyiterator_next T F.entry_dict_keyiterator_next ?_ (F.args_dict_keyiterator_next_1 _)
    refine wpAny_bind (wpAny_pure (wpAny_bind (wpAny_bind (bs T (wpAny_bind (wpAny_fieldsOf o1 o3 ?_))))))
    show wpAny _ _ (if (Value.ref d == Value.none) = true then _ else _ >>= _) _ _ s
    have z0 : ¬ ((Value.ref d == Value.none) = true) := Bool.false_ne_true
    rw [if_neg z0]
    refine wpAny_bind (wpAny_pure (wpAny_bind (wpAny_dictEntries ho hd ?_)))
    have z1 : ¬ (((es.size : Int) != (n : Int)) = true) := by rw [hn]; simp
    rw [if_neg z1]
    refine wpAny_bind (wpAny_pure (wpAny_bind (wpAny_dictEpoch ho hd ?_)))
    have z2 : ¬ (((ep : Int) != (ep : Int)) = true) := by simp
    rw [if_neg z2]
    refine wpAny_pure ?_
    have z3 : ¬ ((i : Int) < 0) := by omega
    have z4 : es[i]? = none := Array.getElem?_eq_none (by rw [hn]; exact hi)
    simp only [z3, if_false, Int.toNat_natCast, z4]
    refine wpAny_bind (bs T (wpAny_bind (wpAny_setField (x := .none) o1 o3 (by simp) ?_)))
    refine wpAny_bind ?_
    simp only [newExc, newTuple]
    refine wpAny_bind (wpAny_newObj_type ?_ (by size_fits))
    refine wpAny_bind (m := firstArgMember _ _) (wpAny_of_eq (a := Value.none) (by first | (simp only [firstArgMember]; rfl) | rfl) ?_)
    refine wpAny_newObj_type ?_ (by size_fits)
    simp only [raiseNew]
    refine wpAny_bind (wpAny_handled ?_)
    have hh1 : A.in1.handled = none := hh
    rw [hh1]
    refine wpAny_bind (wpAny_pure (wpAny_throw (q _ _ (((Heap.SameBut.update ..).extBut.push _).push _) ?_)))
    exact ⟨_, Heap.get?_push_size _ rfl, rfl⟩
  walk_at "end"
end
theorem vals_of : ∀ {xs : List V} {us : List Value}, xs.length = us.length → (∀ (i : Nat) (x : V) (u : Value), xs[i]? = some x → us[i]? = some u → RelV x u) → Vals xs us
  | [], [], _, _ => .nil
  | [], _ :: _, h, _ => nomatch h
  | _ :: _, [], h, _ => nomatch h
  | x :: xs, u :: us, h, k => .cons (k 0 x u rfl rfl) (vals_of (Nat.succ.inj h) fun i x u a b => k (i + 1) x u a b)
def esz (o : Obj) : Nat := match o.data with
  | .dict es _ => es.size
  | _ => 0
def epz (o : Obj) : Nat := match o.data with
  | .dict _ ep => ep
  | _ => 0
theorem esz_eq {o : Obj} {es : Array DictEntry} {ep : Nat} (h : o.data = .dict es ep) : esz o = es.size ∧ epz o = ep := by
  unfold esz epz
  rw [h]
  exact ⟨rfl, rfl⟩
/-- what stands at a dict's place -/
def IsKd (o : Obj) (h : Heap) (a : Addr) (its : Array Value) : Prop := h.get? a = some o ∧ o.ExactDict ∧ (a == sysModules) = false ∧ ∃ es ep, o.data = .dict es ep ∧ its = es.map (·.key)
theorem key_draws {o : Obj} {P : Program} {w : World} {A : Around} (hh : A.handled = none) (it a : Addr) (ne : a ≠ it) (its : Array Value) : Draws P w A it [it, a] its.size (fun i v => its[i]? = some v) (fun i h => h.IsKeyIter it a i (esz o) (epz o) ∧ IsKd o h a its) where
  live := fun _ _ st => let ⟨o, ho, _⟩ := st.1; ⟨o, ho⟩
  frame := fun i h h' st hk => by
    obtain ⟨⟨x, k1, k2⟩, d1, d2⟩ := st
    exact ⟨⟨x, hk it (by simp) _ k1, k2⟩, hk a (by simp) _ d1, d2⟩
  item := fun i s Q E hi st hQ => by
    obtain ⟨k, d1, d2, d3, es, ep, e1, e2⟩ := st
    obtain ⟨z1, z2⟩ := esz_eq e1
    have hs : i < es.size := by rw [e2, Array.size_map] at hi; exact hi
    refine keyOf_item (en := es[i]) k d1 (z2 ▸ e1) z1.symm (Array.getElem?_eq_getElem hs) fun h' k' sb => ?_
    refine hQ _ h' s.toks ?_ ⟨k', (sb.2 a ne).trans d1, d2, d3, es, ep, e1, e2⟩ sb
    rw [e2, Array.getElem?_map, Array.getElem?_eq_getElem hs]
    rfl
  done := fun s Q E st hE => by
    obtain ⟨k, d1, d2, d3, es, ep, e1, e2⟩ := st
    obtain ⟨z1, z2⟩ := esz_eq e1
    refine keyOf_end hh k d1 (z2 ▸ e1) z1.symm ?_ hE
    rw [e2, Array.size_map, z1]
    exact Nat.le_refl _
/-- the keys of a dict that stands still, as a sequence -/
def skD (o : Obj) : SK where
  Sq := fun _ H a xs => ∃ kvs, H a = some (.frz o (.dK kvs)) ∧ xs = kvs.map fun kv => kV kv.1
  Is := IsKd o
  It := fun h it a i => h.IsKeyIter it a i (esz o) (epz o)
  o := fun a => { cls := .type "dict_keyiterator", data := .fields #[.ref a, .int 0 0, .int (esz o : Int) 0, .int (epz o : Int) 0] }
  seen := fun {X pins σ H s a xs} I q => by
    obtain ⟨kvs, hd, rfl⟩ := q
    obtain ⟨h1, h2, h3, es, ep, vs, h4, h5, h6, h7⟩ := I.frzK hd
    obtain ⟨o', es', g1, g2, g3, g4, g5, g6⟩ := h7
    rw [h2] at g1
    cases g1
    obtain ⟨rfl, _⟩ := dict_ep h4 g3
    have hl : kvs.length = vs.length := Paired.length h6
    refine ⟨es'.toList.map (·.key), vals_of (by simp [h5]) fun i x u hx hu => ?_, h2, h3, h1, es', ep, h4, ?_⟩
    · rw [List.getElem?_map] at hx hu
      cases hk : kvs[i]? with
      | none => rw [hk] at hx; cases hx
      | some kv =>
        rw [hk] at hx
        cases hx
        cases he : es'.toList[i]? with
        | none => rw [he] at hu; cases hu
        | some en =>
          rw [he] at hu
          cases hu
          obtain ⟨v, hv, _⟩ := kv_get h6 (show kvs[i]? = some (kv.1, kv.2) from hk)
          exact relV_key (g5.get? he hv).1
    · rw [← List.map_toArray, Array.toArray_toList]
  one := fun {X pins σ H s a xs ys} I q r => by
    obtain ⟨kvs, h1, rfl⟩ := q
    obtain ⟨kvs2, h2, rfl⟩ := r
    rw [h1] at h2
    cases h2
    rfl
  lt := fun h => Heap.lt_size h.1
  draws := fun hh it a ne its => key_draws hh it a ne its
  begins := fun a its =>
    { iter := fun prog w A E s Q h q => by
        obtain ⟨h1, h2, h3, es, ep, e1, e2⟩ := h
        obtain ⟨z1, z2⟩ := esz_eq e1
        refine iter_keys h3 h1 h2 e1 ?_
        rw [← z1, ← z2]
        exact q
      keeps := fun h h' x hk => ⟨hk _ _ x.1, x.2⟩
      free := rfl }
  it0 := fun e => ⟨_, e, rfl, rfl⟩
  live := fun h => let ⟨ob, e, _, d⟩ := h; ⟨ob, e, fun v q => nomatch d.symm.trans q⟩
  keep := fun h k => let ⟨ob, e, d⟩ := h; ⟨ob, k _ e, d⟩
/-- enumerate(d), d a dict that nobody holds but this -/
def iEnumD (K : PySem.W.Frag) (ta : TA) : TI := fun σ H R => ta σ H fun vs H1 => ∃ d kvs, vs = [.ref d] ∧ H1 d = some (.dK kvs) ∧ ∀ o, R (ItE (skD o) K 0 d) (upd H1 d (.frz o (.dK kvs)))
def rItED (K : PySem.W.Frag) (vs : List V) (R : It → Hp → Prop) (H1 : Hp) : Prop := ∃ d kvs, vs = [.ref d] ∧ H1 d = some (.dK kvs) ∧ ∀ o, R (ItE (skD o) K 0 d) (upd H1 d (.frz o (.dK kvs)))
theorem st_enumD {K : PySem.W.Frag} {ta : TA} {σ : L2.St} {H : Hp} {R : It → Hp → Prop} (h : ta σ H fun us H1 => rItED K us R H1) : iEnumD K ta σ H R := h
end L2
namespace Pt
open L2
/-- a way of so many rooms -/
def Wy (b : Int) (w : List Int) : Prop := ∃ p x q, w = [p, x, q] ∧ 0 ≤ p ∧ p ≤ b ∧ 0 ≤ q ∧ q ≤ b ∧ 0 ≤ x ∧ x ≤ 4
theorem Wy.more {b c : Int} {w : List Int} (h : Wy b w) (e : b ≤ c) : Wy c w := by
  obtain ⟨p, x, q, rfl, h1⟩ := h
  exact ⟨p, x, q, rfl, by omega⟩
end Pt
namespace L2
open PySem PySem.Spec PyProof.Rows Evl
end L2
namespace Fo
open L2 Wb
/-- what a list of walks makes -/
inductive Sg (ws : List (List Int)) : List Int → Prop
  | nil : Sg ws []
  | gen {w : List Int} : w ∈ ws → Sg ws w
  | app {u v : List Int} : Sg ws u → Sg ws v → Sg ws (u ++ v)
  | bk {u : List Int} : Sg ws u → Sg ws (Fg.bk u)
  | eqv {u v : List Int} : Sg ws u → Fg.Eqv u v → Sg ws v
variable {ws : List (List Int)} {u v w : List Int}
theorem Sg.mono {ws2 : List (List Int)} (h : ∀ w ∈ ws, Sg ws2 w) : Sg ws u → Sg ws2 u := fun k => by
  induction k with
  | nil => exact .nil
  | gen m => exact h _ m
  | app _ _ a b => exact a.app b
  | bk _ a => exact a.bk
  | eqv _ e a => exact a.eqv e
/-- in one coset -/
def Cs (ws : List (List Int)) (u v : List Int) : Prop := Sg ws (u ++ Fg.bk v)
theorem Cs.refl (u : List Int) : Cs ws u u := Sg.nil.eqv (Fg.eqv_bk u).symm
theorem Cs.symm (h : Cs ws u v) : Cs ws v u := by
  have k := Sg.bk h
  rw [Fg.bk_app, Fg.bk_bk] at k
  exact k
theorem Cs.trans (h : Cs ws u v) (k : Cs ws v w) : Cs ws u w := by
  refine (Sg.app h k).eqv ?_
  have z := ((Fg.Eqv.refl u).app (Fg.eqv_kb v)).app (Fg.Eqv.refl (Fg.bk w))
  rw [List.append_nil] at z
  rw [show u ++ Fg.bk v ++ (v ++ Fg.bk w) = u ++ (Fg.bk v ++ v) ++ Fg.bk w by simp]
  exact z
theorem Cs.step (h : Cs ws u v) (s : List Int) : Cs ws (u ++ s) (v ++ s) := by
  refine Sg.eqv h ?_
  rw [Fg.bk_app]
  have z := (((Fg.Eqv.refl u).app (Fg.eqv_bk s)).app (Fg.Eqv.refl (Fg.bk v))).symm
  rw [List.append_nil] at z
  rw [show u ++ s ++ (Fg.bk s ++ Fg.bk v) = u ++ (s ++ Fg.bk s) ++ Fg.bk v by simp]
  exact z
theorem Cs.eqv {u' v' : List Int} (h : Cs ws u v) (e : Fg.Eqv u u') (f : Fg.Eqv v v') : Cs ws u' v' := Sg.eqv h (e.app f.bk)
/-- one step there is one step back -/
theorem Cs.rev {s : Int} (h : Cs ws (u ++ [s]) v) : Cs ws (v ++ [-s]) u := by
  have k := (h.step [-s]).symm
  refine k.eqv (.refl _) ?_
  have z := Fg.eqv_cut u [] s
  rw [List.append_nil, List.append_nil] at z
  rw [List.append_assoc]
  exact z
def Bl (d : Gm) (w : List Int) : Prop := go d 0 (Fg.rd w) = some 0
variable {L n : Nat} {d : Gm}
theorem Bl.of (G : Gr L n d) (h : go d 0 w = some 0) : Bl d w := go_rd G w h
theorem Bl.app (G : Gr L n d) (h : Bl d u) (k : Bl d v) : Bl d (u ++ v) := by
  have z : go d 0 (Fg.rd u ++ Fg.rd v) = some 0 := by
    rw [go_app, h]
    exact k
  have z := go_rd G _ z
  rwa [Fg.rd_app] at z
theorem Bl.bk (G : Gr L n d) (h : Bl d u) : Bl d (Fg.bk u) := by
  unfold Bl
  rw [Fg.rd_bk]
  exact go_bk G h
theorem bl_nil : Bl d [] := rfl
theorem Bl.eqv (h : Bl d u) (e : Fg.Eqv u v) : Bl d v := by
  unfold Bl at h ⊢
  rwa [← Fg.rd_eq e]
abbrev Yw := Nat × Int × Nat
def y3 (y : Yw) : List Int := [(y.1 : Int), y.2.1, (y.2.2 : Int)]
def nr (y : Yw) (s : Int) : Nat := if 0 < s then y.1 else y.2.2
def fr (y : Yw) (s : Int) : Nat := if 0 < s then y.2.2 else y.1
def On (y : Yw) (s : Int) : Prop := s = y.2.1 ∨ s = -y.2.1
structure YOk (L n : Nat) (Y : List Yw) : Prop where
  ok : ∀ y ∈ Y, y.1 < n ∧ y.2.2 < n ∧ 1 ≤ y.2.1 ∧ y.2.1 ≤ (L : Int)
theorem YOk.fr {Y : List Yw} (h : YOk L n Y) {y : Yw} (m : y ∈ Y) (s : Int) : fr y s < n := by
  have := h.ok y m
  unfold Fo.fr
  split <;> omega
theorem YOk.st {Y : List Yw} (h : YOk L n Y) {y : Yw} (m : y ∈ Y) {s : Int} (o : On y s) : s ∈ Od.steps L := by
  have := h.ok y m
  rw [Od.mem_steps]
  rcases o with o | o <;> omega
/-- where the ring of a walk goes -/
def pl (n z j : Nat) : Nat := if j = 0 ∨ z ≤ j then 0 else n + j - 1
def Cpt (Y : List Yw) (R : Nat → Nat → Prop) : Prop := ∀ y z s, y ∈ Y → z ∈ Y → On y s → On z s → R (nr y s) (nr z s) → R (fr y s) (fr z s)
abbrev Wt := List (Int × Nat × Nat)
structure Fs (L n : Nat) (Y : List Yw) (dn : Nat → Int → Prop) (ρ : Nat → Nat) (D : Nat → Int → Option Nat) (W : Wt) : Prop where
  le : ∀ a, a < n → ρ a ≤ a
  idm : ∀ a, a < n → ρ (ρ a) = ρ a
  dom : ∀ r s i, r < n → ρ r = r → D r s = some i → ∃ y, Y[i]? = some y ∧ On y s ∧ ρ (nr y s) = r
  wt : ∀ s i j, (s, i, j) ∈ W → ∃ y z, Y[i]? = some y ∧ Y[j]? = some z ∧ On y s ∧ On z s ∧ ρ (nr y s) = ρ (nr z s)
  cm : ∀ φ : Nat → Nat, (∀ a b, a < n → b < n → ρ a = ρ b → φ a = φ b) → (∀ s i j y z, (s, i, j) ∈ W → Y[i]? = some y → Y[j]? = some z → φ (fr y s) = φ (fr z s)) →
    ∀ i s y, dn i s → Y[i]? = some y → On y s → ∃ j z, D (ρ (nr y s)) s = some j ∧ Y[j]? = some z ∧ φ (fr y s) = φ (fr z s)
  sd : ∀ R : Nat → Nat → Prop, Equivalence R → Cpt Y R → ∀ a, a < n → R a (ρ a)
variable {Y : List Yw} {dn : Nat → Int → Prop} {ρ : Nat → Nat} {D : Nat → Int → Option Nat} {W : Wt}
theorem Fs.lt (F : Fs L n Y dn ρ D W) {a : Nat} (h : a < n) : ρ a < n := Nat.lt_of_le_of_lt (F.le a h) h
def mg (ρ : Nat → Nat) (kept lost : Nat) : Nat → Nat := fun a => if ρ a = lost then kept else ρ a
def fd (Y : List Yw) (ρ : Nat → Nat) (D : Nat → Int → Option Nat) (n : Nat) : Gm := fun r s => if r < n ∧ ρ r = r then (D r s).bind fun i => Y[i]?.map fun y => ρ (fr y s) else none
theorem Fs.keys {L n : Nat} {Y : List Yw} {dn : Nat → Int → Prop} {ρ : Nat → Nat} {D : Nat → Int → Option Nat} {W : Wt} (K : YOk L n Y) (l4 : L ≤ 4) (F : Fs L n Y dn ρ D W) {r : Nat} (h1 : r < n) (h2 : ρ r = r) (s : Int) (h : (D r s).isSome = true) : s ∈ Od.steps 4 := by
  cases e : D r s with
  | none => rw [e] at h; cases h
  | some i =>
    obtain ⟨y, q1, q2, _⟩ := F.dom r s i h1 h2 e
    have := Od.mem_steps.mp (K.st (List.mem_of_getElem? q1) q2)
    rw [Od.mem_steps]
    omega
end Fo
namespace L2
open PySem PySem.Spec PyProof.Rows Evl
def tws (n : Nat) (t : Nat → Nat) : List Int := (List.range n).map fun i => (t i : Int)
structure JoH (H : Hp) (jo C tl : Addr) (n : Nat) (t : Nat → Nat) : Prop where
  ex : ∃ dx, H jo = some (.ins C dx [("toward", .ref tl)]) ∧ H tl = some (.lst ((tws n t).map V.int))
theorem JoH.ne {H : Hp} {jo C tl : Addr} {n : Nat} {t : Nat → Nat} (h : JoH H jo C tl n t) : jo ≠ tl := by
  obtain ⟨dx, h1, h2⟩ := h.ex
  exact ne_of h1 h2 (by intro z; cases z)
theorem JoH.mono {H H1 : Hp} {jo C tl : Addr} {n : Nat} {t : Nat → Nat} (h : JoH H jo C tl n t) (e : ∀ o, H jo = some o → H1 jo = some o) (e2 : ∀ o, H tl = some o → H1 tl = some o) : JoH H1 jo C tl n t := by
  obtain ⟨dx, h1, h2⟩ := h.ex
  exact ⟨dx, e _ h1, e2 _ h2⟩
structure Fx where
  wl : Addr
  jo : Addr
  tl : Addr
  dl : Addr
  jl : Addr
  ds : List Addr
abbrev foF (X : Fx) : List (Str × V) := [("ways", .ref X.wl), ("joined", .ref X.jo), ("doors", .ref X.dl), ("joinings", .ref X.jl)]
/-- how two ways were joined -/
def jn (x : Nat × Nat) : List Int := [(x.1 : Int), (x.2 : Int)]
structure FoH (K : PySem.W.Frag) (H : Hp) (C CJ x : Addr) (X : Fx) (n : Nat) (Y : List Fo.Yw) (t : Nat → Nat) (D : Nat → Int → Option Nat) (G : List (Nat × Nat)) : Prop where
  obj : ∃ dx, H x = some (.ins C dx (foF X))
  jo : JoH H X.jo CJ X.tl n t
  ways : ∃ xs, H X.wl = some (.lst xs) ∧ WkA K H xs (Y.map Fo.y3)
  wt : X.wl ≠ X.tl
  wj : X.wl ≠ X.jl
  dl : H X.dl = some (.lst (X.ds.map V.ref))
  dt : X.dl ≠ X.tl
  dj : X.dl ≠ X.jl
  dn : X.ds.length = n
  nd : X.ds.Nodup
  at' : ∀ (i : Nat) (a : Addr), X.ds[i]? = some a → ∃ kvs, H a = some (.dK kvs) ∧ DI kvs fun s => vN (D i s)
  jl : ∃ js, H X.jl = some (.lst js) ∧ WkA K H js (G.map jn)
  jt : X.jl ≠ X.tl
def Fx.own (X : Fx) : List Addr := X.tl :: X.jl :: X.ds
/-- all but some places stay -/
def ExO (ow : List Addr) (H H1 : Hp) : Prop := ∀ a o, H a = some o → a ∉ ow → H1 a = some o
theorem ExO.refl {ow : List Addr} (H : Hp) : ExO ow H H := fun _ _ h _ => h
theorem ExO.trans {ow : List Addr} {H H1 H2 : Hp} (a : ExO ow H H1) (b : ExO ow H1 H2) : ExO ow H H2 := fun x o h n => b x o (a x o h n) n
theorem ExO.of {ow : List Addr} {H H1 : Hp} (e : Ex H H1) : ExO ow H H1 := fun a o h _ => e a o h
theorem ExO.w {ow : List Addr} {a : Addr} {H H1 : Hp} (e : ExW a H H1) (h : a ∈ ow) : ExO ow H H1 := fun x o q n => e x o q fun z => n (z ▸ h)
theorem ExO.tx {ow : List Addr} {H H1 : Hp} (e : ExO ow H H1) (h : ∀ a ∈ ow, ∀ xs, H a ≠ some (.tup xs) ∧ ∀ o, H a ≠ some (.frz o (.tup xs))) : TX H H1 := fun q ys hq => by
  have ne : q ∉ ow := fun z => by
    rcases hq with hq | ⟨o, hq⟩
    · exact (h q z ys).1 hq
    · exact (h q z ys).2 o hq
  rcases hq with hq | ⟨o, hq⟩
  · rw [hq, e _ _ hq ne]
  · rw [hq, e _ _ hq ne]
section
variable {K : PySem.W.Frag} {H H1 : Hp} {C CJ x : Addr} {X : Fx} {n : Nat} {Y : List Fo.Yw} {t t' : Nat → Nat} {D D' : Nat → Int → Option Nat} {G : List (Nat × Nat)}
theorem FoH.ex (h : FoH K H C CJ x X n Y t D G) (e : Ex H H1) : FoH K H1 C CJ x X n Y t D G := by
  obtain ⟨dx, h1⟩ := h.obj
  obtain ⟨xs, w1, w2⟩ := h.ways
  obtain ⟨js, j1, j2⟩ := h.jl
  refine ⟨⟨dx, e _ _ h1⟩, h.jo.mono (fun o => e _ o) (fun o => e _ o), ⟨xs, e _ _ w1, w2.ex e⟩, h.wt, h.wj, e _ _ h.dl, h.dt, h.dj, h.dn, h.nd, fun i a ha => ?_, ⟨js, e _ _ j1, j2.ex e⟩, h.jt⟩
  obtain ⟨kvs, k1, k2⟩ := h.at' i a ha
  exact ⟨kvs, e _ _ k1, k2⟩
theorem FoH.tl (h : FoH K H C CJ x X n Y t D G) (e : ExW X.tl H H1) (J : JoH H1 X.jo CJ X.tl n t') : FoH K H1 C CJ x X n Y t' D G := by
  obtain ⟨dx, h1⟩ := h.obj
  obtain ⟨xs, w1, w2⟩ := h.ways
  obtain ⟨js, j1, j2⟩ := h.jl
  obtain ⟨dx2, o1, o2⟩ := h.jo.ex
  have tx := TX.w2 o2 e
  refine ⟨⟨dx, e _ _ h1 (ne_of h1 o2 (by intro z; cases z))⟩, J, ⟨xs, e _ _ w1 h.wt, w2.tx tx⟩, h.wt, h.wj, e _ _ h.dl h.dt, h.dt, h.dj, h.dn, h.nd, fun i a ha => ?_, ⟨js, e _ _ j1 h.jt, j2.tx tx⟩, h.jt⟩
  obtain ⟨kvs, k1, k2⟩ := h.at' i a ha
  exact ⟨kvs, e _ _ k1 (ne_of k1 o2 (by intro z; cases z)), k2⟩
theorem FoH.js {js' : List V} {G' : List (Nat × Nat)} (h : FoH K H C CJ x X n Y t D G) (e : ExW X.jl H H1) (k : H1 X.jl = some (.lst js')) (w : WkA K H1 js' (G'.map jn)) : FoH K H1 C CJ x X n Y t D G' := by
  obtain ⟨dx, h1⟩ := h.obj
  obtain ⟨xs, w1, w2⟩ := h.ways
  obtain ⟨js, j1, j2⟩ := h.jl
  obtain ⟨dx2, o1, o2⟩ := h.jo.ex
  have tx := TX.w2 j1 e
  refine ⟨⟨dx, e _ _ h1 (ne_of h1 j1 (by intro z; cases z))⟩, h.jo.mono (fun o q => e _ _ q (ne_of o1 j1 (by intro z; cases z))) (fun o q => e _ _ q h.jt.symm), ⟨xs, e _ _ w1 h.wj, w2.tx tx⟩, h.wt, h.wj, e _ _ h.dl h.dj, h.dt, h.dj, h.dn, h.nd, fun i a ha => ?_, ⟨js', k, w⟩, h.jt⟩
  obtain ⟨kvs, k1, k2⟩ := h.at' i a ha
  exact ⟨kvs, e _ _ k1 (ne_of k1 j1 (by intro z; cases z)), k2⟩
theorem FoH.put (h : FoH K H C CJ x X n Y t D G) {i : Nat} {a : Addr} {kvs kvs' : List (Key × V)} (ha : X.ds[i]? = some a) (hk : H a = some (.dK kvs)) (e : ExW a H H1) (k : H1 a = some (.dK kvs')) (d : DI kvs' fun s => vN (D' i s)) (same : ∀ j s, j ≠ i → D' j s = D j s) : FoH K H1 C CJ x X n Y t D' G := by
  refine Qt.drp ?_ ?_
  · obtain ⟨dx, h1⟩ := h.obj
    obtain ⟨xs, w1, w2⟩ := h.ways
    obtain ⟨js, j1, j2⟩ := h.jl
    obtain ⟨dx2, o1, o2⟩ := h.jo.ex
    have tx := tx_dk hk e
    refine ⟨⟨dx, e _ _ h1 (ne_of h1 hk (by intro z; cases z))⟩, h.jo.mono (fun o q => e _ _ q (ne_of o1 hk (by intro z; cases z))) (fun o q => e _ _ q (ne_of o2 hk (by intro z; cases z))), ⟨xs, e _ _ w1 (ne_of w1 hk (by intro z; cases z)), w2.tx tx⟩, h.wt, h.wj, e _ _ h.dl (ne_of h.dl hk (by intro z; cases z)), h.dt, h.dj, h.dn, h.nd, fun j b hb => ?_, ⟨js, e _ _ j1 (ne_of j1 hk (by intro z; cases z)), j2.tx tx⟩, h.jt⟩
    by_cases c : j = i
    · subst c
      rw [ha] at hb
      cases hb
      exact ⟨kvs', k, d⟩
    · obtain ⟨kv2, k1, k2⟩ := h.at' j b hb
      have ne : b ≠ a := fun z => by
        subst z
        exact c ((List.getElem?_inj (List.getElem?_eq_some_iff.mp hb).1 h.nd).mp (hb.trans ha.symm))
      exact ⟨kv2, e _ _ k1 ne, k2.congr fun s => by rw [same j s c]⟩
  walk_at "end"
theorem FoH.own (h : FoH K H C CJ x X n Y t D G) : ∀ a ∈ X.own, (∃ xs, H a = some (.lst xs)) ∨ ∃ kvs, H a = some (.dK kvs) := fun a m => by
  obtain ⟨js, j1, j2⟩ := h.jl
  obtain ⟨dx2, o1, o2⟩ := h.jo.ex
  rcases List.mem_cons.mp m with z | m
  · exact .inl ⟨_, z ▸ o2⟩
  rcases List.mem_cons.mp m with z | m
  · exact .inl ⟨_, z ▸ j1⟩
  obtain ⟨i, hi⟩ := List.mem_iff_getElem?.mp m
  obtain ⟨kvs, k1, _⟩ := h.at' i a hi
  exact .inr ⟨_, k1⟩
theorem FoH.tx (h : FoH K H C CJ x X n Y t D G) (e : ExO X.own H H1) : TX H H1 := e.tx fun a m xs => by
  rcases h.own a m with ⟨ys, k⟩ | ⟨kvs, k⟩
  · exact ⟨(fun z => by rw [k] at z; cases z), fun o z => by rw [k] at z; cases z⟩
  · exact ⟨(fun z => by rw [k] at z; cases z), fun o z => by rw [k] at z; cases z⟩
theorem FoH.fresh (h : FoH K H C CJ x X n Y t D G) {p : Addr} (hp : H p = none) : p ∉ X.own := fun m => by
  rcases h.own p m with ⟨ys, k⟩ | ⟨kvs, k⟩
  · rw [hp] at k; cases k
  · rw [hp] at k; cases k
end
theorem st_lstIt {td : TE} {σ : L2.St} {H : Hp} {Q : VK} (h : td σ H fun x H1 => LiI.rItemsL x H1 Q) : LiI.tListItems td σ H Q := h
/-- a dict of rooms, each with its steps -/
structure TbD (H : Hp) (D : Addr) (kvs : List (Key × V)) (ks : List Nat) (d : Wb.Gm) : Prop where
  len : kvs.length = ks.length
  at' : ∀ (i g : Nat) kv, ks[i]? = some g → kvs[i]? = some kv → kv.1 = Sum.inl (g : Int) ∧ ∃ p l, kv.2 = .ref p ∧ p ≠ D ∧ H p = some (.dK l) ∧ DI l fun s => vN (d g s)
theorem TbD.nil {H : Hp} {D : Addr} {d : Wb.Gm} : TbD H D [] [] d := ⟨rfl, fun i g kv h => by simp at h⟩
theorem TbD.mono {H H1 : Hp} {D : Addr} {kvs : List (Key × V)} {ks : List Nat} {d : Wb.Gm} (h : TbD H D kvs ks d) (e : ∀ p l, p ≠ D → H p = some (.dK l) → H1 p = some (.dK l)) : TbD H1 D kvs ks d := ⟨h.len, fun i g kv a b => by
  obtain ⟨h1, p, l, h2, h3, h4, h5⟩ := h.at' i g kv a b
  exact ⟨h1, p, l, h2, h3, e p l h3 h4, h5⟩⟩
theorem TbD.keys {H : Hp} {D : Addr} {kvs : List (Key × V)} {ks : List Nat} {d : Wb.Gm} (h : TbD H D kvs ks d) : kvs.map (·.1) = ks.map fun (g : Nat) => (Sum.inl (g : Int) : Key) := by
  refine List.ext_getElem? fun i => ?_
  rw [List.getElem?_map, List.getElem?_map]
  rcases Nat.lt_or_ge i kvs.length with lt | ge
  · have a := List.getElem?_eq_getElem lt
    have b := List.getElem?_eq_getElem (l := ks) (i := i) (by rw [← h.len]; exact lt)
    rw [a, b]
    exact congrArg some (h.at' i _ _ b a).1
  · rw [List.getElem?_eq_none ge, List.getElem?_eq_none (by rw [← h.len]; exact ge)]
    rfl
theorem TbD.snoc {H : Hp} {D p : Addr} {kvs l : List (Key × V)} {ks : List Nat} {d : Wb.Gm} {g : Nat} (h : TbD H D kvs ks d) (hp : p ≠ D) (k : H p = some (.dK l)) (q : DI l fun s => vN (d g s)) : TbD H D (kvs ++ [(Sum.inl (g : Int), .ref p)]) (ks ++ [g]) d := by
  refine ⟨by rw [List.length_append, List.length_append, h.len]; rfl, fun i g' kv a b => ?_⟩
  rcases Nat.lt_or_ge i ks.length with lt | ge
  · rw [List.getElem?_append_left lt] at a
    rw [List.getElem?_append_left (h.len ▸ lt)] at b
    exact h.at' i g' kv a b
  · rw [List.getElem?_append_right ge] at a
    rw [List.getElem?_append_right (h.len ▸ ge)] at b
    have e : i - ks.length = 0 := by
      have := (List.getElem?_eq_some_iff.mp a).1
      simp at this
      omega
    rw [e] at a
    rw [h.len, e] at b
    cases a
    cases b
    exact ⟨rfl, p, l, rfl, hp, k, q⟩
theorem TbD.get {H : Hp} {D : Addr} {kvs : List (Key × V)} {ks : List Nat} {d : Wb.Gm} (h : TbD H D kvs ks d) (hn : ks.Nodup) {g : Nat} (hg : g ∈ ks) : ∃ p l, valV kvs (Sum.inl (g : Int)) = some (.ref p) ∧ H p = some (.dK l) ∧ DI l fun s => vN (d g s) := by
  obtain ⟨i, hi⟩ := List.mem_iff_getElem?.mp hg
  have b := List.getElem?_eq_getElem (l := kvs) (i := i) (by rw [h.len]; exact (List.getElem?_eq_some_iff.mp hi).1)
  obtain ⟨h1, p, l, h2, h3, h4, h5⟩ := h.at' i g _ hi b
  refine ⟨p, l, ?_, h4, h5⟩
  have := valV_at (by rw [h.keys]; exact nodup_keys hn) b
  rw [h1, h2] at this
  exact this
end L2
namespace L2
open PySem PySem.Spec PyProof.Rows Evl
/-- a number and ints -/
def kd (i : Int) (ns : List Int) : PyData := .tuple [.int i, .list (ns.map .int)]
end L2
namespace Fg
theorem bk_rep (u : Wk) : ∀ k, bk (rep k u) = rep k (bk u)
  | 0 => rfl
  | k + 1 => by
    show bk (rep k u ++ u) = rep k (bk u) ++ bk u
    rw [bk_app, bk_rep u k, rep_comm]
/-- a walk turned -/
def tn (u o : Wk) : Wk := rd (bk o ++ u ++ o)
theorem tn_rd_r (u o : Wk) : tn u (rd o) = tn u o := by
  unfold tn
  refine rd_eq ((((eqv_rd _ o rfl).bk).app (Eqv.refl _)).app (eqv_rd _ o rfl))
theorem tn_tn (u o p : Wk) : tn (tn u o) p = tn u (o ++ p) := by
  unfold tn
  rw [bk_app]
  refine rd_eq ?_
  have := ((Eqv.refl (bk p)).app (eqv_rd _ (bk o ++ u ++ o) rfl)).app (Eqv.refl p)
  refine this.trans ?_
  rw [show bk p ++ (bk o ++ u ++ o) ++ p = bk p ++ bk o ++ u ++ (o ++ p) by simp]
  exact .refl _
theorem tn_eqv {u o p : Wk} (h : Eqv o p) : tn u o = tn u p := by
  unfold tn
  exact rd_eq ((h.bk.app (.refl _)).app h)
theorem tn_nil {u : Wk} (h : Str u) : tn u [] = u := by
  unfold tn
  show rd ([] ++ u ++ []) = u
  rw [List.nil_append, List.append_nil, rd_str h]
def kl (u v : Wk) : Bool := if u.length = v.length then HT.lexLt (u.map Od.cd) (v.map Od.cd) else decide (u.length < v.length)
end Fg
namespace L2
open PySem PySem.Spec PyProof.Rows Evl
/-- two objects of the loop's own, tracked as pins -/
structure Two (X : Cx) (pins : List (Addr × Obj)) (σ : L2.St) (H : Hp) (s : Shared) (S I : Addr) (oS oI : Obj) : Prop where
  inv : Inv X pins σ H s
  hS : s.heap.get? S = some oS
  hI : s.heap.get? I = some oI
  nS : H S = none
  nI : H I = none
  cS : ∀ v, oS.data ≠ .cell v
  cI : ∀ v, oI.data ≠ .cell v
section
variable {X : Cx} {pins : List (Addr × Obj)} {σ : L2.St} {H : Hp} {s : Shared} {S I : Addr} {oS oI : Obj}
theorem Two.of (v : Inv X ((S, oS) :: (I, oI) :: pins) σ H s) : Two X pins σ H s S I oS oI := by
  have a := v.pin (S, oS) (List.mem_append_right _ List.mem_cons_self)
  have b := v.pin (I, oI) (List.mem_append_right _ (List.mem_cons_of_mem _ List.mem_cons_self))
  exact ⟨v.pins_of fun p hp => v.pin p (List.mem_append_right _ (List.mem_cons_of_mem _ (List.mem_cons_of_mem _ hp))), a.1, b.1, a.2.1, b.2.1, a.2.2.2.2, b.2.2.2.2⟩
end
theorem st_ckw {r : List V → List V → Hp → VK → Prop} {t tk : TA} {σ : L2.St} {H : Hp} {Q : VK} (h : t σ H fun vs H1 => tk σ H1 fun zs H2 => r vs zs H2 Q) : tCKw r t tk σ H Q := h
end L2
namespace Fg
theorem lex_trans : ∀ {u v w : List Int}, HT.lexLt u v = true → HT.lexLt v w = true → HT.lexLt u w = true
  | _, [], w, h, k => by
    rename_i u
    cases u <;> cases h
  | [], y :: v, [], h, k => by cases k
  | [], y :: v, z :: w, h, k => rfl
  | x :: u, y :: v, [], h, k => by cases k
  | x :: u, y :: v, z :: w, h, k => by
    rw [HT.lexLt_cons] at h k ⊢
    by_cases c1 : x = y
    · subst c1
      rw [if_pos rfl] at h
      by_cases c2 : x = z
      · rw [if_pos c2] at k ⊢
        exact lex_trans h k
      · rw [if_neg c2] at k ⊢
        exact k
    · rw [if_neg c1] at h
      have h := of_decide_eq_true h
      by_cases c2 : y = z
      · subst c2
        rw [if_neg c1]
        exact decide_eq_true h
      · rw [if_neg c2] at k
        have k := of_decide_eq_true k
        rw [if_neg (by omega)]
        exact decide_eq_true (by omega)
theorem lex_tot : ∀ {u v : List Int}, u ≠ v → HT.lexLt u v = true ∨ HT.lexLt v u = true
  | [], [], h => absurd rfl h
  | [], _ :: _, _ => .inl rfl
  | _ :: _, [], _ => .inr rfl
  | x :: u, y :: v, h => by
    rw [HT.lexLt_cons, HT.lexLt_cons]
    by_cases c : x = y
    · subst c
      rw [if_pos rfl, if_pos rfl]
      exact lex_tot fun z => h (by rw [z])
    · rw [if_neg c, if_neg fun z => c z.symm, decide_eq_true_eq, decide_eq_true_eq]
      omega
theorem cds_inj {u v : Wk} (h : u.map Od.cd = v.map Od.cd) : u = v := (List.map_inj_right fun _ _ z => Od.cd_inj z).mp h
theorem kl_le {u v : Wk} (h : kl u v = true) : u.length ≤ v.length := by
  unfold kl at h
  by_cases c : u.length = v.length
  · omega
  · rw [if_neg c] at h
    have := of_decide_eq_true h
    omega
theorem kl_lt {u v : Wk} (h : u.length < v.length) : kl u v = true := by
  unfold kl
  rw [if_neg (by omega)]
  exact decide_eq_true h
theorem kl_trans {u v w : Wk} (h : kl u v = true) (k : kl v w = true) : kl u w = true := by
  have h1 := kl_le h
  have k1 := kl_le k
  by_cases c : u.length = w.length
  · unfold kl at h k ⊢
    rw [if_pos (by omega)] at h k ⊢
    exact lex_trans h k
  · exact kl_lt (by omega)
theorem kl_tot {u v : Wk} (h : u ≠ v) : kl u v = true ∨ kl v u = true := by
  by_cases c : u.length = v.length
  · unfold kl
    rw [if_pos c, if_pos c.symm]
    exact lex_tot fun z => h (cds_inj z)
  · rcases Nat.lt_or_gt_of_ne c with l | g
    · exact .inl (kl_lt l)
    · exact .inr (kl_lt g)
theorem run_inv {st : Wk} (u : Wk) (r : Red st) : run (run st u) (bk u) = st := by
  have := eqv_bk u st r
  rwa [run_append] at this
theorem run_vni {st : Wk} (u : Wk) (r : Red st) : run (run st (bk u)) u = st := by
  have := eqv_kb u st r
  rwa [run_append] at this
/-- two walks, their cores turned into one another -/
structure Tp (u v a b m c n : Wk) (l k : Nat) : Prop where
  su : Str u
  sv : Str v
  eu : u = a ++ m ++ bk a
  ev : v = b ++ n ++ bk b
  cm : Cyc m
  om : Om m l
  hc : m.take l = c
  hn : n = rotn m k
  hk : k < l
section
variable {u v a b m c n : Wk} {l k : Nat}
theorem Tp.lc (T : Tp u v a b m c n l k) : c.length = l := by rw [← T.hc]; exact om_len T.om
theorem Tp.rep (T : Tp u v a b m c n l k) : ∃ t, m = c ++ Fg.rep t c := by
  obtain ⟨t, t0, e⟩ := om_rep T.om
  rw [T.hc] at e
  obtain ⟨j, rfl⟩ : ∃ j, t = j + 1 := ⟨t - 1, by omega⟩
  exact ⟨j, e.trans (rep_comm c j)⟩
theorem Tp.pr (T : Tp u v a b m c n l k) : c = c.take k ++ c.drop k := (List.take_append_drop k c).symm
theorem Tp.rne (T : Tp u v a b m c n l k) : c.drop k ≠ [] := fun z => by
  have z2 := congrArg List.length z
  rw [List.length_drop, T.lc] at z2
  have := T.hk
  simp only [List.length_nil] at z2
  omega
theorem Tp.cm_c (T : Tp u v a b m c n l k) : c ++ m = m ++ c := by
  obtain ⟨t, e⟩ := T.rep
  rw [e, List.append_assoc, rep_comm]
theorem Tp.nn (T : Tp u v a b m c n l k) : ∃ t, n = c.drop k ++ Fg.rep t c ++ c.take k := by
  obtain ⟨t, e⟩ := T.rep
  have hk := T.hk
  have lc := T.lc
  refine ⟨t, ?_⟩
  rw [T.hn]
  unfold rotn
  rw [e, List.drop_append_of_le_length (by omega), List.take_append_of_le_length (by omega)]
theorem head_app {x y : Wk} (h : x ≠ []) : (x ++ y).head? = x.head? := by
  cases x with
  | nil => exact absurd rfl h
  | cons => rfl
theorem last_app {x y : Wk} (h : y ≠ []) : (x ++ y).getLast? = y.getLast? := by
  rw [List.getLast?_append]
  cases e : y.getLast? with
  | none => exact absurd (List.getLast?_eq_none_iff.mp e) h
  | some z => rfl
theorem rep_last {x : Wk} {j : Nat} (hx : x ≠ []) (h : 0 < j) : (Fg.rep j x).getLast? = x.getLast? := by
  obtain ⟨i, rfl⟩ : ∃ i, j = i + 1 := ⟨j - 1, by omega⟩
  exact last_app hx
theorem rep_ne {x : Wk} {j : Nat} (hx : x ≠ []) (h : 0 < j) : Fg.rep j x ≠ [] := fun z => by
  have := congrArg List.length z
  rw [rep_len] at this
  have := Nat.mul_pos h (List.length_pos_iff.mpr hx)
  simp_all
theorem rep_head {x : Wk} {j : Nat} (hx : x ≠ []) (h : 0 < j) : (Fg.rep j x).head? = x.head? := by
  obtain ⟨i, rfl⟩ : ∃ i, j = i + 1 := ⟨j - 1, by omega⟩
  show (Fg.rep i x ++ x).head? = _
  rw [rep_comm, head_app hx]
theorem Tp.cne (T : Tp u v a b m c n l k) : c ≠ [] := fun z => by
  have z2 := T.lc
  rw [z] at z2
  have := T.hk
  simp only [List.length_nil] at z2
  omega
theorem Tp.m_head (T : Tp u v a b m c n l k) : m.head? = c.head? := by
  obtain ⟨t, e⟩ := T.rep
  rw [e, head_app T.cne]
theorem Tp.m_last (T : Tp u v a b m c n l k) : m.getLast? = c.getLast? := by
  obtain ⟨t, e⟩ := T.rep
  rw [e, ← rep_comm, last_app T.cne]
theorem Tp.cyc_c (T : Tp u v a b m c n l k) : Cyc c := ⟨T.hc ▸ str_take _ T.cm.str, fun x y hx hy => T.cm.ends x y (T.m_last.trans hx) (T.m_head.trans hy)⟩
theorem str_rep {c : Wk} (h : Cyc c) (hn : c ≠ []) : ∀ j, Str (Fg.rep j c)
  | 0 => str_nil
  | j + 1 => by
    refine str_app (str_rep h hn j) h.str fun x y hx hy => ?_
    rcases Nat.eq_zero_or_pos j with z | z
    · rw [z] at hx; cases hx
    · rw [rep_last hn z] at hx
      exact h.ends x y hx hy
/-- what stands between the leads: forward -/
def xp (c : Wk) (k j : Nat) : Wk := Fg.rep j c ++ c.take k
/-- and back -/
def xn (c : Wk) (k j : Nat) : Wk := bk (c.drop k ++ Fg.rep j c)
theorem Tp.str_xp (T : Tp u v a b m c n l k) (j : Nat) : Str (xp c k j) := by
  have := str_rep T.cyc_c T.cne (j + 1)
  have e : Fg.rep (j + 1) c = xp c k j ++ c.drop k := by
    show Fg.rep j c ++ c = Fg.rep j c ++ c.take k ++ c.drop k
    rw [List.append_assoc, List.take_append_drop]
  exact str_l (e ▸ this)
theorem Tp.str_xn (T : Tp u v a b m c n l k) (j : Nat) : Str (xn c k j) := by
  have := str_rep T.cyc_c T.cne (j + 1)
  have e : Fg.rep (j + 1) c = c.take k ++ (c.drop k ++ Fg.rep j c) := by
    show Fg.rep j c ++ c = _
    rw [rep_comm, ← List.append_assoc, List.take_append_drop]
  exact str_bk (str_r (e ▸ this))
theorem Tp.a_m (T : Tp u v a b m c n l k) : ∀ x y, a.getLast? = some x → m.head? = some y → y ≠ -x := str_meet (str_l (T.eu ▸ T.su))
theorem Tp.m_a (T : Tp u v a b m c n l k) : ∀ x y, m.getLast? = some x → (bk a).head? = some y → y ≠ -x := str_meet (str_r (u := a) (by rw [← List.append_assoc]; exact T.eu ▸ T.su))
theorem Tp.b_n (T : Tp u v a b m c n l k) : ∀ x y, b.getLast? = some x → n.head? = some y → y ≠ -x := str_meet (str_l (T.ev ▸ T.sv))
theorem Tp.n_b (T : Tp u v a b m c n l k) : ∀ x y, n.getLast? = some x → (bk b).head? = some y → y ≠ -x := str_meet (str_r (u := b) (by rw [← List.append_assoc]; exact T.ev ▸ T.sv))
theorem Tp.n_head (T : Tp u v a b m c n l k) : n.head? = (c.drop k).head? := by
  obtain ⟨t, e⟩ := T.nn
  rw [e, List.append_assoc, head_app T.rne]
theorem Tp.str_p (T : Tp u v a b m c n l k) {j : Nat} (h : 1 ≤ j ∨ 1 ≤ k) : Str (a ++ xp c k j ++ bk b) := by
  refine Qt.drp ?_ ?_
  · have cne := T.cne
    have lc := T.lc
    have hk := T.hk
    have kne : 1 ≤ k → c.take k ≠ [] := fun h z => by
      have z2 := congrArg List.length z
      rw [List.length_take, lc] at z2
      simp only [List.length_nil] at z2
      omega
    have k0 : k = 0 → c.take k = [] := fun z => by rw [z]; rfl
    have xne : xp c k j ≠ [] := fun z => by
      have := List.append_eq_nil_iff.mp z
      rcases h with h | h
      · exact rep_ne cne h this.1
      · exact kne h this.2
    have hh : (xp c k j).head? = c.head? := by
      unfold xp
      rcases Nat.eq_zero_or_pos j with z | z
      · rw [z]
        show (c.take k).head? = _
        rw [List.head?_take, if_neg (by omega)]
      · rw [head_app (rep_ne cne z), rep_head cne z]
    have hl : (xp c k j).getLast? = n.getLast? := by
      obtain ⟨t, e⟩ := T.nn
      rw [e]
      unfold xp
      rcases Nat.eq_zero_or_pos k with z | z
      · rw [k0 z, List.append_nil, List.append_nil, rep_last cne (by omega)]
        have : c.drop k ++ Fg.rep t c = Fg.rep t c ++ c := by rw [z, List.drop_zero, rep_comm]
        rw [this, last_app cne]
      · rw [last_app (kne z), last_app (kne z)]
    refine str_app (str_app (str_take (ld u) T.su |> fun _ => ?_) (T.str_xp j) fun x y hx hy => T.a_m x y hx (by rw [T.m_head, ← hh]; exact hy)) (str_bk ?_) fun x y hx hy => T.n_b x y (by rw [← hl, ← last_app (x := a) xne]; exact hx) hy
    · exact str_l (str_l (T.eu ▸ T.su))
    · exact str_l (str_l (T.ev ▸ T.sv))
  walk_at "end"
theorem Tp.str_n (T : Tp u v a b m c n l k) (j : Nat) : Str (a ++ xn c k j ++ bk b) := by
  refine Qt.drp ?_ ?_
  · have cne := T.cne
    have rne := T.rne
    have zne : c.drop k ++ Fg.rep j c ≠ [] := fun z => rne (List.append_eq_nil_iff.mp z).1
    have xne : xn c k j ≠ [] := fun z => zne (by have := congrArg bk z; unfold xn at this; rwa [bk_bk] at this)
    have hh : (xn c k j).head? = c.getLast?.map fun x => -x := by
      unfold xn
      rw [head_bk]
      congr 1
      rcases Nat.eq_zero_or_pos j with z | z
      · rw [z]
        show (c.drop k ++ []).getLast? = _
        rw [List.append_nil]
        conv => rhs; rw [T.pr, last_app rne]
      · rw [last_app (rep_ne cne z), rep_last cne z]
    have hl : (xn c k j).getLast? = n.head?.map fun x => -x := by
      unfold xn
      rw [last_bk, head_app rne, T.n_head]
    refine str_app (str_app (str_l (str_l (T.eu ▸ T.su))) (T.str_xn j) fun x y hx hy => ?_) (str_bk (str_l (str_l (T.ev ▸ T.sv)))) fun x y hx hy => ?_
    · rw [hh] at hy
      cases e : c.getLast? with
      | none => rw [e] at hy; cases hy
      | some z =>
        rw [e] at hy
        have hy : -z = y := Option.some.inj hy
        have := T.m_a z (-x) (T.m_last.trans e) (by rw [head_bk, hx]; rfl)
        omega
    · rw [last_app xne, hl] at hx
      cases e : n.head? with
      | none => rw [e] at hx; cases hx
      | some z =>
        rw [e] at hx
        have hx : -z = x := Option.some.inj hx
        rw [head_bk] at hy
        cases e2 : b.getLast? with
        | none => rw [e2] at hy; cases hy
        | some w =>
          rw [e2] at hy
          have hy : -w = y := Option.some.inj hy
          have := T.b_n w z e2 e
          omega
  walk_at "end"
theorem Tp.len_p (T : Tp u v a b m c n l k) (j : Nat) : (a ++ xp c k j ++ bk b).length = a.length + j * l + k + b.length := by
  have := T.lc
  have := T.hk
  unfold xp
  rw [List.length_append, List.length_append, List.length_append, rep_len, List.length_take, bk_len, T.lc, Nat.min_eq_left (by omega)]
  omega
theorem Tp.len_n (T : Tp u v a b m c n l k) (j : Nat) : (a ++ xn c k j ++ bk b).length = a.length + j * l + (l - k) + b.length := by
  unfold xn
  rw [List.length_append, List.length_append, bk_len, List.length_append, rep_len, List.length_drop, bk_len, T.lc]
  omega
theorem del1 (x u y : Wk) : Eqv (x ++ (u ++ (bk u ++ y))) (x ++ y) := by
  have := (Eqv.refl x).app ((eqv_bk u).app (Eqv.refl y))
  rwa [List.append_assoc, List.nil_append] at this
theorem del2 (x u y : Wk) : Eqv (x ++ (bk u ++ (u ++ y))) (x ++ y) := by
  have := (Eqv.refl x).app ((eqv_kb u).app (Eqv.refl y))
  rwa [List.append_assoc, List.nil_append] at this
theorem Eqv.of_eq {x y : Wk} (h : x = y) : Eqv x y := h ▸ .refl x
/-- the root of a walk -/
theorem Tp.tn_root (T : Tp u v a b m c n l k) : tn u (a ++ c ++ bk a) = u := by
  have cm2 : ∀ x, m ++ (c ++ x) = c ++ (m ++ x) := fun x => by rw [← List.append_assoc, ← T.cm_c, List.append_assoc]
  have h : Eqv (bk (a ++ c ++ bk a) ++ u ++ (a ++ c ++ bk a)) u := by
    refine (Eqv.of_eq ?_).trans ((del2 (a ++ bk c) a (m ++ bk a ++ a ++ c ++ bk a)).trans ((Eqv.of_eq ?_).trans ((del2 (a ++ bk c ++ m) a (c ++ bk a)).trans ((Eqv.of_eq ?_).trans ((del2 a c (m ++ bk a)).trans (Eqv.of_eq ?_))))))
    · rw [T.eu]; simp [bk_app, bk_bk]
    · simp
    · simp [cm2]
    · rw [T.eu]; simp
  unfold tn
  rw [rd_eq h, rd_str T.su]
theorem tn_back {x o : Wk} (h : Str x) (e : tn x o = x) : tn x (bk o) = x := by
  have := congrArg (fun w => tn w (bk o)) e
  simp only [tn_tn] at this
  rw [tn_eqv (eqv_bk o), tn_nil h] at this
  exact this.symm
/-- forward, it turns the one into the other -/
theorem Tp.tn_p (T : Tp u v a b m c n l k) : tn u (a ++ c.take k ++ bk b) = v := by
  refine Qt.drp ?_ ?_
  · obtain ⟨t, hn⟩ := T.nn
    obtain ⟨t2, hm⟩ := T.rep
    have e : m ++ c.take k = c.take k ++ n := by
      have hk := T.hk
      have lc := T.lc
      rw [T.hn, hm]
      unfold rotn
      rw [List.drop_append_of_le_length (by omega), List.take_append_of_le_length (by omega), ← List.append_assoc, ← List.append_assoc, List.take_append_drop]
    have h : Eqv (bk (a ++ c.take k ++ bk b) ++ u ++ (a ++ c.take k ++ bk b)) v := by
      have e2 : ∀ x, m ++ (c.take k ++ x) = c.take k ++ (n ++ x) := fun x => by rw [← List.append_assoc, e, List.append_assoc]
      refine (Eqv.of_eq ?_).trans ((del2 (b ++ bk (c.take k)) a (m ++ bk a ++ a ++ c.take k ++ bk b)).trans ((Eqv.of_eq ?_).trans ((del2 (b ++ bk (c.take k) ++ m) a (c.take k ++ bk b)).trans ((Eqv.of_eq ?_).trans ((del2 b (c.take k) (n ++ bk b)).trans (Eqv.of_eq ?_))))))
      · rw [T.eu]; simp [bk_app, bk_bk]
      · simp
      · simp [e2]
      · rw [T.ev]; simp
    unfold tn
    rw [rd_eq h, rd_str T.sv]
  walk_at "end"
/-- backward, too -/
theorem Tp.root_n (T : Tp u v a b m c n l k) : Eqv (a ++ bk (c.drop k) ++ bk b) (bk (a ++ c ++ bk a) ++ (a ++ c.take k ++ bk b)) := by
  have e : bk c = bk (c.drop k) ++ bk (c.take k) := by rw [← bk_app, List.take_append_drop]
  refine Eqv.symm ((Eqv.of_eq ?_).trans ((del2 (a ++ bk c) a (c.take k ++ bk b)).trans ((Eqv.of_eq ?_).trans ((del2 (a ++ bk (c.drop k)) (c.take k) (bk b)).trans (Eqv.of_eq ?_)))))
  · simp [bk_app, bk_bk]
  · rw [e]; simp
  · simp
theorem Tp.tn_n (T : Tp u v a b m c n l k) : tn u (a ++ bk (c.drop k) ++ bk b) = v := by
  rw [tn_eqv T.root_n, ← tn_tn, tn_back T.su T.tn_root, T.tn_p]
/-- all that turns the one into the other -/
theorem Tp.all (T : Tp u v a b m c n l k) {w : Wk} (sw : Str w) (h : tn u w = v) : ∃ j, w = rd (a ++ xp c k j ++ bk b) ∨ w = rd (a ++ xn c k j ++ bk b) := by
  refine Qt.drp ?_ ?_
  · obtain ⟨F, hF⟩ : ∃ F, a ++ c.take k ++ bk b = F := ⟨_, rfl⟩
    have hf : tn u F = v := hF ▸ T.tn_p
    have H : Eqv (bk w ++ u ++ w) (bk F ++ u ++ F) := eqv_of_rd (h.trans hf.symm)
    obtain ⟨z0, hz0⟩ : ∃ z0, bk a ++ w ++ bk F ++ a = z0 := ⟨_, rfl⟩
    have K : Eqv (z0 ++ m) (m ++ z0) := fun st r => by
      have r1 := red_run w (red_run (bk a) r)
      have key := H _ r1
      simp only [run_append] at key
      rw [run_inv w (red_run (bk a) r)] at key
      have key2 := congrArg (fun x => run (run x (bk F)) a) key
      rw [run_inv F (red_run u (red_run (bk F) r1))] at key2
      -- m is u between
      have mu : ∀ y, Red y → run y m = run (run (run y (bk a)) u) a := fun y ry => by
        rw [T.eu, run_append, run_append, run_vni a ry, run_vni a (red_run m ry)]
      rw [← hz0]
      simp only [run_append]
      rw [mu _ (red_run a (red_run (bk F) r1)), mu _ r, run_inv a (red_run (bk F) r1), run_inv a (red_run u (red_run (bk a) r))]
      exact key2.symm
    have W : Eqv w (a ++ rd z0 ++ bk a ++ F) := fun st r => by
      simp only [run_append]
      rw [eqv_rd _ z0 rfl _ (red_run a r), ← hz0]
      simp only [run_append]
      rw [run_inv a r, run_inv a (red_run (bk F) (red_run w r)), run_vni F (red_run w r)]
    have com : rd (rd z0 ++ m) = rd (m ++ rd z0) := by rw [rd_app_l, rd_app_r]; exact rd_eq K
    have e1 : w = rd (a ++ rd z0 ++ bk a ++ F) := (rd_str sw).symm.trans (rd_eq W)
    have up : ∀ s, rd (a ++ Fg.rep s c ++ bk a ++ F) = rd (a ++ xp c k s ++ bk b) := fun s => by
      rw [← hF]
      refine rd_eq ((Eqv.of_eq ?_).trans ((del2 (a ++ Fg.rep s c) a (c.take k ++ bk b)).trans (Eqv.of_eq ?_)))
      · simp
      · simp [xp]
    rcases comm_cyc (str_rd z0) T.cm (om_ne T.om) com with h1 | h1
    · obtain ⟨s, hs⟩ := comm_root T.om h1
      rw [T.hc] at hs
      exact ⟨s, .inl (by rw [e1, hs, up])⟩
    · obtain ⟨s, hs⟩ := comm_root T.om h1
      rw [T.hc] at hs
      have hs : rd z0 = bk (Fg.rep s c) := by rw [← hs, bk_bk]
      cases s with
      | zero => exact ⟨0, .inl (by rw [e1, hs, ← up]; rfl)⟩
      | succ s =>
        refine ⟨s, .inr ?_⟩
        rw [e1, hs, ← hF]
        have e : bk (Fg.rep (s + 1) c) = xn c k s ++ bk (c.take k) := by
          unfold xn
          rw [← bk_app, ← List.append_assoc, List.take_append_drop, ← rep_comm]
          rfl
        rw [e]
        refine rd_eq ((Eqv.of_eq ?_).trans ((del2 (a ++ (xn c k s ++ bk (c.take k))) a (c.take k ++ bk b)).trans ((Eqv.of_eq ?_).trans ((del2 (a ++ xn c k s) (c.take k) (bk b)).trans (Eqv.of_eq ?_)))))
        · simp
        · simp
        · simp
  walk_at "end"
/-- the least of all that turn the one into the other -/
structure LeastT (u v f : Wk) : Prop where
  str : Str f
  on : tn u f = v
  le : ∀ g, Str g → tn u g = v → g ≠ f → kl f g = true
theorem Tp.least (T : Tp u v a b m c n l k) {f0 f1 f : Wk} (h0 : f0 = rd (a ++ c.take k ++ bk b)) (h1 : f1 = rd (a ++ bk (c.drop k) ++ bk b)) (hf : (f = f1 ∧ kl f1 f0 = true) ∨ (f = f0 ∧ kl f1 f0 = false)) : LeastT u v f := by
  refine Qt.drp ?_ ?_
  · have l0 : f0.length ≤ a.length + k + b.length := by
      have := rd_len (a ++ c.take k ++ bk b)
      rw [← h0, List.length_append, List.length_append, List.length_take, bk_len] at this
      omega
    have x0 : xp c k 0 = c.take k := rfl
    have y0 : xn c k 0 = bk (c.drop k) := by
      unfold xn
      show bk (c.drop k ++ []) = _
      rw [List.append_nil]
    have e1 : f1 = a ++ xn c k 0 ++ bk b := by rw [y0, h1, ← y0, rd_str (T.str_n 0)]
    have l1 : f1.length = a.length + (l - k) + b.length := by rw [e1, T.len_n]; omega
    have lpos : 1 ≤ l := T.om.pos
    have le0 : ∀ g, kl f0 g = true → kl f g = true := fun g hg => by
      rcases hf with ⟨rfl, h⟩ | ⟨rfl, _⟩
      · exact kl_trans h hg
      · exact hg
    refine ⟨?_, ?_, fun g sg hg ne => ?_⟩
    · rcases hf with ⟨rfl, _⟩ | ⟨rfl, _⟩
      · rw [h1]; exact str_rd _
      · rw [h0]; exact str_rd _
    · rcases hf with ⟨rfl, _⟩ | ⟨rfl, _⟩
      · rw [h1, tn_rd_r]; exact T.tn_n
      · rw [h0, tn_rd_r]; exact T.tn_p
    · obtain ⟨j, hj | hj⟩ := T.all sg hg
      · cases j with
        | zero =>
          have e : g = f0 := by rw [hj, x0, ← h0]
          rcases hf with ⟨rfl, h⟩ | ⟨rfl, _⟩
          · rw [e]; exact h
          · exact absurd e ne
        | succ j =>
          refine le0 g (kl_lt ?_)
          rw [hj, rd_str (T.str_p (.inl (by omega))), T.len_p]
          have : 1 * l ≤ (j + 1) * l := Nat.mul_le_mul_right l (by omega)
          omega
      · cases j with
        | zero =>
          have e : g = f1 := by rw [hj, rd_str (T.str_n 0), ← e1]
          rcases hf with ⟨rfl, _⟩ | ⟨rfl, h⟩
          · exact absurd e ne
          · rw [e] at ne ⊢
            rcases kl_tot ne with z | z
            · rw [h] at z; cases z
            · exact z
        | succ j =>
          have lg : f1.length < g.length := by
            rw [hj, rd_str (T.str_n _), T.len_n, l1]
            have : 1 * l ≤ (j + 1) * l := Nat.mul_le_mul_right l (by omega)
            omega
          have k1 := kl_lt lg
          rcases hf with ⟨rfl, _⟩ | ⟨rfl, h⟩
          · exact k1
          · by_cases c : f1 = f
            · rw [← c]; exact k1
            · rcases kl_tot c with z | z
              · rw [h] at z; cases z
              · exact kl_trans z k1
  walk_at "end"
end
end Fg
namespace L2
open PySem PySem.Spec PyProof.Rows Evl
end L2
namespace L2
open PySem PySem.Spec PyProof.Rows Evl
end L2
namespace Tl
open Od
variable {L : Nat} {T : List (List Int)}
/-- no told walk is the end of a walk -/
def fr (T : List (List Int)) (u : List Int) : Bool := T.all fun t => !decide (t <:+ u)
/-- the steps that may stand behind a walk -/
def nx (L : Nat) (T : List (List Int)) (u : List Int) : List Int := (bh L (lst none u)).filter fun s => fr T (u ++ [s])
/-- how walks go on, in their order -/
def on (L : Nat) (T : List (List Int)) : Nat → List Int → List (List Int)
  | 0, _ => [[]]
  | n + 1, u => (nx L T u).flatMap fun s => (on L T n (u ++ [s])).map (s :: ·)
/-- the ends that matter -/
structure Ends (L : Nat) (T E : List (List Int)) : Prop where
  nil : [] ∈ E
  one : ∀ s ∈ steps L, [s] ∈ E
  init : ∀ u s, u ++ [s] ∈ E → u ∈ E
  told : ∀ u s, u ++ [s] ∈ T → u ∈ E
  st : ∀ u ∈ E, ∀ s ∈ u, s ∈ steps L
end Tl
namespace Tl
open Od
variable {L : Nat} {T : List (List Int)}
/-- the ends that the program keeps -/
structure EndIs (L : Nat) (T E : List (List Int)) : Prop where
  nil : [] ∈ E
  one : ∀ s ∈ steps L, [s] ∈ E
  tk : ∀ t ∈ T, ∀ c, 1 ≤ c → c < t.length → t.take c ∈ E
  is : ∀ e ∈ E, e = [] ∨ (∃ s ∈ steps L, e = [s]) ∨ ∃ t ∈ T, ∃ c, 1 ≤ c ∧ c < t.length ∧ e = t.take c
theorem EndIs.ends {E : List (List Int)} (h : EndIs L T E) (hT : ∀ t ∈ T, G L none t) : Ends L T E := by
  refine Qt.drp ?_ ?_
  · have two : ∀ {t u : List Int} {s : Int} {c : Nat}, t ∈ T → c ≤ t.length → u ++ [s] = t.take c → u ∈ E := fun {t u s c} ht hc e => by
      have hl : u.length + 1 = c := by
        have := congrArg List.length e
        rw [List.length_append, List.length_take, List.length_singleton] at this
        omega
      have e2 : u = t.take (c - 1) := by
        have : u = (u ++ [s]).take u.length := by rw [List.take_left']; rfl
        rw [this, e, List.take_take]
        congr 1
        omega
      rcases Nat.eq_zero_or_pos (c - 1) with z | z
      · rw [e2, z]; exact h.nil
      · rw [e2]; exact h.tk t ht _ z (by omega)
    refine ⟨h.nil, h.one, fun u s hu => ?_, fun u s hu => ?_, fun e he s hs => ?_⟩
    · rcases h.is _ hu with e | ⟨x, _, e⟩ | ⟨t, ht, c, _, c2, e⟩
      · simp at e
      · have : u = [] := by
          have := congrArg List.length e
          rw [List.length_append] at this
          exact List.eq_nil_of_length_eq_zero (by simp at this; exact List.length_eq_zero_iff.mpr this)
        rw [this]; exact h.nil
      · exact two ht (by omega) e
    · exact two hu (Nat.le_refl _) (by rw [List.take_length])
    · rcases h.is _ he with e | ⟨x, hx, e⟩ | ⟨t, ht, c, _, c2, e⟩
      · rw [e] at hs; cases hs
      · rw [e] at hs; rw [List.mem_singleton.mp hs]; exact hx
      · rw [e] at hs
        exact G_mem (hT t ht) s (List.mem_of_mem_take hs)
  walk_at "end"
end Tl
namespace Tl
open Od
variable {L : Nat} {T : List (List Int)}
theorem sub_len {α : Type} [DecidableEq α] : ∀ {l m : List α}, l.Nodup → (∀ x ∈ l, x ∈ m) → l.length ≤ m.length
  | [], _, _, _ => Nat.zero_le _
  | x :: l, m, nd, h => by
    have nd' := List.nodup_cons.mp nd
    have hx := h x List.mem_cons_self
    have := sub_len (m := m.erase x) nd'.2 fun y hy => (List.mem_erase_of_ne (fun e : y = x => nd'.1 (e ▸ hy))).mpr (h y (List.mem_cons_of_mem _ hy))
    rw [List.length_erase_of_mem hx] at this
    have := List.length_pos_of_mem hx
    rw [List.length_cons]
    omega
theorem inj_len {α β : Type} [DecidableEq β] {l : List α} {m : List β} (f : α → β) (nd : l.Nodup) (inj : ∀ x ∈ l, ∀ y ∈ l, f x = f y → x = y) (h : ∀ x ∈ l, f x ∈ m) : l.length ≤ m.length := by
  have nd2 : (l.map f).Nodup := List.pairwise_map.mpr (nd.imp_of_mem fun {a b} ha hb ne e => ne (inj a ha b hb e))
  have := sub_len nd2 fun y hy => by
    obtain ⟨x, hx, rfl⟩ := List.mem_map.mp hy
    exact h x hx
  rwa [List.length_map] at this
end Tl
namespace Tl
open Od
variable {L : Nat} {T : List (List Int)}
/-- the longest end with which a told one begins and goes on -/
def goes (T : List (List Int)) (x : List Int) : Bool := T.any fun t => decide (x.length < t.length) && decide (t.take x.length = x)
end Tl
namespace Fo
open L2 Wb
variable {L n : Nat} {d : Gm} {u v w : List Int}
/-- in one coset of a web -/
def Cb (d : Gm) (u v : List Int) : Prop := Bl d (u ++ Fg.bk v)
theorem Cb.eqv {u' v' : List Int} (h : Cb d u v) (e : Fg.Eqv u u') (f : Fg.Eqv v v') : Cb d u' v' := Bl.eqv h (e.app f.bk)
theorem Cb.refl (u : List Int) : Cb d u u := (bl_nil (d := d)).eqv (Fg.eqv_bk u).symm
theorem Cb.symm (G : Gr L n d) (h : Cb d u v) : Cb d v u := by
  have k := Bl.bk G h
  rw [Fg.bk_app, Fg.bk_bk] at k
  exact k
theorem Cb.trans (G : Gr L n d) (h : Cb d u v) (k : Cb d v w) : Cb d u w := by
  refine (Bl.app G h k).eqv ?_
  have z := ((Fg.Eqv.refl u).app (Fg.eqv_kb v)).app (Fg.Eqv.refl (Fg.bk w))
  rw [List.append_nil] at z
  rw [show u ++ Fg.bk v ++ (v ++ Fg.bk w) = u ++ (Fg.bk v ++ v) ++ Fg.bk w by simp]
  exact z
theorem Cb.step (h : Cb d u v) (s : List Int) : Cb d (u ++ s) (v ++ s) := by
  refine Bl.eqv h ?_
  rw [Fg.bk_app]
  have z := (((Fg.Eqv.refl u).app (Fg.eqv_bk s)).app (Fg.Eqv.refl (Fg.bk v))).symm
  rw [List.append_nil] at z
  rw [show u ++ s ++ (Fg.bk s ++ Fg.bk v) = u ++ (s ++ Fg.bk s) ++ Fg.bk v by simp]
  exact z
theorem eqv_rdl (u : List Int) : Fg.Eqv (Fg.rd u) u := Fg.eqv_rd _ u rfl
/-- straight walks of the letters -/
theorem G_rd (h : ∀ x ∈ u, x ∈ Od.steps L) : Od.G L none (Fg.rd u) := Od.G_of (fun x hx => Od.mem_steps.mp (h x (Fg.mem_rd hx))) (Fg.str_rd u)
end Fo
namespace Fo
open L2 Wb
end Fo
namespace Fo
open L2 Wb
end Fo
namespace Fo
open L2 Wb
end Fo
namespace Hm
open Od Wb
variable {L n : Nat} {d : Gm}
/-- straight walks from a room, each with where it ends -/
def str (L : Nat) (d : Gm) : Nat → Nat → Option Int → List (List Int × Nat)
  | 0, r, _ => [([], r)]
  | k + 1, r, p => (bh L p).flatMap fun s => match d r s with
    | some g => (str L d k g (some s)).map fun x => (s :: x.1, x.2)
    | none => []
/-- one step behind such a walk -/
def ext (L : Nat) (d : Gm) (p : Option Int) (x : List Int × Nat) : List (List Int × Nat) := (bh L (lst p x.1)).flatMap fun s => match d x.2 s with
    | some g => [(x.1 ++ [s], g)]
    | none => []
end Hm
namespace L2
open PySem PySem.Spec PyProof.Rows Evl
end L2
namespace L2
open PySem PySem.Spec PyProof.Rows Evl
end L2
namespace L2
open PySem PySem.Spec PyProof.Rows Evl
end L2
namespace L2
open PySem PySem.Spec PyProof.Rows Evl
end L2
namespace L2
open PySem PySem.Spec PyProof.Rows Evl
end L2
namespace Pm
open PySem PySem.Spec PyProof.Rows L2 Evl
theorem mro_pm : mroOf (Value.type "itertools.permutations") = pure [Value.type "itertools.permutations", Value.type "object"] := by
  rw [mroOf_type]; kernel_rfl
theorem sub_pm : isSubtype (Value.type "itertools.permutations") (Value.type "itertools.permutations") = pure true := by
  rw [isSubtype_type]; kernel_rfl
theorem sub_ob : isSubtype (Value.type "itertools.permutations") (Value.type "object") = pure true := by
  rw [isSubtype_type]; kernel_rfl
theorem look_new : typeLookup (Value.type "itertools.permutations") "__new__" = pure (some (Value.builtin "itertools.permutations.__new__")) := by
  rw [typeLookup_type, builtinLookup_eq_fast]; kernel_rfl
theorem entry_new : entryFor table "itertools.permutations.__new__" = some Builtin.«itertools.permutations.__new__» := entryFor_of_tree (by kernel_rfl)
theorem entry_next : entryFor table "itertools.permutations.__next__" = some Builtin.«itertools.permutations.__next__» := entryFor_of_tree (by kernel_rfl)
theorem entry_iter : entryFor table "itertools.permutations.__iter__" = some Builtin.«dict_keyiterator.__iter__» :=
  entryFor_alias (id' := "dict_keyiterator.__iter__") (by kernel_rfl) (by kernel_rfl) (by decide +kernel) (by kernel_rfl)
theorem slot_iter : Slot "itertools.permutations" "__iter__" "itertools.permutations.__iter__" :=
  Slot.of (n := "__iter__") (by rw [typeLookup_type, builtinLookup_eq_fast]; kernel_rfl) (by decide +kernel) (by decide +kernel) (by decide +kernel) (.inl (by decide +kernel)) sub_pm (by decide +kernel)
theorem slot_next : Slot "itertools.permutations" "__next__" "itertools.permutations.__next__" :=
  Slot.of (n := "__next__") (by rw [typeLookup_type, builtinLookup_eq_fast]; kernel_rfl) (by decide +kernel) (by decide +kernel) (by decide +kernel) (.inl (by decide +kernel)) sub_pm (by decide +kernel)
theorem slot_init : Slot "itertools.permutations" "__init__" "object.__init__" :=
  Slot.of (n := "__init__") (by rw [typeLookup_type, builtinLookup_eq_fast]; kernel_rfl) (by decide +kernel) (by decide +kernel) (by decide +kernel) (.inl (by decide +kernel)) sub_ob (by decide +kernel)
theorem owner : List.lookup (String.ofList "snoitatumrep.slootreti".toList.reverse) Manifest.owners = some Manifest.sig_itertools_permutations := by kernel_rfl
theorem args_iter (a : Value) : argsOk "itertools.permutations.__iter__" ⟨[a], []⟩ := by
  show (match Manifest.signature? "itertools.permutations.__iter__" with | some sig => Bind.checkArgs "itertools.permutations.__iter__" sig ⟨[a], []⟩ | none => pure ()) = pure ()
  rw [signature?_of (n := "__reti__".toList) (o := "snoitatumrep.slootreti".toList) (by decide +kernel) owner]; rfl
theorem args_next (a : Value) : argsOk "itertools.permutations.__next__" ⟨[a], []⟩ := by
  show (match Manifest.signature? "itertools.permutations.__next__" with | some sig => Bind.checkArgs "itertools.permutations.__next__" sig ⟨[a], []⟩ | none => pure ()) = pure ()
  rw [signature?_of (n := "__txen__".toList) (o := "snoitatumrep.slootreti".toList) (by decide +kernel) owner]; rfl
theorem called_pm : TypeCalled "itertools.permutations" "itertools.permutations.__new__" "object.__init__" :=
  { notType := by decide +kernel, canCreate := by decide +kernel, mro := ⟨_, _, mro_pm⟩, made := madeBy_type mro_pm look_new (by decide +kernel), plain := by decide +kernel, sub := sub_pm, init := slot_init }
theorem typeCall_pm (a b : Value) : checkTypeCall "itertools.permutations" ⟨[a, b], []⟩ = pure () := by kernel_rfl
theorem newCall_pm (a b : Value) : checkBuiltinCall "itertools.permutations.__new__" ⟨[.type "itertools.permutations", a, b], []⟩ = pure () := by kernel_rfl
end Pm
namespace Pm
open PySem PySem.Spec PyProof.Rows L2 Evl
def fl (pool : Addr) (st : Int) (r : Nat) (last : Value) (ns : List Nat) : Array Value := (Value.ref pool :: rawInt st :: rawInt (r : Int) :: last :: ns.map fun (n : Nat) => rawInt (n : Int)).toArray
def ob (pool : Addr) (st : Int) (r : Nat) (last : Value) (ns : List Nat) : Obj := { cls := .type "itertools.permutations", data := .fields (fl pool st r last ns) }
def Rec (h : Heap) (it pool : Addr) (st : Int) (r : Nat) (last : Value) (ns : List Nat) : Prop := h.get? it = some (ob pool st r last ns)
def Pool (h : Heap) (pool : Addr) (its : List Value) : Prop := h.get? pool = some { cls := .type "tuple", data := .seq its.toArray }
theorem fl0 {pool st r last ns} : (fl pool st r last ns)[0]? = some (.ref pool) := by simp [fl]
theorem fl1 {pool st r last ns} : (fl pool st r last ns)[1]? = some (rawInt st) := by simp [fl]
theorem fl2 {pool st r last ns} : (fl pool st r last ns)[2]? = some (rawInt r) := by simp [fl]
theorem fl3 {pool st r last ns} : (fl pool st r last ns)[3]? = some last := by simp [fl]
theorem fl_sz {pool st r last ns} : 3 < (fl pool st r last ns).size := by simp [fl]
theorem fl_set1 {pool st st' r last ns} : (fl pool st r last ns).setIfInBounds 1 (rawInt st') = fl pool st' r last ns := by simp [fl]
theorem fl_set3 {pool st r last last' ns} : (fl pool st r last ns).setIfInBounds 3 last' = fl pool st r last' ns := by simp [fl]
theorem fl_ns {pool st r last ns} : (((fl pool st r last ns).toList.drop 4).map fun x => match x with | Value.int n _ => n.toNat | _ => 0) = ns := by
  simp only [fl, List.drop]
  rw [List.map_map]
  conv => rhs; rw [← List.map_id ns]
  exact List.map_congr_left fun n _ => rfl
theorem fl_put {pool st r last} {ns ms : List Nat} : (fl pool st r last ns).extract 0 4 ++ (ms.map fun (n : Nat) => rawInt (n : Int)).toArray = fl pool st r last ms := by simp [fl]
section
variable {prog : Program} {w : World} {A : Around} {E : Value → Shared → Prop} {s : Shared}
theorem int_field {it : Addr} {o : Obj} {vs : Array Value} {i : Nat} {n : Int} {Q : Int → Shared → Prop} (h : s.heap.get? it = some o) (hd : o.data = .fields vs) (hi : vs[i]? = some (rawInt n)) (q : Q n s) :
    wpAny (model prog w) A (Builtin.Itertools.itIntField (.ref it) i) Q E s := by
  unfold Builtin.Itertools.itIntField
  exact wpAny_bind (wpAny_field h hd hi (wpAny_pure q))
theorem pool_items {pool : Addr} {its : List Value} {Q : Array Value → Shared → Prop} (h : Pool s.heap pool its) (q : Q its.toArray s) :
    wpAny (model prog w) A (Builtin.Itertools.itPoolItems (.ref pool)) Q E s := by
  unfold Builtin.Itertools.itPoolItems
  refine wpAny_bind ?_
  refine wpAny_bind (wpAny_load h ?_)
  exact wpAny_pure (wpAny_pure q)
theorem numbers {it pool : Addr} {st : Int} {r : Nat} {last : Value} {ns : List Nat} {Q : List Nat → Shared → Prop} (h : Rec s.heap it pool st r last ns) (q : Q ns s) :
    wpAny (model prog w) A (Builtin.Itertools.itNumbersFrom (.ref it) 4) Q E s := by
  unfold Builtin.Itertools.itNumbersFrom
  refine wpAny_bind (wpAny_load h ?_)
  refine wpAny_pure ?_
  exact Eq.mp (congrArg (fun l => Q l s) (fl_ns (pool := pool) (st := st) (r := r) (last := last) (ns := ns)).symm) q
/-- the tuple that is told, and what is kept of it -/
def told (its : List Value) (r : Nat) (idx : List Nat) : List Value := (idx.take r).map fun i => its.toArray.getD i .none
theorem result {it pool : Addr} {st : Int} {r : Nat} {last : Value} {ns idx : List Nat} {its : List Value} {Q : PySem.Fin → Shared → Prop} (h : Rec s.heap it pool st r last ns) (hr : r ≤ 100)
    (q : ∀ h', Rec h' it pool st r (.ref s.heap.objs.size) ns → h'.get? s.heap.objs.size = some { cls := .type "tuple", data := .seq (told its r idx).toArray } →
      (∀ b o, b ≠ it → s.heap.get? b = some o → h'.get? b = some o) → Q (.done (.ret (.ref s.heap.objs.size))) { s with heap := h' }) :
    wpAny (model prog w) A (do
      let t ← newTuple (List.map (fun i => its.toArray.getD i Value.none) (List.take r idx))
      let before ← field (.ref it) 3
      setField (.ref it) 3 t
      letGo [before] [t]
      ret t) Q E s := by
  have lt : it < s.heap.objs.size := Heap.lt_size h
  have h1 : (s.heap.push { cls := .type "tuple", data := .seq (told its r idx).toArray }).get? it = some (ob pool st r last ns) := Heap.get?_push_of_some _ h
  refine wpAny_bind (wpAny_newTuple (wpAny_bind (wpAny_field h1 rfl fl3 (wpAny_bind (wpAny_setField h1 rfl fl_sz (wpAny_bind (wpAny_letGo ?_)))))) ?_)
  · refine wpAny_pure ?_
    refine q _ ?_ ?_ ?_
    · have := Heap.get?_update_self (Obj.mapFields fun x => x.setIfInBounds 3 (.ref s.heap.objs.size)) h1 rfl
      refine Eq.trans this ?_
      simp only [Obj.mapFields, ob, fl_set3]
    · refine (Heap.get?_update_ne _ _ _ _ (Nat.ne_of_gt lt)).trans ?_
      exact Heap.get?_push_size s.heap rfl
    · intro b o hb e
      refine (Heap.get?_update_ne _ _ _ _ hb).trans ?_
      exact Heap.get?_push_of_some _ e
  · show (List.map _ (List.take r idx)).length ≤ sizeLine
    rw [List.length_map, List.length_take]
    exact Nat.le_trans (Nat.le_trans (Nat.min_le_left _ _) hr) (by rw [sizeLine_eq]; decide)
set_option maxHeartbeats 1000000 in
theorem fresh {it pool : Addr} {r : Nat} {last : Value} {ns : List Nat} {its : List Value} {Q : Option Value → Shared → Prop} (h : Rec s.heap it pool 0 r last ns) (hp : Pool s.heap pool its) (hr : r ≤ 100)
    (q : ∀ h', Rec h' it pool 1 r (.ref s.heap.objs.size) ns → h'.get? s.heap.objs.size = some { cls := .type "tuple", data := .seq (told its r ns).toArray } →
      (∀ b o, b ≠ it → s.heap.get? b = some o → h'.get? b = some o) → Q (some (.ref s.heap.objs.size)) { s with heap := h' }) :
    wpAny (model prog w) A (callSpecial? (.ref it) "__next__") Q E s := by
  have hT : s.TypeIs (.ref it) "itertools.permutations" := ⟨_, h, rfl⟩
  refine wpAny_callSpecial?_slot hT slot_next (wpAny_call_entry slot_next hT entry_next ?_ (args_next _))
  show wpAny _ _ (Builtin.«itertools.permutations.__next__» ⟨[.ref it], []⟩) _ _ _
  unfold Builtin.«itertools.permutations.__next__»
  rw [show slotArgs "__next__" 0 ⟨[.ref it], []⟩ = pure (Value.ref it, []) from rfl]
  refine wpAny_bind (wpAny_pure ?_)
  refine wpAny_bind (wpAny_field h rfl fl0 (wpAny_bind (pool_items hp (wpAny_bind (int_field h rfl fl2 (wpAny_bind (numbers h (wpAny_bind (int_field h rfl fl1 ?_)))))))))
  refine wpAny_bind (wpAny_setField h rfl (Nat.lt_of_lt_of_le (by decide) fl_sz) ?_)
  have h1 : Rec (s.heap.update it (Obj.mapFields fun x => x.setIfInBounds 1 (rawInt 1))) it pool 1 r last ns := by
    have := Heap.get?_update_self (Obj.mapFields fun x => x.setIfInBounds 1 (rawInt 1)) h rfl
    refine Eq.trans this ?_
    simp only [Obj.mapFields, ob, fl_set1]
  have sz : (s.heap.update it (Obj.mapFields fun x => x.setIfInBounds 1 (rawInt 1))).objs.size = s.heap.objs.size := (Heap.SameBut.update _ _ _).1
  have R := result (prog := prog) (w := w) (A := A.in1) (E := E) (s := { s with heap := s.heap.update it (Obj.mapFields fun x => x.setIfInBounds 1 (rawInt 1)) }) (idx := ns) (its := its) (Q := fun fin s' => ∃ v, fin = Fin.done (Flow.ret v) ∧ Q (some v) s') h1 hr
  simp only [sz] at R
  refine R fun h' a b c => ⟨_, rfl, q h' a b fun x o hx e => c x o hx ?_⟩
  rw [Heap.get?_update_ne _ _ _ _ hx]
  exact e
end
end Pm
namespace Pm
open PySem PySem.Spec PyProof.Rows L2 Evl
section
variable {prog : Program} {w : World} {A : Around} {E : Value → Shared → Prop} {s : Shared}
theorem stop {α : Type} {Q : α → Shared → Prop} (hh : A.handled = none) (q : ∀ e h', CpRep.StopE e h' → (∀ b o, s.heap.get? b = some o → h'.get? b = some o) → E e { s with heap := h' }) :
    wpAny (model prog w) A (Builtin.Itertools.itStop (α := α)) Q E s := by
  unfold Builtin.Itertools.itStop newExc
  refine wpAny_bind (wpAny_bind (wpAny_newTuple (wpAny_bind (wpAny_of_eq (show firstArgMember (Value.type "StopIteration") [] = pure Value.none from rfl) (wpAny_newObj_type ?_ ?_))) ?_))
  · unfold raiseNew
    refine wpAny_bind (wpAny_handled ?_)
    rw [show A.handled = none from hh]
    refine wpAny_bind (wpAny_pure (wpAny_throw (q _ _ ⟨_, _, _, rfl, Heap.get?_push_size _ rfl, rfl, rfl, rfl⟩ fun b o e => Heap.get?_push_of_some _ (Heap.get?_push_of_some _ e))))
  · exact sizeOk_excFields _ _ _ _ _ _ _ _
  · rw [sizeLine_eq]; decide
theorem next_none {it : Addr} {Q : Option Value → Shared → Prop} (h : wpAny (model prog w) A (callSpecial? (.ref it) "__next__") (fun _ _ => False) (fun e s' => CpRep.StopE e s'.heap ∧ Q none s') s) :
    wpAny (model prog w) A (pyNext (.ref it)) Q E s := by
  unfold pyNext
  refine wpAny_bind (wpAny_attempt (wpAny_mono h (fun _ _ z => z.elim) fun e s' p => ?_))
  obtain ⟨⟨a, o, vs, rfl, ha, hc, hd, _⟩, q⟩ := p
  dsimp only
  refine wpAny_bind (wpAny_isInstance (T := "StopIteration") (b := true) ⟨o, ha, hc⟩ (by rw [isSubtype_type]; kernel_rfl) ?_)
  exact wpAny_pure q
theorem next_some {it : Addr} {Q : Option Value → Shared → Prop} (h : wpAny (model prog w) A (callSpecial? (.ref it) "__next__") (fun o s' => ∃ v, o = some v ∧ Q (some v) s') (fun _ _ => False) s) :
    wpAny (model prog w) A (pyNext (.ref it)) Q E s := by
  unfold pyNext
  refine wpAny_bind (wpAny_attempt (wpAny_mono h (fun o s' z => ?_) fun e s' p => p.elim))
  obtain ⟨v, rfl, q⟩ := z
  exact wpAny_pure q
end
/-- how a state goes on -/
abbrev Nx := Nat → Nat → List Nat → List Nat → Option (List Nat × List Nat)
/-- the states from one on -/
def sts (f : Nx) (n r : Nat) : Nat → List Nat → List Nat → List (List Nat)
  | 0, _, _ => []
  | k + 1, idx, cyc => (idx ++ cyc) :: match f n r idx cyc with
    | some (i, c) => sts f n r k i c
    | none => []
def cyc0 (n r : Nat) : List Nat := (List.range r).map fun i => n - i
/-- each state of few things -/
def all (f : Nx) (n r : Nat) : List (List Nat) := sts f n r 130 (List.range n) (cyc0 n r)
def tup (r : Nat) (st : List Nat) : List Nat := st.take r
/-- all of r of n things in a row -/
def rows (n : Nat) : Nat → List (List Nat)
  | 0 => [[]]
  | r + 1 => (rows n r).flatMap fun l => ((List.range n).filter fun x => !l.contains x).map fun x => l ++ [x]
def good (f : Nx) (n r : Nat) : Bool :=
  let l := all f n r
  decide (l.length ≤ 120) && l.all (fun st => decide (st.length = n + r)) && l.all (fun st => (rows n r).contains (tup r st)) && (rows n r).all (fun t => (l.map (tup r)).contains t)
    && (List.range l.length).all (fun i => match l[i]? with
      | some st => match f n r (st.take n) (st.drop n), l[i + 1]? with
        | some (a, c), some st' => (a ++ c == st') && decide (a.length = n)
        | none, none => true
        | _, _ => false
      | none => false)
structure Facts (f : Nx) : Prop where
  goes : ∀ n < 6, ∀ r < 6, r ≤ n → 0 < r → good f n r = true
  more : ∀ {prog : Program} {w : World} {A : Around} {E : Value → Shared → Prop} {s : Shared} {it pool : Addr} {r : Nat} {last : Value} {ns i c : List Nat} {its : List Value} {Q : Option Value → Shared → Prop}, Rec s.heap it pool 1 r last ns → Pool s.heap pool its → r ≤ 100 →
    f its.length r (ns.take its.length) (ns.drop its.length) = some (i, c) → (i ++ c).length ≤ 200 →
    (∀ h', Rec h' it pool 1 r (.ref s.heap.objs.size) (i ++ c) → h'.get? s.heap.objs.size = some { cls := .type "tuple", data := .seq (told its r i).toArray } →
      (∀ b o, b ≠ it → s.heap.get? b = some o → h'.get? b = some o) → Q (some (.ref s.heap.objs.size)) { s with heap := h' }) →
    wpAny (model prog w) A (callSpecial? (.ref it) "__next__") Q E s
  ends : ∀ {prog : Program} {w : World} {A : Around} {E : Value → Shared → Prop} {s : Shared} {it pool : Addr} {r : Nat} {last : Value} {ns : List Nat} {its : List Value} {Q : Option Value → Shared → Prop}, Rec s.heap it pool 1 r last ns → Pool s.heap pool its →
    f its.length r (ns.take its.length) (ns.drop its.length) = none → A.handled = none →
    (∀ e h', CpRep.StopE e h' → (∀ b o, b ≠ it → s.heap.get? b = some o → h'.get? b = some o) → E e { s with heap := h' }) →
    wpAny (model prog w) A (callSpecial? (.ref it) "__next__") Q E s
theorem put_ok {pool : Addr} {st : Int} {r : Nat} {last : Value} {ns ms : List Nat} (hl : ms.length ≤ 200) : ((fl pool st r last ns).extract 0 4 ++ (ms.map fun (n : Nat) => rawInt (n : Int)).toArray).size ≤ sizeLine + 3 := by
  rw [fl_put]
  simp only [fl, List.size_toArray, List.length_cons, List.length_map, sizeLine_eq]
  omega
theorem facts : ∃ f, Facts f := by
  refine Qt.drp ?_ ?_
  · apply Exists.intro
    apply Facts.mk
    case more =>
      intro prog w A E s it pool r last ns i c its Q h hp hr hf hl q
      have hT : s.TypeIs (.ref it) "itertools.permutations" := ⟨_, h, rfl⟩
      refine wpAny_callSpecial?_slot hT slot_next (wpAny_call_entry slot_next hT entry_next ?_ (args_next _))
      show wpAny _ _ (Builtin.«itertools.permutations.__next__» ⟨[.ref it], []⟩) _ _ _
      unfold Builtin.«itertools.permutations.__next__»
      rw [show slotArgs "__next__" 0 ⟨[.ref it], []⟩ = pure (Value.ref it, []) from rfl]
      refine wpAny_bind (wpAny_pure ?_)
      refine wpAny_bind (wpAny_field h rfl fl0 (wpAny_bind (pool_items hp (wpAny_bind (int_field h rfl fl2 (wpAny_bind (numbers h (wpAny_bind (int_field h rfl fl1 ?_)))))))))
      dsimp only
      split
      · rename_i e; exact absurd e (by decide)
      · split
        · rename_i x a b e
          have z := hf.symm.trans e
          cases z
          refine wpAny_bind ?_
          unfold Builtin.Itertools.itSetNumbersFrom
          refine wpAny_updateFields h rfl ?_ (put_ok hl)
          have h1 : Rec (s.heap.update it (Obj.mapFields fun fs => fs.extract 0 4 ++ ((i ++ c).map fun (n : Nat) => rawInt (n : Int)).toArray)) it pool 1 r last (i ++ c) := by
            have := Heap.get?_update_self (Obj.mapFields fun fs => fs.extract 0 4 ++ ((i ++ c).map fun (n : Nat) => rawInt (n : Int)).toArray) h rfl
            refine Eq.trans this ?_
            simp only [Obj.mapFields, ob, fl_put]
          have sz : (s.heap.update it (Obj.mapFields fun fs => fs.extract 0 4 ++ ((i ++ c).map fun (n : Nat) => rawInt (n : Int)).toArray)).objs.size = s.heap.objs.size := (Heap.SameBut.update _ _ _).1
          have R := result (prog := prog) (w := w) (A := A.in1) (E := E) (s := { s with heap := s.heap.update it (Obj.mapFields fun fs => fs.extract 0 4 ++ ((i ++ c).map fun (n : Nat) => rawInt (n : Int)).toArray) }) (idx := i) (its := its) (Q := fun fin s' => ∃ v, fin = Fin.done (Flow.ret v) ∧ Q (some v) s') h1 hr
          simp only [sz] at R
          refine R fun h' a b c => ⟨_, rfl, q h' a b fun x o hx e => c x o hx ?_⟩
          rw [Heap.get?_update_ne _ _ _ _ hx]
          exact e
        · rename_i x e
          exact nomatch hf.symm.trans e
      · rename_i b; exact (b rfl).elim
    case ends =>
      intro prog w A E s it pool r last ns its Q h hp hf hh q
      have hT : s.TypeIs (.ref it) "itertools.permutations" := ⟨_, h, rfl⟩
      refine wpAny_callSpecial?_slot hT slot_next (wpAny_call_entry slot_next hT entry_next ?_ (args_next _))
      show wpAny _ _ (Builtin.«itertools.permutations.__next__» ⟨[.ref it], []⟩) _ _ _
      unfold Builtin.«itertools.permutations.__next__»
      rw [show slotArgs "__next__" 0 ⟨[.ref it], []⟩ = pure (Value.ref it, []) from rfl]
      refine wpAny_bind (wpAny_pure ?_)
      refine wpAny_bind (wpAny_field h rfl fl0 (wpAny_bind (pool_items hp (wpAny_bind (int_field h rfl fl2 (wpAny_bind (numbers h (wpAny_bind (int_field h rfl fl1 ?_)))))))))
      dsimp only
      split
      · rename_i e; exact absurd e (by decide)
      · split
        · rename_i x a b e
          exact nomatch hf.symm.trans e
        · refine wpAny_bind (wpAny_setField h rfl (Nat.lt_of_lt_of_le (by decide) fl_sz) (stop (by exact hh) fun e h' a b => q e h' a fun x o hx g => b x o ?_))
          refine (Heap.get?_update_ne _ _ _ _ hx).trans g
      · rename_i b; exact (b rfl).elim
    case goes => decide +kernel
  walk_at "end"
end Pm
namespace Pm
open PySem PySem.Spec PyProof.Rows L2 Evl
theorem bind_named (a b : Value) : Builtin.Itertools.itBindNamed "permutations" ["iterable", "r"] 1 2 [a, b] [] = pure [some a, some b] := by
  kernel_rfl
theorem is_type : isType (Value.type "itertools.permutations") = pure true := by
  first | rfl | kernel_rfl
theorem class_rest (l : List Value) : Builtin.Itertools.itClassAndRest "permutations" ⟨.type "itertools.permutations" :: l, []⟩ = pure (.type "itertools.permutations", l) := by
  unfold Builtin.Itertools.itClassAndRest
  dsimp only
  rw [is_type]
  have e : ("itertools." ++ "permutations" : String) = "itertools.permutations" := by decide
  rw [e, sub_pm]
  rfl
theorem no_dict : typeHasDict (Value.type "itertools.permutations") = false := by first | rfl | decide +kernel | kernel_rfl
/-- a pool of the numbers below n -/
def Nums (its : List Value) (n : Nat) : Prop := its.length = n ∧ ∀ i < n, ∃ t, its[i]? = some (Value.int (i : Int) t)
theorem small6 : ∀ n : Nat, n < 6 → Builtin.Range.small 0 n 1 = true ∧ Builtin.Range.rangeSize 0 n 1 = n := by decide
theorem new_meets {a : Addr} {t u v q : Tok} {n r : Nat} (hn : n ≤ 5) (hr : r ≤ n) :
    Meets (Builtin.«itertools.permutations.__new__» ⟨[.type "itertools.permutations", .ref a, .int r q], []⟩) (fun A R s => A.handled = none ∧ IsRange s.heap a 0 n 1 t u v ∧
      ∀ (h1 : Heap) (tk : Nat), (∀ b o, s.heap.get? b = some o → h1.get? b = some o) → ∀ (h' : Heap) (it pool : Addr) (its : List Value), Rec h' it pool 0 r .none (List.range n ++ cyc0 n r) → Pool h' pool its → Nums its n → h1.objs.size ≤ it → h1.objs.size ≤ pool → pool ≠ it → (∀ b o, h1.get? b = some o → h'.get? b = some o) → R (.ok (.ret (.ref it))) { s with heap := h', toks := tk }) := by
  refine Qt.drp ?_ ?_
  · intro prog w A R s ⟨hh, hR, h⟩
    obtain ⟨sm1, sm2⟩ := small6 n (by omega)
    unfold Builtin.«itertools.permutations.__new__»
    rw [class_rest]
    refine wpAny_bind (wpAny_pure ?_)
    dsimp only
    rw [bind_named]
    refine wpAny_bind (wpAny_pure ?_)
    dsimp only
    refine wpAny_bind (collect_range (n := n) (by exact hh) hR sm1 sm2 (Nat.le_trans hn (by decide)) fun h1 tk acc k1 hI => ?_)
    have hl : acc.toList.length = n := by
      have := hI.1
      simpa using this
    dsimp only [Option.getD]
    refine wpAny_bind (wpAny_holding (wpAny_bind (wpAny_pure ?_)))
    dsimp only
    have r5 : r ≤ 5 := Nat.le_trans hr hn
    have c1 : (decide ((r : Int) < -2 ^ 63) || decide ((r : Int) ≥ 2 ^ 63)) = false := by
      rw [Bool.or_eq_false_iff, decide_eq_false_iff_not, decide_eq_false_iff_not]
      omega
    rw [c1]
    refine wpAny_pure ?_
    have c2 : ¬ ((r : Int) < 0) := by omega
    rw [if_neg c2]
    have c3 : Builtin.Itertools.itTooMany (r : Int) = false := by
      unfold Builtin.Itertools.itTooMany
      rw [decide_eq_false_iff_not]
      omega
    rw [c3, if_neg (by decide)]
    have c4 : ((r : Int)).toNat = r := rfl
    rw [c4, hl, if_neg (show ¬ r > n by omega)]
    refine wpAny_bind (wpAny_newTuple (wpAny_bind ?_) ?_)
    · unfold Builtin.Itertools.itNewRecord
      rw [no_dict, if_pos (show (!false) = true from rfl)]
      refine wpAny_newObj_type ?_ ?_
      · refine wpAny_pure ?_
        have e2 : List.map (fun (i : Nat) => rawInt ((n : Int) - (i : Int))) (List.range r) = List.map (fun (i : Nat) => rawInt (i : Int)) (cyc0 n r) := by
          unfold cyc0
          rw [List.map_map]
          refine List.map_congr_left fun i hi => ?_
          have := List.mem_range.mp hi
          show rawInt ((n : Int) - (i : Int)) = rawInt ((n - i : Nat) : Int)
          exact congrArg rawInt (Int.ofNat_sub (Nat.le_of_lt (Nat.lt_of_lt_of_le this hr))).symm
        have e : ([Value.ref h1.objs.size, rawInt 0, rawInt (r : Int), Value.none] ++ List.map (fun (i : Nat) => rawInt (i : Int)) (List.range n) ++ List.map (fun (i : Nat) => rawInt ((n : Int) - (i : Int))) (List.range r)).toArray = fl h1.objs.size 0 r .none (List.range n ++ cyc0 n r) := by
          unfold fl
          rw [e2, List.map_append]
          rfl
        have z1 : (h1.push { cls := .type "tuple", data := .seq acc.toList.toArray }).objs.size = h1.objs.size + 1 := Heap.size_push ..
        refine h h1 tk k1 _ _ h1.objs.size acc.toList ?_ ?_ ⟨hl, fun i hi => ?_⟩ ?_ (Nat.le_refl _) ?_ fun b o z => Heap.get?_push_of_some _ (Heap.get?_push_of_some _ z)
        · unfold Rec ob
          rw [← e]
          exact Heap.get?_push_size _ rfl
        · exact Heap.get?_push_of_some _ (Heap.get?_push_size _ rfl)
        · have hi' : i < acc.toList.length := by rw [hl]; exact hi
          have z := List.getElem?_eq_getElem hi'
          obtain ⟨t, ht⟩ := hI.2 i _ (Array.getElem?_toList.symm.trans z)
          refine ⟨t, z.trans ?_⟩
          rw [ht]
          have e3 : (0 : Int) + (i : Int) * 1 = (i : Int) := by simp
          rw [e3]
        · show h1.objs.size ≤ (h1.push _).objs.size
          rw [z1]; exact Nat.le_succ _
        · show h1.objs.size ≠ (h1.push _).objs.size
          rw [z1]; exact Nat.ne_of_lt (Nat.lt_succ_self _)
      · show sizeOk (.fields _)
        unfold sizeOk
        simp [sizeLine_eq]
        omega
    · rw [hl, sizeLine_eq]; omega
  walk_at "end"
section
variable {prog : Program} {w : World} {A : Around} {E : Value → Shared → Prop} {s : Shared}
theorem perm_call {a : Addr} {t u v q : Tok} {n r : Nat} {Q : Value → Shared → Prop} (hn : n ≤ 5) (hr : r ≤ n) (hh : A.handled = none) (hR : IsRange s.heap a 0 n 1 t u v)
    (h : ∀ (h1 : Heap) (tk : Nat), (∀ b o, s.heap.get? b = some o → h1.get? b = some o) → ∀ (h' : Heap) (it pool : Addr) (its : List Value), Rec h' it pool 0 r .none (List.range n ++ cyc0 n r) → Pool h' pool its → Nums its n → h1.objs.size ≤ it → h1.objs.size ≤ pool → pool ≠ it → (∀ b o, h1.get? b = some o → h'.get? b = some o) → Q (.ref it) { s with heap := h', toks := tk }) :
    wpAny (model prog w) A (call (.type "itertools.permutations") [.ref a, .int r q]) Q E s := by
  refine callType_new called_pm (by decide) (typeCall_pm _ _) (newCall_pm _ _) (fun ob => F.args_object_init_3 ob _ _) entry_new (new_meets (t := t) (u := u) (v := v) hn hr) ⟨by exact hh, hR, ?_⟩
  intro h1 tk k1 h' it pool its a1 a2 a3 a4 a5 a6 a7
  exact ⟨⟨_, a1, rfl⟩, h h1 tk k1 h' it pool its a1 a2 a3 a4 a5 a6 a7⟩
theorem perm_iter {it pool : Addr} {st : Int} {r : Nat} {last : Value} {ns : List Nat} {Q : Value → Shared → Prop} (h : Rec s.heap it pool st r last ns) (q : Q (.ref it) s) :
    wpAny (model prog w) A (pyIter (.ref it)) Q E s := by
  have hT : s.TypeIs (.ref it) "itertools.permutations" := ⟨_, h, rfl⟩
  refine wpAny_pyIter_slot hT slot_iter (wpAny_call_entry slot_iter hT entry_iter ?_ (args_iter _))
  exact wpAny_pure ⟨.ref it, rfl, "itertools.permutations", .builtin "itertools.permutations.__next__", hT, slot_next.lookup, q⟩
end
end Pm
namespace Pm
open PySem PySem.Spec PyProof.Rows L2 Evl
noncomputable def nx : Nx := facts.choose
theorem nxF : Facts nx := facts.choose_spec
/-- the rows of r of n, in the sequence in which they are told -/
noncomputable def prm (n r : Nat) : List (List Nat) := (all nx n r).map (tup r)
structure Good (n r : Nat) : Prop where
  len : (all nx n r).length ≤ 120
  size : ∀ st ∈ all nx n r, st.length = n + r
  row : ∀ st ∈ all nx n r, tup r st ∈ rows n r
  every : ∀ t ∈ rows n r, t ∈ prm n r
  step : ∀ i st, (all nx n r)[i]? = some st → (∃ a c st', nx n r (st.take n) (st.drop n) = some (a, c) ∧ (all nx n r)[i + 1]? = some st' ∧ a ++ c = st' ∧ a.length = n) ∨ (nx n r (st.take n) (st.drop n) = none ∧ (all nx n r)[i + 1]? = none)
theorem good_of {n r : Nat} (hn : n ≤ 5) (hr : r ≤ n) (h0 : 0 < r) : Good n r := by
  refine Qt.drp ?_ ?_
  · have g := nxF.goes n (by omega) r (by omega) hr h0
    unfold good at g
    simp only [Bool.and_eq_true, decide_eq_true_eq, List.all_eq_true] at g
    obtain ⟨⟨⟨⟨g1, g2⟩, g3⟩, g4⟩, g5⟩ := g
    refine ⟨g1, fun st h => g2 st h, fun st h => by simpa using g3 st h, fun t h => by simpa [prm] using g4 t h, fun i st h => ?_⟩
    have hi : i < (all nx n r).length := (List.getElem?_eq_some_iff.mp h).1
    have z := g5 i (List.mem_range.mpr hi)
    rw [h] at z
    dsimp only at z
    cases e1 : nx n r (st.take n) (st.drop n) with
    | none =>
      rw [e1] at z
      cases e2 : (all nx n r)[i + 1]? with
      | none => exact .inr ⟨rfl, rfl⟩
      | some st' => rw [e2] at z; exact nomatch z
    | some q =>
      obtain ⟨a, c⟩ := q
      rw [e1] at z
      cases e2 : (all nx n r)[i + 1]? with
      | none => rw [e2] at z; exact nomatch z
      | some st' =>
        rw [e2] at z
        simp only [Bool.and_eq_true, decide_eq_true_eq, beq_iff_eq] at z
        exact .inl ⟨a, c, st', rfl, rfl, z.1, z.2⟩
  walk_at "end"
theorem all_first {f : Nx} {n r : Nat} : (all f n r)[0]? = some (List.range n ++ cyc0 n r) := by
  unfold all sts
  rfl
theorem row_lt : ∀ {n r : Nat} {t : List Nat}, t ∈ rows n r → t.length = r ∧ t.Nodup ∧ ∀ x ∈ t, x < n
  | n, 0, t, h => by
    have : t = [] := by simpa [rows] using h
    subst this
    exact ⟨rfl, .nil, fun x h => nomatch h⟩
  | n, r + 1, t, h => by
    simp only [rows, List.mem_flatMap, List.mem_map, List.mem_filter, List.mem_range] at h
    obtain ⟨l, hl, x, ⟨hx, hc⟩, rfl⟩ := h
    obtain ⟨a, b, c⟩ := row_lt hl
    have nx' : x ∉ l := by simpa using hc
    refine ⟨by simp [a], ?_, fun y hy => ?_⟩
    · rw [List.nodup_append]
      exact ⟨b, by simp, fun y hy z hz => by
        have : z = x := by simpa using hz
        subst this
        exact fun e => nx' (e ▸ hy)⟩
    · rcases List.mem_append.mp hy with h | h
      · exact c y h
      · have : y = x := by simpa using h
        exact this ▸ hx
theorem row_of {n : Nat} (t : List Nat) : t.Nodup → (∀ x ∈ t, x < n) → t ∈ rows n t.length := by
  refine Qt.drp ?_ ?_
  · skip
    have H : ∀ (k : Nat) (t : List Nat), t.length = k → t.Nodup → (∀ x ∈ t, x < n) → t ∈ rows n k := by
      intro k
      induction k with
      | zero => intro t h _ _; rw [List.length_eq_zero_iff.mp h]; simp [rows]
      | succ k ih =>
        intro t h hn hx
        have ne : t ≠ [] := by intro e; rw [e] at h; cases h
        have et := List.dropLast_concat_getLast ne
        have hl : t.dropLast.length = k := by rw [List.length_dropLast, h]; rfl
        rw [← et] at hn hx ⊢
        rw [List.nodup_append] at hn
        simp only [rows, List.mem_flatMap, List.mem_map, List.mem_filter, List.mem_range]
        refine ⟨t.dropLast, ih _ hl hn.1 (fun x h => hx x (List.mem_append_left _ h)), t.getLast ne, ⟨hx _ (by simp), ?_⟩, rfl⟩
        have : t.getLast ne ∉ t.dropLast := fun h => hn.2.2 _ h _ (by simp) rfl
        simpa using this
    exact H t.length t rfl
  walk_at "end"
theorem prm_get {n r i : Nat} {t : List Nat} (G : Good n r) (h : (prm n r)[i]? = some t) : ∃ st, (all nx n r)[i]? = some st ∧ t = tup r st ∧ t ∈ rows n r := by
  unfold prm at h
  rw [List.getElem?_map] at h
  cases e : (all nx n r)[i]? with
  | none => rw [e] at h; cases h
  | some st =>
    rw [e] at h
    cases h
    exact ⟨st, rfl, rfl, G.row st (List.mem_of_getElem? e)⟩
theorem told_vals {its : List Value} {n r : Nat} {idx : List Nat} (h : Nums its n) (hx : ∀ x ∈ idx.take r, x < n) : Vals ((idx.take r).map fun (x : Nat) => V.int (x : Int)) (told its r idx) := by
  unfold told
  generalize idx.take r = l at hx
  induction l with
  | nil => exact .nil
  | cons x l ih =>
    obtain ⟨t, ht⟩ := h.2 x (hx x (by simp))
    refine .cons ?_ (ih fun y hy => hx y (List.mem_cons_of_mem _ hy))
    obtain ⟨hl, hv⟩ := List.getElem?_eq_some_iff.mp ht
    have e : its.toArray.getD x .none = Value.int (x : Int) t := by simp [Array.getD, hl, hv]
    show L2.RelV (V.int (x : Int)) (its.toArray.getD x .none)
    rw [e]
    exact ⟨t, rfl⟩
/-- rows of r of n, each a new tuple -/
noncomputable def ItP (n r : Nat) : It where
  go := fun i _ => i < (prm n r).length
  yld := fun i H v H' => ∃ T t, v = .ref T ∧ H T = none ∧ H' = upd H T (.tup (t.map fun (x : Nat) => V.int (x : Int))) ∧ (prm n r)[i]? = some t ∧ t ∈ rows n r
  stop := fun i _ => i = (prm n r).length
def At (n r : Nat) (it pool : Addr) (its : List Value) (i : Nat) (h : Heap) : Prop :=
  ((i = 0 ∧ Rec h it pool 0 r .none (List.range n ++ cyc0 n r)) ∨ ∃ j st last, i = j + 1 ∧ (all nx n r)[j]? = some st ∧ Rec h it pool 1 r last st) ∧ Pool h pool its
theorem At.one {n r : Nat} {it pool : Addr} {its : List Value} {i : Nat} {h : Heap} (t : At n r it pool its i h) : ∃ o, h.get? it = some o ∧ ∀ v, o.data ≠ Data.cell v := by
  obtain ⟨⟨_, a⟩ | ⟨j, st, last, _, _, a⟩, _⟩ := t
  · exact ⟨_, a, fun v q => nomatch q⟩
  · exact ⟨_, a, fun v q => nomatch q⟩
theorem turn_perm {P : Program} {w : World} {K : PySem.W.Frag} {y : Str} {yp : Pos} {n r : Nat} {it pool : Addr} {its : List Value} (G : Good n r) (hN : Nums its n) (hne : pool ≠ it) (hn : n ≤ 5) (hr : r ≤ n) :
    Turn P w K (.Name y yp) (ItP n r) [it, pool] it (At n r it pool its) where
  mem := List.mem_cons_self ..
  obj := by
    intro i h t b hb
    rcases List.mem_cons.mp hb with z | hb
    · subst z; exact t.one
    · cases List.mem_singleton.mp hb
      exact ⟨_, t.2, fun v q => nomatch q⟩
  keep := by
    rintro i h h' ⟨a, p⟩ q
    have q1 := q it (by simp)
    refine ⟨?_, q pool (by simp) _ p⟩
    rcases a with ⟨e, a⟩ | ⟨j, st, last, e, g, a⟩
    · exact .inl ⟨e, q1 _ a⟩
    · exact .inr ⟨j, st, last, e, g, q1 _ a⟩
  item := by
    intro X hP hw hK hc i pins s σ H E I hf st hg
    cases hP; cases hw; cases hK
    have il : it < s.heap.objs.size := by obtain ⟨o, z, _⟩ := st.one; exact Heap.lt_size z
    have pl : pool < s.heap.objs.size := Heap.lt_size st.2
    obtain ⟨t, ht⟩ : ∃ t, (prm n r)[i]? = some t := ⟨_, List.getElem?_eq_getElem hg⟩
    obtain ⟨st1, g1, g2, g3⟩ := prm_get G ht
    have lt1 := (row_lt g3).2.2
    have key : ∀ h' last, Rec h' it pool 1 r last st1 → h'.get? s.heap.objs.size = some { cls := .type "tuple", data := .seq (told its r st1).toArray } → (∀ b o, b ≠ it → s.heap.get? b = some o → h'.get? b = some o) →
        ∃ v, some (Value.ref s.heap.objs.size) = some v ∧ ∃ u, some v = some u ∧ wpAny (model X.prog X.w) X.A (letOwnedTupleGo (.Name y yp) (Value.ref it) u)
          (fun x s2 => ∃ x H', L2.Inv X pins σ H' s2 ∧ L2.RelV x u ∧ (ItP n r).yld i H x H' ∧ At n r it pool its (i + 1) s2.heap ∧ ∀ b ∈ [it, pool], H' b = none) E { s with heap := h' } := by
      intro h' last a b c
      refine ⟨_, rfl, _, rfl, wpAny_pure ?_⟩
      have T0 : H s.heap.objs.size = none := I.hok.fresh (Nat.le_refl _)
      refine ⟨.ref s.heap.objs.size, _, I.pairNew (tk := s.toks) (ch := [it]) (T := s.heap.objs.size) (xs := t.map fun (x : Nat) => V.int (x : Int)) (fun b' o hb e => c b' o (by simpa using hb) e) (fun b' hb => hf b' (by rw [List.mem_singleton.mp hb]; simp)) (Nat.le_refl _) ?_ (by rw [g2]; exact told_vals hN (by rw [← (show tup r st1 = st1.take r from rfl), ← g2]; exact lt1)) ⟨_, b, rfl, _, rfl⟩, rfl,
        ⟨_, t, rfl, T0, rfl, ht, g3⟩, ⟨.inr ⟨i, st1, last, rfl, g1, a⟩, c pool _ hne st.2⟩, fun b' hb => ?_⟩
      · rw [List.length_map, (row_lt g3).1]; omega
      · have bl : b' < s.heap.objs.size := by
          rcases List.mem_cons.mp hb with z | hb
          · exact z ▸ il
          · exact (List.mem_singleton.mp hb) ▸ pl
        rw [upd_ne (Nat.ne_of_lt bl)]
        exact (hf b' hb).1
    obtain ⟨⟨e, a⟩ | ⟨j, st0, last, e, g0, a⟩, p⟩ := st
    · subst e
      have e0 : st1 = List.range n ++ cyc0 n r := by
        rw [all_first] at g1
        exact (Option.some.inj g1).symm
      refine next_some ?_
      refine fresh a p (by omega) fun h' b c d => ?_
      rw [← e0] at b c
      exact key h' _ b c d
    · subst e
      have hl0 : its.length = n := hN.1
      rcases G.step j st0 g0 with ⟨i1, c1, st', z1, z2, z3, z4⟩ | ⟨z1, z2⟩
      · rw [z2] at g1
        cases g1
        refine next_some ?_
        refine nxF.more (i := i1) (c := c1) a p (by omega) (by rw [hl0]; exact z1) ?_ fun h' b c d => ?_
        · rw [z3, G.size _ (List.mem_of_getElem? z2)]; omega
        · rw [z3] at b
          refine key h' _ b ?_ d
          have : told its r st1 = told its r i1 := by
            unfold told
            rw [← z3, List.take_append_of_le_length (by omega)]
          rw [this]
          exact c
      · rw [z2] at g1
        cases g1
  done := by
    intro X hP hw hK hc i pins s σ H E I hf st hg
    cases hP; cases hw; cases hK
    have hl0 : its.length = n := hN.1
    have hg' : i = (all nx n r).length := by
      have : i = (prm n r).length := hg
      unfold prm at this
      rw [this, List.length_map]
    obtain ⟨⟨e, a⟩ | ⟨j, st0, last, e, g0, a⟩, p⟩ := st
    · have : (all nx n r)[0]? = some (List.range n ++ cyc0 n r) := all_first
      have := (List.getElem?_eq_some_iff.mp this).1
      omega
    · subst e
      rcases G.step j st0 g0 with ⟨i1, c1, st', z1, z2, z3, z4⟩ | ⟨z1, z2⟩
      · have := (List.getElem?_eq_some_iff.mp z2).1
        omega
      · refine next_none ?_
        refine nxF.ends a p (by rw [hl0]; exact z1) (by exact I.ok.hd hc) fun e h' b c => ⟨b, rfl, ?_⟩
        exact I.turnedL (t' := s.toks) (ch := [it, pool]) (fun b' o hb q => c b' o (fun z => hb (by simp [z])) q) hf
  self := fun A i s Q E st h => by
    obtain ⟨⟨e, a⟩ | ⟨j, st0, last, e, g0, a⟩, p⟩ := st
    · exact perm_iter a h
    · exact perm_iter a h
theorem cr_range1 {X : Cx} : CallR X (.type "range") fun vs H Q => ∃ j : Int, vs = [V.int j] ∧ ∀ p, H p = none → Q (V.ref p) (upd H p (HO.rng 0 j)) := by
  intro pins s σ H vs us Q I r h
  obtain ⟨j, rfl, q⟩ := h
  obtain ⟨u, rfl, t, rfl⟩ : ∃ u, us = [u] ∧ ∃ t, u = Value.int j t := by
    cases r with
    | cons r0 rr => cases rr; obtain ⟨t, e⟩ := r0; exact ⟨_, rfl, t, e⟩
  refine call_range_1 ?_
  exact ⟨V.ref s.heap.objs.size, upd H s.heap.objs.size (.rng 0 j), I.laid (t' := s.toks + 1 + 1) (fun b o e => Heap.get?_push_of_some _ e) (Nat.le_refl _) ⟨_, _, _, Heap.get?_push_size s.heap rfl⟩, rfl, q _ (I.hok.fresh (Nat.le_refl _))⟩
def iPerm (ta : TA) : TI := fun σ H R => ta σ H fun vs H1 => ∃ (a : Addr) (n r : Nat), vs = [.ref a, .int r] ∧ H1 a = some (.rng 0 n) ∧ n ≤ 5 ∧ r ≤ n ∧ 0 < r ∧ R (ItP n r) H1
theorem pi_perm {X : Cx} {e1 e2 : Expr} {ta : TA} {p pos : Pos} {y : Str} {yp : Pos} (hc : X.calm = true) (hg : Gl X "permutations") (hm : X.mg "permutations" = some (.type "itertools.permutations")) (ha : PA X [e1, e2] ta)
    (hs : starEach [e1, e2] X.env = (false, eval e1 X.env) :: starEach [e2] X.env := by rfl) (hpl : (backTo pos (starEach [e2] X.env)).any (·.1) = false := by rfl) :
    PI X (.Name y yp) (.Call (.Name "permutations" p) [e1, e2] [] pos) (iPerm ta) := by
  constructor
  intro pins s σ H R I h
  refine Call_ (ld_glob I hg hm (PyProof.Rows.callWith_type1 (thn (ha.run pos pins s σ H _ I h) fun us s1 got => ?_) hs hpl))
  obtain ⟨vs, H1, J, r0, a, n, r, ex, hr, hn, hrn, h0, q⟩ := got
  subst ex
  obtain ⟨t, rfl⟩ : ∃ t, us = [Value.ref a, Value.int (r : Int) t] := by
    cases r0 with
    | cons r1 rr => cases rr with
      | cons r2 rr =>
        cases rr
        obtain ⟨t, e⟩ := r2
        rw [show _ = Value.ref a from r1, e]
        exact ⟨t, rfl⟩
  obtain ⟨t1, u1, v1, hR⟩ : ∃ t u v, IsRange s1.heap a 0 n 1 t u v := J.hok a _ hr
  refine perm_call hn hrn (by exact J.ok.hd hc) hR fun h1 tk k1 h' it pool its b1 b2 b3 b4 b5 b6 b7 => perm_iter b1 ?_
  have J1 := J.kept (t' := tk) k1
  refine ⟨it, [it, pool], _, _, H1, rfl, J1.kept (t' := tk) b7, turn_perm (good_of hn hrn h0) b3 b6 hn hrn, ⟨.inl ⟨rfl, b1⟩, b2⟩, fun b hb => ?_, q⟩
  have hle : h1.objs.size ≤ b := by
    rcases List.mem_cons.mp hb with z | hb
    · exact z ▸ b4
    · exact (List.mem_singleton.mp hb) ▸ b5
  exact J1.fpOk hle (J1.hok.fresh hle)
theorem ints_from : ∀ (l : List Value) (k : Nat), (∀ i v, l[i]? = some v → ∃ t, v = Value.int ((k + i : Nat) : Int) t) → Vals ((List.range' k l.length).map fun (x : Nat) => V.int (x : Int)) l := by
  intro l
  induction l with
  | nil => intro k _; exact .nil
  | cons v l ih =>
    intro k hv
    refine .cons ?_ (ih (k + 1) fun i u hu => ?_)
    · obtain ⟨t, ht⟩ := hv 0 v rfl
      exact ⟨t, ht⟩
    · obtain ⟨t, ht⟩ := hv (i + 1) u hu
      refine ⟨t, ht.trans ?_⟩
      rw [show k + (i + 1) = k + 1 + i from by omega]
/-- tuple(range(n)) of few -/
theorem tupRg {X : Cx} (hc : X.calm = true) : CallR X (.type "tuple") fun vs H Q => ∃ (a : Addr) (n : Nat), vs = [.ref a] ∧ H a = some (.rng 0 n) ∧ n ≤ 60 ∧ ∀ p, H p = none → Q (.ref p) (upd H p (.tup ((List.range n).map fun (x : Nat) => V.int (x : Int)))) := by
  refine Qt.drp ?_ ?_
  · intro pins s σ H vs us Q I r h
    obtain ⟨a, n, rfl, ha, hn, q⟩ := h
    obtain rfl : us = [Value.ref a] := by
      cases r with
      | cons r0 rr => cases rr; rw [show _ = Value.ref a from r0]
    obtain ⟨t1, u1, v1, hR⟩ : ∃ t u v, IsRange s.heap a 0 n 1 t u v := I.hok a _ ha
    have hh : X.A.handled = none := I.ok.hd hc
    have sm : ∀ n : Nat, n < 61 → Builtin.Range.small 0 n 1 = true ∧ Builtin.Range.rangeSize 0 n 1 = n := by decide
    obtain ⟨m1, m2⟩ := sm n (by omega)
    refine call_tuple_range (n := n) hh hR m1 m2 (Nat.le_trans hn (by decide)) fun h' tk acc k hI => ?_
    have J := I.kept (t' := tk) k
    have hl : acc.toList.length = n := by have := hI.1; simpa using this
    have T0 : H h'.objs.size = none := J.hok.fresh (Nat.le_refl _)
    have rv : Vals ((List.range n).map fun (x : Nat) => V.int (x : Int)) acc.toList := by
      have z := ints_from acc.toList 0 fun i v hv => by
        obtain ⟨t, ht⟩ := hI.2 i v (Array.getElem?_toList.symm.trans hv)
        exact ⟨t, by rw [ht, Nat.zero_add, Int.zero_add, Int.mul_one]⟩
      rw [hl] at z
      rw [List.range_eq_range']
      exact z
    exact ⟨.ref h'.objs.size, _, J.pairNew (tk := tk) (ch := []) (T := h'.objs.size) (h' := h'.push { cls := .type "tuple", data := .seq acc }) (fun b o _ e => Heap.get?_push_of_some _ e) (fun b hb => nomatch hb) (Nat.le_refl _) (by rw [List.length_map, List.length_range]; omega) rv ⟨_, Heap.get?_push_size _ rfl, rfl, _, by rw [Array.toArray_toList]⟩, rfl, q _ T0⟩
  walk_at "end"
end Pm
namespace L2
open PySem PySem.Spec PyProof.Rows Evl
def rDSetT (ty tx : TE) (σ : L2.St) (x : V) (H1 : Hp) (Q : VK) : Prop := ∃ a kvs0, x = .ref a ∧ H1 a = some (.dT kvs0) ∧ ty σ H1 fun y H2 => tx σ H2 fun z H3 => ∃ (kvs : List (List Key × V)) (k : List Key) (b : Addr), H3 a = some (.dT kvs) ∧ y = .ref b ∧ H3 b = some (.tup (k.map kV)) ∧ kvs.length < sizeLine ∧
  (∀ v, valV kvs k = some v → Q v H3) ∧ (valV kvs k = none → Q z (upd H3 a (.dT (putK kvs k z))))
/-- d.setdefault(t, z), t a tuple of ints and texts -/
def tDSetdT (td ty tx : TE) : TE := fun σ H Q => td σ H fun x H1 => rDSetT ty tx σ x H1 Q
section
variable {K : PySem.W.Frag} {σ : L2.St} {H : Hp} {Q : VK} {td ty tx : TE} {d b : Addr} {x : Pl} {z v : V} {kvs : List (List Key × V)} {f : Pl → Option V}
def rNewDT (H : Hp) (Q : VK) : Prop := ∀ p, H p = none → Q (.ref p) (upd H p (.dT []))
theorem st_dnewT (h : rNewDT H Q) : tDNewT σ H Q := h
theorem st_dsetT (h : td σ H fun x H1 => rDSetT ty tx σ x H1 Q) : tDSetdT td ty tx σ H Q := h
/-- a dict with pairs for keys, told by what it holds -/
def TF (kvs : List (List Key × V)) (f : Pl → Option V) : Prop := ∀ x, valV kvs (ky x) = f x
theorem TF.nil : TF [] fun _ => none := fun _ => rfl
theorem TF.put (h : TF kvs f) (x : Pl) (v : V) : TF (putK kvs (ky x) v) fun y => if y = x then some v else f y := fun y => by
  rw [valV_put]
  show (if ky y = ky x then some v else valV kvs (ky y)) = if y = x then some v else f y
  by_cases c : y = x
  · rw [if_pos c, if_pos (by rw [c])]
  · rw [if_neg c, if_neg fun e => c (ky_inj e)]
    exact h y
theorem tx_dt {H1 : Hp} (hb : H b = some (.dT kvs)) (e : ExW b H H1) : TX H H1 := fun q ys hq => by
  have n : q ≠ b := fun z => by
    rw [z, hb] at hq
    rcases hq with hq | ⟨o, hq⟩ <;> cases hq
  cases h : H q with
  | none =>
    rw [h] at hq
    rcases hq with hq | ⟨o, hq⟩ <;> cases hq
  | some u => exact e q u h n
end
end L2
namespace L2
open PySem PySem.Spec PyProof.Rows Evl
/-- a tuple of ints that stands in the heap -/
def HTp (H : Hp) (p : Addr) (ns : List Int) : Prop := H p = some (.tup (ns.map V.int))
theorem HTp.it {K : PySem.W.Frag} {H : Hp} {p : Addr} {ns : List Int} (h : HTp H p ns) : IT K H p ns := t_of h
theorem HTp.ex {H H1 : Hp} {p : Addr} {ns : List Int} (h : HTp H p ns) (e : Ex H H1) : HTp H1 p ns := e _ _ h
theorem HTp.tx {H H1 : Hp} {p : Addr} {ns : List Int} (h : HTp H p ns) (e : TX H H1) : HTp H1 p ns := (e _ _ (.inl h)).trans h
theorem HTp.key {H : Hp} {p : Addr} {ns : List Int} (h : HTp H p ns) : H p = some (.tup ((tkey ns).map kV)) := by rw [tkey_V]; exact h
section
variable {K : PySem.W.Frag} {H : Hp} {Q : VK} {a b : Addr} {u v : List Int}
theorem r_catTT (ha : HTp H a u) (hb : HTp H b v) (hz : u.length + v.length ≤ 100000) (q : ∀ p H1, Ex H H1 → HTp H1 p (u ++ v) → Q (.ref p) H1) : rAddU K (.ref a) (.ref b) H Q := by
  refine .inr (.inr ⟨a, b, u.map V.int, v.map V.int, rfl, rfl, ha.it (K := K), hb.it (K := K), sz_of (by rw [List.length_map, List.length_map]; exact hz), fun e => ?_, fun _ e => ?_, fun _ _ => alloc fun p H1 _ e h => q p H1 e (by unfold HTp; rw [h, List.map_append])⟩)
  · have e : u = [] := List.map_eq_nil_iff.mp e
    subst e
    exact q b H (Ex.refl H) hb
  · have e : v = [] := List.map_eq_nil_iff.mp e
    subst e
    refine q a H (Ex.refl H) ?_
    rw [List.append_nil]
    exact ha
theorem r_slTT {lo hi : Option Int} (ha : HTp H a u) {w : List Int} (hw : cutV (u.map V.int) lo hi = w.map V.int) (q : ∀ p H1, Ex H H1 → HTp H1 p w → Q (.ref p) H1) : rSlU K (.ref a) lo hi H Q := by
  refine .inr ⟨a, _, rfl, ha.it (K := K), fun e => ?_, fun _ => alloc fun p H1 _ e h => q p H1 e (by unfold HTp; rw [h, ← hw])⟩
  refine q a H (Ex.refl H) ?_
  have e2 : cutV (u.map V.int) lo hi = u.map V.int := by
    unfold cutV
    rw [e.1, e.2, List.drop_zero, Nat.sub_zero, List.take_length]
  have e3 : w = u := by
    have := hw.symm.trans e2
    exact (List.map_inj_right fun _ _ z => V.int.inj z).mp this
  rw [e3]
  exact ha
theorem r_tupLT (ha : SqL K H a (u.map V.int)) (q : ∀ p H1, H p = none → Ex H H1 → HTp H1 p u → Q (.ref p) H1) : rTupU K [.ref a] H Q := ⟨a, _, rfl, .inl ⟨ha, alloc fun p H1 hp e h => q p H1 hp e h⟩⟩
theorem r_newTT {vs : List V} (hz : vs.length ≤ 100000) (hv : vs = u.map V.int) (q : ∀ p H1, H p = none → Ex H H1 → HTp H1 p u → Q (.ref p) H1) : rNewT vs H Q := r_newT hz fun p H1 hp e k => q p H1 hp e (by unfold HTp; rw [k, hv])
end
def wm (E : List (List Int)) (f : List Int → V) : List (List Key × V) := E.map fun e => (tkey e, f e)
theorem wm_len (E : List (List Int)) (f : List Int → V) : (wm E f).length = E.length := by unfold wm; rw [List.length_map]
theorem wm_congr {E : List (List Int)} {f g : List Int → V} (h : ∀ e ∈ E, f e = g e) : wm E f = wm E g := List.map_congr_left fun x hx => by rw [h x hx]
theorem valV_wm {f : List Int → V} : ∀ {E : List (List Int)} {x : List Int}, x ∈ E → valV (wm E f) (tkey x) = some (f x)
  | y :: E, x, h => by
    show valV ((tkey y, f y) :: wm E f) (tkey x) = _
    by_cases e : y = x
    · subst e
      exact valV_pos rfl
    · rw [valV_neg (fun z => e (tkey_inj z))]
      rcases List.mem_cons.mp h with h | h
      · exact absurd h.symm e
      · exact valV_wm h
theorem valV_wm_no {f : List Int → V} : ∀ {E : List (List Int)} {x : List Int}, x ∉ E → valV (wm E f) (tkey x) = none
  | [], _, _ => rfl
  | y :: E, x, h => by
    show valV ((tkey y, f y) :: wm E f) (tkey x) = _
    rw [valV_neg (fun z => h (by rw [tkey_inj z]; exact List.mem_cons_self))]
    exact valV_wm_no fun z => h (List.mem_cons_of_mem _ z)
theorem valV_wm_in {f : List Int → V} {E : List (List Int)} {x : List Int} : (valV (wm E f) (tkey x)).isSome = decide (x ∈ E) := by
  by_cases c : x ∈ E
  · rw [valV_wm c, decide_eq_true c]; rfl
  · rw [valV_wm_no c, decide_eq_false c]; rfl
theorem putK_wm {f : List Int → V} {E : List (List Int)} {x : List Int} (h : x ∈ E) (y : V) : putK (wm E f) (tkey x) y = wm E fun s => if s = x then y else f s := by
  have e : ((wm E f).any fun kv => decide (kv.1 = tkey x)) = true := by rw [valV_any, valV_wm h]; rfl
  unfold putK
  rw [if_pos e]
  unfold wm
  rw [List.map_map]
  refine List.map_congr_left fun s _ => ?_
  show (if tkey s = tkey x then (tkey s, y) else (tkey s, f s)) = _
  by_cases e2 : s = x
  · rw [if_pos (by rw [e2])]
    show _ = (tkey s, if s = x then y else f s)
    rw [if_pos e2]
  · rw [if_neg (fun z => e2 (tkey_inj z))]
    show _ = (tkey s, if s = x then y else f s)
    rw [if_neg e2]
theorem putK_wm_new {f : List Int → V} {E : List (List Int)} {x : List Int} (h : x ∉ E) (y : V) : putK (wm E f) (tkey x) y = wm (E ++ [x]) fun s => if s = x then y else f s := by
  rw [putK_new y (valV_wm_no h)]
  unfold wm
  rw [List.map_append]
  congr 1
  · refine List.map_congr_left fun s hs => ?_
    show (tkey s, f s) = (tkey s, if s = x then y else f s)
    rw [if_neg (fun z : s = x => h (z ▸ hs))]
  · show _ = [(tkey x, if x = x then y else f x)]
    rw [if_pos rfl]
/-- with one key more -/
def ins1 (E : List (List Int)) (x : List Int) : List (List Int) := if x ∈ E then E else E ++ [x]
theorem mem_ins1 {E : List (List Int)} {x y : List Int} : y ∈ ins1 E x ↔ y ∈ E ∨ y = x := by
  unfold ins1
  by_cases c : x ∈ E
  · rw [if_pos c]
    exact ⟨.inl, fun h => h.elim id fun e => e ▸ c⟩
  · rw [if_neg c, List.mem_append, List.mem_singleton]
theorem ins1_nodup {E : List (List Int)} {x : List Int} (h : E.Nodup) : (ins1 E x).Nodup := by
  unfold ins1
  by_cases c : x ∈ E
  · rw [if_pos c]
    exact h
  · rw [if_neg c]
    exact List.nodup_append.mpr ⟨h, List.nodup_cons.mpr ⟨List.not_mem_nil, List.nodup_nil⟩, fun a ha b hb e => c (by rw [List.mem_singleton.mp hb] at e; exact e ▸ ha)⟩
theorem putK_wm1 {f : List Int → V} {E : List (List Int)} {x : List Int} (y : V) : putK (wm E f) (tkey x) y = wm (ins1 E x) fun s => if s = x then y else f s := by
  unfold ins1
  by_cases c : x ∈ E
  · rw [if_pos c, putK_wm c]
  · rw [if_neg c, putK_wm_new c]
section
variable {K : PySem.W.Frag} {σ : L2.St} {H : Hp} {Q : VK} {D : Ends} {tb : TS} {te ty tx tv : TE} {tt : TT} {vs : List Nat} {d b : Addr} {j j2 i0 : Nat} {E : List (List Int)} {f : List Int → V} {x : List Int}
theorem r_wget (h : Rd H d (.dT (wm E f))) (hb : HTp H b x) (hx : x ∈ E) (q : Q (f x) H) : rDGet (.ref d) (.ref b) H Q := ⟨d, _, rfl, .inr ⟨wm E f, tkey x, b, h, rfl, hb.key, (valV_wm hx).symm⟩, q⟩
theorem r_win (h : Rd H d (.dT (wm E f))) (hb : HTp H b x) (q : Q (.bl (decide (x ∈ E))) H) : rDIn false (.ref d) (.ref b) H Q := ⟨d, _, rfl, .inr ⟨wm E f, tkey x, b, h, rfl, hb.key, rfl⟩, by rw [if_neg (by decide), valV_wm_in]; exact q⟩
theorem r_wnin (h : Rd H d (.dT (wm E f))) (hb : HTp H b x) (q : Q (.bl (!decide (x ∈ E))) H) : rDIn true (.ref d) (.ref b) H Q := ⟨d, _, rfl, .inr ⟨wm E f, tkey x, b, h, rfl, hb.key, rfl⟩, by rw [if_pos rfl, valV_wm_in]; exact q⟩
theorem r_wput {y : V} {R : Hp → Prop} (h : H d = some (.dT (wm E f))) (hb : HTp H b x) (hz : E.length < 100000) (q : ∀ H1, ExW d H H1 → H1 d = some (.dT (wm (ins1 E x) fun s => if s = x then y else f s)) → R H1) : rDPut (.ref d) (.ref b) y H R := by
  refine ⟨d, _, rfl, .inr ⟨wm E f, tkey x, b, h, rfl, hb.key, sz_lt (by rw [wm_len]; exact hz), rfl⟩, q _ ExW.upd ?_⟩
  rw [upd_same, putK_wm1]
/-- for x in d, d locked, its keys walks -/
theorem r_lockW (hv : σ[i0]? = some (some (.ref d))) (hd : H d = some (.dT (wm E f))) (Pv : Nat → L2.St → Hp → Prop) (h0 : ∀ od H1, ExW d H H1 → H1 d = some (.frz od (.dT (wm E f))) → Pv 0 σ H1)
    (hs : ∀ od i x q σ' H' rt bk, E[i]? = some x → Pv i σ' H' → H' d = some (.frz od (.dT (wm E f))) → HTp H' q x →
      tb ⟨fun σ2 H2 => Pv (i + 1) σ2 H2 ∧ H2 d = some (.frz od (.dT (wm E f))), rt, bk, fun σ2 H2 => Pv (i + 1) σ2 H2 ∧ H2 d = some (.frz od (.dT (wm E f)))⟩ (σ'.set j (some (.ref q))) H')
    (hq : ∀ od σ' H', Pv E.length σ' H' → H' d = some (.frz od (.dT (wm E f))) → D.nx σ' (upd H' d (.dT (wm E f)))) :
    tLock (tFor (iKeys (tVar i0)) (gName j) tb) D σ H := by
  refine Qt.drp ?_ ?_
  · refine ⟨d, _, hd, trivial, fun od => ?_⟩
    have fr : (upd H d (.frz od (.dT (wm E f)))) d = some (.frz od (.dT (wm E f))) := upd_same
    refine ⟨_, hv, d, od, rfl, .inr ⟨wm E f, fr, ?_⟩⟩
    refine ⟨fun i m σ' H' => m = E.length - i ∧ i ≤ E.length ∧ Pv i σ' H' ∧ H' d = some (.frz od (.dT (wm E f))), ⟨E.length, by simp, Nat.zero_le _, h0 od _ ExW.upd fr, fr⟩, ?_⟩
    rintro i m σ' H' ⟨rfl, hi, p, fr'⟩
    rcases Nat.lt_or_ge i E.length with lt | ge
    · have hx := List.getElem?_eq_getElem lt
      refine .inr ⟨⟨fr', by rw [wm_len]; exact lt⟩, fun σ2 H2 => Pv (i + 1) σ2 H2 ∧ H2 d = some (.frz od (.dT (wm E f))), fun σ2 H2 p => ⟨E.length - (i + 1), by omega, rfl, lt, p.1, p.2⟩, ?_⟩
      rintro y H6 ⟨rfl, k, v, q, hy, rfl, hq⟩
      unfold wm at hy
      rw [List.getElem?_map, hx] at hy
      cases hy
      rw [tkey_V] at hq
      exact hs od i _ q σ' H6 _ _ hx p fr' hq
    · have e2 : i = E.length := by omega
      subst e2
      exact .inl ⟨⟨fr', by rw [wm_len]; exact Nat.le_refl _⟩, fr', hq od σ' H' p fr'⟩
  walk_at "end"
end
end L2
namespace L2
open PySem PySem.Spec PyProof.Rows Evl
/-- a list of pairs of a step and a walk -/
structure MlA (H : Hp) (xs : List V) (ms : List (Int × List Int)) : Prop where
  len : xs.length = ms.length
  at' : ∀ (i : Nat) x m, xs[i]? = some x → ms[i]? = some m → ∃ p q, x = .ref p ∧ H p = some (.tup [.int m.1, .ref q]) ∧ HTp H q m.2
theorem MlA.nil {H : Hp} : MlA H [] [] := ⟨rfl, fun i x m h => by simp at h⟩
theorem MlA.of {H H1 : Hp} {xs : List V} {ms : List (Int × List Int)} (h : MlA H xs ms) (e : TX H H1) : MlA H1 xs ms := ⟨h.len, fun i x m h1 h2 => by
  obtain ⟨p, q, a, b, c⟩ := h.at' i x m h1 h2
  exact ⟨p, q, a, (e _ _ (.inl b)).trans b, c.tx e⟩⟩
theorem MlA.snoc {H : Hp} {xs : List V} {ms : List (Int × List Int)} {p q : Addr} {s : Int} {w : List Int} (h : MlA H xs ms) (hp : H p = some (.tup [.int s, .ref q])) (hq : HTp H q w) : MlA H (xs ++ [.ref p]) (ms ++ [(s, w)]) := by
  refine ⟨by rw [List.length_append, List.length_append, h.len]; rfl, fun i x m h1 h2 => ?_⟩
  rcases Nat.lt_or_ge i xs.length with lt | ge
  · rw [List.getElem?_append_left lt] at h1
    rw [List.getElem?_append_left (h.len ▸ lt)] at h2
    exact h.at' i x m h1 h2
  · rw [List.getElem?_append_right ge] at h1
    rw [List.getElem?_append_right (h.len ▸ ge), ← h.len] at h2
    cases e : i - xs.length with
    | zero =>
      rw [e] at h1 h2
      cases h1
      cases h2
      exact ⟨p, q, rfl, hp, hq⟩
    | succ k => rw [e] at h1; simp at h1
theorem MlA.get {H : Hp} {xs : List V} {ms : List (Int × List Int)} (h : MlA H xs ms) {i : Nat} {x : V} (hx : xs[i]? = some x) : ∃ m p q, ms[i]? = some m ∧ x = .ref p ∧ H p = some (.tup [.int m.1, .ref q]) ∧ HTp H q m.2 := by
  have hi := (List.getElem?_eq_some_iff.mp hx).1
  obtain ⟨m, hm⟩ : ∃ m, ms[i]? = some m := ⟨_, List.getElem?_eq_getElem (h.len ▸ hi)⟩
  obtain ⟨p, q, a, b, c⟩ := h.at' i x m hx hm
  exact ⟨m, p, q, hm, a, b, c⟩
/-- a dict of such lists -/
structure MvH (H : Hp) (a : Addr) (E : List (List Int)) (mv : List Int → List (Int × List Int)) : Prop where
  ex : ∃ ad : List Int → Addr, H a = some (.dT (wm E fun e => .ref (ad e))) ∧ ∀ e ∈ E, ∃ xs, H (ad e) = some (.lst xs) ∧ MlA H xs (mv e)
theorem MvH.mono {H H1 : Hp} {a : Addr} {E : List (List Int)} {mv : List Int → List (Int × List Int)} (h : MvH H a E mv) (e : Ex H H1) : MvH H1 a E mv := by
  obtain ⟨ad, h1, h2⟩ := h.ex
  refine ⟨ad, e _ _ h1, fun x hx => ?_⟩
  obtain ⟨xs, a1, a2⟩ := h2 x hx
  exact ⟨xs, e _ _ a1, a2.of (.of e)⟩
/-- how many ways on -/
def cn (mv : List Int → List (Int × List Int)) : Nat → List Int → Nat
  | 0, _ => 1
  | n + 1, e => ((mv e).map fun m => cn mv n m.2).sum
/-- the dicts of how many ways on -/
structure WyH (H : Hp) (ds : List V) (E : List (List Int)) (mv : List Int → List (Int × List Int)) (n : Nat) : Prop where
  len : ds.length = n + 1
  at' : ∀ i, i ≤ n → ∃ d, ds[i]? = some (.ref d) ∧ H d = some (.dT (wm E fun e => .int ((cn mv i e : Nat) : Int)))
theorem WyH.mono {H H1 : Hp} {ds : List V} {E : List (List Int)} {mv : List Int → List (Int × List Int)} {n : Nat} (h : WyH H ds E mv n) (e : Ex H H1) : WyH H1 ds E mv n := ⟨h.len, fun i hi => by
  obtain ⟨d, a, b⟩ := h.at' i hi
  exact ⟨d, a, e _ _ b⟩⟩
end L2
namespace L2
open PySem PySem.Spec PyProof.Rows Evl
end L2
namespace L2
open PySem PySem.Spec PyProof.Rows Evl
section
variable {X : Cx}
/-- what such a pair is: its address, its key, where the key stands, its value -/
theorem dpairs_of {pins : List (Addr × Obj)} {σ : L2.St} {H : Hp} {s : Shared} (I : Inv X pins σ H s) : ∀ {ps : List Addr} {kvs : List (List Key × Addr × V)}, Paired (fun p kv => SqT X.K H p [.ref kv.2.1, kv.2.2] ∧ H kv.2.1 = some (.tup (kv.1.map kV))) ps kvs →
    ∃ prs : List (List Key × Addr × Value), KT H (kvs.map fun x => (x.1, x.2.2)) prs ∧ prs.length = ps.length ∧ prs.map (·.1) = kvs.map (·.1) ∧ ∀ (j : Nat) (q : List Key × Addr × Value), prs[j]? = some q → ∃ b : Addr, ps[j]? = some b ∧ IsTup s.heap b #[.ref q.2.1, q.2.2]
  | _, _, .nil => ⟨[], .nil, rfl, rfl, fun j q e => by simp at e⟩
  | _, _, .cons (a := p) (b := kv) h t => by
    obtain ⟨prs, r, hl, hm, hp⟩ := dpairs_of I t
    obtain ⟨h1, h2⟩ := h
    obtain ⟨its, rv, ht, _⟩ := I.tuple h1
    obtain ⟨u, y, ei, ru, ry⟩ := vals2 rv
    subst ei
    obtain rfl : u = Value.ref kv.2.1 := ru
    refine ⟨(kv.1, kv.2.1, y) :: prs, .cons ⟨rfl, h2, ry⟩ r, by rw [List.length_cons, List.length_cons, hl], by rw [List.map_cons, List.map_cons, hm], fun j q e => ?_⟩
    cases j with
    | zero =>
      have e' : (kv.1, kv.2.1, y) = q := Option.some.inj e
      subst e'
      exact ⟨p, rfl, ht⟩
    | succ j =>
      obtain ⟨b, e1, e2⟩ := hp j q (by simpa using e)
      exact ⟨b, by simpa using e1, e2⟩
def rDictT (K : PySem.W.Frag) : List V → Hp → VK → Prop := fun xs H Q => ∃ (a : Addr) (ps : List Addr) (kvs : List (List Key × Addr × V)), xs = [.ref a] ∧ SqL K H a (ps.map V.ref) ∧ Paired (fun p kv => SqT K H p [.ref kv.2.1, kv.2.2] ∧ H kv.2.1 = some (.tup (kv.1.map kV))) ps kvs ∧ (kvs.map (·.1)).Nodup ∧
  ∀ p, H p = none → Q (.ref p) (upd H p (.dT (kvs.map fun x => (x.1, x.2.2))))
theorem call_dictT (hcalm : X.calm = true) (hu : X.A.units + 2 < cLine) : CallR X (.type "dict") (rDictT X.K) := by
  refine Qt.drp ?_ ?_
  · intro pins s σ H xs us Q I r q
    obtain ⟨a, ps, kvs, ex, hq, hp, nd, q⟩ := q
    subst ex
    obtain ⟨u, eu, rx⟩ := vals1 r
    subst eu
    cases rx
    obtain ⟨its, rv, pl, hz⟩ := I.list hq
    have ei := refs_at rv
    subst ei
    rw [List.length_map] at hz
    obtain ⟨prs, rel, hl, hm, hpr⟩ := dpairs_of I hp
    have ps' : PairItems s.heap (ps.map Value.ref).toArray (fun j => ps.getD j 0) (prs.map fun q => (Value.ref q.2.1, q.2.2)) := by
      refine ⟨by simp [hl], fun j k v hj => ?_⟩
      rw [List.getElem?_map] at hj
      cases e : prs[j]? with
      | none => rw [e] at hj; cases hj
      | some q =>
        rw [e] at hj
        cases hj
        obtain ⟨b, e1, e2⟩ := hpr j q e
        refine ⟨?_, .inl ?_⟩
        · simp [e1, List.getD_eq_getElem?_getD]
        · show s.heap.IsTuple (ps.getD j 0) _
          rw [List.getD_eq_getElem?_getD, e1]
          exact e2
    have hm2 : (prs.map (·.1)).Nodup := by rw [hm]; exact nd
    have keys : ∀ x ∈ prs, H x.2.1 = some (.tup (x.1.map kV)) := by
      have go : ∀ {l : List (List Key × V)} {m : List (List Key × Addr × Value)}, KT H l m → ∀ x ∈ m, H x.2.1 = some (.tup (x.1.map kV)) := by
        intro l m k
        induction k with
        | nil => intro x hx; cases hx
        | cons h t ih =>
          intro x hx
          rcases List.mem_cons.mp hx with e | hx
          · rw [e, ← h.1]; exact h.2.1
          · exact ih x hx
      exact go rel
    have okp := PairArg.list (prog := X.prog) (w := X.w) a (ps.map Value.ref).toArray (fun j => ps.getD j 0) (prs.map fun q => (Value.ref q.2.1, q.2.2))
    refine call_dict_pairsH (knd := tupleKind (mixKind X.prog X.w)) (ps := prs) okp (I.ok.hd hcalm) (show X.A.units + 2 < cLine from hu) ⟨pl, ps'⟩ ⟨by rw [List.length_map], fun i key v hk => ?_⟩ (fun h' hk x hx => ?_) (by rw [List.length_map, hl]; exact hz) fun h' tk hd' k => ?_
    · have hk : (prs.map fun q => (Value.ref q.2.1, q.2.2))[i]? = some (key, v) := hk
      rw [List.getElem?_map] at hk
      cases e : prs[i]? with
      | none => rw [e] at hk; cases hk
      | some q =>
        rw [e] at hk
        cases hk
        exact ⟨q.1, q.2.1, rfl, rfl⟩
    · obtain ⟨o, its, n, g1, g2, g3, g4⟩ := key_of I.hok (keys x hx)
      exact ⟨o, its, n, hk _ _ (Nat.ne_of_lt (Heap.lt_size g1)) List.not_mem_nil g1, g2, g3, g4⟩
    · rw [storedAllH_nil_of_nodup prs hm2] at hd'
      have hb : (s.heap.objs.size == sysModules) = false := beq_eq_false_iff_ne.mpr (Nat.ne_of_gt I.big)
      have hf := I.hok.fresh (Nat.le_refl s.heap.objs.size)
      obtain ⟨o, es, ep, h1, h2, h3, h4, _, h5⟩ := hd'
      refine ⟨.ref s.heap.objs.size, upd H s.heap.objs.size (.dT (kvs.map fun x => (x.1, x.2.2))), I.laid (t' := tk) (fun b o e => k b o (List.not_mem_nil) e) (Nat.le_refl _) (show ObjOk X.prog X.w _ _ _ (.dT (kvs.map fun x => (x.1, x.2.2))) from ⟨by rw [rel.length, hl]; exact hz, hb, prs, ?_, o, es, ep, h1, h2, h3, h4, h5⟩), rfl, q _ hf⟩
      exact rel.keeps fun c ys ec => (upd_ne (ne_of_none ec hf)).trans ec
  walk_at "end"
end
theorem dictT_K {X : Cx} (K : PySem.W.Frag) (hcalm : X.calm = true) {k : Nat} (hr : Room k X.A) (h : X.K = K := by rfl) : CallR X (.type "dict") (rDictT K) := h ▸ call_dictT hcalm (by have := hr.un; omega)
end L2
namespace L2
open PySem PySem.Spec PyProof.Rows Evl
/-- pairs of a walk and a value -/
structure KvA (H : Hp) (xs : List V) (E : List (List Int)) (f : List Int → V) : Prop where
  len : xs.length = E.length
  at' : ∀ (i : Nat) x e, xs[i]? = some x → E[i]? = some e → ∃ p q, x = .ref p ∧ H p = some (.tup [.ref q, f e]) ∧ HTp H q e
theorem KvA.nil {H : Hp} {f : List Int → V} : KvA H [] [] f := ⟨rfl, fun i x e h => by simp at h⟩
theorem KvA.of {H H1 : Hp} {xs : List V} {E : List (List Int)} {f : List Int → V} (h : KvA H xs E f) (t : TX H H1) : KvA H1 xs E f := ⟨h.len, fun i x e h1 h2 => by
  obtain ⟨p, q, a, b, c⟩ := h.at' i x e h1 h2
  exact ⟨p, q, a, (t _ _ (.inl b)).trans b, c.tx t⟩⟩
theorem KvA.snoc {H : Hp} {xs : List V} {E : List (List Int)} {f : List Int → V} {p q : Addr} {e : List Int} (h : KvA H xs E f) (hp : H p = some (.tup [.ref q, f e])) (hq : HTp H q e) : KvA H (xs ++ [.ref p]) (E ++ [e]) f := by
  refine ⟨by rw [List.length_append, List.length_append, h.len]; rfl, fun i x m h1 h2 => ?_⟩
  rcases Nat.lt_or_ge i xs.length with lt | ge
  · rw [List.getElem?_append_left lt] at h1
    rw [List.getElem?_append_left (h.len ▸ lt)] at h2
    exact h.at' i x m h1 h2
  · rw [List.getElem?_append_right ge] at h1
    rw [List.getElem?_append_right (h.len ▸ ge), ← h.len] at h2
    cases e0 : i - xs.length with
    | zero =>
      rw [e0] at h1 h2
      cases h1
      cases h2
      exact ⟨p, q, rfl, hp, hq⟩
    | succ k => rw [e0] at h1; simp at h1
theorem KvA.paired {K : PySem.W.Frag} {H : Hp} {f : List Int → V} : ∀ {xs : List V} {E : List (List Int)}, KvA H xs E f → ∃ (ps : List Addr) (bs : List Addr), xs = ps.map V.ref ∧ bs.length = E.length ∧ Paired (fun p (kv : List Key × Addr × V) => SqT K H p [.ref kv.2.1, kv.2.2] ∧ H kv.2.1 = some (.tup (kv.1.map kV))) ps ((E.zip bs).map fun x => (tkey x.1, x.2, f x.1))
  | [], [], _ => ⟨[], [], rfl, rfl, .nil⟩
  | [], _ :: _, h => by have := h.len; cases this
  | _ :: _, [], h => by have := h.len; cases this
  | x :: xs, e :: E, h => by
    obtain ⟨p, q, rfl, hp, hq⟩ := h.at' 0 x e rfl rfl
    have h' : KvA H xs E f := ⟨Nat.succ.inj h.len, fun i y m h1 h2 => h.at' (i + 1) y m (by simpa using h1) (by simpa using h2)⟩
    obtain ⟨ps, bs, e1, e2, e3⟩ := KvA.paired (K := K) h'
    exact ⟨p :: ps, q :: bs, by rw [e1]; rfl, by rw [List.length_cons, List.length_cons, e2], .cons ⟨t_of hp, hq.key⟩ e3⟩
theorem r_dictW {K : PySem.W.Frag} {H : Hp} {Q : VK} {a : Addr} {xs : List V} {E : List (List Int)} {f : List Int → V} (hl : H a = some (.lst xs)) (h : KvA H xs E f) (nd : E.Nodup) (q : ∀ p H1, H p = none → Ex H H1 → H1 p = some (.dT (wm E f)) → Q (.ref p) H1) : rDictT K [.ref a] H Q := by
  refine Qt.drp ?_ ?_
  · obtain ⟨ps, bs, e1, e2, e3⟩ := h.paired (K := K)
    have z : ∀ {E : List (List Int)} {bs : List Addr}, bs.length = E.length → (E.zip bs).map (fun x => (tkey x.1, f x.1)) = wm E f ∧ (E.zip bs).map (fun x => tkey x.1) = E.map tkey := by
      intro E
      induction E with
      | nil => intro bs _; exact ⟨rfl, rfl⟩
      | cons e E ih =>
        intro bs hb
        cases bs with
        | nil => cases hb
        | cons b bs =>
          have := ih (bs := bs) (Nat.succ.inj hb)
          refine ⟨?_, ?_⟩
          · rw [List.zip_cons_cons, List.map_cons, this.1]; rfl
          · rw [List.zip_cons_cons, List.map_cons, this.2]; rfl
    refine ⟨a, ps, _, rfl, l_of (e1 ▸ hl), e3, ?_, ?_⟩
    · rw [List.map_map]
      show ((E.zip bs).map (fun x => tkey x.1)).Nodup
      rw [(z e2).2]
      exact List.pairwise_map.mpr (nd.imp fun ne h => ne (tkey_inj h))
    · rw [List.map_map]
      show ∀ p, H p = none → Q (.ref p) (upd H p (.dT ((E.zip bs).map (fun x => (tkey x.1, f x.1)))))
      rw [(z e2).1]
      exact alloc q
  walk_at "end"
end L2
namespace Lw
open PySem PySem.Spec PyProof.Rows L2 Evl
def topS (i : Nat) : Stmt := PySem.Challenge.pw_walkclubs_k25_walks_with_wanted_powers.main.body.getD i (.Pass ⟨0, 0, 0, 0⟩)
abbrev s_is_integer : Stmt := topS 7
abbrev N_is_integer : List Str := ["value"]
abbrev P_is_integer : List Str := ["value"]
theorem sc_is_integer : FnScope N_is_integer P_is_integer (defScope s_is_integer) := ⟨rfl, rfl, rfl, by decide +kernel, rfl, by decide +kernel, by decide +kernel⟩
abbrev s_steps_of : Stmt := topS 12
abbrev N_steps_of : List Str := ["letters", "letter", "step"]
abbrev P_steps_of : List Str := ["letters"]
theorem sc_steps_of : FnScope N_steps_of P_steps_of (defScope s_steps_of) := ⟨rfl, rfl, rfl, by decide +kernel, rfl, by decide +kernel, by decide +kernel⟩
abbrev s_straightened : Stmt := topS 13
abbrev N_straightened : List Str := ["walk", "kept", "step"]
abbrev P_straightened : List Str := ["walk"]
theorem sc_straightened : FnScope N_straightened P_straightened (defScope s_straightened) := ⟨rfl, rfl, rfl, by decide +kernel, rfl, by decide +kernel, by decide +kernel⟩
abbrev s_turned_back : Stmt := topS 14
abbrev N_turned_back : List Str := ["walk", "step"]
abbrev P_turned_back : List Str := ["walk"]
theorem sc_turned_back : FnScope N_turned_back P_turned_back (defScope s_turned_back) := ⟨rfl, rfl, rfl, by decide +kernel, rfl, by decide +kernel, by decide +kernel⟩
abbrev s_step_table : Stmt := topS 18
abbrev N_step_table : List Str := ["rows", "table", "room", "row", "letter", "after", "_"]
abbrev P_step_table : List Str := ["rows"]
theorem sc_step_table : FnScope N_step_table P_step_table (defScope s_step_table) := ⟨rfl, rfl, rfl, by decide +kernel, rfl, by decide +kernel, by decide +kernel⟩
abbrev s_ways_together : Stmt := topS 24
abbrev N_ways_together : List Str := ["table", "rooms", "ways", "found", "place", "ahead", "step", "after", "room"]
abbrev P_ways_together : List Str := ["table", "rooms"]
theorem sc_ways_together : FnScope N_ways_together P_ways_together (defScope s_ways_together) := ⟨rfl, rfl, rfl, by decide +kernel, rfl, by decide +kernel, by decide +kernel⟩
abbrev s__law_pot : Stmt := topS 31
abbrev N__law_pot : List Str := ["_law_script", "_law_k", "_law_cell", "_law_total", "_law_other"]
abbrev P__law_pot : List Str := ["_law_script", "_law_k"]
theorem sc__law_pot : FnScope N__law_pot P__law_pot (defScope s__law_pot) := ⟨rfl, rfl, rfl, by decide +kernel, rfl, by decide +kernel, by decide +kernel⟩
abbrev s__law_draw : Stmt := topS 32
abbrev N__law_draw : List Str := ["_law_pot_here", "_law_many", "_law_found", "_law_mixed"]
abbrev P__law_draw : List Str := ["_law_pot_here", "_law_many"]
theorem sc__law_draw : FnScope N__law_draw P__law_draw (defScope s__law_draw) := ⟨rfl, rfl, rfl, by decide +kernel, rfl, by decide +kernel, by decide +kernel⟩
abbrev s__law_steps : Stmt := topS 33
abbrev N__law_steps : List Str := ["_law_letters", "_law_found", "_law_letter"]
abbrev P__law_steps : List Str := ["_law_letters"]
theorem sc__law_steps : FnScope N__law_steps P__law_steps (defScope s__law_steps) := ⟨rfl, rfl, rfl, by decide +kernel, rfl, by decide +kernel, by decide +kernel⟩
abbrev s__law_doors : Stmt := topS 35
abbrev N__law_doors : List Str := ["_law_web_here", "_law_doors_here", "_law_room", "_law_at", "_law_goal", "_law_row"]
abbrev P__law_doors : List Str := ["_law_web_here"]
theorem sc__law_doors : FnScope N__law_doors P__law_doors (defScope s__law_doors) := ⟨rfl, rfl, rfl, by decide +kernel, rfl, by decide +kernel, by decide +kernel⟩
abbrev s__law_rings : Stmt := topS 38
abbrev N__law_rings : List Str := ["_law_walks", "_law_ways", "_law_count", "_law_walk", "_law_rooms", "_law_k", "_law_heads", "_law_doors_here", "_law_turn", "_law_room", "_law_step", "_law_goal", "_law_here", "_law_there", "_law_known", "_law_low", "_law_high", "_law_head"]
abbrev P__law_rings : List Str := ["_law_walks"]
theorem sc__law_rings : FnScope N__law_rings P__law_rings (defScope s__law_rings) := ⟨rfl, rfl, rfl, by decide +kernel, rfl, by decide +kernel, by decide +kernel⟩
abbrev s__law_short : Stmt := topS 40
abbrev N__law_short : List Str := ["_law_walk", "_law_found", "_law_step"]
abbrev P__law_short : List Str := ["_law_walk"]
theorem sc__law_short : FnScope N__law_short P__law_short (defScope s__law_short) := ⟨rfl, rfl, rfl, by decide +kernel, rfl, by decide +kernel, by decide +kernel⟩
abbrev s__law_is_integer : Stmt := topS 41
abbrev N__law_is_integer : List Str := ["_law_found", "_law_due"]
abbrev P__law_is_integer : List Str := ["_law_found", "_law_due"]
theorem sc__law_is_integer : FnScope N__law_is_integer P__law_is_integer (defScope s__law_is_integer) := ⟨rfl, rfl, rfl, by decide +kernel, rfl, by decide +kernel, by decide +kernel⟩
abbrev s__law_rounds : Stmt := topS 43
abbrev N__law_rounds : List Str := ["_law_tables_here", "_law_count", "_law_found", "_law_table", "_law_first", "_law_room", "_law_times", "_law_turn"]
abbrev P__law_rounds : List Str := ["_law_tables_here", "_law_count"]
theorem sc__law_rounds : FnScope N__law_rounds P__law_rounds (defScope s__law_rounds) := ⟨rfl, rfl, rfl, by decide +kernel, rfl, by decide +kernel, by decide +kernel⟩
abbrev s__law_truth : Stmt := topS 47
abbrev N__law_truth : List Str := ["_law_found", "_law_due"]
abbrev P__law_truth : List Str := ["_law_found", "_law_due"]
theorem sc__law_truth : FnScope N__law_truth P__law_truth (defScope s__law_truth) := ⟨rfl, rfl, rfl, by decide +kernel, rfl, by decide +kernel, by decide +kernel⟩
abbrev s_is_letters : Stmt := topS 8
abbrev N_is_letters : List Str := ["value"]
abbrev P_is_letters : List Str := ["value"]
theorem sc_is_letters : FnScope N_is_letters P_is_letters (defScope s_is_letters) := ⟨rfl, rfl, rfl, by decide +kernel, rfl, by decide +kernel, by decide +kernel⟩
abbrev s_check_least : Stmt := topS 10
abbrev N_check_least : List Str := ["number", "least"]
abbrev P_check_least : List Str := ["number", "least"]
theorem sc_check_least : FnScope N_check_least P_check_least (defScope s_check_least) := ⟨rfl, rfl, rfl, by decide +kernel, rfl, by decide +kernel, by decide +kernel⟩
abbrev s_is_row : Stmt := topS 16
abbrev N_is_row : List Str := ["letters", "count", "value", "after"]
abbrev P_is_row : List Str := ["letters", "count", "value"]
theorem sc_is_row : FnScope N_is_row P_is_row (defScope s_is_row) := ⟨rfl, rfl, rfl, by decide +kernel, rfl, by decide +kernel, by decide +kernel⟩
abbrev s_first_reached : Stmt := topS 19
abbrev N_first_reached : List Str := ["letters", "table", "home", "reached", "found", "steps", "place", "room", "step", "after"]
abbrev P_first_reached : List Str := ["letters", "table", "home"]
theorem sc_first_reached : FnScope N_first_reached P_first_reached (defScope s_first_reached) := ⟨rfl, rfl, rfl, by decide +kernel, rfl, by decide +kernel, by decide +kernel⟩
abbrev s_walk_in_circle : Stmt := topS 25
abbrev N_walk_in_circle : List Str := ["table", "many", "met", "rooms", "ways", "after", "other"]
abbrev P_walk_in_circle : List Str := ["table", "many"]
theorem sc_walk_in_circle : FnScope N_walk_in_circle P_walk_in_circle (defScope s_walk_in_circle) := ⟨rfl, rfl, rfl, by decide +kernel, rfl, by decide +kernel, by decide +kernel⟩
abbrev s__law_web : Stmt := topS 34
abbrev N__law_web : List Str := ["_law_letters", "_law_doors_here", "_law_left", "_law_turn", "_law_room", "_law_step", "_law_goal", "_law_order", "_law_at", "_law_rows", "_law_goals", "_law_steps_here", "_law_letter"]
abbrev P__law_web : List Str := ["_law_letters", "_law_doors_here"]
theorem sc__law_web : FnScope N__law_web P__law_web (defScope s__law_web) := ⟨rfl, rfl, rfl, by decide +kernel, rfl, by decide +kernel, by decide +kernel⟩
abbrev s__law_straight : Stmt := topS 36
abbrev N__law_straight : List Str := ["_law_pot_here", "_law_letters", "_law_size", "_law_found", "_law_turn", "_law_menu", "_law_step"]
abbrev P__law_straight : List Str := ["_law_pot_here", "_law_letters", "_law_size"]
theorem sc__law_straight : FnScope N__law_straight P__law_straight (defScope s__law_straight) := ⟨rfl, rfl, rfl, by decide +kernel, rfl, by decide +kernel, by decide +kernel⟩
abbrev s__law_tables : Stmt := topS 37
abbrev N__law_tables : List Str := ["_law_pot_here", "_law_letters", "_law_count", "_law_gaps", "_law_doors_here", "_law_letter", "_law_left", "_law_room", "_law_goal"]
abbrev P__law_tables : List Str := ["_law_pot_here", "_law_letters", "_law_count", "_law_gaps"]
theorem sc__law_tables : FnScope N__law_tables P__law_tables (defScope s__law_tables) := ⟨rfl, rfl, rfl, by decide +kernel, rfl, by decide +kernel, by decide +kernel⟩
abbrev s__law_all_tables : Stmt := topS 42
abbrev N__law_all_tables : List Str := ["_law_doors_here", "_law_letters", "_law_queue", "_law_at", "_law_met", "_law_step", "_law_goals", "_law_table", "_law_room"]
abbrev P__law_all_tables : List Str := ["_law_doors_here", "_law_letters"]
theorem sc__law_all_tables : FnScope N__law_all_tables P__law_all_tables (defScope s__law_all_tables) := ⟨rfl, rfl, rfl, by decide +kernel, rfl, by decide +kernel, by decide +kernel⟩
abbrev s__law_round : Stmt := topS 44
abbrev N__law_round : List Str := ["_law_doors_here", "_law_walk", "_law_most", "_law_times", "_law_room", "_law_step"]
abbrev P__law_round : List Str := ["_law_doors_here", "_law_walk", "_law_most"]
theorem sc__law_round : FnScope N__law_round P__law_round (defScope s__law_round) := ⟨rfl, rfl, rfl, by decide +kernel, rfl, by decide +kernel, by decide +kernel⟩
abbrev s__law_is_walk : Stmt := topS 45
abbrev N__law_is_walk : List Str := ["_law_found", "_law_letters", "_law_step"]
abbrev P__law_is_walk : List Str := ["_law_found", "_law_letters"]
theorem sc__law_is_walk : FnScope N__law_is_walk P__law_is_walk (defScope s__law_is_walk) := ⟨rfl, rfl, rfl, by decide +kernel, rfl, by decide +kernel, by decide +kernel⟩
abbrev s_has_web_form : Stmt := topS 17
abbrev N_has_web_form : List Str := ["value", "letters", "rows", "row"]
abbrev P_has_web_form : List Str := ["value"]
theorem sc_has_web_form : FnScope N_has_web_form P_has_web_form (defScope s_has_web_form) := ⟨rfl, rfl, rfl, by decide +kernel, rfl, by decide +kernel, by decide +kernel⟩
abbrev s_first_ways : Stmt := topS 20
abbrev N_first_ways : List Str := ["letters", "table", "ways", "reached", "room", "before", "step"]
abbrev P_first_ways : List Str := ["letters", "table"]
theorem sc_first_ways : FnScope N_first_ways P_first_ways (defScope s_first_ways) := ⟨rfl, rfl, rfl, by decide +kernel, rfl, by decide +kernel, by decide +kernel⟩
abbrev s_most_in_circle : Stmt := topS 26
abbrev N_most_in_circle : List Str := ["table", "many"]
abbrev P_most_in_circle : List Str := ["table"]
theorem sc_most_in_circle : FnScope N_most_in_circle P_most_in_circle (defScope s_most_in_circle) := ⟨rfl, rfl, rfl, by decide +kernel, rfl, by decide +kernel, by decide +kernel⟩
abbrev s__law_drawn : Stmt := topS 39
abbrev N__law_drawn : List Str := ["_law_pot_here", "_law_most", "_law_top", "_law_letters", "_law_way", "_law_walks", "_law_left", "_law_turn", "_law_size", "_law_gaps"]
abbrev P__law_drawn : List Str := ["_law_pot_here", "_law_most", "_law_top"]
theorem sc__law_drawn : FnScope N__law_drawn P__law_drawn (defScope s__law_drawn) := ⟨rfl, rfl, rfl, by decide +kernel, rfl, by decide +kernel, by decide +kernel⟩
abbrev s__law_walk_right : Stmt := topS 46
abbrev N__law_walk_right : List Str := ["_law_doors_here", "_law_letters", "_law_found", "_law_times", "_law_due"]
abbrev P__law_walk_right : List Str := ["_law_doors_here", "_law_letters", "_law_found", "_law_times", "_law_due"]
theorem sc__law_walk_right : FnScope N__law_walk_right P__law_walk_right (defScope s__law_walk_right) := ⟨rfl, rfl, rfl, by decide +kernel, rfl, by decide +kernel, by decide +kernel⟩
abbrev s_right_table : Stmt := topS 21
abbrev N_right_table : List Str := ["value", "letters", "rows", "table", "steps"]
abbrev P_right_table : List Str := ["value"]
theorem sc_right_table : FnScope N_right_table P_right_table (defScope s_right_table) := ⟨rfl, rfl, rfl, by decide +kernel, rfl, by decide +kernel, by decide +kernel⟩
abbrev s_checked_table : Stmt := topS 22
abbrev N_checked_table : List Str := ["web", "table"]
abbrev P_checked_table : List Str := ["web"]
theorem sc_checked_table : FnScope N_checked_table P_checked_table (defScope s_checked_table) := ⟨rfl, rfl, rfl, by decide +kernel, rfl, by decide +kernel, by decide +kernel⟩
abbrev s_power_walk : Stmt := topS 27
abbrev N_power_walk : List Str := ["web", "times", "table", "found", "lead"]
abbrev P_power_walk : List Str := ["web", "times"]
theorem sc_power_walk : FnScope N_power_walk P_power_walk (defScope s_power_walk) := ⟨rfl, rfl, rfl, by decide +kernel, rfl, by decide +kernel, by decide +kernel⟩
abbrev s_greatest_power : Stmt := topS 28
abbrev N_greatest_power : List Str := ["web"]
abbrev P_greatest_power : List Str := ["web"]
theorem sc_greatest_power : FnScope N_greatest_power P_greatest_power (defScope s_greatest_power) := ⟨rfl, rfl, rfl, by decide +kernel, rfl, by decide +kernel, by decide +kernel⟩
abbrev s_is_rooted : Stmt := topS 29
abbrev N_is_rooted : List Str := ["web"]
abbrev P_is_rooted : List Str := ["web"]
theorem sc_is_rooted : FnScope N_is_rooted P_is_rooted (defScope s_is_rooted) := ⟨rfl, rfl, rfl, by decide +kernel, rfl, by decide +kernel, by decide +kernel⟩
abbrev s__law_right : Stmt := topS 48
abbrev N__law_right : List Str := ["_law_pot_here", "_law_web_here", "_law_doors_here", "_law_held", "_law_most", "_law_places", "_law_turn", "_law_times", "_law_due", "_law_found"]
abbrev P__law_right : List Str := ["_law_pot_here"]
theorem sc__law_right : FnScope N__law_right P__law_right (defScope s__law_right) := ⟨rfl, rfl, rfl, by decide +kernel, rfl, by decide +kernel, by decide +kernel⟩
abbrev s_law : Stmt := topS 49
abbrev N_law : List Str := ["_law_script", "_law_k"]
abbrev P_law : List Str := ["_law_script"]
theorem sc_law : FnScope N_law P_law (defScope s_law) := ⟨rfl, rfl, rfl, by decide +kernel, rfl, by decide +kernel, by decide +kernel⟩
/-- where the defs stand -/
structure Ad where
  a_is_integer : Addr
  f_is_integer : FuncData
  a_steps_of : Addr
  f_steps_of : FuncData
  a_straightened : Addr
  f_straightened : FuncData
  a_turned_back : Addr
  f_turned_back : FuncData
  a_step_table : Addr
  f_step_table : FuncData
  a_ways_together : Addr
  f_ways_together : FuncData
  a__law_pot : Addr
  f__law_pot : FuncData
  a__law_draw : Addr
  f__law_draw : FuncData
  a__law_steps : Addr
  f__law_steps : FuncData
  a__law_doors : Addr
  f__law_doors : FuncData
  a__law_rings : Addr
  f__law_rings : FuncData
  a__law_short : Addr
  f__law_short : FuncData
  a__law_is_integer : Addr
  f__law_is_integer : FuncData
  a__law_rounds : Addr
  f__law_rounds : FuncData
  a__law_truth : Addr
  f__law_truth : FuncData
  a_is_letters : Addr
  f_is_letters : FuncData
  a_check_least : Addr
  f_check_least : FuncData
  a_is_row : Addr
  f_is_row : FuncData
  a_first_reached : Addr
  f_first_reached : FuncData
  a_walk_in_circle : Addr
  f_walk_in_circle : FuncData
  a__law_web : Addr
  f__law_web : FuncData
  a__law_straight : Addr
  f__law_straight : FuncData
  a__law_tables : Addr
  f__law_tables : FuncData
  a__law_all_tables : Addr
  f__law_all_tables : FuncData
  a__law_round : Addr
  f__law_round : FuncData
  a__law_is_walk : Addr
  f__law_is_walk : FuncData
  a_has_web_form : Addr
  f_has_web_form : FuncData
  a_first_ways : Addr
  f_first_ways : FuncData
  a_most_in_circle : Addr
  f_most_in_circle : FuncData
  a__law_drawn : Addr
  f__law_drawn : FuncData
  a__law_walk_right : Addr
  f__law_walk_right : FuncData
  a_right_table : Addr
  f_right_table : FuncData
  a_checked_table : Addr
  f_checked_table : FuncData
  a_power_walk : Addr
  f_power_walk : FuncData
  a_greatest_power : Addr
  f_greatest_power : FuncData
  a_is_rooted : Addr
  f_is_rooted : FuncData
  a__law_right : Addr
  f__law_right : FuncData
  a_law : Addr
  f_law : FuncData
structure Tx (K : PySem.W.Frag) (mg : Str → Option Value) (A : Ad) : Prop where
  g_is_integer : mg "is_integer" = some (.ref A.a_is_integer)
  F_is_integer : Fun K "is_integer" "is_integer" s_is_integer A.a_is_integer A.f_is_integer
  b_is_integer : Binds K A.f_is_integer P_is_integer []
  g_steps_of : mg "steps_of" = some (.ref A.a_steps_of)
  F_steps_of : Fun K "steps_of" "steps_of" s_steps_of A.a_steps_of A.f_steps_of
  b_steps_of : Binds K A.f_steps_of P_steps_of []
  g_straightened : mg "straightened" = some (.ref A.a_straightened)
  F_straightened : Fun K "straightened" "straightened" s_straightened A.a_straightened A.f_straightened
  b_straightened : Binds K A.f_straightened P_straightened []
  g_turned_back : mg "turned_back" = some (.ref A.a_turned_back)
  F_turned_back : Fun K "turned_back" "turned_back" s_turned_back A.a_turned_back A.f_turned_back
  b_turned_back : Binds K A.f_turned_back P_turned_back []
  g_step_table : mg "step_table" = some (.ref A.a_step_table)
  F_step_table : Fun K "step_table" "step_table" s_step_table A.a_step_table A.f_step_table
  b_step_table : Binds K A.f_step_table P_step_table []
  g_ways_together : mg "ways_together" = some (.ref A.a_ways_together)
  F_ways_together : Fun K "ways_together" "ways_together" s_ways_together A.a_ways_together A.f_ways_together
  b_ways_together : Binds K A.f_ways_together P_ways_together []
  g__law_pot : mg "_law_pot" = some (.ref A.a__law_pot)
  F__law_pot : Fun K "_law_pot" "_law_pot" s__law_pot A.a__law_pot A.f__law_pot
  b__law_pot : Binds K A.f__law_pot P__law_pot []
  g__law_draw : mg "_law_draw" = some (.ref A.a__law_draw)
  F__law_draw : Fun K "_law_draw" "_law_draw" s__law_draw A.a__law_draw A.f__law_draw
  b__law_draw : Binds K A.f__law_draw P__law_draw []
  g__law_steps : mg "_law_steps" = some (.ref A.a__law_steps)
  F__law_steps : Fun K "_law_steps" "_law_steps" s__law_steps A.a__law_steps A.f__law_steps
  b__law_steps : Binds K A.f__law_steps P__law_steps []
  g__law_doors : mg "_law_doors" = some (.ref A.a__law_doors)
  F__law_doors : Fun K "_law_doors" "_law_doors" s__law_doors A.a__law_doors A.f__law_doors
  b__law_doors : Binds K A.f__law_doors P__law_doors []
  g__law_rings : mg "_law_rings" = some (.ref A.a__law_rings)
  F__law_rings : Fun K "_law_rings" "_law_rings" s__law_rings A.a__law_rings A.f__law_rings
  b__law_rings : Binds K A.f__law_rings P__law_rings []
  g__law_short : mg "_law_short" = some (.ref A.a__law_short)
  F__law_short : Fun K "_law_short" "_law_short" s__law_short A.a__law_short A.f__law_short
  b__law_short : Binds K A.f__law_short P__law_short []
  g__law_is_integer : mg "_law_is_integer" = some (.ref A.a__law_is_integer)
  F__law_is_integer : Fun K "_law_is_integer" "_law_is_integer" s__law_is_integer A.a__law_is_integer A.f__law_is_integer
  b__law_is_integer : Binds K A.f__law_is_integer P__law_is_integer []
  g__law_rounds : mg "_law_rounds" = some (.ref A.a__law_rounds)
  F__law_rounds : Fun K "_law_rounds" "_law_rounds" s__law_rounds A.a__law_rounds A.f__law_rounds
  b__law_rounds : Binds K A.f__law_rounds P__law_rounds []
  g__law_truth : mg "_law_truth" = some (.ref A.a__law_truth)
  F__law_truth : Fun K "_law_truth" "_law_truth" s__law_truth A.a__law_truth A.f__law_truth
  b__law_truth : Binds K A.f__law_truth P__law_truth []
  g_is_letters : mg "is_letters" = some (.ref A.a_is_letters)
  F_is_letters : Fun K "is_letters" "is_letters" s_is_letters A.a_is_letters A.f_is_letters
  b_is_letters : Binds K A.f_is_letters P_is_letters []
  g_check_least : mg "check_least" = some (.ref A.a_check_least)
  F_check_least : Fun K "check_least" "check_least" s_check_least A.a_check_least A.f_check_least
  b_check_least : Binds K A.f_check_least P_check_least []
  g_is_row : mg "is_row" = some (.ref A.a_is_row)
  F_is_row : Fun K "is_row" "is_row" s_is_row A.a_is_row A.f_is_row
  b_is_row : Binds K A.f_is_row P_is_row []
  g_first_reached : mg "first_reached" = some (.ref A.a_first_reached)
  F_first_reached : FunD K "first_reached" "first_reached" (defArgs s_first_reached) (defBody s_first_reached) (defScope s_first_reached) [V.int 0] [] A.a_first_reached A.f_first_reached
  b0_first_reached : ∃ ds, Vals [V.int 0] ds ∧ Binds K A.f_first_reached P_first_reached ds
  b1_first_reached : ∃ ds, Vals [] ds ∧ Binds K A.f_first_reached P_first_reached ds
  g_walk_in_circle : mg "walk_in_circle" = some (.ref A.a_walk_in_circle)
  F_walk_in_circle : Fun K "walk_in_circle" "walk_in_circle" s_walk_in_circle A.a_walk_in_circle A.f_walk_in_circle
  b_walk_in_circle : Binds K A.f_walk_in_circle P_walk_in_circle []
  g__law_web : mg "_law_web" = some (.ref A.a__law_web)
  F__law_web : Fun K "_law_web" "_law_web" s__law_web A.a__law_web A.f__law_web
  b__law_web : Binds K A.f__law_web P__law_web []
  g__law_straight : mg "_law_straight" = some (.ref A.a__law_straight)
  F__law_straight : Fun K "_law_straight" "_law_straight" s__law_straight A.a__law_straight A.f__law_straight
  b__law_straight : Binds K A.f__law_straight P__law_straight []
  g__law_tables : mg "_law_tables" = some (.ref A.a__law_tables)
  F__law_tables : Fun K "_law_tables" "_law_tables" s__law_tables A.a__law_tables A.f__law_tables
  b__law_tables : Binds K A.f__law_tables P__law_tables []
  g__law_all_tables : mg "_law_all_tables" = some (.ref A.a__law_all_tables)
  F__law_all_tables : Fun K "_law_all_tables" "_law_all_tables" s__law_all_tables A.a__law_all_tables A.f__law_all_tables
  b__law_all_tables : Binds K A.f__law_all_tables P__law_all_tables []
  g__law_round : mg "_law_round" = some (.ref A.a__law_round)
  F__law_round : Fun K "_law_round" "_law_round" s__law_round A.a__law_round A.f__law_round
  b__law_round : Binds K A.f__law_round P__law_round []
  g__law_is_walk : mg "_law_is_walk" = some (.ref A.a__law_is_walk)
  F__law_is_walk : Fun K "_law_is_walk" "_law_is_walk" s__law_is_walk A.a__law_is_walk A.f__law_is_walk
  b__law_is_walk : Binds K A.f__law_is_walk P__law_is_walk []
  g_has_web_form : mg "has_web_form" = some (.ref A.a_has_web_form)
  F_has_web_form : Fun K "has_web_form" "has_web_form" s_has_web_form A.a_has_web_form A.f_has_web_form
  b_has_web_form : Binds K A.f_has_web_form P_has_web_form []
  g_first_ways : mg "first_ways" = some (.ref A.a_first_ways)
  F_first_ways : Fun K "first_ways" "first_ways" s_first_ways A.a_first_ways A.f_first_ways
  b_first_ways : Binds K A.f_first_ways P_first_ways []
  g_most_in_circle : mg "most_in_circle" = some (.ref A.a_most_in_circle)
  F_most_in_circle : Fun K "most_in_circle" "most_in_circle" s_most_in_circle A.a_most_in_circle A.f_most_in_circle
  b_most_in_circle : Binds K A.f_most_in_circle P_most_in_circle []
  g__law_drawn : mg "_law_drawn" = some (.ref A.a__law_drawn)
  F__law_drawn : Fun K "_law_drawn" "_law_drawn" s__law_drawn A.a__law_drawn A.f__law_drawn
  b__law_drawn : Binds K A.f__law_drawn P__law_drawn []
  g__law_walk_right : mg "_law_walk_right" = some (.ref A.a__law_walk_right)
  F__law_walk_right : Fun K "_law_walk_right" "_law_walk_right" s__law_walk_right A.a__law_walk_right A.f__law_walk_right
  b__law_walk_right : Binds K A.f__law_walk_right P__law_walk_right []
  g_right_table : mg "right_table" = some (.ref A.a_right_table)
  F_right_table : Fun K "right_table" "right_table" s_right_table A.a_right_table A.f_right_table
  b_right_table : Binds K A.f_right_table P_right_table []
  g_checked_table : mg "checked_table" = some (.ref A.a_checked_table)
  F_checked_table : Fun K "checked_table" "checked_table" s_checked_table A.a_checked_table A.f_checked_table
  b_checked_table : Binds K A.f_checked_table P_checked_table []
  g_power_walk : mg "power_walk" = some (.ref A.a_power_walk)
  F_power_walk : Fun K "power_walk" "power_walk" s_power_walk A.a_power_walk A.f_power_walk
  b_power_walk : Binds K A.f_power_walk P_power_walk []
  g_greatest_power : mg "greatest_power" = some (.ref A.a_greatest_power)
  F_greatest_power : Fun K "greatest_power" "greatest_power" s_greatest_power A.a_greatest_power A.f_greatest_power
  b_greatest_power : Binds K A.f_greatest_power P_greatest_power []
  g_is_rooted : mg "is_rooted" = some (.ref A.a_is_rooted)
  F_is_rooted : Fun K "is_rooted" "is_rooted" s_is_rooted A.a_is_rooted A.f_is_rooted
  b_is_rooted : Binds K A.f_is_rooted P_is_rooted []
  g__law_right : mg "_law_right" = some (.ref A.a__law_right)
  F__law_right : Fun K "_law_right" "_law_right" s__law_right A.a__law_right A.f__law_right
  b__law_right : Binds K A.f__law_right P__law_right []
  g_law : mg "law" = some (.ref A.a_law)
  F_law : Fun K "law" "law" s_law A.a_law A.f_law
  b_law : Binds K A.f_law P_law []
  n_abs : mg "abs" = none
  n_all : mg "all" = none
  n_any : mg "any" = none
  n_bool : mg "bool" = none
  n_dict : mg "dict" = none
  n_enumerate : mg "enumerate" = none
  n_int : mg "int" = none
  n_isinstance : mg "isinstance" = none
  n_len : mg "len" = none
  n_list : mg "list" = none
  n_max : mg "max" = none
  n_min : mg "min" = none
  n_range : mg "range" = none
  n_tuple : mg "tuple" = none
  n_permutations : mg "permutations" = some (.type "itertools.permutations")
  c_MOST_LETTERS : ∃ t, mg "MOST_LETTERS" = some (.int (4) t)
theorem kb_power_walk_times_web {K : PySem.W.Frag} {f : Addr} {fd : FuncData} (F : Fun K "power_walk" "power_walk" s_power_walk f fd) : KBinds K fd P_power_walk ["times", "web"] (fun us ws => match us, ws with | [], [w0, w1] => [w1, w0] | _, _ => []) (fun us ws => match us, ws with | [], [w0, w1] => [w1, w0] | _, _ => []) := by
  obtain ⟨oc, od, kV, doc, pm, an, cdv, ct, osl, rfl, lk, hcd⟩ := F.ex
  refine ⟨fun s us ws _ hl => ?_, fun {vs us zs ws} r1 r2 => ?_⟩
  · match us, ws, hl with | [], [w0, w1], _ => exact .of_eq rfl
  · cases r1 with
    | nil =>
      cases r2 with
      | nil => exact .nil
      | cons h0 t0 =>
        cases t0 with
        | nil => exact .nil
        | cons h1 t1 =>
          cases t1 with
          | nil => exact (.cons h1 (.cons h0 .nil))
          | cons _ _ => exact .nil
    | cons _ _ =>
      cases r2 <;> exact .nil
theorem kb_greatest_power_web {K : PySem.W.Frag} {f : Addr} {fd : FuncData} (F : Fun K "greatest_power" "greatest_power" s_greatest_power f fd) : KBinds K fd P_greatest_power ["web"] (fun us ws => match us, ws with | [], [w0] => [w0] | _, _ => []) (fun us ws => match us, ws with | [], [w0] => [w0] | _, _ => []) := by
  obtain ⟨oc, od, kV, doc, pm, an, cdv, ct, osl, rfl, lk, hcd⟩ := F.ex
  refine ⟨fun s us ws _ hl => ?_, fun {vs us zs ws} r1 r2 => ?_⟩
  · match us, ws, hl with | [], [w0], _ => exact .of_eq rfl
  · cases r1 with
    | nil =>
      cases r2 with
      | nil => exact .nil
      | cons h0 t0 =>
        cases t0 with
        | nil => exact (.cons h0 .nil)
        | cons _ _ => exact .nil
    | cons _ _ =>
      cases r2 <;> exact .nil
theorem kb_is_rooted_web {K : PySem.W.Frag} {f : Addr} {fd : FuncData} (F : Fun K "is_rooted" "is_rooted" s_is_rooted f fd) : KBinds K fd P_is_rooted ["web"] (fun us ws => match us, ws with | [], [w0] => [w0] | _, _ => []) (fun us ws => match us, ws with | [], [w0] => [w0] | _, _ => []) := by
  obtain ⟨oc, od, kV, doc, pm, an, cdv, ct, osl, rfl, lk, hcd⟩ := F.ex
  refine ⟨fun s us ws _ hl => ?_, fun {vs us zs ws} r1 r2 => ?_⟩
  · match us, ws, hl with | [], [w0], _ => exact .of_eq rfl
  · cases r1 with
    | nil =>
      cases r2 with
      | nil => exact .nil
      | cons h0 t0 =>
        cases t0 with
        | nil => exact (.cons h0 .nil)
        | cons _ _ => exact .nil
    | cons _ _ =>
      cases r2 <;> exact .nil
local macro_rules | `(tactic| walk_at "go") => `(tactic| repeat (first
  | with_reducible refine st_seq ?_ | with_reducible refine st_set ?_ | with_reducible refine st_asg ?_ | with_reducible refine st_ret ?_ | with_reducible refine st_drop ?_ | with_reducible refine st_if ?_
  | with_reducible refine st_c ?_ | ((with_reducible refine' st_v ?h ?_); (case h => exact rfl)) | with_reducible refine st_n ?_ | with_reducible refine st_cons ?_ | with_reducible refine st_op ?_ | with_reducible refine st_un ?_
  | with_reducible refine st_cb ?_ | with_reducible refine st_test ?_ | with_reducible refine st_call ?_ | with_reducible refine st_callK ?_ | with_reducible refine st_sl ?_ | with_reducible refine st_par ?_ | with_reducible refine st_par3 ?_ | with_reducible refine st_tru ?_
  | with_reducible refine st_and ?_ | with_reducible refine st_or ?_ | with_reducible refine st_not ?_ | with_reducible refine st_B ?_ | with_reducible refine st_andV ?_ | with_reducible refine st_orV ?_ | with_reducible refine st_notV ?_ | with_reducible refine st_ifE ?_
  | with_reducible refine st_part ?_ | with_reducible refine st_nop ?_ | with_reducible refine st_sub ?_ | with_reducible refine st_chain ?_ | with_reducible refine st_chain3 ?_ | with_reducible refine st_lenSet ?_ | with_reducible refine st_bl ?_ | with_reducible refine st_in ?_ | with_reducible refine r_truB ?_
  | with_reducible refine st_nameG ?_ | with_reducible refine if_T ?_ | with_reducible refine if_F ?_ | with_reducible refine if_nT ?_ | with_reducible refine if_nF ?_
  | with_reducible refine r_add ?_ | with_reducible refine r_0 ?_ | with_reducible refine r_neg ?_ | with_reducible refine r_intI ?_ | with_reducible refine r_intB ?_ | with_reducible refine r_abs ?_ | with_reducible refine r_max2 ?_ | with_reducible refine r_min2 ?_ | with_reducible refine r_eqI ?_ | with_reducible refine r_neI ?_
  | with_reducible refine st_nxt ?_ | with_reducible refine st_cnt ?_ | with_reducible refine st_brk ?_ | with_reducible refine st_retn ?_
  | with_reducible refine st_lstN ?_ | with_reducible refine st_tupN ?_
  | with_reducible refine st_for ?_ | with_reducible refine st_lc ?_ | with_reducible refine st_lc2 ?_ | with_reducible refine st_rng1 ?_ | with_reducible refine st_rng2 ?_ | with_reducible refine st_rng3 ?_ | with_reducible refine st_itL ?_ | with_reducible refine st_itT ?_ | with_reducible refine st_rev ?_ | with_reducible refine st_enumE ?_ | with_reducible refine st_zip3 ?_ | with_reducible refine st_lvals ?_ | with_reducible refine st_fld ?_ | with_reducible refine st_sfld ?_ | with_reducible refine st_meth ?_ | with_reducible refine st_make ?_ | with_reducible refine st_rg1 ?_ | with_reducible refine st_enumS ?_ | with_reducible refine st_enumD ?_ | with_reducible refine st_lstIt ?_ | with_reducible refine st_dg1 ?_ | with_reducible refine st_dg2 ?_ | with_reducible refine st_dpop ?_ | with_reducible refine st_dset ?_ | with_reducible refine st_ckw ?_ | with_reducible refine st_dsetT ?_ | with_reducible refine st_dnewT ?_ | with_reducible refine st_dc ?_ | with_reducible refine st_keys ?_ | with_reducible refine st_dget ?_ | with_reducible refine st_din ?_ | with_reducible refine st_dnin ?_ | with_reducible refine st_dput ?_ | with_reducible refine st_dnew ?_ | with_reducible refine st_lstRg ?_ | with_reducible refine st_rg2 ?_ | with_reducible refine r_twoI ?_ | with_reducible refine st_bm ?_ | with_reducible refine st_bm0 ?_
  | ((with_reducible refine' st_aug ?h ?_); (case h => exact rfl)) | with_reducible refine r_augI ?_ | with_reducible refine r_eqB ?_
  | dsimp only))
section
variable {P : Program} {w : World} {K : PySem.W.Frag} {mg : Str → Option Value} {base : Heap} {A : Ad}
def sp_is_integer (K : PySem.W.Frag) : Sp := fun vs H Q _ => ∃ i, vs = [.int i] ∧ Q (.bl true) H
theorem ok_is_integer (T : Tx K mg A) : FnOk P w K mg base CX0 1 A.a_is_integer A.f_is_integer P_is_integer (sp_is_integer K) := by
  refine Qt.drp ?_ ?_
  · refine T.F_is_integer.ok sc_is_integer (fun vs H Q E h => ?_) (fun cdv A' outer s H vs Q E hr h => ?_)
    · obtain ⟨i, rfl, _⟩ := h
      rfl
    · obtain ⟨i, rfl, q⟩ := h
      refine ⟨_, (pss_one (ps_ret (pe_and (pe_callB (isi_K K) (by rfl) T.n_isinstance (by decide +kernel) (pa_cons (pv 0) (pa_cons (pe_bltn (v := .ty "int") (by rfl) T.n_int (by decide +kernel) rfl) pa_nil))) (pe_one (pe_not (pe_callB (isi_K K) (by rfl) T.n_isinstance (by decide +kernel) (pa_cons (pv 0) (pa_cons (pe_bltn (v := .ty "bool") (by rfl) T.n_bool (by decide +kernel) rfl) pa_nil)))))))), ?_⟩
      refine ⟨_, rfl, .int i, .ty "int", _, _, true, rfl, .ty _, .base (.int i), kit_ty (by decide +kernel), true, rfl, iteT ?_⟩
      exact ⟨_, rfl, .int i, .ty "bool", _, _, false, rfl, .ty _, .base (.int i), kit_ty (by decide +kernel), false, rfl, q⟩
  walk_at "end"
def sp_is_letters (K : PySem.W.Frag) : Sp := fun vs H Q _ => ∃ l, vs = [.int l] ∧ 1 ≤ l ∧ l ≤ 4 ∧ Q (.bl true) H
theorem ok_is_letters (T : Tx K mg A) : FnOk P w K mg base CX0 2 A.a_is_letters A.f_is_letters P_is_letters (sp_is_letters K) := by
  refine T.F_is_letters.ok sc_is_letters (fun vs H Q E h => ?_) (fun cdv A' outer s H vs Q E hr h => ?_)
  · obtain ⟨l, rfl, _⟩ := h
    rfl
  · obtain ⟨l, rfl, h1, h4, q⟩ := h
    refine ⟨_, (pss_one (ps_ret (pe_and (pe_call (ok_is_integer T) (hr.mono (by decide)) (by rfl) T.g_is_integer T.F_is_integer.kp T.b_is_integer .nil pass0 (pa_cons (pv 0) pa_nil)) (pe_one (pe_chain op_le op_le pe_int (pv 0) (pe_glob (v := .int (4)) (by rfl) T.c_MOST_LETTERS.choose_spec ⟨_, rfl⟩)))))), ?_⟩
    walk_at "go"
    refine ⟨l, rfl, true, rfl, ?_⟩
    walk_at "go"
    refine if_t h1 ?_
    walk_at "go"
    rw [decide_eq_true h4]
    exact q
def sp_check_least (K : PySem.W.Frag) : Sp := fun vs H Q _ => ∃ n m : Int, vs = [.int n, .int m] ∧ m ≤ n ∧ Q .non H
theorem ok_check_least (T : Tx K mg A) : FnOk P w K mg base CX0 2 A.a_check_least A.f_check_least P_check_least (sp_check_least K) := by
  refine T.F_check_least.ok sc_check_least (fun vs H Q E h => ?_) (fun cdv A' outer s H vs Q E hr h => ?_)
  · obtain ⟨n, m, rfl, _⟩ := h
    rfl
  · obtain ⟨n, m, rfl, hm, q⟩ := h
    refine ⟨_, (pss_one (ps_if (PW.pt (pw_or (pt_not (pt_truK K (pe_call (ok_is_integer T) (hr.mono (by decide)) (by rfl) T.g_is_integer T.F_is_integer.kp T.b_is_integer .nil pass0 (pa_cons (pv 0) pa_nil)))) (pw_or1 (pt_cmpR op_lt (pv 0) (pv 1) (nomark _))))) (pss_one ps_never) pss_nil)), ?_⟩
    walk_at "go"
    refine ⟨n, rfl, r_truB (if_nT ?_)⟩
    walk_at "go"
    refine if_f (by omega) ?_
    exact q
def sp_steps_of (K : PySem.W.Frag) : Sp := fun vs H Q _ => ∃ L : Nat, vs = [.int L] ∧ L ≤ 4 ∧ ∀ p H1, H p = none → Ex H H1 → H1 p = some (.lst ((Od.steps L).map V.int)) → Q (.ref p) H1
theorem ok_steps_of (T : Tx K mg A) : FnOk P w K mg base CX0 1 A.a_steps_of A.f_steps_of P_steps_of (sp_steps_of K) := by
  refine Qt.drp ?_ ?_
  · refine T.F_steps_of.ok sc_steps_of (fun vs H Q E h => ?_) (fun cdv A' outer s H vs Q E hr h => ?_)
    · obtain ⟨L, rfl, _⟩ := h
      rfl
    · obtain ⟨L, rfl, h4, q⟩ := h
      refine ⟨_, (pss_one (ps_ret (pe_lc2 (own := [("letter", 1), ("step", 2)]) (vs1 := [2]) rfl sc_steps_of.nd (pi_range2 (by rfl) T.n_range (pa_cons pe_int (pa_cons (pe_op (op_addK K) (pv 0) pe_int) pa_nil))) (blkOk_by (own := [("letter", 1), ("step", 2)]) (N := N_steps_of) (sc := defScope s_steps_of) (by decide +kernel)) (by decide) (fun _ _ _ _ _ => (pg_name (i := 1) sc_steps_of.nd rfl (Or.inl rfl))) (fun _ _ _ _ _ => pts_nil) (fun _ _ _ _ _ => (pi_tupK K (pe_tup (pa_cons (pv 1) (pa_cons (pe_un un_neg (pv 1)) pa_nil))))) (fun _ _ _ _ _ => (pg_name (i := 2) sc_steps_of.nd rfl (Or.inl rfl))) (fun _ _ _ _ _ => pts_nil) (fun _ _ _ _ _ => (pv 2))))), ?_⟩
      walk_at "go"
      have fl : ∀ i, (flat (fun i => [V.int (1 + (i : Int)), V.int (-(1 + (i : Int)))]) i) = (Od.steps i).map V.int := fun i => by
        unfold flat Od.steps
        rw [List.map_flatMap]
        congr 1
        funext k
        show [V.int (1 + (k : Int)), V.int (-(1 + (k : Int)))] = [V.int ((k : Int) + 1), V.int (-((k : Int) + 1))]
        rw [Int.add_comm]
      refine r_rng2 (by omega) (r_lc2R (K := K) (m := ((L : Int) + 1 - 1).toNat) (lo := 1) (fun i => [V.int (1 + (i : Int)), V.int (-(1 + (i : Int)))]) (fun i hi => by rw [fl, List.length_map, Od.steps_len]; omega) (fun i _ => by simp) (fun _ => rfl) (fun _ _ => rfl) (fun i H1 R hi e k => ?_) (fun i y H1 Q' hi hy e k => ?_) fun p H1 hp e h => ?_)
      · walk_at "go"
        refine r_newT (by simp) fun a H2 _ e2 h2 => ?_
        exact r_itT (t_of h2) (k a H2 e2 (t_of h2))
      · walk_at "go"
        exact k H1 (Ex.refl H1)
      · rw [fl] at h
        have e2 : ((L : Int) + 1 - 1).toNat = L := by omega
        rw [e2] at h
        exact q p H1 hp e h
  walk_at "end"
def sp_straightened (K : PySem.W.Frag) : Sp := fun vs H Q _ => ∃ a ns, vs = [.ref a] ∧ IT K H a ns ∧ ns.length ≤ 5000 ∧ ∀ p H1, Ex H H1 → IT K H1 p (Fg.rd ns) → Q (.ref p) H1
theorem ok_straightened (T : Tx K mg A) : FnOk P w K mg base CX0 1 A.a_straightened A.f_straightened P_straightened (sp_straightened K) := by
  refine Qt.drp ?_ ?_
  · refine T.F_straightened.ok sc_straightened (fun vs H Q E h => ?_) (fun cdv A' outer s H vs Q E hr h => ?_)
    · obtain ⟨a, ns, rfl, _⟩ := h
      rfl
    · obtain ⟨a, ns, rfl, ht, hz, q⟩ := h
      refine ⟨_, (pss_cons (ps_set (i := 1) sc_straightened.nd rfl (Or.inl rfl) (pe_lst pa_nil))
        (pss_cons (ps_for PassesOwn.never rfl (pi_tupK K (pv 0)) (pg_name (i := 2) sc_straightened.nd rfl (Or.inl rfl)) (pss_one (ps_if (PW.pt (pw_and (pt_truK K (pv 1)) (pw_and1 (pt_cmpR (op_eqK K hr.units) (pe_ix (ix_K K) (pv 1) (pe_un un_neg pe_int) (fun _ _ => rfl)) (pe_un un_neg (pv 2)) (nomark _))))) (pss_one (ps_expr (pe_bm0U K PySem.F.plainAttrs_list PySem.F.slot_list_pop PySem.F.type_list_pop mt_pop (pv 1)))) (pss_one (ps_expr (pe_bmU K PySem.F.plainAttrs_list PySem.F.slot_list_append PySem.F.type_list_append mt_append (pv 1) (pa_cons (pv 2) pa_nil)))))))
        (pss_one (ps_ret (pe_callTy (tuple_K K) (by rfl) T.n_tuple (by decide +kernel) (pa_cons (pv 1) pa_nil)))))), ?_⟩
      refine st_seq (st_set (st_nil fun l H1 hl e1 h1 => ?_))
      refine ⟨_, rfl, a, rfl, ⟨_, ex_t e1 ht⟩, for_tup (K := K) (a := a) (xs := ns.map V.int) (fun i σ H' => ∃ v, σ = [some (.ref a), some (.ref l), v] ∧ Ex H H' ∧ H' l = some (.lst ((Fg.rd (ns.take i)).map V.int)))
        ⟨none, rfl, e1, h1⟩ (fun i σ H' _ p => ex_t p.choose_spec.2.1 ht) (fun i x σ H' hx p => ?_) (fun σ H' p => ?_)⟩
      · obtain ⟨v, rfl, e2, h2⟩ := p
        rw [List.getElem?_map] at hx
        cases hn : ns[i]? with
        | none => rw [hn] at hx; cases hx
        | some z =>
          rw [hn] at hx
          cases hx
          have hi := (List.getElem?_eq_some_iff.mp hn).1
          have step : Fg.rd (ns.take (i + 1)) = (Fg.stp (Fg.rd (ns.take i)).reverse z).reverse := by rw [take_snoc hn, Fg.rd_snoc]
          have hlen : (Fg.rd (ns.take i)).length ≤ 5000 := Nat.le_trans (Fg.rd_len _) (by rw [List.length_take]; omega)
          generalize hq : Fg.rd (ns.take i) = q at h2 step hlen
          refine ⟨_, rfl, _, .inl ⟨_, l_of h2, rfl⟩, ?_⟩
          rcases List.eq_nil_or_concat q with e | ⟨r, y, e⟩
          · subst e
            refine iteF (iteF ?_)
            rw [show Fg.rd (ns.take (i + 1)) = [z] from step]
            exact ⟨_, rfl, .inl ⟨rfl, _, l_of h2⟩, _, rfl, l, _, _, rfl, rfl, h2, sz_lt (by simp), _, rfl, Ex.mut e2 hl, upd_same⟩
          · rw [List.concat_eq_append] at e
            subst e
            have e3 : (!((r ++ [y]).map V.int).isEmpty) = true := by simp
            rw [e3]
            refine iteT ⟨_, rfl, 1, rfl, .inl ⟨l, _, -1, .int y, rfl, rfl, l_of h2, at_last (by simp), _, rfl, z, rfl, r_eqI ⟨_, rfl, ?_⟩⟩⟩
            by_cases hy : y = -z
            · rw [decide_eq_true hy]
              have e4 : Fg.rd (ns.take (i + 1)) = r := by
                rw [step, List.reverse_append]
                show (if y = -z then r.reverse else z :: y :: r.reverse).reverse = r
                rw [if_pos hy, List.reverse_reverse]
              refine iteT ⟨_, rfl, .inl ⟨rfl, _, l_of h2⟩, l, _, .int y, rfl, rfl, h2, ?_, _, rfl, Ex.mut e2 hl, ?_⟩
              · rw [List.length_map, List.length_append, List.map_append]
                simp
              · rw [upd_same, e4, List.map_append]
                simp
            · rw [decide_eq_false hy]
              have e4 : Fg.rd (ns.take (i + 1)) = (r ++ [y]) ++ [z] := by
                rw [step, List.reverse_append]
                show (if y = -z then r.reverse else z :: y :: r.reverse).reverse = r ++ [y] ++ [z]
                rw [if_neg hy, List.reverse_cons, List.reverse_cons, List.reverse_reverse]
              refine iteF ⟨_, rfl, .inl ⟨rfl, _, l_of h2⟩, _, rfl, l, _, _, rfl, rfl, h2, sz_lt (by rw [List.length_map]; omega), _, rfl, Ex.mut e2 hl, ?_⟩
              rw [upd_same, e4, List.map_append (l₁ := r ++ [y])]
              rfl
      · obtain ⟨v, rfl, e2, h2⟩ := p
        rw [List.length_map, List.take_length] at h2
        exact ⟨_, rfl, r_tuL (l_of h2) fun p H3 _ e3 h3 => q p H3 (e2.trans e3) h3⟩
  walk_at "end"
def sp_turned_back (K : PySem.W.Frag) : Sp := fun vs H Q _ => ∃ a ns, vs = [.ref a] ∧ IT K H a ns ∧ ns.length ≤ 5000 ∧ ∀ p H1, Ex H H1 → IT K H1 p (Fg.bk ns) → Q (.ref p) H1
theorem ok_turned_back (T : Tx K mg A) : FnOk P w K mg base CX0 1 A.a_turned_back A.f_turned_back P_turned_back (sp_turned_back K) := by
  refine Qt.drp ?_ ?_
  · refine T.F_turned_back.ok sc_turned_back (fun vs H Q E h => ?_) (fun cdv A' outer s H vs Q E hr h => ?_)
    · obtain ⟨a, ns, rfl, _⟩ := h
      rfl
    · obtain ⟨a, ns, rfl, ht, hz, q⟩ := h
      refine ⟨_, (pss_one (ps_ret (pe_callTy (tuple_K K) (by rfl) T.n_tuple (by decide +kernel) (pa_cons (pe_lc (own := [("step", 1)]) rfl sc_turned_back.nd (pi_tupK K (pe_revK K (pv 0))) (blkOk_by (own := [("step", 1)]) (N := N_turned_back) (sc := defScope s_turned_back) (by decide +kernel)) (fun _ _ _ _ _ => (pg_name (i := 1) sc_turned_back.nd rfl (Or.inl rfl))) (fun _ _ _ _ _ => pts_nil) (fun _ _ _ _ _ => (pe_un un_neg (pv 1)))) pa_nil)))), ?_⟩
      refine st_ret (st_cb (st_cons (cm_tup (ys := (Fg.bk ns).map V.int) (xs := (ns.map V.int).reverse) (fun R r => st_revT (he_var rfl) ht fun b H1 _ e1 h1 => r b H1 e1 (t_of h1)) (by simp [Fg.bk_len]) (by simp [Fg.bk_len]; omega) (fun _ => rfl) (fun k x y H1 hx hy e1 Q' k' => ?_) fun D H1 _ e1 h1 => ?_)))
      · obtain ⟨z, rfl, rfl⟩ := bk_get hx hy
        exact ⟨_, rfl, z, rfl, k' H1 (Ex.refl H1)⟩
      · exact r_tuL (l_of h1) fun l H3 _ e3 h3 => q l H3 (e1.trans e3) h3
  walk_at "end"
end
end Lw
namespace Lw
open PySem PySem.Spec PyProof.Rows L2 Evl
local macro_rules | `(tactic| walk_at "go") => `(tactic| repeat (first
  | with_reducible refine st_seq ?_ | with_reducible refine st_set ?_ | with_reducible refine st_asg ?_ | with_reducible refine st_ret ?_ | with_reducible refine st_drop ?_ | with_reducible refine st_if ?_
  | with_reducible refine st_c ?_ | ((with_reducible refine' st_v ?h ?_); (case h => exact rfl)) | with_reducible refine st_n ?_ | with_reducible refine st_cons ?_ | with_reducible refine st_op ?_ | with_reducible refine st_un ?_
  | with_reducible refine st_cb ?_ | with_reducible refine st_test ?_ | with_reducible refine st_call ?_ | with_reducible refine st_callK ?_ | with_reducible refine st_sl ?_ | with_reducible refine st_par ?_ | with_reducible refine st_par3 ?_ | with_reducible refine st_tru ?_
  | with_reducible refine st_and ?_ | with_reducible refine st_or ?_ | with_reducible refine st_not ?_ | with_reducible refine st_B ?_ | with_reducible refine st_andV ?_ | with_reducible refine st_orV ?_ | with_reducible refine st_notV ?_ | with_reducible refine st_ifE ?_
  | with_reducible refine st_part ?_ | with_reducible refine st_nop ?_ | with_reducible refine st_sub ?_ | with_reducible refine st_chain ?_ | with_reducible refine st_chain3 ?_ | with_reducible refine st_lenSet ?_ | with_reducible refine st_bl ?_ | with_reducible refine st_in ?_ | with_reducible refine r_truB ?_
  | with_reducible refine st_nameG ?_ | with_reducible refine if_T ?_ | with_reducible refine if_F ?_ | with_reducible refine if_nT ?_ | with_reducible refine if_nF ?_
  | with_reducible refine r_add ?_ | with_reducible refine r_0 ?_ | with_reducible refine r_neg ?_ | with_reducible refine r_intI ?_ | with_reducible refine r_intB ?_ | with_reducible refine r_abs ?_ | with_reducible refine r_max2 ?_ | with_reducible refine r_min2 ?_ | with_reducible refine r_eqI ?_ | with_reducible refine r_neI ?_
  | with_reducible refine st_nxt ?_ | with_reducible refine st_cnt ?_ | with_reducible refine st_brk ?_ | with_reducible refine st_retn ?_
  | with_reducible refine st_lstN ?_ | with_reducible refine st_tupN ?_
  | with_reducible refine st_for ?_ | with_reducible refine st_lc ?_ | with_reducible refine st_lc2 ?_ | with_reducible refine st_rng1 ?_ | with_reducible refine st_rng2 ?_ | with_reducible refine st_rng3 ?_ | with_reducible refine st_itL ?_ | with_reducible refine st_itT ?_ | with_reducible refine st_rev ?_ | with_reducible refine st_enumE ?_ | with_reducible refine st_zip3 ?_ | with_reducible refine st_lvals ?_ | with_reducible refine st_fld ?_ | with_reducible refine st_sfld ?_ | with_reducible refine st_meth ?_ | with_reducible refine st_make ?_ | with_reducible refine st_rg1 ?_ | with_reducible refine st_enumS ?_ | with_reducible refine st_enumD ?_ | with_reducible refine st_lstIt ?_ | with_reducible refine st_dg1 ?_ | with_reducible refine st_dg2 ?_ | with_reducible refine st_dpop ?_ | with_reducible refine st_dset ?_ | with_reducible refine st_ckw ?_ | with_reducible refine st_dsetT ?_ | with_reducible refine st_dnewT ?_ | with_reducible refine st_dc ?_ | with_reducible refine st_keys ?_ | with_reducible refine st_dget ?_ | with_reducible refine st_din ?_ | with_reducible refine st_dnin ?_ | with_reducible refine st_dput ?_ | with_reducible refine st_dnew ?_ | with_reducible refine st_lstRg ?_ | with_reducible refine st_rg2 ?_ | with_reducible refine r_twoI ?_ | with_reducible refine st_bm ?_ | with_reducible refine st_bm0 ?_
  | ((with_reducible refine' st_aug ?h ?_); (case h => exact rfl)) | with_reducible refine r_augI ?_ | with_reducible refine r_eqB ?_
  | dsimp only))
section
variable {P : Program} {w : World} {K : PySem.W.Frag} {mg : Str → Option Value} {base : Heap} {A : Ad}
def sp_is_row (K : PySem.W.Frag) : Sp := fun vs H Q _ => ∃ (L n : Nat) (a : Addr) (ns : List Int), vs = [.int L, .int n, .ref a] ∧ IT K H a ns ∧ ns.length = L ∧ L ≤ 1000 ∧ (∀ x ∈ ns, -1 ≤ x ∧ x < n) ∧ ∀ H1, Ex H H1 → Q (.bl true) H1
theorem ok_is_row (T : Tx K mg A) : FnOk P w K mg base CX0 2 A.a_is_row A.f_is_row P_is_row (sp_is_row K) := by
  refine Qt.drp ?_ ?_
  · refine T.F_is_row.ok sc_is_row (fun vs H Q E h => ?_) (fun cdv A' outer s H vs Q E hr h => ?_)
    · obtain ⟨L, n, a, ns, rfl, _⟩ := h
      rfl
    · obtain ⟨L, n, a, ns, rfl, ht, hz, hL, hs, q⟩ := h
      refine ⟨_, (pss_cons (ps_if (PW.pt (pw_or (pt_not (pt_truK K (pe_callB (isi_K K) (by rfl) T.n_isinstance (by decide +kernel) (pa_cons (pv 2) (pa_cons (pe_bltn (v := .ty "tuple") (by rfl) T.n_tuple (by decide +kernel) rfl) pa_nil))))) (pw_or1 (pt_cmpR (op_neK K hr.units) (pe_callB (len_K K) (by rfl) T.n_len (by decide +kernel) (pa_cons (pv 2) pa_nil)) (pv 0) (nomark _))))) (pss_one (ps_ret pe_bl)) pss_nil)
        (pss_one (ps_ret (pe_callB (all_K K rfl) (by rfl) T.n_all (by decide +kernel) (pa_cons (pe_lc (own := [("after", 3)]) rfl sc_is_row.nd (pi_tupK K (pv 2)) (blkOk_by (own := [("after", 3)]) (N := N_is_row) (sc := defScope s_is_row) (by decide +kernel)) (fun _ _ _ _ _ => (pg_name (i := 3) sc_is_row.nd rfl (Or.inl rfl))) (fun _ _ _ _ _ => pts_nil) (fun _ _ _ _ _ => (pe_and (pe_call (ok_is_integer T) (hr.mono (by decide)) (by rfl) T.g_is_integer T.F_is_integer.kp T.b_is_integer .nil pass0 (pa_cons (pv 3) pa_nil)) (pe_one (pe_chain op_le op_lt (pe_un un_neg pe_int) (pv 3) (pv 1)))))) pa_nil))))), ?_⟩
      walk_at "go"
      refine r_isiT ht (b := true) (kit_ty (by decide +kernel)) ?_
      refine r_truB ?_
      walk_at "go"
      refine r_lenT ht ?_
      rw [List.length_map, hz]
      walk_at "go"
      rw [decide_eq_true (rfl : (L : Int) = L)]
      walk_at "go"
      refine r_itT ht (r_cmT (ys := (ns.map fun _ => true).map V.bl) ht (by simp) (by simp; omega) (fun _ => rfl) (fun i x y H1 hx hy e1 Q' k => ?_) fun D H1 hD e1 h1 => ?_)
      · rw [List.getElem?_map] at hx
        rw [List.getElem?_map, List.getElem?_map] at hy
        cases hn : ns[i]? with
        | none => rw [hn] at hx; cases hx
        | some z =>
          rw [hn] at hx hy
          cases hx
          cases hy
          have hz := hs z (List.mem_of_getElem? hn)
          walk_at "go"
          refine ⟨z, rfl, ?_⟩
          walk_at "go"
          rw [decide_eq_true (by omega : (-1 : Int) ≤ z)]
          walk_at "go"
          rw [decide_eq_true (by omega : z < (n : Int))]
          exact k H1 (Ex.refl H1)
      · walk_at "go"
        refine r_all (l_of h1) ?_
        have e : ((ns.map fun _ => true).all id) = true := by simp
        rw [e]
        exact q H1 e1
  walk_at "end"
theorem row_ok {L n : Nat} {d : Wb.Gm} (G : Wb.Gr L n d) (r : Nat) : (Wb.row L d r).length = L ∧ ∀ x ∈ Wb.row L d r, -1 ≤ x ∧ x < n := by
  refine ⟨by unfold Wb.row; rw [List.length_map, List.length_range], fun x hx => ?_⟩
  unfold Wb.row at hx
  obtain ⟨l, _, e⟩ := List.mem_map.mp hx
  cases hd : d r ((l : Int) + 1) with
  | none =>
      rw [hd] at e
      have e' : (-1 : Int) = x := e
      omega
  | some g =>
    rw [hd] at e
    have := (G.dom _ _ _ hd).2.1
    have e' : (g : Int) = x := e
    omega
def sp_has_web_form (K : PySem.W.Frag) : Sp := fun vs H Q _ => ∃ (L n : Nat) (d : Wb.Gm) (a : Addr), vs = [.ref a] ∧ WebH K H a L n d ∧ Wb.Web L n d ∧ n ≤ 1000 ∧ ∀ H1, Ex H H1 → Q (.bl true) H1
theorem ok_has_web_form (T : Tx K mg A) : FnOk P w K mg base CX0 3 A.a_has_web_form A.f_has_web_form P_has_web_form (sp_has_web_form K) := by
  refine Qt.drp ?_ ?_
  · refine T.F_has_web_form.ok sc_has_web_form (fun vs H Q E h => ?_) (fun cdv A' outer s H vs Q E hr h => ?_)
    · obtain ⟨L, n, d, a, rfl, _⟩ := h
      rfl
    · obtain ⟨L, n, d, a, rfl, ⟨r, xs, ha, hr', wa⟩, W, hn, q⟩ := h
      refine ⟨_, (pss_cons (ps_if (PW.pt (pw_or (pt_not (pt_truK K (pe_callB (isi_K K) (by rfl) T.n_isinstance (by decide +kernel) (pa_cons (pv 0) (pa_cons (pe_bltn (v := .ty "tuple") (by rfl) T.n_tuple (by decide +kernel) rfl) pa_nil))))) (pw_or1 (pt_cmpR (op_neK K hr.units) (pe_callB (len_K K) (by rfl) T.n_len (by decide +kernel) (pa_cons (pv 0) pa_nil)) pe_int (nomark _))))) (pss_one (ps_ret pe_bl)) pss_nil)
        (pss_cons (ps_asg (pv 0) (pg_tupK K (by rfl) (pgs_cons (pg_name (i := 1) sc_has_web_form.nd rfl (Or.inr rfl)) (pgs_cons (pg_name (i := 2) sc_has_web_form.nd rfl (Or.inr rfl)) pgs_nil))))
        (pss_cons (ps_if (PW.pt (pw_or (pt_not (pt_truK K (pe_call (ok_is_letters T) (hr.mono (by decide)) (by rfl) T.g_is_letters T.F_is_letters.kp T.b_is_letters .nil pass0 (pa_cons (pv 1) pa_nil)))) (pw_or1 (pt_not (pt_truK K (pe_callB (isi_K K) (by rfl) T.n_isinstance (by decide +kernel) (pa_cons (pv 2) (pa_cons (pe_bltn (v := .ty "tuple") (by rfl) T.n_tuple (by decide +kernel) rfl) pa_nil)))))))) (pss_one (ps_ret pe_bl)) pss_nil)
        (pss_one (ps_ret (pe_and (pe_cmpR op_gt (pe_callB (len_K K) (by rfl) T.n_len (by decide +kernel) (pa_cons (pv 2) pa_nil)) pe_int (nomark _)) (pe_one (pe_callB (all_K K rfl) (by rfl) T.n_all (by decide +kernel) (pa_cons (pe_lc (own := [("row", 3)]) rfl sc_has_web_form.nd (pi_tupK K (pv 2)) (blkOk_by (own := [("row", 3)]) (N := N_has_web_form) (sc := defScope s_has_web_form) (by decide +kernel)) (fun _ _ _ _ _ => (pg_name (i := 3) sc_has_web_form.nd rfl (Or.inl rfl))) (fun _ _ _ _ _ => pts_nil) (fun _ _ _ _ _ => (pe_call (ok_is_row T) (hr.mono (by decide)) (by rfl) T.g_is_row T.F_is_row.kp T.b_is_row .nil pass0 (pa_cons (pv 1) (pa_cons (pe_callB (len_K K) (by rfl) T.n_len (by decide +kernel) (pa_cons (pv 2) pa_nil)) (pa_cons (pv 3) pa_nil)))))) pa_nil))))))))), ?_⟩
      have l1 := W.l1
      have l4 := W.l4
      have zx : xs.length = n := by rw [wa.len]; unfold Wb.rows; rw [List.length_map, List.length_range]
      walk_at "go"
      refine r_isiT ha (b := true) (kit_ty (by decide +kernel)) ?_
      refine r_truB ?_
      walk_at "go"
      refine r_lenT ha ?_
      walk_at "go"
      rw [decide_eq_true (by simp : (([V.int (L : Int), V.ref r].length : Nat) : Int) = 2)]
      walk_at "go"
      refine r_tup2 ha ?_
      walk_at "go"
      refine ⟨L, rfl, by omega, by omega, ?_⟩
      refine r_truB ?_
      walk_at "go"
      refine r_isiT hr' (b := true) (kit_ty (by decide +kernel)) ?_
      refine r_truB ?_
      walk_at "go"
      refine r_lenT hr' ?_
      rw [zx]
      have hp := W.pos
      walk_at "go"
      rw [decide_eq_true (by omega : (n : Int) > 0)]
      walk_at "go"
      refine r_itT hr' (r_cmT (ys := (xs.map fun _ => true).map V.bl) hr' (by simp) (by simp; omega) (fun _ => rfl) (fun i x y H1 hx hy e1 Q' k => ?_) fun D H1 hD e1 h1 => ?_)
      · obtain ⟨w, hw, p, rfl, wk⟩ := wa.get hx
        rw [List.getElem?_map, List.getElem?_map, hx] at hy
        cases hy
        have hi := (List.getElem?_eq_some_iff.mp hw).1
        have ew : w = Wb.row L d i := by
          unfold Wb.rows at hw hi
          rw [List.length_map, List.length_range] at hi
          rw [List.getElem?_map, List.getElem?_range hi] at hw
          exact (Option.some.inj hw).symm
        subst ew
        obtain ⟨k1, k2⟩ := row_ok W.gr i
        walk_at "go"
        refine r_lenT (ex_t e1 hr') ?_
        rw [zx]
        walk_at "go"
        exact ⟨L, n, p, _, rfl, ex_t e1 wk, k1, by omega, k2, k⟩
      · walk_at "go"
        refine r_all (l_of h1) ?_
        have e : ((xs.map fun _ => true).all id) = true := by simp
        rw [e]
        exact q H1 e1
  walk_at "end"
theorem dl_opt {H0 H : Hp} {a : Addr} {n L : Nat} {d : Wb.Gm} {i j : Nat} (G : Wb.Gr L n d) (h : DL H0 H a n fun x s => vN (Wb.laid d i j x s)) {x : Nat} (hx : x < n) :
    ∃ xs p kvs, H a = some (.lst xs) ∧ xs[x]? = some (.ref p) ∧ H p = some (.dK kvs) ∧ DI kvs (fun s => vN (Wb.laid d i j x s)) ∧ kvs.length ≤ 2 * L ∧ p ≠ a ∧ H0 p = none ∧
      ∀ H1 kvs' g, ExW p H H1 → H1 p = some (.dK kvs') → DI kvs' g → DL H0 H1 a n (fun j' => if j' = x then g else fun s => vN (Wb.laid d i j j' s)) := by
  obtain ⟨xs, p, kvs, h1, h2, h3, h4, h5, h6, h7⟩ := h.at' hx
  refine ⟨xs, p, kvs, h1, h2, h3, h4, ?_, h5, h6, h7⟩
  have := h4.le (Od.steps_nodup L) fun s hs => by
    have k2 := Wb.laid_sub (vN_some.symm.trans hs)
    cases e : d x s with
    | none => rw [e] at k2; cases k2
    | some g => exact (G.dom _ _ _ e).2.2
  rw [Od.steps_len] at this
  exact this
theorem laid_st {L n : Nat} {d : Wb.Gm} {i j x : Nat} {s : Int} (G : Wb.Gr L n d) (h : (vN (Wb.laid d i j x s)).isSome = true) : s ∈ Od.steps L := by
  have k2 := Wb.laid_sub (vN_some.symm.trans h)
  cases e : d x s with
  | none => rw [e] at k2; cases k2
  | some g => exact (G.dom _ _ _ e).2.2
def sp_step_table (K : PySem.W.Frag) : Sp := fun vs H Q _ => ∃ (L n : Nat) (d : Wb.Gm) (r : Addr) (xs : List V), vs = [.ref r] ∧ SqT K H r xs ∧ WkA K H xs (Wb.rows L n d) ∧ Wb.Gr L n d ∧ L ≤ 4 ∧ n ≤ 1000 ∧ ∀ p H1, Ex H H1 → TabH H1 p n d → Q (.ref p) H1
theorem ok_step_table (T : Tx K mg A) : FnOk P w K mg base CX0 1 A.a_step_table A.f_step_table P_step_table (sp_step_table K) := by
  refine Qt.drp ?_ ?_
  · refine T.F_step_table.ok sc_step_table (fun vs H Q E h => ?_) (fun cdv A' outer s H vs Q E hr h => ?_)
    · obtain ⟨L, n, d, r, xs, rfl, _⟩ := h
      rfl
    · obtain ⟨L, n, d, r, xs, rfl, hr0, wa, G, l4, hn, q⟩ := h
      refine ⟨_, (pss_cons (ps_setLc (i := 1) (own := [("_", 6)]) rfl sc_step_table.nd rfl rfl (sw_true rfl rfl rfl (by decide +kernel)) (pi_tupK K (pv 0)) (blkOk_by (own := [("_", 6)]) (N := N_step_table) (sc := defScope s_step_table) (by decide +kernel)) (fun _ _ _ _ _ => (pg_name (i := 6) sc_step_table.nd rfl (Or.inl rfl))) (fun _ _ _ _ _ => pts_nil) (fun _ _ _ _ _ => pe_dnewK))
        (pss_cons (ps_for PassesOwn.never rfl (pi_enumE K skT (by rfl) T.n_enumerate (pa_cons (pv 0) pa_nil)) (pg_tupK K (by rfl) (pgs_cons (pg_name (i := 2) sc_step_table.nd rfl (Or.inl rfl)) (pgs_cons (pg_name (i := 3) sc_step_table.nd rfl (Or.inl rfl)) pgs_nil))) (pss_one (ps_for PassesOwn.never rfl (pi_enumS K skT (by rfl) T.n_enumerate (pa_cons (pv 3) pa_nil) pe_int) (pg_tupK K (by rfl) (pgs_cons (pg_name (i := 4) sc_step_table.nd rfl (Or.inl rfl)) (pgs_cons (pg_name (i := 5) sc_step_table.nd rfl (Or.inl rfl)) pgs_nil))) (pss_one (ps_if (pt_cmpR op_ge (pv 5) pe_int (nomark _)) (pss_cons (ps_if (pt_cmp (pc_din (hu_of hr) (pe_un un_neg (pv 4)) (pe_ix (ix_K K) (pv 1) (pv 5) (fun _ _ => rfl))) (by rfl)) (pss_one (ps_ret pe_non)) pss_nil)
        (pss_cons (ps_dput (hu_of hr) (pe_ix (ix_K K) (pv 1) (pv 2) (fun _ _ => rfl)) (pv 4) (pv 5) (by rfl))
        (pss_one (ps_dput (hu_of hr) (pe_ix (ix_K K) (pv 1) (pv 5) (fun _ _ => rfl)) (pe_un un_neg (pv 4)) (pv 2) (by rfl))))) pss_nil)))))
        (pss_one (ps_ret (pv 1))))), ?_⟩
      have zx : xs.length = n := by rw [wa.len, Wb.rows_len]
      walk_at "go"
      refine r_itT hr0 (dl_T hr0 (by omega) (fun _ => rfl) fun p H1 hp e1 T0 => ?_)
      rw [zx] at T0
      have T1 : DL H H1 p n fun x s => vN (Wb.laid d 0 0 x s) := T0.congr fun i _ s => by rw [Wb.laid_start G]; rfl
      clear T0
      walk_at "go"
      refine r_enumE (k := skT) (xs := xs) (ex_t e1 hr0) (r_forE (k := skT) (xs := xs) (fun i σ' H' => ∃ v2 v3 v4 v5, Ex H H' ∧ (DL H H' p n fun x s => vN (Wb.laid d i 0 x s)) ∧ σ' = [some (.ref r), some (.ref p), v2, v3, v4, v5, none]) ⟨none, none, none, none, e1, T1, rfl⟩ (fun i σ' H' _ z => ?_) (fun i x σ' H' H2 hx z e2 => ?_) (fun σ' H' z => ?_))
      · obtain ⟨_, _, _, _, e, _⟩ := z
        exact ex_t e hr0
      · obtain ⟨v2, v3, v4, v5, e, T2, rfl⟩ := z
        have hi : i < n := by rw [← zx]; exact (List.getElem?_eq_some_iff.mp hx).1
        obtain ⟨w, hw, pr, rfl, wr⟩ := wa.get hx
        rw [Wb.rows_at hi] at hw
        cases hw
        have e := e.trans e2
        have T3 := T2.mono e2
        clear T2 e2
        have wr2 := ex_t e wr
        walk_at "go"
        refine r_enumS (k := skT) (xs := (Wb.row L d i).map V.int) (by decide) (by decide) wr2 (r_forE (k := skT) (xs := (Wb.row L d i).map V.int) (fun j σ' H' => ∃ v4 v5, Ex H H' ∧ (DL H H' p n fun x s => vN (Wb.laid d i j x s)) ∧ σ' = [some (.ref r), some (.ref p), some (.int (0 + (i : Int))), some (.ref pr), v4, v5, none]) ⟨v4, v5, e, T3, rfl⟩ (fun j σ' H' _ z => ?_) (fun j x σ' H' H3 hx z e3 => ?_) (fun σ' H' z => ?_))
        · obtain ⟨_, _, e, _⟩ := z
          exact ex_t e wr
        · obtain ⟨v4, v5, e, T4, rfl⟩ := z
          have hj : j < L := by
            have := (List.getElem?_eq_some_iff.mp hx).1
            rwa [List.length_map, Wb.row_len] at this
          rw [List.getElem?_map, Wb.row_at hj] at hx
          have e := e.trans e3
          have T5 := T4.mono e3
          clear T4 e3
          cases hd : d i ((j : Int) + 1) with
          | none =>
            rw [hd] at hx
            cases hx
            walk_at "go"
            rw [decide_eq_false (by decide : ¬ (-1 : Int) ≥ 0)]
            walk_at "go"
            exact ⟨_, _, e, T5.congr fun x _ s => by rw [Wb.laid_none G hd], rfl⟩
          | some g =>
            rw [hd] at hx
            cases hx
            have hg := (G.dom _ _ _ hd).2.1
            walk_at "go"
            rw [decide_eq_true (by omega : (g : Int) ≥ 0)]
            walk_at "go"
            obtain ⟨ys, pg, kvs, a1, a2, a3, a4, a5, a6, a7, a8⟩ := dl_opt G T5 hg
            refine r_ixL (l_of a1) (atI_at (by omega) (by rw [show ((g : Nat) : Int).toNat = g by omega]; exact a2)) ?_
            refine r_dinI (.inl a3) a4 ?_
            rw [show -((1 : Int) + (j : Int)) = -((j : Int) + 1) by omega, Wb.laid_new G hd]
            rw [show (vN none).isSome = false from rfl]
            walk_at "go"
            obtain ⟨ys2, pi, kv2, b1, b2, b3, b4, b5, b6, b7, b8⟩ := dl_opt G T5 hi
            refine r_ixL (l_of b1) (atI_at (i := (0 : Int) + (i : Int)) (by omega) (by rw [show ((0 : Int) + (i : Int)).toNat = i by omega]; exact b2)) ?_
            walk_at "go"
            refine r_dputI b3 b4 (by omega) fun H4 kv3 e4 k4 d4 => ?_
            have ex4 := DL.ex0 e e4 b7
            have T6 := b8 H4 kv3 _ e4 k4 d4
            obtain ⟨ys3, pg2, kv4, c1, c2, c3, c4, c6, c7, c8⟩ := T6.at' hg
            have c5 : kv4.length ≤ 2 * L := by
              have z := c4.le (Od.steps_nodup L) fun x hx => by
                by_cases hgi : g = i
                · rw [if_pos hgi] at hx
                  by_cases hx2 : x = 1 + (j : Int)
                  · exact Od.mem_steps.mpr (by omega)
                  · rw [if_neg hx2] at hx
                    exact laid_st G hx
                · rw [if_neg hgi] at hx
                  exact laid_st G hx
              rw [Od.steps_len] at z
              exact z
            walk_at "go"
            refine r_ixL (l_of c1) (atI_at (by omega) (by rw [show ((g : Nat) : Int).toNat = g by omega]; exact c2)) ?_
            walk_at "go"
            refine r_dputI c3 c4 (by omega) fun H5 kv5 e5 k5 d5 => ?_
            have ex5 := DL.ex0 ex4 e5 c7
            have T7 := c8 H5 kv5 _ e5 k5 d5
            walk_at "go"
            refine ⟨_, _, ex5, T7.congr fun x _ s => ?_, rfl⟩
            have tail : ∀ (x : Nat) (s : Int), (if x = i then (fun t => if t = (1 : Int) + (j : Int) then some (V.int (g : Int)) else vN (Wb.laid d i j i t)) else fun t => vN (Wb.laid d i j x t)) s = vN (if x = i ∧ s = (j : Int) + 1 then some g else Wb.laid d i j x s) := fun x s => by
              by_cases c1 : x = i
              · subst c1
                rw [if_pos rfl]
                by_cases c2 : s = (1 : Int) + (j : Int)
                · rw [if_pos c2, if_pos ⟨rfl, by omega⟩]
                  rfl
                · rw [if_neg c2, if_neg (fun z => c2 (by omega))]
              · rw [if_neg c1, if_neg (fun z => c1 z.1)]
            rw [Wb.laid_some G hd]
            by_cases c1 : x = g
            · refine (congrFun (if_pos c1) s).trans ?_
              by_cases c2 : s = -((1 : Int) + (j : Int))
              · have rhs : (if x = g ∧ s = -((j : Int) + 1) then some i else if x = i ∧ s = (j : Int) + 1 then some g else Wb.laid d i j x s) = some i := if_pos ⟨c1, by omega⟩
                rw [rhs]
                refine (if_pos c2).trans ?_
                rw [Int.zero_add]
                rfl
              · have rhs : (if x = g ∧ s = -((j : Int) + 1) then some i else if x = i ∧ s = (j : Int) + 1 then some g else Wb.laid d i j x s) = if x = i ∧ s = (j : Int) + 1 then some g else Wb.laid d i j x s := if_neg fun z => c2 (by have := z.2; omega)
                rw [rhs]
                refine (if_neg c2).trans ?_
                rw [← c1]
                have := tail x s
                rw [c1] at this ⊢
                exact this
            · have rhs : (if x = g ∧ s = -((j : Int) + 1) then some i else if x = i ∧ s = (j : Int) + 1 then some g else Wb.laid d i j x s) = if x = i ∧ s = (j : Int) + 1 then some g else Wb.laid d i j x s := if_neg fun z => c1 z.1
              rw [rhs]
              exact (congrFun (if_neg c1) s).trans (tail x s)
        · obtain ⟨v4, v5, e, T4, rfl⟩ := z
          rw [List.length_map, Wb.row_len] at T4
          walk_at "go"
          exact ⟨_, _, _, _, e, T4.congr fun x _ s => by rw [Wb.laid_row G], rfl⟩
      · obtain ⟨v2, v3, v4, v5, e, T2, rfl⟩ := z
        rw [zx] at T2
        walk_at "go"
        exact q p H' e (TabH.of T2 fun i _ s => by rw [Wb.laid_all G])
  walk_at "end"
def sp_first_reached (K : PySem.W.Frag) : Sp := fun vs H Q _ => ∃ (L n home : Nat) (d : Wb.Gm) (p : Addr), vs = [.int L, .ref p, .int home] ∧ L ≤ 4 ∧ Wb.Gr L n d ∧ TabH H p n d ∧ home < n ∧ n ≤ 1000 ∧ ∀ a kvs H1, H a = none → Ex H H1 → H1 a = some (.dK kvs) → RchH K H1 kvs (Wb.bfs L n d home) → Q (.ref a) H1
def natI (l : List Nat) : List V := l.map fun (g : Nat) => V.int (g : Int)
theorem ok_first_reached (T : Tx K mg A) : FnOk P w K mg base CX0 2 A.a_first_reached A.f_first_reached P_first_reached (sp_first_reached K) := by
  refine Qt.drp ?_ ?_
  · refine T.F_first_reached.okN sc_first_reached (fun vs H Q E h => ?_) (fun cdv A' outer s H vs Q E hr h => ?_)
    · obtain ⟨L, n, home, d, p, rfl, _⟩ := h
      rfl
    · obtain ⟨L, n, home, d, p, rfl, l4, G, tab, hh, hn, q⟩ := h
      refine ⟨_, (pss_cons (ps_set (i := 3) sc_first_reached.nd rfl (Or.inl rfl) (pe_disp (pps_cons (pv 2) pe_non pps_nil) rfl rfl (by simp) (by decide)))
        (pss_cons (ps_set (i := 4) sc_first_reached.nd rfl (Or.inl rfl) (pe_lst (pa_cons (pv 2) pa_nil)))
        (pss_cons (ps_set (i := 5) sc_first_reached.nd rfl (Or.inl rfl) (pe_call (ok_steps_of T) (hr.mono (by decide)) (by rfl) T.g_steps_of T.F_steps_of.kp T.b_steps_of .nil pass0 (pa_cons (pv 0) pa_nil)))
        (pss_cons (ps_set (i := 6) sc_first_reached.nd rfl (Or.inl rfl) pe_int)
        (pss_cons (ps_while PassesOwn.never (pt_cmpR op_lt (pv 6) (pe_callB (len_K K) (by rfl) T.n_len (by decide +kernel) (pa_cons (pv 4) pa_nil)) (nomark _)) (pss_cons (ps_set (i := 7) sc_first_reached.nd rfl (Or.inl rfl) (pe_ix (ix_K K) (pv 4) (pv 6) (fun _ _ => rfl)))
        (pss_cons (ps_for PassesOwn.never rfl (pi_listK K (pv 5)) (pg_name (i := 8) sc_first_reached.nd rfl (Or.inl rfl)) (pss_cons (ps_set (i := 9) sc_first_reached.nd rfl (Or.inl rfl) (pe_dget1 (hu_of hr) (pe_ix (ix_K K) (pv 1) (pv 7) (fun _ _ => rfl)) (pv 8) ⟨rfl, rfl, rfl, rfl⟩))
        (pss_one (ps_if (PW.pt (pw_and (pt_cmpR op_notN (pv 9) pe_non (nomark _)) (pw_and1 (pt_cmp (pc_dnotin (hu_of hr) (pv 9) (pv 3)) (by rfl))))) (pss_cons (ps_dput (hu_of hr) (pv 3) (pv 9) (pe_tup (pa_cons (pv 7) (pa_cons (pv 8) pa_nil))) (by rfl))
        (pss_one (ps_expr (pe_bmU K PySem.F.plainAttrs_list PySem.F.slot_list_append PySem.F.type_list_append mt_append (pv 4) (pa_cons (pv 9) pa_nil))))) pss_nil))))
        (pss_one (ps_aug (i := 6) sc_first_reached.nd rfl (Or.inl rfl) pe_int ip_add)))))
        (pss_one (ps_ret (pv 3)))))))), ?_⟩
      have zs := Od.steps_len L
      walk_at "go"
      refine fun a hp => ?_
      show tVar 2 _ _ _
      walk_at "go"
      refine ⟨upd_same, [(Sum.inl (home : Int), .non)], rfl, by simp, ?_⟩
      rw [upd_upd]
      have e1 : Ex H (upd H a (.dK (mergeK [] [(Sum.inl (home : Int), .non)]))) := Ex.new hp
      have k1 : (upd H a (.dK (mergeK [] [(Sum.inl (home : Int), .non)]))) a = some (.dK [(Sum.inl (home : Int), .non)]) := upd_same
      generalize upd H a (.dK (mergeK [] [(Sum.inl (home : Int), .non)])) = H1 at e1 k1
      have rch1 : RchH K H1 [(Sum.inl (home : Int), .non)] [(home, none)] := ⟨rfl, fun i kv y h1 h2 => by
        cases i with
        | zero => cases h1; cases h2; exact ⟨rfl, rfl⟩
        | succ i => simp at h1⟩
      walk_at "go"
      refine r_newL (by simp) fun b H2 hb e2 k2 => ?_
      have nba : b ≠ a := fun z => by rw [z, k1] at hb; cases hb
      have hb0 : H b = none := fresh_back e1 hb
      have k1 := e2 _ _ k1
      have rch2 := rch1.mono (.of e2)
      have e := e1.trans e2
      clear e1 e2 rch1 hb
      walk_at "go"
      refine ⟨L, rfl, l4, fun c H3 hc e3 k3 => ?_⟩
      have nca : c ≠ a := fun z => by rw [z, k1] at hc; cases hc
      have ncb : c ≠ b := fun z => by rw [z, k2] at hc; cases hc
      have k1 := e3 _ _ k1
      have k2 := e3 _ _ k2
      have rch3 := rch2.mono (.of e3)
      have e := e.trans e3
      clear e3 rch2 hc
      walk_at "go"
      refine st_while (fun m σ' H' => ∃ (fd : Wb.Fd) (kvs : List (Key × V)) (pl : Nat) (v7 v8 v9 : Option V), m = n + 1 - pl ∧ pl ≤ fd.length ∧ Wb.Ok n fd ∧ Wb.run d (Od.steps L) (n + 1 - pl) pl fd = Wb.bfs L n d home ∧ Ex H H' ∧ H' a = some (.dK kvs) ∧ RchH K H' kvs fd ∧ H' b = some (.lst (natI (fd.map (·.1)))) ∧ H' c = some (.lst ((Od.steps L).map V.int)) ∧
        σ' = [some (.int L), some (.ref p), some (.int home), some (.ref a), some (.ref b), some (.ref c), some (.int pl), v7, v8, v9]) (n + 1) ⟨[(home, none)], _, 0, none, none, none, rfl, Nat.zero_le _, (Wb.rn_start (d := d) (L := L) hh).ok, rfl, e, k1, rch3, k2, k3, rfl⟩ fun m σ' H' z => ?_
      obtain ⟨fd, kvs, pl, v7, v8, v9, rfl, zpl, ok, hrun, e, k1, rch, k2, k3, rfl⟩ := z
      have zfd := ok.len
      walk_at "go"
      refine r_lenL (l_of k2) ?_
      have zl : (natI (fd.map (·.1))).length = fd.length := by unfold natI; rw [List.length_map, List.length_map]
      rw [zl]
      walk_at "go"
      refine if_2 (fun h0 => ?_) fun h0 => ?_
      · have hpl : pl < fd.length := by omega
        have hg := List.getElem?_eq_getElem hpl
        obtain ⟨r, x, hfx⟩ : ∃ r x, fd[pl] = (r, x) := ⟨_, _, rfl⟩
        rw [hfx] at hg
        have hr : r < n := ok.lt r (List.mem_map.mpr ⟨_, List.mem_of_getElem? hg, rfl⟩)
        refine ⟨_, fun _ _ h => h, ?_⟩
        walk_at "go"
        refine r_ixL (l_of k2) (atI_at (by omega) (x := .int (r : Int)) (by rw [Int.toNat_natCast]; unfold natI; rw [List.getElem?_map, List.getElem?_map, hg]; rfl)) ?_
        walk_at "go"
        refine r_itL (l_of k3) (r_forL (xs := (Od.steps L).map V.int) (fun i σ' H' => ∃ (kvs : List (Key × V)) (v8 v9 : Option V), Wb.Ok n (Wb.look d r ((Od.steps L).take i) fd) ∧ Ex H H' ∧ H' a = some (.dK kvs) ∧ RchH K H' kvs (Wb.look d r ((Od.steps L).take i) fd) ∧ H' b = some (.lst (natI ((Wb.look d r ((Od.steps L).take i) fd).map (·.1)))) ∧ H' c = some (.lst ((Od.steps L).map V.int)) ∧
          σ' = [some (.int L), some (.ref p), some (.int home), some (.ref a), some (.ref b), some (.ref c), some (.int pl), some (.int r), v8, v9]) ⟨kvs, v8, v9, by rw [List.take_zero]; exact ok, e, k1, by rw [List.take_zero]; exact rch, by rw [List.take_zero]; exact k2, k3, rfl⟩ (fun i σ' H' _ z => ?_) (fun i y σ' H' hy z => ?_) fun σ' H' z => ?_)
        · obtain ⟨_, _, _, _, _, _, _, _, k3, _⟩ := z
          exact l_of k3
        · obtain ⟨kvs, v8, v9, ok, e, k1, rch, k2, k3, rfl⟩ := z
          rw [List.getElem?_map] at hy
          cases hs : (Od.steps L)[i]? with
          | none => rw [hs] at hy; cases hy
          | some s0 =>
            rw [hs] at hy
            cases hy
            rw [take_snoc hs, Wb.look_snoc]
            generalize Wb.look d r ((Od.steps L).take i) fd = fd2 at ok rch k2
            have zf2 := ok.len
            obtain ⟨xs, t, kt, a1, a2, a3, a4, a5⟩ := (tab.mono e).at' hr
            walk_at "go"
            refine r_ixL (l_of a1) (atI_at (by omega) (by rw [Int.toNat_natCast]; exact a3)) ?_
            refine r_dg1 (.inl a4) ?_
            walk_at "go"
            refine r_dg1b (.inl a4) a5 ?_
            have okn := Wb.adv_ok (r := r) (s := s0) G ok
            cases hd : d r s0 with
            | none =>
              have ea : Wb.adv d r fd2 s0 = fd2 := by unfold Wb.adv; rw [hd]
              rw [ea]
              rw [show (vN none).getD V.non = V.non from rfl]
              walk_at "go"
              refine ⟨rfl, ?_⟩
              rw [decide_eq_true (rfl : V.non = V.non)]
              walk_at "go"
              exact ⟨kvs, _, _, ok, e, k1, rch, k2, k3, rfl⟩
            | some g =>
              rw [show (vN (some g)).getD V.non = V.int (g : Int) from rfl]
              walk_at "go"
              refine ⟨rfl, ?_⟩
              rw [decide_eq_false (show ¬ V.int (g : Int) = V.non from fun z => nomatch z)]
              walk_at "go"
              refine r_dninV (.inl k1) ?_
              rw [rch.mem g]
              walk_at "go"
              by_cases hm : g ∈ fd2.map (·.1)
              · have ea : Wb.adv d r fd2 s0 = fd2 := by unfold Wb.adv; rw [hd]; exact if_pos hm
                rw [ea, decide_eq_true hm]
                walk_at "go"
                exact ⟨kvs, _, _, ok, e, k1, rch, k2, k3, rfl⟩
              · have ea : Wb.adv d r fd2 s0 = fd2 ++ [(g, some (r, s0))] := by unfold Wb.adv; rw [hd]; exact if_neg hm
                rw [ea] at okn ⊢
                rw [decide_eq_false hm]
                walk_at "go"
                refine r_newT (by simp) fun t2 H4 ht2 e4 t4 => ?_
                have zk : kvs.length ≤ n := by rw [rch.len]; exact zf2
                walk_at "go"
                refine r_dput (e4 _ _ k1) (by omega) fun H5 e5 k5 => ?_
                have hno : valV kvs (Sum.inl (g : Int)) = none := by
                  have := rch.mem g
                  rw [decide_eq_false hm] at this
                  cases ev : valV kvs (Sum.inl (g : Int)) with
                  | none => rfl
                  | some v => rw [ev] at this; cases this
                rw [putK_new _ hno] at k5
                have tx5 : TX H4 H5 := fun q ys hq => by
                  have ne : q ≠ a := fun z => by
                    rw [z, e4 _ _ k1] at hq
                    rcases hq with hq | ⟨_, hq⟩ <;> cases hq
                  rcases hq with hq | ⟨o, hq⟩
                  · rw [hq, e5 _ _ hq ne]
                  · rw [hq, e5 _ _ hq ne]
                have e5' : Ex H H5 := fun q o ho => e5 q o (e4 q o (e q o ho)) (ne_of_none ho hp)
                have r5 := (rch.mono ((TX.of e4).trans tx5)).snoc (g := g) (r := r) (s := s0) ⟨t2, rfl, tx_t tx5 (t_of t4)⟩
                have k2b := e5 _ _ (e4 _ _ k2) nba
                have k3b := e5 _ _ (e4 _ _ k3) nca
                walk_at "go"
                refine r_app (l_of k2b) ?_
                walk_at "go"
                have zn : (natI (fd2.map (·.1))).length = fd2.length := by unfold natI; rw [List.length_map, List.length_map]
                refine r_appd k2b (by omega) fun H6 e6 k6 => ?_
                have tx6 : TX H5 H6 := TX.w2 k2b e6
                walk_at "go"
                refine ⟨_, _, _, okn, fun q o ho => e6 q o (e5' q o ho) (ne_of_none ho hb0), e6 _ _ k5 nba.symm, r5.mono tx6, ?_, e6 _ _ k3b ncb, rfl⟩
                rw [k6]
                unfold natI
                rw [List.map_append, List.map_append]
                rfl
        · obtain ⟨kvs, v8, v9, ok, e, k1, rch, k2, k3, rfl⟩ := z
          rw [List.length_map, List.take_length] at ok rch k2
          obtain ⟨m, em⟩ := Wb.look_pre d r (Od.steps L) fd
          walk_at "go"
          rw [show (pl : Int) + 1 = ((pl + 1 : Nat) : Int) by omega]
          refine ⟨n + 1 - (pl + 1), by omega, _, kvs, pl + 1, _, _, _, rfl, ?_, ok, ?_, e, k1, rch, k2, k3, rfl⟩
          · rw [em, List.length_append]
            omega
          · rw [← hrun, show n + 1 - pl = (n + 1 - (pl + 1)) + 1 by omega, Wb.run_on hg]
      · have e2 : Wb.bfs L n d home = fd := by rw [← hrun]; exact Wb.run_end (by omega)
        walk_at "go"
        exact q a kvs H' hp e k1 (e2 ▸ rch)
  walk_at "end"
end
end Lw
namespace Lw
open PySem PySem.Spec PyProof.Rows L2 Evl
local macro_rules | `(tactic| walk_at "go") => `(tactic| repeat (first
  | with_reducible refine st_seq ?_ | with_reducible refine st_set ?_ | with_reducible refine st_asg ?_ | with_reducible refine st_ret ?_ | with_reducible refine st_drop ?_ | with_reducible refine st_if ?_
  | with_reducible refine st_c ?_ | ((with_reducible refine' st_v ?h ?_); (case h => exact rfl)) | with_reducible refine st_n ?_ | with_reducible refine st_cons ?_ | with_reducible refine st_op ?_ | with_reducible refine st_un ?_
  | with_reducible refine st_cb ?_ | with_reducible refine st_test ?_ | with_reducible refine st_call ?_ | with_reducible refine st_callK ?_ | with_reducible refine st_sl ?_ | with_reducible refine st_par ?_ | with_reducible refine st_par3 ?_ | with_reducible refine st_tru ?_
  | with_reducible refine st_and ?_ | with_reducible refine st_or ?_ | with_reducible refine st_not ?_ | with_reducible refine st_B ?_ | with_reducible refine st_andV ?_ | with_reducible refine st_orV ?_ | with_reducible refine st_notV ?_ | with_reducible refine st_ifE ?_
  | with_reducible refine st_part ?_ | with_reducible refine st_nop ?_ | with_reducible refine st_sub ?_ | with_reducible refine st_chain ?_ | with_reducible refine st_chain3 ?_ | with_reducible refine st_lenSet ?_ | with_reducible refine st_bl ?_ | with_reducible refine st_in ?_ | with_reducible refine r_truB ?_
  | with_reducible refine st_nameG ?_ | with_reducible refine if_T ?_ | with_reducible refine if_F ?_ | with_reducible refine if_nT ?_ | with_reducible refine if_nF ?_
  | with_reducible refine r_add ?_ | with_reducible refine r_0 ?_ | with_reducible refine r_neg ?_ | with_reducible refine r_intI ?_ | with_reducible refine r_intB ?_ | with_reducible refine r_abs ?_ | with_reducible refine r_max2 ?_ | with_reducible refine r_min2 ?_ | with_reducible refine r_eqI ?_ | with_reducible refine r_neI ?_
  | with_reducible refine st_nxt ?_ | with_reducible refine st_cnt ?_ | with_reducible refine st_brk ?_ | with_reducible refine st_retn ?_
  | with_reducible refine st_lstN ?_ | with_reducible refine st_tupN ?_
  | with_reducible refine st_for ?_ | with_reducible refine st_lc ?_ | with_reducible refine st_lc2 ?_ | with_reducible refine st_rng1 ?_ | with_reducible refine st_rng2 ?_ | with_reducible refine st_rng3 ?_ | with_reducible refine st_itL ?_ | with_reducible refine st_itT ?_ | with_reducible refine st_rev ?_ | with_reducible refine st_enumE ?_ | with_reducible refine st_zip3 ?_ | with_reducible refine st_lvals ?_ | with_reducible refine st_fld ?_ | with_reducible refine st_sfld ?_ | with_reducible refine st_meth ?_ | with_reducible refine st_make ?_ | with_reducible refine st_rg1 ?_ | with_reducible refine st_enumS ?_ | with_reducible refine st_enumD ?_ | with_reducible refine st_lstIt ?_ | with_reducible refine st_dg1 ?_ | with_reducible refine st_dg2 ?_ | with_reducible refine st_dpop ?_ | with_reducible refine st_dset ?_ | with_reducible refine st_ckw ?_ | with_reducible refine st_dsetT ?_ | with_reducible refine st_dnewT ?_ | with_reducible refine st_dc ?_ | with_reducible refine st_keys ?_ | with_reducible refine st_dget ?_ | with_reducible refine st_din ?_ | with_reducible refine st_dnin ?_ | with_reducible refine st_dput ?_ | with_reducible refine st_dnew ?_ | with_reducible refine st_lstRg ?_ | with_reducible refine st_rg2 ?_ | with_reducible refine r_twoI ?_ | with_reducible refine st_bm ?_ | with_reducible refine st_bm0 ?_
  | ((with_reducible refine' st_aug ?h ?_); (case h => exact rfl)) | with_reducible refine r_augI ?_ | with_reducible refine r_eqB ?_
  | dsimp only))
section
variable {P : Program} {w : World} {K : PySem.W.Frag} {mg : Str → Option Value} {base : Heap} {A : Ad}
theorem kv_len {L n : Nat} {d : Wb.Gm} {kvs : List (Key × V)} {i : Nat} (G : Wb.Gr L n d) (h : DI kvs fun s => vN (d i s)) : kvs.length = Wb.deg L d i := by
  unfold Wb.deg
  refine h.len ((Od.steps_nodup L).filter _) fun x => ?_
  rw [List.mem_filter, vN_some]
  refine ⟨fun z => z.2, fun z => ⟨?_, z⟩⟩
  cases e : d i x with
  | none => rw [e] at z; cases z
  | some g => exact (G.dom _ _ _ e).2.2
theorem r_any {K : PySem.W.Frag} {H : Hp} {Q : VK} {a : Addr} {bs : List Bool} (h : SqL K H a (bs.map V.bl)) (q : Q (.bl (bs.any id)) H) : rAny K [.ref a] H Q := ⟨a, bs, rfl, h, q⟩
def sp_right_table (K : PySem.W.Frag) : Sp := fun vs H Q _ => ∃ (L n : Nat) (d : Wb.Gm) (a : Addr), vs = [.ref a] ∧ WebH K H a L n d ∧ Wb.Web L n d ∧ n ≤ 1000 ∧ ∀ p H1, Ex H H1 → TabH H1 p n d → Q (.ref p) H1
theorem ok_right_table (T : Tx K mg A) : FnOk P w K mg base CX0 4 A.a_right_table A.f_right_table P_right_table (sp_right_table K) := by
  refine Qt.drp ?_ ?_
  · refine T.F_right_table.ok sc_right_table (fun vs H Q E h => ?_) (fun cdv A' outer s H vs Q E hr h => ?_)
    · obtain ⟨L, n, d, a, rfl, _⟩ := h
      rfl
    · obtain ⟨L, n, d, a, rfl, hw, W, hn, q⟩ := h
      refine ⟨_, (pss_cons (ps_if (pt_not (pt_truK K (pe_call (ok_has_web_form T) (hr.mono (by decide)) (by rfl) T.g_has_web_form T.F_has_web_form.kp T.b_has_web_form .nil pass0 (pa_cons (pv 0) pa_nil)))) (pss_one (ps_ret pe_non)) pss_nil)
        (pss_cons (ps_asg (pv 0) (pg_tupK K (by rfl) (pgs_cons (pg_name (i := 1) sc_right_table.nd rfl (Or.inl rfl)) (pgs_cons (pg_name (i := 2) sc_right_table.nd rfl (Or.inl rfl)) pgs_nil))))
        (pss_cons (ps_set (i := 3) sc_right_table.nd rfl (Or.inl rfl) (pe_call (ok_step_table T) (hr.mono (by decide)) (by rfl) T.g_step_table T.F_step_table.kp T.b_step_table .nil pass0 (pa_cons (pv 2) pa_nil)))
        (pss_cons (ps_if (PW.pt (pw_or (pt_cmpR op_isN (pv 3) pe_non (nomark _)) (pw_or1 (pt_truK K (pe_callB (any_K K rfl) (by rfl) T.n_any (by decide +kernel) (pa_cons (pe_lc (own := [("steps", 4)]) rfl sc_right_table.nd (pi_listK K (pe_slice (sl_K K) (pv 3) (po_some pe_int) po_none)) (blkOk_by (own := [("steps", 4)]) (N := N_right_table) (sc := defScope s_right_table) (by decide +kernel)) (fun _ _ _ _ _ => (pg_name (i := 4) sc_right_table.nd rfl (Or.inl rfl))) (fun _ _ _ _ _ => pts_nil) (fun _ _ _ _ _ => (pe_cmpR op_lt (pe_callB len_D (by rfl) T.n_len (by decide +kernel) (pa_cons (pv 4) pa_nil)) pe_int (nomark _)))) pa_nil)))))) (pss_one (ps_ret pe_non)) pss_nil)
        (pss_one (ps_ret (pe_ifExp (pt_cmpR (op_eqK K hr.units) (pe_callTy (list_D rfl) (by rfl) T.n_list (by decide +kernel) (pa_cons (pe_call (ok_first_reached T) (hr.mono (by decide)) (by rfl) T.g_first_reached T.F_first_reached.kp T.b0_first_reached.choose_spec.2 T.b0_first_reached.choose_spec.1 pass0 (pa_cons (pv 1) (pa_cons (pv 3) pa_nil))) pa_nil)) (pe_listRg rfl (by rfl) T.n_list (prg_1 (by rfl) T.n_range (pe_callB (len_K K) (by rfl) T.n_len (by decide +kernel) (pa_cons (pv 2) pa_nil)))) (nomark _)) (pv 3) pe_non))))))), ?_⟩
      have G := W.gr
      have l4 := W.l4
      have hp0 := W.pos
      walk_at "go"
      refine ⟨L, n, d, a, rfl, hw, W, hn, fun H1 e1 => ?_⟩
      refine r_truB ?_
      obtain ⟨r, xs, ha, hr0, wa⟩ := (hw.mono e1).ex
      have zx : xs.length = n := by rw [wa.len, Wb.rows_len]
      walk_at "go"
      refine r_tup2 ha ?_
      walk_at "go"
      refine ⟨L, n, d, r, xs, rfl, hr0, wa, G, l4, hn, fun p H2 e2 tab => ?_⟩
      have hr1 := ex_t e2 hr0
      have e := e1.trans e2
      clear e1 e2 ha wa hr0 hw
      walk_at "go"
      refine ⟨rfl, ?_⟩
      rw [decide_eq_false (show ¬ V.ref p = V.non from fun z => nomatch z)]
      walk_at "go"
      obtain ⟨ds, zd, hp, hds⟩ := tab.ex
      refine r_slL (l_of hp) fun p2 H3 hp2 e3 h3 => ?_
      have ec : cutV (ds.map V.ref) (some 1) none = (ds.drop 1).map V.ref := by
        unfold cutV
        rw [HT.sIx_none, sIx_int (by decide : (0 : Int) ≤ 1), List.length_map, zd, Nat.min_eq_left (by omega : (1 : Int).toNat ≤ n), List.take_of_length_le (by rw [List.length_drop, List.length_map, zd]; exact Nat.le_refl _), List.map_drop]
        rfl
      rw [ec] at h3
      walk_at "go"
      refine r_itL (l_of h3) (r_cmL (ys := ((ds.drop 1).map fun _ => false).map V.bl) (l_of h3) (by simp) (by simp; omega) (fun _ => rfl) (fun i x y H4 hx hy e4 Q' k => ?_) fun p4 H4 hp4 e4 h4 => ?_)
      · rw [List.getElem?_map] at hx
        rw [List.getElem?_map, List.getElem?_map] at hy
        cases hi : (ds.drop 1)[i]? with
        | none => rw [hi] at hx; cases hx
        | some z =>
          rw [hi] at hx hy
          cases hx
          cases hy
          rw [List.getElem?_drop] at hi
          have li := (List.getElem?_eq_some_iff.mp hi).1
          obtain ⟨kvs, k1, k2⟩ := hds _ _ hi
          have two := W.two (1 + i) (by omega) (by omega)
          have ek := kv_len G k2
          walk_at "go"
          refine r_lenD (e4 _ _ (e3 _ _ k1)) ?_
          walk_at "go"
          rw [decide_eq_false (by omega : ¬ ((kvs.length : Nat) : Int) < 2)]
          exact k H4 (Ex.refl H4)
      walk_at "go"
      refine r_any (l_of h4) ?_
      have ea : ((ds.drop 1).map fun _ => false).any id = false := by
        rw [List.any_map]
        exact List.any_eq_false.mpr fun x _ => by simp
      rw [ea]
      have e' := (e.trans e3).trans e4
      have tab2 := (tab.mono e3).mono e4
      have hr2 := ex_t e4 (ex_t e3 hr1)
      clear e e3 e4 h3 h4 hp hds hr1 tab ds zd ec ea
      walk_at "go"
      refine ⟨L, n, 0, d, p, rfl, l4, G, tab2, W.pos, hn, fun b kvs H5 hb e5 k5 rch => ?_⟩
      walk_at "go"
      refine r_lstD k5 fun b2 H6 hb2 e6 k6 => ?_
      have el : (kvs.map fun kv => kV kv.1) = ((List.range n).map fun (g : Nat) => (g : Int)).map V.int := by
        have z := rch.keys
        rw [W.ord] at z
        have z2 := congrArg (fun l => l.map kV) z
        simp only [List.map_map] at z2 ⊢
        exact z2
      rw [el] at k6
      walk_at "go"
      refine r_lenT (ex_t e6 (ex_t e5 hr2)) ?_
      rw [zx]
      walk_at "go"
      refine r_lstRg (by decide) (by omega) (by decide) (by omega) fun b3 H7 hb3 e7 k7 => ?_
      have er : rgI 0 (n : Int) = (List.range n).map fun (g : Nat) => (g : Int) := by
        unfold rgI
        rw [show ((n : Int) - 0).toNat = n by omega]
        refine List.map_congr_left fun g _ => ?_
        omega
      rw [er] at k7
      walk_at "go"
      refine r_eqL (l_of (e7 _ _ k6)) (l_of k7) ?_
      rw [decide_eq_true (rfl : ((List.range n).map fun (g : Nat) => (g : Int)) = _)]
      walk_at "go"
      exact q p H7 (((e'.trans e5).trans e6).trans e7) (((tab2.mono e5).mono e6).mono e7)
  walk_at "end"
def sp_checked_table (K : PySem.W.Frag) : Sp := sp_right_table K
theorem ok_checked_table (T : Tx K mg A) : FnOk P w K mg base CX0 5 A.a_checked_table A.f_checked_table P_checked_table (sp_checked_table K) := by
  refine T.F_checked_table.ok sc_checked_table (fun vs H Q E h => ?_) (fun cdv A' outer s H vs Q E hr h => ?_)
  · obtain ⟨L, n, d, a, rfl, _⟩ := h
    rfl
  · obtain ⟨L, n, d, a, rfl, hw, W, hn, q⟩ := h
    refine ⟨_, (pss_cons (ps_set (i := 1) sc_checked_table.nd rfl (Or.inl rfl) (pe_call (ok_right_table T) (hr.mono (by decide)) (by rfl) T.g_right_table T.F_right_table.kp T.b_right_table .nil pass0 (pa_cons (pv 0) pa_nil)))
      (pss_cons (ps_if (pt_cmpR op_isN (pv 1) pe_non (nomark _)) (pss_one ps_never) pss_nil)
      (pss_one (ps_ret (pv 1))))), ?_⟩
    walk_at "go"
    refine ⟨L, n, d, a, rfl, hw, W, hn, fun p H1 e1 tab => ?_⟩
    walk_at "go"
    refine ⟨rfl, ?_⟩
    rw [decide_eq_false (show ¬ V.ref p = V.non from fun z => nomatch z)]
    walk_at "go"
    exact q p H1 e1 tab
end
end Lw
namespace L2
open PySem PySem.Spec PyProof.Rows Evl SrtO
end L2
namespace L2
open PySem PySem.Spec PyProof.Rows Evl
mutual
/-- a key without texts in it -/
def ntx : NestedKey → Bool
  | .none => true
  | .num _ => true
  | .text _ => false
  | .tup ks => ntxs ks
def ntxs : List NestedKey → Bool
  | [] => true
  | k :: ks => ntx k && ntxs ks
end
mutual
theorem ntx_hash (w w' : World) : ∀ k : NestedKey, ntx k = true → k.hash w = k.hash w'
  | .none, _ => rfl
  | .num _, _ => rfl
  | .text _, h => by cases h
  | .tup ks, h => by
    unfold NestedKey.hash
    rw [ntxs_hash w w' ks h]
theorem ntxs_hash (w w' : World) : ∀ ks : List NestedKey, ntxs ks = true → NestedKey.hashes w ks = NestedKey.hashes w' ks
  | [], _ => rfl
  | k :: ks, h => by
    have h2 : (ntx k && ntxs ks) = true := h
    rw [Bool.and_eq_true] at h2
    unfold NestedKey.hashes
    rw [ntx_hash w w' k h2.1, ntxs_hash w w' ks h2.2]
end
mutual
/-- the value is such a key -/
inductive NKy (K : PySem.W.Frag) (H : Hp) : NestedKey → V → Prop
  | int (i : Int) : NKy K H (.num i) (.int i)
  | tup {a : Addr} {xs : List V} {ks : List NestedKey} : SqT K H a xs → NKys K H ks xs → NKy K H (.tup ks) (.ref a)
inductive NKys (K : PySem.W.Frag) (H : Hp) : List NestedKey → List V → Prop
  | nil : NKys K H [] []
  | cons {k : NestedKey} {v : V} {ks : List NestedKey} {vs : List V} : NKy K H k v → NKys K H ks vs → NKys K H (k :: ks) (v :: vs)
end
theorem sqt_ex {K : PySem.W.Frag} {H H1 : Hp} {a : Addr} {xs : List V} (h : SqT K H a xs) (e : ∀ b ys, Rd H b (.tup ys) → Rd H1 b (.tup ys)) : SqT K H1 a xs := h.imp (e _ _) id
def TupsE (H H1 : Hp) : Prop := ∀ b ys, Rd H b (.tup ys) → Rd H1 b (.tup ys)
theorem TupsE.of {H H1 : Hp} (e : Ex H H1) : TupsE H H1 := fun b ys h => h.imp (e _ _) fun ⟨o, q⟩ => ⟨o, e _ _ q⟩
theorem TupsE.refl (H : Hp) : TupsE H H := fun _ _ h => h
theorem TupsE.trans {H H1 H2 : Hp} (a : TupsE H H1) (b : TupsE H1 H2) : TupsE H H2 := fun p ys h => b p ys (a p ys h)
theorem TupsE.w {w : Addr} {H H1 : Hp} {o : HO} (e : ExW w H H1) (hw : H w = some o) (n : ∀ ys, o ≠ .tup ys ∧ ∀ q, o ≠ .frz q (.tup ys)) : TupsE H H1 := fun b ys h => by
  rcases h with h | ⟨q, h⟩
  · exact .inl (e _ _ h (ne_of h hw fun z => (n ys).1 z.symm))
  · exact .inr ⟨q, e _ _ h (ne_of h hw fun z => (n ys).2 q z.symm)⟩
mutual
theorem NKy.mono {K : PySem.W.Frag} {H H1 : Hp} (e : TupsE H H1) : ∀ {k : NestedKey} {v : V}, NKy K H k v → NKy K H1 k v
  | _, _, .int i => .int i
  | _, _, .tup h q => .tup (sqt_ex h e) (NKys.mono e q)
theorem NKys.mono {K : PySem.W.Frag} {H H1 : Hp} (e : TupsE H H1) : ∀ {k : List NestedKey} {v : List V}, NKys K H k v → NKys K H1 k v
  | _, _, .nil => .nil
  | _, _, .cons h q => .cons (NKy.mono e h) (NKys.mono e q)
end
mutual
theorem NKy.is {X : Cx} {pins : List (Addr × Obj)} {σ : L2.St} {H : Hp} {s : Shared} (I : Inv X pins σ H s) : ∀ {k : NestedKey} {v : V} {u : Value}, NKy X.K H k v → RelV v u → NestedIs s.heap k u
  | _, _, u, .int i, r => by
    obtain ⟨t, rfl⟩ := (show ∃ t, u = Value.int i t from r)
    exact .int i t
  | _, _, u, .tup h q, r => by
    obtain rfl : u = Value.ref _ := r
    obtain ⟨its, rv, ⟨o, ho, hc, n, hd⟩, _⟩ := I.tuple h
    exact .tup ho hc hd (NKys.is I q rv)
theorem NKys.is {X : Cx} {pins : List (Addr × Obj)} {σ : L2.St} {H : Hp} {s : Shared} (I : Inv X pins σ H s) : ∀ {k : List NestedKey} {v : List V} {u : List Value}, NKys X.K H k v → Vals v u → NestedAll s.heap k u
  | _, _, _, .nil, r => by cases r; exact .nil
  | _, _, _, .cons h q, r => by
    cases r with
    | cons r0 r1 => exact .cons (NKy.is I h r0) (NKys.is I q r1)
end
/-- the object of such a dict -/
def dnx (d : Addr) (xs : List (NestedKey × Addr × Value)) : Heap → Prop := fun h => ∃ (w : World) (o : Obj) (es : Array DictEntry) (ep : Nat), h.get? d = some o ∧ o.ExactDict ∧ o.data = .dict es ep ∧ es.toList = xs.map fun x => (⟨x.1.hash w, .ref x.2.1, x.2.2⟩ : DictEntry)
def okn (k : NestedKey) : Prop := ntx k = true ∧ k.depth ≤ 8
abbrev DNr (K : PySem.W.Frag) (H : Hp) : List (NestedKey × V) → List (NestedKey × Addr × Value) → Prop := Paired fun p q => p.1 = q.1 ∧ okn p.1 ∧ NKy K H p.1 (.ref q.2.1) ∧ RelV p.2 q.2.2
/-- at d a dict with these keys and values -/
def DN (K : PySem.W.Frag) (H : Hp) (d : Addr) (kvs : List (NestedKey × V)) : Prop := (d == sysModules) = false ∧ kvs.length ≤ sizeLine ∧ ∃ xs, H d = some (.ext (dnx d xs)) ∧ (xs.map (·.1)).Nodup ∧ DNr K H kvs xs
theorem DN.get {K : PySem.W.Frag} {H : Hp} {d : Addr} {kvs : List (NestedKey × V)} (h : DN K H d kvs) : ∃ φ, H d = some (.ext φ) := let ⟨_, _, _, e, _⟩ := h; ⟨_, e⟩
theorem DN.mono {K : PySem.W.Frag} {H H1 : Hp} {d : Addr} {kvs : List (NestedKey × V)} (h : DN K H d kvs) (e : TupsE H H1) (hd : H1 d = H d) : DN K H1 d kvs := by
  obtain ⟨a, b, xs, e1, e2, e3⟩ := h
  exact ⟨a, b, xs, hd.trans e1, e2, Paired.mapP e3 fun p q z => ⟨z.1, z.2.1, z.2.2.1.mono e, z.2.2.2⟩⟩
theorem DN.ex {K : PySem.W.Frag} {H H1 : Hp} {d : Addr} {kvs : List (NestedKey × V)} (h : DN K H d kvs) (e : Ex H H1) : DN K H1 d kvs := by
  obtain ⟨φ, hp⟩ := h.get
  exact h.mono (.of e) ((e _ _ hp).trans hp.symm)
section
variable {X : Cx} {pins : List (Addr × Obj)} {σ : L2.St} {H : Hp} {s : Shared} {d : Addr} {kvs : List (NestedKey × V)}
theorem DNr.val {K : PySem.W.Frag} {kvs : List (NestedKey × V)} {xs : List (NestedKey × Addr × Value)} (r : DNr K H kvs xs) (k : NestedKey) : RelO (valV kvs k) ((atKey xs k).map (·.2)) := by
  induction r with
  | nil => exact True.intro
  | @cons p q ps qs h t ih =>
    obtain ⟨h1, _, _, h2⟩ := h
    by_cases e : p.1 = k
    · have e' : q.1 = k := h1.symm.trans e
      have b : atKey (q :: qs) k = some q.2 := by simp [atKey, List.find?_cons, e']
      rw [valV_pos e, b]; exact h2
    · have e' : ¬ q.1 = k := fun z => e (h1.trans z)
      have b : atKey (q :: qs) k = atKey qs k := by simp [atKey, List.find?_cons, e']
      rw [valV_neg e, b]; exact ih
theorem DNr.repl {K : PySem.W.Frag} {kvs : List (NestedKey × V)} {xs : List (NestedKey × Addr × Value)} (r : DNr K H kvs xs) (k : NestedKey) {y : V} {u : Value} (ry : RelV y u) :
    DNr K H (kvs.map fun kv => if kv.1 = k then (kv.1, y) else kv) (xs.map (putAt k u)) := by
  induction r with
  | nil => exact .nil
  | @cons p q ps qs h t ih =>
    rw [List.map_cons, List.map_cons]
    refine .cons ?_ ih
    obtain ⟨h1, h2, h3, h4⟩ := h
    unfold putAt
    by_cases e : p.1 = k
    · rw [if_pos e, if_pos (h1.symm.trans e)]; exact ⟨h1, h2, h3, ry⟩
    · rw [if_neg e, if_neg (fun z => e (h1.trans z))]; exact ⟨h1, h2, h3, h4⟩
theorem DNr.put {K : PySem.W.Frag} {kvs : List (NestedKey × V)} {xs : List (NestedKey × Addr × Value)} (r : DNr K H kvs xs) (k : NestedKey) {b : Addr} {y : V} {u : Value} (ok : okn k) (hb : NKy K H k (.ref b)) (ry : RelV y u) :
    DNr K H (putK kvs k y) (storedH xs k b u) := by
  have e : (kvs.any fun kv => decide (kv.1 = k)) = (atKey xs k).isSome := by
    rw [valV_any, (r.val k).isSome_eq, Option.isSome_map]
  unfold putK storedH
  rw [e]
  by_cases q : (atKey xs k).isSome = true
  · rw [if_pos q, if_pos q]; exact r.repl k ry
  · rw [if_neg q, if_neg q]; exact Paired.snoc r ⟨rfl, ok, hb, ry⟩
theorem DNr.drop {K : PySem.W.Frag} {kvs : List (NestedKey × V)} {xs : List (NestedKey × Addr × Value)} (r : DNr K H kvs xs) (k : NestedKey) : DNr K H (dropK kvs k) (xs.filter fun x => decide (x.1 ≠ k)) := by
  unfold dropK
  induction r with
  | nil => exact .nil
  | @cons p q ps qs h t ih =>
    rw [List.filter_cons, List.filter_cons]
    by_cases e : p.1 = k
    · have a : ¬ decide (p.1 ≠ k) = true := by simp [e]
      have b : ¬ decide (q.1 ≠ k) = true := by simp [h.1.symm.trans e]
      rw [if_neg a, if_neg b]; exact ih
    · have e' : ¬ q.1 = k := fun z => e (h.1.trans z)
      have a : decide (p.1 ≠ k) = true := by simp [e]
      have b : decide (q.1 ≠ k) = true := by simp [e']
      rw [if_pos a, if_pos b]; exact .cons h ih
/-- .. that may be read -/
def DNR (K : PySem.W.Frag) (H : Hp) (d : Addr) (kvs : List (NestedKey × V)) : Prop := (d == sysModules) = false ∧ kvs.length ≤ sizeLine ∧ ∃ xs, Rd H d (.ext (dnx d xs)) ∧ (xs.map (·.1)).Nodup ∧ DNr K H kvs xs
theorem DN.r {K : PySem.W.Frag} (h : DN K H d kvs) : DNR K H d kvs := let ⟨a, b, xs, e, r⟩ := h; ⟨a, b, xs, .inl e, r⟩
theorem dnr_all (I : Inv X pins σ H s) {l : List (NestedKey × V)} {m : List (NestedKey × Addr × Value)} (q : DNr X.K H l m) : ∀ x ∈ m, okn x.1 ∧ (nestedKind X.prog X.w).is s.heap x.1 x.2.1 := by
  induction q with
  | nil => intro x hx; exact nomatch hx
  | @cons p q ps qs hq t ih =>
    intro x hx
    rcases List.mem_cons.mp hx with e | hx
    · subst e
      have hk := hq.2.2.1
      rw [hq.1] at hk
      have ho := hq.2.1
      rw [hq.1] at ho
      exact ⟨ho, NKy.is I hk rfl, ho.2⟩
    · exact ih x hx
theorem dnx_at (I : Inv X pins σ H s) {xs : List (NestedKey × Addr × Value)} (h3 : dnx d xs s.heap) (h4 : (xs.map (·.1)).Nodup) (h5 : DNr X.K H kvs xs) : s.heap.DictOfH (nestedKind X.prog X.w) d xs := by
  obtain ⟨w, o, es, ep, e1, e2, e3, e4⟩ := h3
  refine ⟨o, es, ep, e1, e2, e3, e4.trans (List.map_congr_left fun x hx => ?_), fun x hx => (dnr_all I h5 x hx).2, h4⟩
  show (⟨x.1.hash w, .ref x.2.1, x.2.2⟩ : DictEntry) = ⟨x.1.hash X.w, .ref x.2.1, x.2.2⟩
  rw [ntx_hash w X.w x.1 (dnr_all I h5 x hx).1.1]
theorem DN.at_ (I : Inv X pins σ H s) (h : DN X.K H d kvs) : kvs.length ≤ sizeLine ∧ (d == sysModules) = false ∧ ∃ xs, H d = some (.ext (dnx d xs)) ∧ DNr X.K H kvs xs ∧ s.heap.DictOfH (nestedKind X.prog X.w) d xs := by
  obtain ⟨h1, h2, xs, h3, h4, h5⟩ := h
  exact ⟨h2, h1, xs, h3, h5, dnx_at I (show ObjOk X.prog X.w H s.heap d (.ext (dnx d xs)) from I.hok d _ h3).1 h4 h5⟩
theorem DNR.at_ (I : Inv X pins σ H s) (h : DNR X.K H d kvs) : kvs.length ≤ sizeLine ∧ (d == sysModules) = false ∧ ∃ xs, DNr X.K H kvs xs ∧ s.heap.DictOfH (nestedKind X.prog X.w) d xs := by
  obtain ⟨h1, h2, xs, h3, h4, h5⟩ := h
  exact ⟨h2, h1, xs, h5, dnx_at I (show ObjOk X.prog X.w H s.heap d (.ext (dnx d xs)) from h3.ok I.hok).1 h4 h5⟩
end
theorem DN.tx {K : PySem.W.Frag} {H H1 : Hp} {d : Addr} {kvs : List (NestedKey × V)} (h : DN K H d kvs) (e : TX H H1) (hd : H1 d = H d) : DN K H1 d kvs := h.mono (fun b ys hb => by
  rcases hb with hb | ⟨o, hb⟩
  · exact .inl ((e b ys (.inl hb)).trans hb)
  · exact .inr ⟨o, (e b ys (.inr ⟨o, hb⟩)).trans hb⟩) hd
end L2
namespace L2
open PySem PySem.Spec PyProof.Rows Evl
abbrev NX := List (NestedKey × Addr × Value)
/-- what the locked dict holds -/
def FrN (H : Hp) (d : Addr) (o : Obj) (xs : NX) : Prop := (d == sysModules) = false ∧ H d = some (.frz o (.ext (dnx d xs))) ∧ xs.length ≤ sizeLine
theorem FrN.at_ {X : Cx} {pins : List (Addr × Obj)} {σ : L2.St} {H : Hp} {s : Shared} {d : Addr} {o : Obj} {xs : NX} (I : Inv X pins σ H s) (h : FrN H d o xs) :
    (d == sysModules) = false ∧ s.heap.get? d = some o ∧ o.ExactDict ∧ ∃ (es : Array DictEntry) (ep : Nat), o.data = .dict es ep ∧ es.size = xs.length ∧
      ∀ (i : Nat) (x : NestedKey × Addr × Value), xs[i]? = some x → ∃ (en : DictEntry), es[i]? = some en ∧ en.key = .ref x.2.1 ∧ en.val = x.2.2 := by
  obtain ⟨hs, h, _⟩ := h
  obtain ⟨hd, ⟨w, o', es, ep, e1, e2, e3, e4⟩, _, _⟩ := (show ObjOk X.prog X.w H s.heap d (.frz o (.ext (dnx d xs))) from I.hok d _ h)
  rw [hd] at e1
  cases e1
  refine ⟨hs, hd, e2, es, ep, e3, ?_, fun i x hx => ?_⟩
  · have := congrArg List.length e4
    rw [Array.length_toList, List.length_map] at this
    exact this
  · have q : es.toList[i]? = some ⟨x.1.hash w, .ref x.2.1, x.2.2⟩ := by rw [e4, List.getElem?_map, hx]; rfl
    rw [Array.getElem?_toList] at q
    exact ⟨_, q, rfl, rfl⟩
end L2
namespace L2
open PySem PySem.Spec PyProof.Rows Evl
theorem DNr.mono {K : PySem.W.Frag} {H H1 : Hp} {kvs : List (NestedKey × V)} {xs : NX} (h : DNr K H kvs xs) (e : TupsE H H1) : DNr K H1 kvs xs := Paired.mapP h fun p q z => ⟨z.1, z.2.1, z.2.2.1.mono e, z.2.2.2⟩
theorem TupsE.tx {H H1 : Hp} (e : TX H H1) : TupsE H H1 := fun b ys hb => by
  rcases hb with hb | ⟨o, hb⟩
  · exact .inl ((e b ys (.inl hb)).trans hb)
  · exact .inr ⟨o, (e b ys (.inr ⟨o, hb⟩)).trans hb⟩
/-- the dict at d is locked -/
def LkN (K : PySem.W.Frag) (d : Addr) (kvs : List (NestedKey × V)) (od : Obj) (xs : NX) (H : Hp) : Prop := (d == sysModules) = false ∧ kvs.length ≤ sizeLine ∧ (xs.map (·.1)).Nodup ∧ H d = some (.frz od (.ext (dnx d xs))) ∧ DNr K H kvs xs
section
variable {K : PySem.W.Frag} {d : Addr} {kvs : List (NestedKey × V)} {od : Obj} {xs : NX} {H H1 : Hp}
theorem LkN.r (h : LkN K d kvs od xs H) : DNR K H d kvs := ⟨h.1, h.2.1, xs, .inr ⟨od, h.2.2.2.1⟩, h.2.2.1, h.2.2.2.2⟩
theorem LkN.fr (h : LkN K d kvs od xs H) : FrN H d od xs := ⟨h.1, h.2.2.2.1, by have := Paired.length h.2.2.2.2; have := h.2.1; omega⟩
theorem LkN.stay (h : LkN K d kvs od xs H) (e : TupsE H H1) (hd : H1 d = H d) : LkN K d kvs od xs H1 := ⟨h.1, h.2.1, h.2.2.1, hd.trans h.2.2.2.1, h.2.2.2.2.mono e⟩
theorem LkN.ex (h : LkN K d kvs od xs H) (e : Ex H H1) : LkN K d kvs od xs H1 := h.stay (.of e) ((e _ _ h.2.2.2.1).trans h.2.2.2.1.symm)
theorem LkN.of (h : DN K H d kvs) : ∃ xs, H d = some (.ext (dnx d xs)) ∧ ∀ od, LkN K d kvs od xs (upd H d (.frz od (.ext (dnx d xs)))) := by
  obtain ⟨h1, h2, xs, h3, h4, h5⟩ := h
  refine ⟨xs, h3, fun od => ⟨h1, h2, h4, upd_same, h5.mono fun b ys hb => ?_⟩⟩
  rcases hb with hb | ⟨o, hb⟩
  · exact .inl (by rw [upd_ne (ne_of hb h3 fun z => nomatch z)]; exact hb)
  · exact .inr ⟨o, by rw [upd_ne (ne_of hb h3 fun z => nomatch z)]; exact hb⟩
theorem LkN.at_ (h : LkN K d kvs od xs H) {i : Nat} {y : NestedKey × Addr × Value} (hy : xs[i]? = some y) : ∃ v, kvs[i]? = some (y.1, v) ∧ okn y.1 ∧ NKy K H y.1 (.ref y.2.1) ∧ RelV v y.2.2 := by
  have hl := Paired.length h.2.2.2.2
  obtain ⟨p, hp⟩ : ∃ p, kvs[i]? = some p := ⟨_, List.getElem?_eq_getElem (by have := (List.getElem?_eq_some_iff.mp hy).1; omega)⟩
  obtain ⟨q, hq, z⟩ := paired_get h.2.2.2.2 hp
  rw [hy] at hq
  cases hq
  obtain ⟨k, v⟩ := p
  obtain ⟨z1, z2, z3, z4⟩ := z
  dsimp only at z1 z2 z3 z4
  subst z1
  exact ⟨v, hp, z2, z3, z4⟩
end
theorem dnr_keys {K : PySem.W.Frag} {H : Hp} {kvs : List (NestedKey × V)} {xs : NX} (h : DNr K H kvs xs) : kvs.map (·.1) = xs.map (·.1) := by
  induction h with
  | nil => rfl
  | cons a _ ih => rw [List.map_cons, List.map_cons, ih, a.1]
theorem DN.nodup {K : PySem.W.Frag} {H : Hp} {d : Addr} {kvs : List (NestedKey × V)} (h : DN K H d kvs) : (kvs.map (·.1)).Nodup := by
  obtain ⟨_, _, xs, _, h4, h5⟩ := h
  rw [dnr_keys h5]
  exact h4
/-- the entries of a dict with numbers for keys -/
def ents (acc : List (Int × V)) : List (Key × V) := acc.map fun y => (Sum.inl y.1, y.2)
end L2
namespace Pd
open Wb Od
/-- a search: the visited, the waiting -/
structure Dfs (n : Nat) (d : Gm) (ks ws : List Nat) : Prop where
  nd : ks.Nodup
  reach : ∀ r, r ∈ ks ∨ r ∈ ws → ∃ w, go d 0 w = some r
  cl : ∀ r ∈ ks, ∀ s g, d r s = some g → g ∈ ks ∨ g ∈ ws
  home : 0 ∈ ks ∨ 0 ∈ ws
  lt : ∀ r, r ∈ ks ∨ r ∈ ws → r < n
variable {L n : Nat} {d : Gm} {ks ws : List Nat} {x : Nat}
theorem Dfs.new (G : Gr L n d) (h : Dfs n d ks (ws ++ [x])) (hx : x ∉ ks) {gs : List Nat} (hg : ∀ g, g ∈ gs ↔ ∃ s, d x s = some g) : Dfs n d (ks ++ [x]) (ws ++ gs) := by
  refine Qt.drp ?_ ?_
  · have k : ∀ g, g ∈ ks ∨ g ∈ ws ++ [x] → g ∈ ks ++ [x] ∨ g ∈ ws ++ gs := fun g hg => by
      rcases hg with hg | hg
      · exact .inl (List.mem_append_left _ hg)
      · rcases List.mem_append.mp hg with hg | hg
        · exact .inr (List.mem_append_left _ hg)
        · exact .inl (List.mem_append_right _ hg)
    have rx := h.reach x (.inr (List.mem_append_right _ List.mem_cons_self))
    refine ⟨List.nodup_append.mpr ⟨h.nd, by simp, fun a ha b hb e => hx (by rw [← List.mem_singleton.mp hb, ← e]; exact ha)⟩, fun r hr => ?_, fun r hr s g e => ?_, k 0 h.home, fun r hr => ?_⟩
    · rcases hr with hr | hr
      · rcases List.mem_append.mp hr with hr | hr
        · exact h.reach r (.inl hr)
        · rw [List.mem_singleton.mp hr]; exact rx
      · rcases List.mem_append.mp hr with hr | hr
        · exact h.reach r (.inr (List.mem_append_left _ hr))
        · obtain ⟨s, e⟩ := (hg r).mp hr
          obtain ⟨w, hw⟩ := rx
          exact ⟨w ++ [s], by rw [go_snoc, hw]; exact e⟩
    · rcases List.mem_append.mp hr with hr | hr
      · exact k g (h.cl r hr s g e)
      · rw [List.mem_singleton.mp hr] at e
        exact .inr (List.mem_append_right _ ((hg g).mpr ⟨s, e⟩))
    · rcases hr with hr | hr
      · rcases List.mem_append.mp hr with hr | hr
        · exact h.lt r (.inl hr)
        · rw [List.mem_singleton.mp hr]; exact h.lt x (.inr (List.mem_append_right _ List.mem_cons_self))
      · rcases List.mem_append.mp hr with hr | hr
        · exact h.lt r (.inr (List.mem_append_left _ hr))
        · obtain ⟨s, e⟩ := (hg r).mp hr
          exact (G.dom _ _ _ e).2.1
  walk_at "end"
theorem Dfs.done (h : Dfs n d ks []) : ∀ r, r ∈ ks ↔ ∃ w, go d 0 w = some r := fun r => by
  constructor
  · exact fun hr => h.reach r (.inl hr)
  · rintro ⟨w, hw⟩
    have key : ∀ (w : List Int) (r : Nat), go d 0 w = some r → r ∈ ks := fun w => by
      refine Od.snoc_ind (C := fun w => ∀ r, go d 0 w = some r → r ∈ ks) (fun r e => ?_) (fun u s ih r e => ?_) w
      · cases e
        exact h.home.elim id fun z => nomatch z
      · rw [go_snoc] at e
        cases eu : go d 0 u with
        | none => rw [eu] at e; cases e
        | some q =>
          rw [eu] at e
          exact (h.cl q (ih q eu) s r e).elim id fun z => nomatch z
    exact key w r hw
theorem Dfs.len (h : Dfs n d ks ws) : ks.length ≤ n := nodup_lt h.nd fun r hr => h.lt r (.inl hr)
end Pd
namespace L2
open PySem PySem.Spec PyProof.Rows Evl
/-- the pair of a number -/
def pr (m r : Nat) : List Int := [((r / m : Nat) : Int), ((r % m : Nat) : Int)]
def kp (m r : Nat) : NestedKey := .tup [.num ((r / m : Nat) : Int), .num ((r % m : Nat) : Int)]
/-- where the steps of a pair lead -/
structure InP (K : PySem.W.Frag) (H : Hp) (m : Nat) (a : Addr) (f : Int → Option Nat) : Prop where
  ex : ∃ acc : List (Int × V), H a = some (.dK (ents acc)) ∧ (acc.map (·.1)).Nodup ∧ (∀ s, s ∈ acc.map (·.1) ↔ (f s).isSome = true) ∧ ∀ y ∈ acc, ∃ g t, f y.1 = some g ∧ y.2 = .ref t ∧ IT K H t (pr m g)
theorem InP.mono {K : PySem.W.Frag} {H H1 : Hp} {m : Nat} {a : Addr} {f : Int → Option Nat} (h : InP K H m a f) (e : TupsE H H1) (ha : H1 a = H a) : InP K H1 m a f := by
  obtain ⟨acc, h1, h2, h3, h4⟩ := h.ex
  refine ⟨acc, ha.trans h1, h2, h3, fun y hy => ?_⟩
  obtain ⟨g, t, q1, q2, q3⟩ := h4 y hy
  exact ⟨g, t, q1, q2, sqt_ex q3 e⟩
end L2
namespace Fo
open L2 Wb
variable {L n : Nat} {d : Gm}
theorem go_cut (x : Nat) (w : List Int) {r g : Nat} {s : Int} {z : Nat} (h : go (cut d r g s) x w = some z) : go d x w = some z := by
  induction w generalizing x with
  | nil => exact h
  | cons t w ih =>
    cases c : cut d r g s x t with
    | none => rw [go_stop c] at h; cases h
    | some y =>
      rw [go_cons c] at h
      rw [go_cons (cut_sub c).2]
      exact ih y h
theorem cut_go (G : Gr L n d) {r g : Nat} {s : Int} (h : d r s = some g) (only : ∀ t, t ≠ s → d r t = none) (r0 : r ≠ 0) : ∀ (w : List Int) (x : Nat), x ≠ r → Fg.Str w → go d x w = some 0 → go (cut d r g s) x w = some 0
  | [], x, _, _, k => k
  | t :: w, x, hx, st, k => by
    cases c : d x t with
    | none => rw [go_stop c] at k; cases k
    | some y =>
      rw [go_cons c] at k
      by_cases e : x = g ∧ t = -s
      · exfalso
        have b := G.sym _ _ _ h
        rw [← e.1, ← e.2, c] at b
        have yr : y = r := Option.some.inj b
        subst yr
        cases w with
        | nil => cases k; exact r0 rfl
        | cons u w =>
          cases c2 : d y u with
          | none => rw [go_stop c2] at k; cases k
          | some v =>
            by_cases eu : u = s
            · have := st
              subst eu
              exact st 0 t rfl (by rw [e.2, Int.neg_neg]; rfl)
            · rw [only u eu] at c2
              cases c2
      · have yr : y ≠ r := fun z => by
          subst z
          have b := G.sym _ _ _ c
          by_cases et : -t = s
          · rw [et, h] at b
            exact e ⟨(Option.some.inj b).symm, by omega⟩
          · rw [only _ et] at b
            cases b
        have cc : cut d r g s x t = some y := by
          unfold cut
          rw [if_neg (fun z => z.elim (fun z => hx z.1) e)]
          exact c
        rw [go_cons cc]
        exact cut_go G h only r0 w y yr (Fg.str_drop 1 st) k
theorem cut_bl (G : Gr L n d) {r g : Nat} {s : Int} (h : d r s = some g) (only : ∀ t, t ≠ s → d r t = none) (r0 : r ≠ 0) (w : List Int) : Bl (cut d r g s) w ↔ Bl d w :=
  ⟨fun k => go_cut _ _ k, fun k => cut_go G h only r0 _ 0 (fun z => r0 z.symm) (Fg.str_rd w) k⟩
end Fo
namespace Pd
open Wb Od
structure Tm (L n : Nat) (d0 e : Gm) (ks ws : List Nat) : Prop where
  gr : Gr L n e
  bl : ∀ w, Fo.Bl e w ↔ Fo.Bl d0 w
  nd : ks.Nodup
  home : 0 ∈ ks
  cl : ∀ r ∈ ks, ∀ s g, e r s = some g → g ∈ ks
  low : ∀ r ∈ ws, r ∈ ks → deg L e r < 2
  all : ∀ r ∈ ks, r ≠ 0 → deg L e r < 2 → r ∈ ws
  out : ∀ r, r ∉ ks → ∀ s, e r s = Option.none
variable {L n : Nat} {d0 e : Gm} {ks ws : List Nat} {x : Nat}
theorem mem_del {r : Nat} : r ∈ ks.filter (fun y => decide (y ≠ x)) ↔ r ∈ ks ∧ r ≠ x := by rw [List.mem_filter, decide_eq_true_eq]
theorem Tm.none (h : Tm L n d0 e ks (ws ++ [x])) (x0 : x ≠ 0) (hx : x ∈ ks) (hd : deg L e x = 0) : Tm L n d0 e (ks.filter fun y => decide (y ≠ x)) ws := by
  have hn : ∀ r s, e r s ≠ some x := fun r s z => by
    have := h.gr.sym _ _ _ z
    rw [deg_zero h.gr hd] at this
    cases this
  refine ⟨h.gr, h.bl, h.nd.filter _, mem_del.mpr ⟨h.home, x0.symm⟩, fun r hr s g hg => ?_, fun r hr hk => h.low r (List.mem_append_left _ hr) (mem_del.mp hk).1, fun r hr r0 hd => ?_, fun r hr s => ?_⟩
  · exact mem_del.mpr ⟨h.cl r (mem_del.mp hr).1 s g hg, fun z => hn r s (by rw [hg, z])⟩
  · rcases List.mem_append.mp (h.all r (mem_del.mp hr).1 r0 hd) with k | k
    · exact k
    · exact absurd (List.mem_singleton.mp k) (mem_del.mp hr).2
  · by_cases c : r = x
    · rw [c]; exact deg_zero h.gr hd s
    · exact h.out r (fun z => hr (mem_del.mpr ⟨z, c⟩)) s
theorem cut_other {d : Gm} {r g y : Nat} {s t : Int} (h1 : y ≠ r) (h2 : y ≠ g) : cut d r g s y t = d y t := if_neg (fun z => by rcases z with ⟨z, _⟩ | ⟨z, _⟩ <;> contradiction)
theorem Tm.one (h : Tm L n d0 e ks (ws ++ [x])) (x0 : x ≠ 0) (hx : x ∈ ks) {s : Int} {g : Nat} (hs : e x s = some g) (only : ∀ t, t ≠ s → e x t = Option.none) (hd : deg L e x = 1) {ws' : List Nat}
    (hw : ∀ r, r ∈ ws' ↔ r ∈ ws ∨ (r = g ∧ deg L (cut e x g s) g < 2)) : g ≠ x ∧ Tm L n d0 (cut e x g s) (ks.filter fun y => decide (y ≠ x)) ws' := by
  refine Qt.drp ?_ ?_
  · have G2 := cut_gr (r := x) h.gr hs
    have dz := cut_zero h.gr hs hd
    have hgx : g ≠ x := fun z => by
      rw [z] at hs
      have h2 := h.gr.sym _ _ _ hs
      have hss := (mem_steps.mp (h.gr.dom _ _ _ hs).2.2)
      have := only (-s) (by omega)
      rw [h2] at this
      cases this
    have hn : ∀ r t, cut e x g s r t ≠ some x := fun r t z => by
      have := G2.sym _ _ _ z
      rw [deg_zero G2 dz] at this
      cases this
    refine ⟨hgx, G2, fun w => (Fo.cut_bl h.gr hs only x0 w).trans (h.bl w), h.nd.filter _, mem_del.mpr ⟨h.home, x0.symm⟩, fun r hr t q hq => ?_, fun r hr hk => ?_, fun r hr r0 hd2 => ?_, fun r hr t => ?_⟩
    · exact mem_del.mpr ⟨h.cl r (mem_del.mp hr).1 t q (cut_sub hq).2, fun z => hn r t (by rw [hq, z])⟩
    · rcases (hw r).mp hr with k | ⟨k, hl⟩
      · have := h.low r (List.mem_append_left _ k) (mem_del.mp hk).1
        have := cut_deg (L := L) (d := e) (r := x) (g := g) (s := s) r
        omega
      · rw [k]; exact hl
    · have hrk := mem_del.mp hr
      by_cases c : r = g
      · exact (hw r).mpr (.inr ⟨c, by rw [c] at hd2; exact hd2⟩)
      · have ed : deg L (cut e x g s) r = deg L e r := by
          unfold deg
          congr 1
          exact List.filter_congr fun t _ => by rw [cut_other hrk.2 c]
        rw [ed] at hd2
        rcases List.mem_append.mp (h.all r hrk.1 r0 hd2) with k | k
        · exact (hw r).mpr (.inl k)
        · exact absurd (List.mem_singleton.mp k) hrk.2
    · by_cases c : r = x
      · rw [c]; exact deg_zero G2 dz t
      · cases k : cut e x g s r t with
        | none => rfl
        | some q =>
          have := (cut_sub k).2
          rw [h.out r (fun z => hr (mem_del.mpr ⟨z, c⟩)) t] at this
          cases this
  walk_at "end"
theorem Tm.len (h : Tm L n d0 e ks ws) : 1 ≤ ks.length := List.length_pos_of_mem h.home
end Pd
namespace L2
open PySem PySem.Spec PyProof.Rows Evl
theorem InP.drop {K : PySem.W.Frag} {H H1 : Hp} {m : Nat} {a : Addr} {f f' : Int → Option Nat} {s : Int} {acc : List (Int × V)} (h1 : H1 a = some (.dK (ents (acc.filter fun y => decide (y.1 ≠ s))))) (h2 : (acc.map (·.1)).Nodup) (h3 : ∀ s, s ∈ acc.map (·.1) ↔ (f s).isSome = true)
    (h4 : ∀ y ∈ acc, ∃ g t, f y.1 = some g ∧ y.2 = .ref t ∧ IT K H t (pr m g)) (e : TupsE H H1) (hf : ∀ t, f' t = if t = s then none else f t) : InP K H1 m a f' := by
  have em : (acc.filter fun y => decide (y.1 ≠ s)).map (·.1) = (acc.map (·.1)).filter fun t => decide (t ≠ s) := by rw [List.filter_map]; rfl
  refine ⟨_, h1, by rw [em]; exact h2.filter _, fun t => ?_, fun y hy => ?_⟩
  · rw [em, List.mem_filter, h3 t, hf t, decide_eq_true_eq]
    by_cases c : t = s
    · rw [if_pos c]
      exact ⟨fun z => absurd c z.2, fun z => (nomatch z)⟩
    · rw [if_neg c]
      exact ⟨fun z => z.1, fun z => ⟨z, c⟩⟩
  · obtain ⟨hy1, hy2⟩ := List.mem_filter.mp hy
    obtain ⟨g, t, q1, q2, q3⟩ := h4 y hy1
    exact ⟨g, t, by rw [hf, if_neg (of_decide_eq_true hy2)]; exact q1, q2, sqt_ex q3 e⟩
end L2
namespace Wb
/-- a chain is followed: so many rooms are done, but for the one at hand -/
structure Ch (L n h : Nat) (d0 d : Gm) (i : Nat) (x : Nat) : Prop where
  gr : Gr L n d
  bl : ∀ w, go d h (Fg.rd w) = some h ↔ go d0 h (Fg.rd w) = some h
  xn : x < n
  ok : ∀ r, r < i → r ≠ h → r ≠ x → deg L d r ≠ 1
structure Co (L n h : Nat) (d0 d : Gm) (i : Nat) : Prop where
  gr : Gr L n d
  bl : ∀ w, go d h (Fg.rd w) = some h ↔ go d0 h (Fg.rd w) = some h
  ok : ∀ r, r < i → r ≠ h → deg L d r ≠ 1
variable {L n h : Nat} {d0 d : Gm} {i x : Nat}
theorem Co.on (c : Co L n h d0 d i) (hi : i < n) : Ch L n h d0 d (i + 1) i := ⟨c.gr, c.bl, hi, fun r h1 h2 h3 => c.ok r (by omega) h2⟩
theorem Ch.stop (c : Ch L n h d0 d i x) (k : x = h ∨ deg L d x ≠ 1) : Co L n h d0 d i := ⟨c.gr, c.bl, fun r h1 h2 => by
  by_cases e : r = x
  · subst e
    exact k.elim (fun z => absurd z h2) id
  · exact c.ok r h1 h2 e⟩
theorem Co.done (c : Co L n h d0 d n) : NoEndH L n h d := fun r h1 h2 => c.ok r h2 h1
end Wb
namespace Fo
open L2 Wb
/-- rooms with these labels are joined as walks allow -/
def CptW (W : Ways) (R : Nat → Nat → Prop) : Prop := ∀ a s b a' b', (a, s, b) ∈ W → (a', s, b') ∈ W → R a a' → R b b'
/-- heads of rooms, joined no more than must be -/
structure Hd (n : Nat) (W : Ways) (h : List Nat) : Prop where
  ok : HeadsOk n h
  le : ∀ a, a < n → at0 h a ≤ a
  sd : ∀ R : Nat → Nat → Prop, Equivalence R → CptW W R → ∀ a, a < n → R a (at0 h a)
end Fo
namespace Fo
open L2 Wb
def Fac (n : Nat) (h h' : List Nat) : Prop := ∀ a a', a < n → a' < n → at0 h a = at0 h a' → at0 h' a = at0 h' a'
theorem Fac.refl {n : Nat} {h : List Nat} : Fac n h h := fun _ _ _ _ e => e
/-- both directions of ways -/
def tw (W : List W3) : Ways := W.flatMap fun x => [(x.1, (x.2.1 : Int) + 1, x.2.2), (x.2.2, -((x.2.1 : Int) + 1), x.1)]
end Fo
namespace Fo
open L2 Wb
theorem bl_conj {L n : Nat} {d : Gm} (G : Gr L n d) {w : List Int} {x : Nat} (h : go d 0 w = some x) (u : List Int) : go d x (Fg.rd u) = some x ↔ Bl d (w ++ u ++ Fg.bk w) := by
  refine Qt.drp ?_ ?_
  · constructor
    · intro k
      have a : go d 0 (w ++ Fg.rd u ++ Fg.bk w) = some 0 := by
        rw [go_app, go_app, h]
        show ((go d x (Fg.rd u)).bind fun g => go d g (Fg.bk w)) = some 0
        rw [k]
        exact go_bk G h
      exact (Bl.of G a).eqv (((Fg.Eqv.refl w).app (eqv_rdl u)).app (Fg.Eqv.refl _))
    · intro k
      have k : go d 0 (Fg.rd (w ++ u ++ Fg.bk w)) = some 0 := k
      have a : go d x (Fg.bk w ++ Fg.rd (w ++ u ++ Fg.bk w) ++ w) = some x := by
        rw [go_app, go_app, go_bk G h]
        show ((go d 0 (Fg.rd (w ++ u ++ Fg.bk w))).bind fun g => go d g w) = some x
        rw [k]
        exact h
      have b := go_rd G _ a
      have e : Fg.Eqv (Fg.bk w ++ Fg.rd (w ++ u ++ Fg.bk w) ++ w) u := by
        refine (((Fg.Eqv.refl (Fg.bk w)).app (eqv_rdl (w ++ u ++ Fg.bk w))).app (Fg.Eqv.refl w)).trans ?_
        have z : Fg.bk w ++ (w ++ u ++ Fg.bk w) ++ w = (Fg.bk w ++ w) ++ u ++ (Fg.bk w ++ w) := by simp only [List.append_assoc]
        rw [z]
        have y := ((Fg.eqv_kb w).app (Fg.Eqv.refl u)).app (Fg.eqv_kb w)
        rw [List.nil_append, List.append_nil] at y
        exact y
      rw [Fg.rd_eq e] at b
      exact b
  walk_at "end"
def hang (d : Gm) (x : Nat) (s : Int) (m : Nat) : Gm := fun y t => if y = m ∧ t = -s then some x else if y = x ∧ t = s then some m else d y t
structure Tn (L n m : Nat) (d d' : Gm) (w : List Int) (x : Nat) : Prop where
  gr : Gr L m d'
  lo : n ≤ m
  hi : m ≤ n + w.length
  bl : ∀ u, Bl d' u ↔ Bl d u
  at' : go d' 0 w = some x
  xn : x < m
  same : ∀ r, go d 0 w = some r → m = n ∧ d' = d ∧ x = r
variable {L n m x : Nat} {d d' : Gm} {w : List Int}
theorem Tn.new (T : Tn L n m d d' w x) (hn : 0 < n) {s : Int} (h : d' x s = none) (hs : s ∈ Od.steps L) : Tn L n (m + 1) d (hang d' x s m) (w ++ [s]) m := by
  refine Qt.drp ?_ ?_
  · have xm := T.xn
    have no : ∀ t, d' m t = none := fun t => by
      cases e : d' m t with
      | none => rfl
      | some g => have := (T.gr.dom _ _ _ e).1; omega
    have nog : ∀ y t, d' y t ≠ some m := fun y t e => by have := (T.gr.dom _ _ _ e).2.1; omega
    have hs2 := Od.mem_steps.mp hs
    have G : Gr L (m + 1) (hang d' x s m) := by
      refine ⟨fun y t g e => ?_, fun y t g e => ?_⟩
      · unfold hang at e
        by_cases c : y = m ∧ t = -s
        · rw [if_pos c] at e
          cases e
          exact ⟨by omega, by omega, Od.mem_steps.mpr (by omega)⟩
        · rw [if_neg c] at e
          by_cases c2 : y = x ∧ t = s
          · rw [if_pos c2] at e
            cases e
            exact ⟨by omega, by omega, by rw [c2.2]; exact hs⟩
          · rw [if_neg c2] at e
            obtain ⟨h1, h2, h3⟩ := T.gr.dom _ _ _ e
            exact ⟨by omega, by omega, h3⟩
      · unfold hang at e ⊢
        by_cases c : y = m ∧ t = -s
        · rw [if_pos c] at e
          cases e
          rw [if_neg (fun z => by omega), if_pos ⟨rfl, by omega⟩, c.1]
        · rw [if_neg c] at e
          by_cases c2 : y = x ∧ t = s
          · rw [if_pos c2] at e
            cases e
            rw [if_pos ⟨rfl, by rw [c2.2]⟩, c2.1]
          · rw [if_neg c2] at e
            have k := T.gr.sym _ _ _ e
            have hg := (T.gr.dom _ _ _ e).2.1
            rw [if_neg (fun z => by omega), if_neg (fun z => ?_)]
            · exact k
            · rw [z.1, z.2, h] at k
              cases k
    have hm : hang d' x s m m (-s) = some x := if_pos ⟨rfl, rfl⟩
    have only : ∀ t, t ≠ -s → hang d' x s m m t = none := fun t ht => by
      unfold hang
      rw [if_neg (fun z => ht z.2), if_neg (fun z => by omega)]
      exact no t
    have ce : cut (hang d' x s m) m x (-s) = d' := by
      funext y t
      unfold cut
      by_cases c : (y = m ∧ t = -s) ∨ (y = x ∧ t = -(-s))
      · rw [if_pos c]
        rcases c with ⟨rfl, rfl⟩ | ⟨rfl, rfl⟩
        · exact (no _).symm
        · rw [Int.neg_neg]; exact h.symm
      · rw [if_neg c]
        unfold hang
        rw [if_neg (fun z => c (.inl z)), if_neg (fun z => c (.inr ⟨z.1, by rw [Int.neg_neg]; exact z.2⟩))]
    have sub : ∀ y t g, d' y t = some g → hang d' x s m y t = some g := fun y t g e => by
      unfold hang
      rw [if_neg (fun z => by rw [z.1, no] at e; cases e), if_neg (fun z => by rw [z.1, z.2, h] at e; cases e)]
      exact e
    have gs : ∀ (u : List Int) (y g : Nat), go d' y u = some g → go (hang d' x s m) y u = some g := fun u => by
      induction u with
      | nil => exact fun y g e => e
      | cons t u ih =>
        intro y g e
        cases c : d' y t with
        | none => rw [go_stop c] at e; cases e
        | some z =>
          rw [go_cons c] at e
          rw [go_cons (sub _ _ _ c)]
          exact ih z g e
    refine ⟨G, by have := T.lo; omega, by have := T.hi; rw [List.length_append, List.length_singleton]; omega, fun u => ?_, ?_, by omega, fun r k => ?_⟩
    · have := cut_bl G hm only (by have := T.lo; omega) u
      rw [ce] at this
      exact this.symm.trans (T.bl u)
    · rw [go_snoc, gs _ _ _ T.at']
      show hang d' x s m x s = some m
      unfold hang
      rw [if_neg (fun z => by omega), if_pos ⟨rfl, rfl⟩]
    · rw [go_snoc] at k
      cases e : go d 0 w with
      | none => rw [e] at k; cases k
      | some r' =>
        obtain ⟨h1, h2, h3⟩ := T.same _ e
        rw [e] at k
        have k : d r' s = some r := k
        rw [h2, h3, k] at h
        cases h
  walk_at "end"
end Fo
namespace L2
open PySem PySem.Spec PyProof.Rows Evl
end L2
namespace Fg
/-- no power of a shorter one -/
structure Prim (c : Wk) : Prop where
  ne : c ≠ []
  one : ∀ e i, c = rep i e → i = 1
theorem prim_bk {c : Wk} (h : Prim c) : Prim (bk c) := ⟨fun z => h.ne (by have := congrArg bk z; rwa [bk_bk] at this), fun e i he => h.one (bk e) i (by rw [← bk_rep, ← he, bk_bk])⟩
theorem cyc_bk {c : Wk} (h : Cyc c) : Cyc (bk c) := ⟨str_bk h.str, fun x y hx hy => by
  rw [last_bk] at hx
  rw [head_bk] at hy
  cases e1 : c.head? with
  | none => rw [e1] at hx; cases hx
  | some p =>
    cases e2 : c.getLast? with
    | none => rw [e2] at hy; cases hy
    | some q =>
      rw [e1] at hx
      rw [e2] at hy
      have hx : -p = x := Option.some.inj hx
      have hy : -q = y := Option.some.inj hy
      have := h.ends q p e2 e1
      omega⟩
/-- a lead, a core so many times -/
structure Nf (v a c : Wk) (t : Nat) : Prop where
  eq : v = a ++ rep t c ++ bk a
  prim : Prim c
  cyc : Cyc c
  pos : 1 ≤ t
  str : Str (a ++ c ++ bk a)
theorem nf_str {a c : Wk} (p : c ≠ []) (cy : Cyc c) (h : Str (a ++ c ++ bk a)) {t : Nat} (ht : 1 ≤ t) : Str (a ++ rep t c ++ bk a) := by
  have s1 := str_l h
  refine str_app (str_app (str_l s1) (str_rep cy p t) fun x y hx hy => ?_) (str_bk (str_l s1)) fun x y hx hy => ?_
  · rw [rep_head p ht] at hy
    exact str_meet s1 x y hx hy
  · rw [last_app (rep_ne p ht), rep_last p ht, ← last_app (x := a) p] at hx
    exact str_meet h x y hx hy
theorem Nf.st {v a c : Wk} {t : Nat} (N : Nf v a c t) : Str v := N.eq ▸ nf_str N.prim.ne N.cyc N.str N.pos
theorem Nf.ne {v a c : Wk} {t : Nat} (N : Nf v a c t) : v ≠ [] := fun z => by
  have e := N.eq
  rw [z] at e
  have e := e.symm
  exact rep_ne N.prim.ne N.pos (List.append_eq_nil_iff.mp (List.append_eq_nil_iff.mp e).1).2
theorem Nf.many {v a c : Wk} {t k : Nat} (N : Nf v a c t) (hk : 1 ≤ k) : Nf (a ++ rep k c ++ bk a) a c k := ⟨rfl, N.prim, N.cyc, hk, N.str⟩
theorem Nf.back {v a c : Wk} {t : Nat} (N : Nf v a c t) : Nf (bk v) a (bk c) t := by
  refine ⟨?_, prim_bk N.prim, cyc_bk N.cyc, N.pos, ?_⟩
  · rw [N.eq, bk_app, bk_app, bk_bk, bk_rep, List.append_assoc]
  · have := str_bk N.str
    rw [bk_app, bk_app, bk_bk] at this
    rwa [List.append_assoc]
theorem rep_conj (o w : Wk) : ∀ n, Eqv (rep n (bk o ++ w ++ o)) (bk o ++ rep n w ++ o)
  | 0 => by
    show Eqv [] (bk o ++ [] ++ o)
    rw [List.append_nil]
    exact (eqv_kb o).symm
  | n + 1 => by
    show Eqv (rep n (bk o ++ w ++ o) ++ (bk o ++ w ++ o)) (bk o ++ (rep n w ++ w) ++ o)
    refine ((rep_conj o w n).app (Eqv.refl _)).trans ((Eqv.of_eq ?_).trans ((del1 (bk o ++ rep n w) o (w ++ o)).trans (Eqv.of_eq ?_)))
    · simp
    · simp
theorem rep_lead (a c : Wk) (n : Nat) : Eqv (rep n (a ++ c ++ bk a)) (a ++ rep n c ++ bk a) := by
  have := rep_conj (bk a) c n
  rwa [bk_bk] at this
theorem Nf.pow {v a c : Wk} {t : Nat} (N : Nf v a c t) (k : Nat) : Eqv (rep k v) (a ++ rep (t * k) c ++ bk a) := by
  rw [N.eq]
  refine (rep_lead a (rep t c) k).trans (Eqv.of_eq ?_)
  rw [rep_mul]
/-- a walk so many times, turned back for a negative number -/
def Z (w : Wk) (k : Int) : Wk := rep k.natAbs (if 0 ≤ k then w else bk w)
theorem z_nat (w : Wk) (n : Nat) : Z w (n : Int) = rep n w := by
  unfold Z
  rw [if_pos (Int.natCast_nonneg n), Int.natAbs_natCast]
theorem z_neg (w : Wk) (n : Nat) : Z w (-(n : Int)) = rep n (bk w) := by
  unfold Z
  rcases Nat.eq_zero_or_pos n with z | z
  · rw [z]
    rfl
  · rw [if_neg (by omega), Int.natAbs_neg, Int.natAbs_natCast]
theorem int_two (k : Int) : (∃ n : Nat, k = (n : Int)) ∨ ∃ n : Nat, k = -((n + 1 : Nat) : Int) := by
  by_cases h : k < 0
  · exact .inr ⟨(-k - 1).toNat, by omega⟩
  · exact .inl ⟨k.toNat, by omega⟩
theorem Nf.z {v a c : Wk} {t : Nat} (N : Nf v a c t) {k : Int} (hk : k ≠ 0) : ∃ d, Nf (rd (Z v k)) a d (t * k.natAbs) ∧ a ++ d ++ bk a = (if k < 0 then bk (a ++ c ++ bk a) else a ++ c ++ bk a) := by
  have key : ∀ {v c : Wk}, Nf v a c t → ∀ n : Nat, 1 ≤ n → Nf (rd (rep n v)) a c (t * n) := fun {v c} N n hn => by
    have tn1 : 1 ≤ t * n := Nat.mul_pos N.pos hn
    have M := N.many tn1
    have : rd (rep n v) = a ++ rep (t * n) c ++ bk a := by rw [rd_eq (N.pow n), rd_str M.st]
    rw [this]
    exact M
  rcases int_two k with ⟨n, rfl⟩ | ⟨n, rfl⟩
  · refine ⟨c, ?_, by rw [if_neg (by omega)]⟩
    rw [z_nat, Int.natAbs_natCast]
    exact key N n (by omega)
  · refine ⟨bk c, ?_, ?_⟩
    · rw [z_neg, Int.natAbs_neg, Int.natAbs_natCast]
      exact key N.back (n + 1) (by omega)
    · rw [if_pos (by omega), bk_app, bk_app, bk_bk, List.append_assoc]
end Fg
namespace Hm
open Od Wb
variable {L n : Nat} {d : Gm}
theorem part_len {α : Type} (p : α → Bool) : ∀ l : List α, (l.filter p).length + (l.filter fun x => !p x).length = l.length
  | [] => rfl
  | a :: l => by
    have ih := part_len p l
    by_cases h : p a = true
    · rw [List.filter_cons_of_pos h, List.filter_cons_of_neg (by simp [h]), List.length_cons, List.length_cons]
      omega
    · rw [List.filter_cons_of_neg h, List.filter_cons_of_pos (by simp [h]), List.length_cons, List.length_cons]
      omega
/-- a member that isn't long -/
theorem some_mem (W : Web L n d) (h : (ways3 L n d).length + 1 ≠ n) : ∃ w, Od.G L none w ∧ go d 0 w = some 0 ∧ w ≠ [] ∧ w.length + 1 ≤ 2 * n := by
  refine Qt.drp ?_ ?_
  · have h1 := part_len (isT L n d) (ways3 L n d)
    have h2 : ((ways3 L n d).filter (isT L n d)).length = n - 1 := treeT_len W
    have hn := W.pos
    obtain ⟨x, hx⟩ : ∃ x, x ∈ restT L n d := by
      cases e : restT L n d with
      | nil =>
        have e' : (ways3 L n d).filter (fun x => !isT L n d x) = [] := e
        rw [e', h2, List.length_nil] at h1
        omega
      | cons x r => exact ⟨x, List.mem_cons_self⟩
    have hxw := (List.mem_filter.mp hx).1
    obtain ⟨b1, b2, b3⟩ := ways_bd W.gr hxw
    have hw := (mem_ways W.gr).mp hxw
    obtain ⟨f1, f2, f3⟩ := fw_go W _ b1
    obtain ⟨g1, g2, g3⟩ := fw_go W _ b3
    have hst := (W.gr.dom _ _ _ hw).2.2
    have hgo : go d 0 (word L n d x) = some 0 := by
      unfold word
      rw [go_app, go_app, f1]
      show (go d x.1 [(x.2.1 : Int) + 1]).bind _ = _
      rw [go_cons hw]
      show go d x.2.2 _ = _
      exact go_bk W.gr g1
    refine ⟨word L n d x, G_of (fun y hy => ?_) (word_str W hx), hgo, ?_, ?_⟩
    · unfold word at hy
      rcases List.mem_append.mp hy with h | h
      · rcases List.mem_append.mp h with h | h
        · exact (of_G f2).1 y h
        · rw [List.mem_singleton.mp h]
          exact mem_steps.mp hst
      · unfold Fg.bk at h
        obtain ⟨z, hz, rfl⟩ := List.mem_map.mp (List.mem_reverse.mp h)
        have := (of_G g2).1 z hz
        omega
    · unfold word
      simp
    · unfold word
      rw [List.length_append, List.length_append, Fg.bk_len]
      simp
      omega
  walk_at "end"
theorem go_rep {r : Nat} {c : List Int} (h : go d r c = some r) : ∀ k, go d r (Fg.rep k c) = some r
  | 0 => rfl
  | k + 1 => by
    rw [show Fg.rep (k + 1) c = Fg.rep k c ++ c from rfl, go_app, go_rep h k]
    exact h
theorem rep_len (c : List Int) : ∀ k, (Fg.rep k c).length = k * c.length
  | 0 => by rw [Nat.zero_mul]; rfl
  | k + 1 => by
    rw [show Fg.rep (k + 1) c = Fg.rep k c ++ c from rfl, List.length_append, rep_len c k, Nat.succ_mul]
/-- members of about any length -/
theorem more (W : Web L n d) (h : (ways3 L n d).length + 1 ≠ n) (l : Nat) : ∃ w, Od.G L none w ∧ go d 0 w = some 0 ∧ l < w.length ∧ w.length ≤ l + 2 * n := by
  refine Qt.drp ?_ ?_
  · obtain ⟨u, gu, hu, nu, lu⟩ := some_mem W h
    obtain ⟨su, xu⟩ := of_G gu
    have nz : ∀ x ∈ u, x ≠ 0 := fun x hx => (su x hx).1
    obtain ⟨e, nm, cm⟩ := Fg.core_parts xu nu nz
    generalize Fg.lead u = a at e cm
    generalize Fg.mid u = c at e nm cm
    have clen : 0 < c.length := List.length_pos_iff.mpr nm
    have elen := congrArg List.length e
    rw [List.length_append, List.length_append, Fg.bk_len] at elen
    rw [e, go_app, go_app] at hu
    obtain ⟨r, hr⟩ : ∃ r, go d 0 a = some r := by
      cases z : go d 0 a with
      | none => rw [z] at hu; cases hu
      | some r => exact ⟨r, rfl⟩
    rw [hr] at hu
    have hbk := go_bk W.gr hr
    have hc : go d r c = some r := by
      have hu : (go d r c).bind (fun g => go d g (Fg.bk a)) = some 0 := hu
      cases z : go d r c with
      | none => rw [z] at hu; cases hu
      | some r' =>
        rw [z] at hu
        have hu : go d r' (Fg.bk a) = some 0 := hu
        have := go_bk W.gr hu
        rw [Fg.bk_bk, hr] at this
        rw [Option.some.inj this]
    -- how often round
    have key : ∀ k, 1 ≤ k → Od.G L none (a ++ Fg.rep k c ++ Fg.bk a) ∧ go d 0 (a ++ Fg.rep k c ++ Fg.bk a) = some 0 ∧ (a ++ Fg.rep k c ++ Fg.bk a).length = 2 * a.length + k * c.length := fun k hk => by
      refine ⟨G_of (fun y hy => ?_) (Fg.nf_str nm cm (e ▸ xu) hk), ?_, ?_⟩
      · have sa : ∀ y ∈ a, y ≠ 0 ∧ -(L : Int) ≤ y ∧ y ≤ L := fun y hy => su y (by rw [e]; exact List.mem_append_left _ (List.mem_append_left _ hy))
        have sc : ∀ y ∈ c, y ≠ 0 ∧ -(L : Int) ≤ y ∧ y ≤ L := fun y hy => su y (by rw [e]; exact List.mem_append_left _ (List.mem_append_right _ hy))
        have sr : ∀ k, ∀ y ∈ Fg.rep k c, y ≠ 0 ∧ -(L : Int) ≤ y ∧ y ≤ L := fun k => by
          induction k with
          | zero => exact fun y hy => by cases hy
          | succ k ih =>
            intro y hy
            rcases List.mem_append.mp (show y ∈ Fg.rep k c ++ c from hy) with h | h
            · exact ih y h
            · exact sc y h
        rcases List.mem_append.mp hy with h | h
        · rcases List.mem_append.mp h with h | h
          · exact sa y h
          · exact sr k y h
        · unfold Fg.bk at h
          obtain ⟨z, hz, rfl⟩ := List.mem_map.mp (List.mem_reverse.mp h)
          have := sa z hz
          omega
      · rw [go_app, go_app, hr]
        show ((go d r (Fg.rep k c)).bind fun g => go d g (Fg.bk a)) = some 0
        rw [go_rep hc k]
        exact hbk
      · rw [List.length_append, List.length_append, Fg.bk_len, rep_len]
        omega
    by_cases hl : l < 2 * a.length + c.length
    · obtain ⟨k1, k2, k3⟩ := key 1 (Nat.le_refl _)
      exact ⟨_, k1, k2, by rw [k3]; omega, by rw [k3]; omega⟩
    · obtain ⟨m, hm⟩ : ∃ m, l = 2 * a.length + m := ⟨l - 2 * a.length, by omega⟩
      have h1 := Nat.div_add_mod m c.length
      have h2 := Nat.mod_lt m clen
      obtain ⟨k1, k2, k3⟩ := key (m / c.length + 1) (Nat.succ_pos _)
      have h4 : (m / c.length + 1) * c.length = c.length * (m / c.length) + c.length := by rw [Nat.succ_mul, Nat.mul_comm]
      exact ⟨_, k1, k2, by rw [k3, h4]; omega, by rw [k3, h4]; omega⟩
  walk_at "end"
end Hm
namespace Fo
open L2 Wb
variable {L n : Nat} {d : Gm} {ws : List (List Int)}
/-- the way under a step -/
def wy (r : Nat) (s : Int) (g : Nat) : W3 := if 0 < s then (r, (s - 1).toNat, g) else (g, (-s - 1).toNat, r)
/-- whether a way is gone through an odd number of times -/
def pr (d : Gm) (x : W3) : Nat → List Int → Bool
  | _, [] => false
  | r, s :: w => match d r s with
    | none => false
    | some g => xor (decide (wy r s g = x)) (pr d x g w)
/-- of what belongs -/
def ch (d : Gm) (x : W3) (u : List Int) : Bool := pr d x 0 (Fg.rd u)
end Fo
namespace Rn
open Fg
/-- every step has another name -/
structure Re (L : Nat) (φ ψ : Int → Int) : Prop where
  n1 : ∀ s, φ (-s) = -φ s
  n2 : ∀ s, ψ (-s) = -ψ s
  s1 : ∀ s ∈ Od.steps L, φ s ∈ Od.steps L
  s2 : ∀ s ∈ Od.steps L, ψ s ∈ Od.steps L
  i1 : ∀ s ∈ Od.steps L, ψ (φ s) = s
  i2 : ∀ s ∈ Od.steps L, φ (ψ s) = s
theorem Re.symm {L : Nat} {φ ψ : Int → Int} (R : Re L φ ψ) : Re L ψ φ := ⟨R.n2, R.n1, R.s2, R.s1, R.i2, R.i1⟩
def St (L : Nat) (u : Wk) : Prop := ∀ x ∈ u, x ∈ Od.steps L
section
variable {L : Nat} {φ ψ : Int → Int}
theorem St.map {u : Wk} (R : Re L φ ψ) (h : St L u) : St L (u.map φ) := fun x hx => by
  obtain ⟨y, hy, rfl⟩ := List.mem_map.mp hx
  exact R.s1 y (h y hy)
theorem St.app {u v : Wk} (h : St L u) (k : St L v) : St L (u ++ v) := fun x hx => (List.mem_append.mp hx).elim (h x) (k x)
theorem St.r {u v : Wk} (h : St L (u ++ v)) : St L v := fun x hx => h x (List.mem_append_right _ hx)
theorem St.rd {u : Wk} (h : St L u) : St L (rd u) := fun x hx => h x (mem_rd hx)
theorem St.neg {s : Int} (h : s ∈ Od.steps L) : -s ∈ Od.steps L := Od.mem_steps.mpr (by have := Od.mem_steps.mp h; omega)
theorem St.bk {u : Wk} (h : St L u) : St L (bk u) := fun x hx => by
  unfold Fg.bk at hx
  obtain ⟨y, hy, rfl⟩ := List.mem_map.mp (List.mem_reverse.mp hx)
  exact St.neg (h y hy)
theorem inv {u : Wk} (R : Re L φ ψ) (h : St L u) : (u.map φ).map ψ = u := by
  rw [List.map_map]
  conv => rhs; rw [← List.map_id u]
  exact List.map_congr_left fun x hx => R.i1 x (h x hx)
theorem inj {s t : Int} (R : Re L φ ψ) (hs : s ∈ Od.steps L) (ht : t ∈ Od.steps L) (e : φ s = φ t) : s = t := by rw [← R.i1 s hs, e, R.i1 t ht]
theorem rep_st {u : Wk} (h : St L u) : ∀ k, St L (rep k u)
  | 0 => fun x hx => nomatch hx
  | k + 1 => (rep_st h k).app h
end
end Rn
namespace Fo
open L2 Wb Rn
variable {L n m : Nat} {d e : Gm} {φ ψ : Int → Int} {ws : List (List Int)}
theorem go_st (G : Gr L n d) : ∀ {w : List Int} {r g : Nat}, go d r w = some g → St L w
  | [], _, _, _ => fun x h => nomatch h
  | s :: w, r, g, h => by
    cases hd : d r s with
    | none => rw [go_stop hd] at h; cases h
    | some y =>
      rw [go_cons hd] at h
      intro x hx
      rcases List.mem_cons.mp hx with e | hx
      · subst e
        exact (G.dom _ _ _ hd).2.2
      · exact go_st G h x hx
/-- the rooms of the one are those of the other, by other names -/
structure Iso (L n : Nat) (d : Gm) (m : Nat) (e : Gm) (φ ψ : Int → Int) (θ η : Nat → Nat) : Prop where
  h0 : θ 0 = 0
  to : ∀ r s g, d r s = some g → e (θ r) (φ s) = some (θ g)
  fr : ∀ r s g, e r s = some g → d (η r) (ψ s) = some (η g)
  inv : ∀ r, r < n → η (θ r) = r
  lt : ∀ r, r < n → θ r < m
section
variable {θ η : Nat → Nat}
theorem Iso.le (I : Iso L n d m e φ ψ θ η) : n ≤ m := by
  have := Tl.inj_len (l := List.range n) (m := List.range m) θ List.nodup_range (fun x hx y hy k => by
    rw [← I.inv x (List.mem_range.mp hx), k, I.inv y (List.mem_range.mp hy)]) fun x hx => List.mem_range.mpr (I.lt x (List.mem_range.mp hx))
  rwa [List.length_range, List.length_range] at this
theorem Iso.no (I : Iso L n d m e φ ψ θ η) (R : Re L φ ψ) {r : Nat} {s : Int} (hr : r < n) (hs : s ∈ Od.steps L) (h : d r s = none) : e (θ r) (φ s) = none := by
  cases k : e (θ r) (φ s) with
  | none => rfl
  | some g =>
    have := I.fr _ _ _ k
    rw [I.inv r hr, R.i1 s hs, h] at this
    cases this
theorem Iso.go (I : Iso L n d m e φ ψ θ η) (G : Gr L n d) (R : Re L φ ψ) : ∀ (u : List Int) (r : Nat), r < n → St L u → Wb.go e (θ r) (u.map φ) = (Wb.go d r u).map θ
  | [], r, _, _ => rfl
  | s :: u, r, hr, hu => by
    have hs := hu s List.mem_cons_self
    rw [List.map_cons]
    cases hd : d r s with
    | none => rw [go_stop hd, go_stop (I.no R hr hs hd)]; rfl
    | some y =>
      rw [go_cons hd, go_cons (I.to _ _ _ hd)]
      exact I.go G R u y (G.dom _ _ _ hd).2.1 fun x hx => hu x (List.mem_cons_of_mem _ hx)
end
theorem tn_back (u b : List Int) : Fg.tn (Fg.tn u b) (Fg.bk b) = Fg.rd u := by
  unfold Fg.tn
  rw [Fg.bk_bk, ← Fg.rd_app_l, Fg.rd_app_r, Fg.rd_app_l]
  refine Fg.rd_eq ?_
  have z := ((Fg.eqv_bk b).app (Fg.Eqv.refl u)).app (Fg.eqv_bk b)
  rw [List.append_nil, List.nil_append] at z
  rw [show b ++ (Fg.bk b ++ u ++ b) ++ Fg.bk b = b ++ Fg.bk b ++ u ++ (b ++ Fg.bk b) by simp]
  exact z
end Fo
namespace Pe
open Fg Wb
variable {L n : Nat} {d : Gm}
abbrev Ps := Nat × List Int
/-- where a walk leads from a place -/
def plc (d : Gm) (p : Ps) (w : List Int) : Ps := ((gone d p.1 (rd (p.2 ++ w))).1, (rd (p.2 ++ w)).drop (gone d p.1 (rd (p.2 ++ w))).2)
structure Ok (L n : Nat) (d : Gm) (p : Ps) : Prop where
  lt : p.1 < n
  str : Str p.2
  st : Rn.St L p.2
  out : ∀ s, p.2.head? = some s → d p.1 s = none
theorem gone_out {r : Nat} {o : List Int} (h : ∀ s, o.head? = some s → d r s = none) : gone d r o = (r, 0) := gone_of (u := []) rfl h
/-- what such a place is made of -/
theorem plc_ex (d : Gm) (p : Ps) (w : List Int) : ∃ u v, rd (p.2 ++ w) = u ++ v ∧ go d p.1 u = some (plc d p w).1 ∧ (plc d p w).2 = v ∧ (∀ s, v.head? = some s → d (plc d p w).1 s = none) := by
  obtain ⟨u, v, h1, h2, h3, h4⟩ := gone_ex d (rd (p.2 ++ w)) p.1
  refine ⟨u, v, h1, h2, ?_, h4⟩
  show (rd (p.2 ++ w)).drop _ = v
  rw [h3]
  conv => lhs; rw [h1]
  rw [List.drop_left' rfl]
theorem Ok.plc {p : Ps} (h : Ok L n d p) (G : Gr L n d) {w : List Int} (hw : Rn.St L w) : Ok L n d (plc d p w) := by
  obtain ⟨u, v, h1, h2, h3, h4⟩ := plc_ex d p w
  have hs : Str (u ++ v) := by rw [← h1]; exact str_rd _
  have st : Rn.St L (u ++ v) := by rw [← h1]; exact Rn.St.rd (h.st.app hw)
  refine ⟨go_lt G h.lt h2, ?_, ?_, by rw [h3]; exact h4⟩
  · rw [h3]
    exact str_r hs
  · rw [h3]
    exact st.r
theorem plc_rd (p : Ps) (w : List Int) : plc d p (rd w) = plc d p w := by
  unfold plc
  rw [rd_app_r]
theorem plc_eqv {u v : List Int} (h : Eqv u v) (p : Ps) : plc d p u = plc d p v := by
  rw [← plc_rd p u, ← plc_rd p v, rd_eq h]
theorem plc_nil {p : Ps} (h : Ok L n d p) : plc d p [] = p := by
  unfold plc
  rw [List.append_nil, rd_str h.str, gone_out h.out]
  rfl
/-- one walk behind the other -/
theorem plc_app (G : Gr L n d) (p : Ps) (u v : List Int) : plc d (plc d p u) v = plc d p (u ++ v) := by
  refine Qt.drp ?_ ?_
  · obtain ⟨a, b, h1, h2, h3, h4⟩ := plc_ex d p u
    obtain ⟨c, e, k1, k2, k3, k4⟩ := plc_ex d (plc d p u) v
    rw [h3] at k1
    have hac : go d p.1 (a ++ c) = some (plc d (plc d p u) v).1 := by rw [go_app, h2]; exact k2
    have hz := go_rd G _ hac
    have es : Str (c ++ e) := by rw [← k1]; exact str_rd _
    have hx : rd (p.2 ++ (u ++ v)) = rd (a ++ c) ++ e := by
      have e1 : rd (p.2 ++ (u ++ v)) = rd (rd (a ++ c) ++ e) := by
        rw [← List.append_assoc, ← rd_app_l (p.2 ++ u) v, h1, List.append_assoc, ← rd_app_r a (b ++ v), k1, ← List.append_assoc, ← rd_app_l (a ++ c) e]
      rw [e1]
      refine rd_str (str_app (str_rd _) (str_r es) fun x y hx hy hxy => ?_)
      -- the last step there would be an open door
      rcases List.eq_nil_or_concat (rd (a ++ c)) with z | ⟨q, t, z⟩
      · rw [z] at hx; cases hx
      · rw [List.concat_eq_append] at z
        rw [z, List.getLast?_concat] at hx
        cases hx
        rw [z, go_snoc] at hz
        cases hq : go d p.1 q with
        | none => rw [hq] at hz; cases hz
        | some g =>
          rw [hq] at hz
          have hz : d g x = some (plc d (plc d p u) v).1 := hz
          have b1 := G.sym _ _ _ hz
          have b2 := k4 y hy
          rw [← hxy, b2] at b1
          cases b1
    have hg : gone d p.1 (rd (p.2 ++ (u ++ v))) = ((plc d (plc d p u) v).1, (rd (a ++ c)).length) := by
      rw [hx]
      exact gone_of hz k4
    show plc d (plc d p u) v = ((gone d p.1 (rd (p.2 ++ (u ++ v)))).1, (rd (p.2 ++ (u ++ v))).drop (gone d p.1 (rd (p.2 ++ (u ++ v)))).2)
    rw [hg, hx, List.drop_left' rfl]
    exact Prod.ext rfl k3
  walk_at "end"
theorem plc_bk (G : Gr L n d) {p : Ps} (h : Ok L n d p) (w : List Int) : plc d (plc d p w) (bk w) = p := by
  rw [plc_app G, plc_eqv (eqv_bk w), plc_nil h]
/-- it grows -/
theorem grow {p : Ps} (h : Ok L n d p) {c : List Int} (hc : Cyc c) (hn : c ≠ []) (ne : p.2 ≠ []) (hl : ∀ x y, p.2.getLast? = some x → c.head? = some y → x ≠ -y) : ∀ t, plc d p (rep t c) = (p.1, p.2 ++ rep t c) := fun t => by
  have hs : Str (p.2 ++ rep t c) := str_app h.str (str_rep hc hn t) fun x y hx hy => by
    rcases Nat.eq_zero_or_pos t with z | z
    · subst z; cases hy
    · rw [rep_head hn z] at hy
      exact fun e => hl x y hx hy (by omega)
  unfold plc
  rw [rd_str hs, gone_out (fun s hs => by
    cases k : p.2 with
    | nil => exact absurd k ne
    | cons y q =>
      rw [k] at hs
      exact h.out s (by rw [k]; exact hs))]
  rfl
/-- of what stands outside either the way on or the way back makes it longer -/
theorem either {p : Ps} (h : Ok L n d p) {c : List Int} (hc : Cyc c) (hn : c ≠ []) (ne : p.2 ≠ []) : (∀ t, plc d p (rep t c) = (p.1, p.2 ++ rep t c)) ∨ ∀ t, plc d p (rep t (bk c)) = (p.1, p.2 ++ rep t (bk c)) := by
  by_cases hl : ∀ x y, p.2.getLast? = some x → c.head? = some y → x ≠ -y
  · exact .inl (grow h hc hn ne hl)
  · right
    have hn2 : bk c ≠ [] := fun z => hn (by rw [← bk_bk c, z]; rfl)
    refine grow h (cyc_bk hc) hn2 ne fun x y hx hy e => hl fun x' y' hx' hy' e' => ?_
    rw [hx] at hx'
    cases hx'
    rw [head_bk] at hy
    obtain ⟨z, hz, ez⟩ := Option.map_eq_some_iff.mp hy
    exact hc.ends z y' hz hy' (by omega)
/-- on the way -/
def at' (d : Gm) (p : Ps) (c : List Int) (t : Nat) : Ps := plc d p (rep t c)
theorem at_add (G : Gr L n d) (p : Ps) (c : List Int) (s t : Nat) : at' d p c (s + t) = at' d (at' d p c s) c t := by
  unfold at'
  rw [plc_app G, rep_add]
theorem at_ok (G : Gr L n d) {p : Ps} (h : Ok L n d p) {c : List Int} (hc : Rn.St L c) (t : Nat) : Ok L n d (at' d p c t) := h.plc G (Rn.rep_st hc t)
theorem at_back (G : Gr L n d) {p : Ps} (h : Ok L n d p) (c : List Int) (t : Nat) : plc d (at' d p c t) (rep t (bk c)) = p := by
  unfold at'
  rw [← bk_rep, plc_bk G h]
/-- no place twice: then the way is not long -/
theorem few (G : Gr L n d) {p : Ps} (h : Ok L n d p) {c : List Int} (hs : Rn.St L c) (hc : Cyc c) (hn : c ≠ []) {N : Nat} (hd : ∀ s t, s < t → t ≤ N → at' d p c s ≠ at' d p c t) : N + 1 ≤ n + (p.2.length + c.length - 1) / c.length + ((at' d p c N).2.length + c.length - 1) / c.length := by
  refine Qt.drp ?_ ?_
  · have kp : 0 < c.length := List.length_pos_iff.mpr hn
    have sd : ∀ t, (at' d p c t).2 ≠ [] → (∀ s, at' d (at' d p c t) c s = ((at' d p c t).1, (at' d p c t).2 ++ rep s c)) ∨ p.2.length = (at' d p c t).2.length + t * c.length := fun t ne => by
      rcases either (at_ok G h hs t) hc hn ne with e | e
      · exact .inl e
      · right
        have := e t
        rw [at_back G h c t] at this
        have := congrArg (fun q : Ps => q.2.length) this
        dsimp only at this
        rw [List.length_append, rep_len, bk_len] at this
        exact this
    obtain ⟨A, hA⟩ : ∃ A, (p.2.length + c.length - 1) / c.length = A := ⟨_, rfl⟩
    obtain ⟨B, hB⟩ : ∃ B, ((at' d p c N).2.length + c.length - 1) / c.length = B := ⟨_, rfl⟩
    rw [hA, hB]
    classical
    let F : Nat → Nat := fun t => if (at' d p c t).2 = [] then (at' d p c t).1
      else if p.2.length = (at' d p c t).2.length + t * c.length then n + t
      else n + A + (N - t)
    have q0 : ∀ t, (at' d p c t).2 ≠ [] → p.2.length = (at' d p c t).2.length + t * c.length → t < A := fun t ne e => by
      have := List.length_pos_iff.mpr ne
      rw [← hA, Nat.lt_iff_add_one_le, Nat.le_div_iff_mul_le kp, Nat.add_mul]
      omega
    have qN : ∀ t, t ≤ N → (at' d p c t).2 ≠ [] → ¬ p.2.length = (at' d p c t).2.length + t * c.length → N - t < B := fun t ht ne e => by
      have := List.length_pos_iff.mpr ne
      have g := ((sd t ne).resolve_right e) (N - t)
      rw [← at_add G, show t + (N - t) = N by omega] at g
      have g2 := congrArg (fun q : Ps => q.2.length) g
      dsimp only at g2
      rw [List.length_append, rep_len] at g2
      rw [← hB, Nat.lt_iff_add_one_le, Nat.le_div_iff_mul_le kp, Nat.add_mul]
      omega
    have := Tl.inj_len (l := List.range (N + 1)) (m := List.range (n + A + B)) F List.nodup_range (fun s hs' t ht' e => ?_) (fun t ht' => ?_)
    · rwa [List.length_range, List.length_range] at this
    · have hs2 := List.mem_range.mp hs'
      have ht2 := List.mem_range.mp ht'
      have lt := fun t => (at_ok G h hs t).lt
      have l1 := lt s
      have l2 := lt t
      refine Classical.byContradiction fun ne => ?_
      have same : at' d p c s ≠ at' d p c t := by
        rcases Nat.lt_or_gt_of_ne ne with h | h
        · exact hd s t h (by omega)
        · exact (hd t s h (by omega)).symm
      have e : (if (at' d p c s).2 = [] then (at' d p c s).1 else if p.2.length = (at' d p c s).2.length + s * c.length then n + s else n + A + (N - s)) = (if (at' d p c t).2 = [] then (at' d p c t).1 else if p.2.length = (at' d p c t).2.length + t * c.length then n + t else n + A + (N - t)) := e
      by_cases a1 : (at' d p c s).2 = []
      · rw [if_pos a1] at e
        by_cases a2 : (at' d p c t).2 = []
        · rw [if_pos a2] at e
          exact same (Prod.ext e (a1.trans a2.symm))
        · rw [if_neg a2] at e
          split at e <;> omega
      · rw [if_neg a1] at e
        by_cases b1 : p.2.length = (at' d p c s).2.length + s * c.length
        · rw [if_pos b1] at e
          have m1 := q0 s a1 b1
          by_cases a2 : (at' d p c t).2 = []
          · rw [if_pos a2] at e; omega
          · rw [if_neg a2] at e
            by_cases b2 : p.2.length = (at' d p c t).2.length + t * c.length
            · rw [if_pos b2] at e; omega
            · rw [if_neg b2] at e; omega
        · rw [if_neg b1] at e
          by_cases a2 : (at' d p c t).2 = []
          · rw [if_pos a2] at e; omega
          · rw [if_neg a2] at e
            by_cases b2 : p.2.length = (at' d p c t).2.length + t * c.length
            · rw [if_pos b2] at e
              have m1 := q0 t a2 b2
              omega
            · rw [if_neg b2] at e; omega
    · have ht2 := List.mem_range.mp ht'
      refine List.mem_range.mpr ?_
      show (if (at' d p c t).2 = [] then (at' d p c t).1 else if p.2.length = (at' d p c t).2.length + t * c.length then n + t else n + A + (N - t)) < _
      have l2 := (at_ok G h hs t).lt
      by_cases a2 : (at' d p c t).2 = []
      · rw [if_pos a2]; omega
      · rw [if_neg a2]
        by_cases b2 : p.2.length = (at' d p c t).2.length + t * c.length
        · rw [if_pos b2]
          have m1 := q0 t a2 b2
          omega
        · rw [if_neg b2]
          have m1 := qN t (by omega) a2 b2
          omega
  walk_at "end"
/-- once it is longer than at the beginning it never is shorter again -/
theorem away (G : Gr L n d) {p : Ps} (h : Ok L n d p) {c : List Int} (hs : Rn.St L c) (hc : Cyc c) (hn : c ≠ []) {t : Nat} (ht : p.2.length < (at' d p c t).2.length) (s : Nat) : (at' d p c t).2.length ≤ (at' d p c (t + s)).2.length := by
  have ne : (at' d p c t).2 ≠ [] := fun z => by rw [z] at ht; simp at ht
  rw [at_add G]
  rcases either (at_ok G h hs t) hc hn ne with e | e
  · have := e s
    unfold at' at this ⊢
    rw [this, List.length_append]
    omega
  · exfalso
    have := e t
    rw [at_back G h c t] at this
    have := congrArg (fun q : Ps => q.2.length) this
    dsimp only at this
    rw [List.length_append] at this
    omega
end Pe
namespace Pe
open Fg Wb
variable {L n : Nat} {d : Gm}
structure TB (d : Gm) (p last : Ps) (c : List Int) (found : Option Nat) (circle : Nat) : Prop where
  per : 0 < circle → at' d p c circle = p ∧ ∀ s, 0 < s → s < circle → at' d p c s ≠ p
  non : circle = 0 → ∀ s, 0 < s → at' d p c s ≠ p
  some' : ∀ t, found = some t → at' d p c t = last ∧ (0 < circle → t < circle)
  none' : found = none → (0 < circle → ∀ s, s < circle → at' d p c s ≠ last) ∧ (circle = 0 → ∀ s, at' d p c s ≠ last)
/-- what exponents tells -/
def ExpIs (P : Int → Prop) : Option (Int × Nat) → Prop
  | none => ∀ t, ¬ P t
  | some (t0, N) => if N = 0 then ∀ t, P t ↔ t = t0 else 0 ≤ t0 ∧ t0 < (N : Int) ∧ ∀ t, P t ↔ (t - t0) % (N : Int) = 0
theorem ExpIs.congr {P P' : Int → Prop} {o : Option (Int × Nat)} (h : ExpIs P o) (e : ∀ t, P' t ↔ P t) : ExpIs P' o := by
  have : P' = P := funext fun t => propext (e t)
  rw [this]
  exact h
end Pe
namespace Pe
open Fg Wb
variable {L n : Nat} {d : Gm}
/-- what is so amid the search -/
structure Mid (d : Gm) (p last : Ps) (c : List Int) (most t : Nat) (f : Option Nat) : Prop where
  no : ∀ s, 0 < s → s ≤ t → at' d p c s ≠ p
  sh : ∀ s, s < t → (at' d p c s).2.length ≤ most
  so : ∀ s, f = some s → s < t ∧ at' d p c s = last
  na : f = none → ∀ s, s < t → at' d p c s ≠ last
theorem Mid.next {p last : Ps} {c : List Int} {most t : Nat} {f : Option Nat} (M : Mid d p last c most t f) (h : at' d p c (t + 1) ≠ p) (ht : (at' d p c t).2.length ≤ most) (f' : Option Nat) (h1 : ∀ s, f' = some s → s < t + 1 ∧ at' d p c s = last) (h2 : f' = none → ∀ s, s < t + 1 → at' d p c s ≠ last) : Mid d p last c most (t + 1) f' :=
  ⟨fun s s0 sl => by
    rcases Nat.lt_or_ge s (t + 1) with k | k
    · exact M.no s s0 (by omega)
    · have : s = t + 1 := by omega
      rw [this]; exact h, fun s hs => by
    rcases Nat.lt_or_ge s t with k | k
    · exact M.sh s k
    · have : s = t := by omega
      rw [this]; exact ht, h1, h2⟩
theorem Mid.out (G : Gr L n d) {p last : Ps} {c : List Int} {most t : Nat} {f : Option Nat} (h : Ok L n d p) (hs : Rn.St L c) (hc : c = [] ∨ Cyc c) (M : Mid d p last c most t f) (hp : p.2.length ≤ most) (hl : last.2.length ≤ most) (ht : most < (at' d p c t).2.length) : TB d p last c f 0 := by
  refine Qt.drp ?_ ?_
  · have hn : c ≠ [] := fun z => by
      subst z
      have : at' d p [] t = p := by
        unfold at'
        have e : ∀ t, rep t [] = [] := fun t => by induction t with
          | zero => rfl
          | succ t ih => show rep t [] ++ [] = []; rw [ih]; rfl
        rw [e]
        exact plc_nil h
      rw [this] at ht
      omega
    have far : ∀ s, t ≤ s → most < (at' d p c s).2.length := fun s hst => by
      have := away G h hs (hc.resolve_left hn) hn (t := t) (by omega) (s - t)
      rw [show t + (s - t) = s by omega] at this
      omega
    refine ⟨fun z => by omega, fun _ s s0 e => ?_, fun s hs' => ⟨(M.so s hs').2, fun z => by omega⟩, fun hf => ⟨fun z => by omega, fun _ s e => ?_⟩⟩
    · rcases Nat.lt_or_ge s t with k | k
      · exact M.no s s0 (by omega) e
      · have := far s k
        rw [e] at this
        omega
    · rcases Nat.lt_or_ge s t with k | k
      · exact M.na hf s k e
      · have := far s k
        rw [e] at this
        omega
  walk_at "end"
theorem go_rep_succ (d : Gm) (r : Nat) (c : List Int) (t : Nat) : go d r (rep (t + 1) c) = (go d r (rep t c)).bind fun g => go d g c := go_app d _ _ r
end Pe
namespace Wb
open L2 Fo
variable {L n : Nat} {d : Gm}
def Lead (d : Gm) (t : List Nat) (w : List Int) (t' : List Nat) : Prop := t.map (fun x => go d x w) = t'.map some
def rot (t : List Nat) : List Nat := t.drop 1 ++ t.take 1
def Circ (d : Gm) (n k : Nat) : Prop := ∃ t w, t.length = k ∧ t.Nodup ∧ (∀ x ∈ t, x < n) ∧ Lead d t w (rot t)
theorem Lead.len {t t' : List Nat} {w : List Int} (h : Lead d t w t') : t.length = t'.length := by
  have := congrArg List.length h
  simpa using this
theorem Lead.get {t t' : List Nat} {w : List Int} (h : Lead d t w t') {i x : Nat} (hx : t[i]? = some x) : ∃ y, t'[i]? = some y ∧ go d x w = some y := by
  have z := congrArg (fun l => l[i]?) h
  simp only [List.getElem?_map, hx, Option.map_some] at z
  cases e : t'[i]? with
  | none => rw [e] at z; exact nomatch z
  | some y => rw [e] at z; exact ⟨y, rfl, Option.some.inj z⟩
theorem Lead.of {t t' : List Nat} {w : List Int} (hl : t.length = t'.length) (h : ∀ (i x y : Nat), t[i]? = some x → t'[i]? = some y → go d x w = some y) : Lead d t w t' := by
  refine List.ext_getElem? fun i => ?_
  rw [List.getElem?_map, List.getElem?_map]
  cases e : t[i]? with
  | none =>
    have : t'[i]? = none := by rw [List.getElem?_eq_none_iff] at e ⊢; omega
    rw [this]; rfl
  | some x =>
    cases e' : t'[i]? with
    | none => rw [List.getElem?_eq_none_iff] at e'; have := (List.getElem?_eq_some_iff.mp e).1; omega
    | some y => show some (go d x w) = some (some y); rw [h i x y e e']
theorem Lead.nil (d : Gm) (t : List Nat) : Lead d t [] t := Lead.of rfl fun i x y h1 h2 => by rw [h1] at h2; exact h2
theorem Lead.app {t t' t'' : List Nat} {u v : List Int} (h : Lead d t u t') (k : Lead d t' v t'') : Lead d t (u ++ v) t'' :=
  Lead.of (h.len.trans k.len) fun i x z h1 h2 => by
    obtain ⟨y, hy, gy⟩ := h.get h1
    obtain ⟨z', hz, gz⟩ := k.get hy
    rw [h2] at hz
    cases hz
    rw [go_app, gy]
    exact gz
theorem Lead.bk (G : Gr L n d) {t t' : List Nat} {u : List Int} (h : Lead d t u t') : Lead d t' (Fg.bk u) t :=
  Lead.of h.len.symm fun i y x h1 h2 => by
    obtain ⟨y', hy, gy⟩ := h.get h2
    rw [h1] at hy
    cases hy
    exact go_bk G gy
theorem rot_len (t : List Nat) : (rot t).length = t.length := by
  unfold rot
  rw [List.length_append, List.length_drop, List.length_take]
  omega
theorem rot_get {t : List Nat} {i : Nat} (h : i < t.length) : (rot t)[i]? = t[(i + 1) % t.length]? := by
  unfold rot
  by_cases c : i < t.length - 1
  · rw [List.getElem?_append_left (by rw [List.length_drop]; exact c), List.getElem?_drop, Nat.mod_eq_of_lt (by omega), Nat.add_comm]
  · have e : i = t.length - 1 := by omega
    rw [List.getElem?_append_right (by rw [List.length_drop]; omega), List.length_drop, List.getElem?_take, e]
    have z : t.length - 1 + 1 = t.length := by omega
    rw [z, Nat.mod_self, Nat.sub_self]
    rfl
theorem Lead.rot {t t' : List Nat} {u : List Int} (h : Lead d t u t') : Lead d (rot t) u (Wb.rot t') :=
  Lead.of (by rw [rot_len, rot_len, h.len]) fun i x y h1 h2 => by
    have l1 : i < t.length := by have := (List.getElem?_eq_some_iff.mp h1).1; rwa [rot_len] at this
    rw [rot_get l1] at h1
    rw [rot_get (by rw [← h.len]; exact l1), ← h.len] at h2
    obtain ⟨y', hy, gy⟩ := h.get h1
    rw [h2] at hy
    cases hy
    exact gy
/-- all to which some rooms are led, and how -/
structure WT (d : Gm) (t : List Nat) (E : List (List Nat)) (f : List Nat → List Int) : Prop where
  mem : t ∈ E
  led : ∀ e ∈ E, Lead d t (f e) e
  cl : ∀ e ∈ E, ∀ s e', Lead d e [s] e' → e' ∈ E
theorem lead_snoc (G : Gr L n d) {t t' : List Nat} {w : List Int} {s : Int} (h : Lead d t (w ++ [s]) t') : ∃ t1, Lead d t w t1 ∧ Lead d t1 [s] t' := by
  refine Qt.drp ?_ ?_
  · refine ⟨t.map fun x => (go d x w).getD 0, ?_, ?_⟩
    · refine Lead.of (by rw [List.length_map]) fun i x y h1 h2 => ?_
      obtain ⟨z, hz, gz⟩ := h.get h1
      rw [go_app] at gz
      cases e : go d x w with
      | none => rw [e] at gz; exact nomatch gz
      | some a =>
        rw [List.getElem?_map, h1] at h2
        simp only [Option.map_some, e, Option.getD] at h2
        exact h2
    · refine Lead.of (by rw [List.length_map, h.len]) fun i x y h1 h2 => ?_
      rw [List.getElem?_map] at h1
      cases e0 : t[i]? with
      | none => rw [e0] at h1; exact nomatch h1
      | some z =>
        rw [e0] at h1
        obtain ⟨y', hy, gy⟩ := h.get e0
        rw [h2] at hy
        cases hy
        rw [go_app] at gy
        cases e : go d z w with
        | none => rw [e] at gy; exact nomatch gy
        | some a =>
          rw [e] at gy
          simp only [Option.map_some, e, Option.getD] at h1
          cases h1
          exact gy
  walk_at "end"
theorem WT.all (G : Gr L n d) {t : List Nat} {E : List (List Nat)} {f : List Nat → List Int} (h : WT d t E f) : ∀ (k : Nat) (w : List Int) (e : List Nat), w.length = k → Lead d t w e → e ∈ E
  | 0, w, e, hk, hl => by
    rw [List.length_eq_zero_iff.mp hk] at hl
    have : e = t := List.ext_getElem? fun i => by
      cases c : t[i]? with
      | none => rw [List.getElem?_eq_none_iff] at c ⊢; rw [← hl.len]; exact c
      | some x => obtain ⟨y, h1, h2⟩ := hl.get c; rw [h1]; exact h2.symm
    rw [this]; exact h.mem
  | k + 1, w, e, hk, hl => by
    have ne : w ≠ [] := fun z => by rw [z] at hk; exact nomatch hk
    rw [← List.dropLast_concat_getLast ne] at hl
    obtain ⟨t1, l1, l2⟩ := lead_snoc G hl
    exact h.cl t1 (WT.all G h k _ t1 (by rw [List.length_dropLast, hk]; rfl) l1) _ _ l2
theorem WT.no (G : Gr L n d) {t : List Nat} {E : List (List Nat)} {f : List Nat → List Int} (h : WT d t E f) (hr : Wb.rot t ∉ E) {e : List Nat} (he : e ∈ E) (w : List Int) : ¬ Lead d e w (Wb.rot e) := fun hl => by
  have a := h.led e he
  exact hr (h.all G _ _ _ rfl ((a.app hl).app ((a.rot).bk G)))
theorem Lead.lt (G : Gr L n d) {t t' : List Nat} {w : List Int} (h : Lead d t w t') (ht : ∀ x ∈ t, x < n) : ∀ x ∈ t', x < n := fun y hy => by
  obtain ⟨i, hi⟩ := List.getElem?_of_mem hy
  have l1 : i < t.length := by rw [h.len]; exact (List.getElem?_eq_some_iff.mp hi).1
  obtain ⟨y', h1, h2⟩ := h.get (List.getElem?_eq_getElem l1)
  rw [hi] at h1
  cases h1
  exact go_lt G (ht _ (List.getElem_mem l1)) h2
theorem nodup_get {t : List Nat} (h : ∀ (i j x : Nat), i < j → t[i]? = some x → t[j]? = some x → False) : t.Nodup := by
  rw [List.nodup_iff_pairwise_ne, List.pairwise_iff_getElem]
  intro i j hi hj hij e
  exact h i j _ hij (List.getElem?_eq_getElem hi) (by rw [List.getElem?_eq_getElem hj, e])
theorem nodup_ne {t : List Nat} (h : t.Nodup) {i j x : Nat} (hi : t[i]? = some x) (hj : t[j]? = some x) : i = j := by
  obtain ⟨a, ha⟩ := List.getElem?_eq_some_iff.mp hi
  obtain ⟨b, hb⟩ := List.getElem?_eq_some_iff.mp hj
  exact (List.getElem_inj h).mp (ha.trans hb.symm)
theorem Lead.nodup (G : Gr L n d) {t t' : List Nat} {w : List Int} (h : Lead d t w t') (ht : t.Nodup) : t'.Nodup := nodup_get fun i j x hij h1 h2 => by
  have k := h.bk G
  obtain ⟨a, a1, a2⟩ := k.get h1
  obtain ⟨b, b1, b2⟩ := k.get h2
  rw [a2] at b2
  cases b2
  have := nodup_ne ht a1 b1
  omega
theorem circ_one (d : Gm) (hn : 0 < n) : Circ d n 1 := ⟨[0], [], rfl, by simp, fun x hx => by rw [List.mem_singleton.mp hx]; exact hn, Lead.nil d [0]⟩
theorem circ_le {k : Nat} (h : Circ d n k) : k ≤ n := by
  obtain ⟨t, w, rfl, nd, lt, _⟩ := h
  exact nodup_lt nd lt
theorem circ_go {t : List Nat} {w : List Int} (hl : Lead d t w (Wb.rot t)) {i : Nat} {x : Nat} (hx : t[i]? = some x) : ∀ j, ∃ y, t[(i + j) % t.length]? = some y ∧ go d x (Fg.rep j w) = some y
  | 0 => ⟨x, by rw [Nat.add_zero, Nat.mod_eq_of_lt (List.getElem?_eq_some_iff.mp hx).1]; exact hx, rfl⟩
  | j + 1 => by
    obtain ⟨y, h1, h2⟩ := circ_go hl hx j
    obtain ⟨z, k1, k2⟩ := hl.get h1
    have lt := (List.getElem?_eq_some_iff.mp h1).1
    rw [rot_get lt] at k1
    refine ⟨z, ?_, ?_⟩
    · rw [← k1]
      congr 1
      rw [Nat.mod_add_mod]
      rfl
    · rw [Pe.go_rep_succ, h2]
      exact k2
theorem circ_idx {t : List Nat} {w : List Int} (nd : t.Nodup) (hl : Lead d t w (Wb.rot t)) {x : Nat} (hx : t[0]? = some x) {j : Nat} (hj : j ≤ t.length) (h0 : 0 < j) : go d x (Fg.rep j w) = some x ↔ j = t.length := by
  obtain ⟨y, h1, h2⟩ := circ_go hl hx j
  rw [Nat.zero_add] at h1
  constructor
  · intro h
    rw [h2] at h
    cases h
    rcases Nat.lt_or_ge j t.length with c | c
    · rw [Nat.mod_eq_of_lt c] at h1
      have := nodup_ne nd h1 hx
      omega
    · omega
  · intro e
    rw [e, Nat.mod_self, hx] at h1
    cases h1
    exact h2
/-- the walk that leads around, as seen from home -/
theorem circ_walk (W : Web L n d) {t : List Nat} {w : List Int} (nd : t.Nodup) (hl : Lead d t w (Wb.rot t)) {x : Nat} (hx : t[0]? = some x) (hxn : x < n) {j : Nat} (hj : j ≤ t.length) (h0 : 0 < j) :
    Bl d (Fg.rep j (Fg.rd (fw L n d x ++ w ++ Fg.bk (fw L n d x)))) ↔ j = t.length := by
  rw [← circ_idx nd hl hx hj h0]
  have e : Fg.Eqv (Fg.rep j (Fg.rd (fw L n d x ++ w ++ Fg.bk (fw L n d x)))) (fw L n d x ++ Fg.rep j w ++ Fg.bk (fw L n d x)) := by
    refine Fg.Eqv.trans ?_ (Fg.rep_lead (fw L n d x) w j)
    have : ∀ (k : Nat) (u : List Int), Fg.Eqv (Fg.rep k (Fg.rd u)) (Fg.rep k u) := fun k u => by
      induction k with
      | zero => exact Fg.Eqv.refl _
      | succ k ih => exact ih.app (eqv_rdl u)
    exact this j _
  have b := bl_conj W.gr (fw_go W x hxn).1 (Fg.rep j w)
  have a : Bl d (Fg.rep j (Fg.rd (fw L n d x ++ w ++ Fg.bk (fw L n d x)))) ↔ go d x (Fg.rd (Fg.rep j w)) = some x :=
    ⟨fun h => b.mpr (h.eqv e), fun h => (b.mp h).eqv e.symm⟩
  rw [a]
  obtain ⟨y, h1, h2⟩ := circ_go hl hx j
  rw [go_rd W.gr _ h2, h2]
def oI : Option Nat → Int
  | some y => (y : Int)
  | none => -1
/-- where a walk leads each room -/
def tbl (d : Gm) (n : Nat) (w : List Int) : List Int := (List.range n).map fun x => oI (go d x w)
theorem tbl_get {w : List Int} {x : Nat} (hx : x < n) : (tbl d n w)[x]? = some (oI (go d x w)) := by
  unfold tbl
  rw [List.getElem?_map, List.getElem?_range hx]
  rfl
theorem tbl_len (w : List Int) : (tbl d n w).length = n := by unfold tbl; rw [List.length_map, List.length_range]
theorem oI_inj {o o' : Option Nat} (h : oI o = oI o') : o = o' := by
  cases o with
  | none => cases o' with
    | none => rfl
    | some y => simp only [oI] at h; omega
  | some x => cases o' with
    | none => simp only [oI] at h; omega
    | some y => simp only [oI] at h; congr 1; omega
theorem tbl_snoc (w : List Int) (s : Int) : tbl d n (w ++ [s]) = (List.range n).map fun x => match go d x w with
    | some y => oI (d y s)
    | none => -1 := by
  unfold tbl
  refine List.map_congr_left fun x _ => ?_
  rw [go_snoc]
  cases go d x w <;> rfl
/-- amid the turns: the room and how often -/
structure Turn (d : Gm) (w : List Int) (f : Nat) (j : Nat) (room : Int) (times : Nat) : Prop where
  t1 : 1 ≤ times
  t2 : times ≤ j + 1
  at_ : room = oI (go d f (Fg.rep times w))
  mid : ∀ i, 1 ≤ i → i < times → ∃ y, go d f (Fg.rep i w) = some y ∧ y ≠ f
  on : times = j + 1 ∨ room = -1 ∨ room = (f : Int)
theorem Turn.start {w : List Int} {f : Nat} : Turn d w f 0 (oI (go d f w)) 1 := ⟨Nat.le_refl _, Nat.le_refl _, by rw [Fg.rep_one], fun i a b => by omega, .inl rfl⟩
theorem Turn.stay {w : List Int} {f j : Nat} {room : Int} {times : Nat} (T : Turn d w f j room times) (h : ¬ (0 ≤ room ∧ room ≠ (f : Int))) : Turn d w f (j + 1) room times :=
  ⟨T.t1, Nat.le_succ_of_le T.t2, T.at_, T.mid, .inr (by
    have e := T.at_
    by_cases c : 0 ≤ room
    · exact .inr (Classical.byContradiction fun z => h ⟨c, z⟩)
    · left
      cases o : go d f (Fg.rep times w) with
      | none => rw [o] at e; exact e
      | some y => rw [o] at e; exact absurd (by rw [e]; exact Int.natCast_nonneg y) c)⟩
theorem Turn.go {w : List Int} {f j : Nat} {room : Int} {times : Nat} (T : Turn d w f j room times) (h : 0 ≤ room ∧ room ≠ (f : Int)) : ∃ y : Nat, room = (y : Int) ∧ go d f (Fg.rep times w) = some y ∧ Turn d w f (j + 1) (oI (Wb.go d y w)) (times + 1) := by
  have e := T.at_
  cases o : Wb.go d f (Fg.rep times w) with
  | none => rw [o] at e; exact absurd h.1 (by rw [e]; decide)
  | some y =>
    rw [o] at e
    have e : room = (y : Int) := e
    have hj : times = j + 1 := by
      rcases T.on with z | z | z
      · exact z
      · omega
      · exact absurd z h.2
    refine ⟨y, e, rfl, ⟨Nat.le_add_left 1 _, by omega, ?_, fun i a b => ?_, .inl (by omega)⟩⟩
    · rw [Pe.go_rep_succ, o]
      rfl
    · rcases Nat.lt_or_ge i times with c | c
      · exact T.mid i a c
      · have : i = times := by omega
        rw [this]
        exact ⟨y, o, fun z => h.2 (by rw [e, z])⟩
theorem go_inj (G : Gr L n d) {x y g : Nat} {w : List Int} (h : go d x w = some g) (k : go d y w = some g) : x = y := by
  have a := go_bk G h
  have b := go_bk G k
  rw [a] at b
  exact Option.some.inj b
theorem Turn.circ (G : Gr L n d) {w : List Int} {f j : Nat} {times : Nat} (hf : f < n) (T : Turn d w f j (f : Int) times) : Circ d n times := by
  refine Qt.drp ?_ ?_
  · have back : Wb.go d f (Fg.rep times w) = some f := oI_inj T.at_.symm
    have all : ∀ i, ∃ y, Wb.go d f (Fg.rep (i % times) w) = some y := fun i => by
      have lt := Nat.mod_lt i T.t1
      rcases Nat.eq_zero_or_pos (i % times) with z | z
      · rw [z]; exact ⟨f, rfl⟩
      · obtain ⟨y, h, _⟩ := T.mid _ z lt
        exact ⟨y, h⟩
    have a : ∀ i, i < times → ∃ y, Wb.go d f (Fg.rep i w) = some y := fun i hi => by have := all i; rwa [Nat.mod_eq_of_lt hi] at this
    let t := (List.range times).map fun i => (Wb.go d f (Fg.rep i w)).getD 0
    have tl : t.length = times := by show ((List.range times).map _).length = _; rw [List.length_map, List.length_range]
    have tg : ∀ i x, t[i]? = some x → i < times ∧ Wb.go d f (Fg.rep i w) = some x := fun i x h => by
      have hi : i < times := by rw [← tl]; exact (List.getElem?_eq_some_iff.mp h).1
      obtain ⟨y, hy⟩ := a i hi
      refine ⟨hi, ?_⟩
      have : t[i]? = some ((Wb.go d f (Fg.rep i w)).getD 0) := by
        show ((List.range times).map _)[i]? = _
        rw [List.getElem?_map, List.getElem?_range hi]
        rfl
      rw [this, hy] at h
      rw [hy]
      exact h
    refine ⟨t, w, tl, nodup_get fun i j x hij h1 h2 => ?_, fun x hx => ?_, Lead.of (rot_len t).symm fun i x y h1 h2 => ?_⟩
    · obtain ⟨l1, g1⟩ := tg i x h1
      obtain ⟨l2, g2⟩ := tg j x h2
      -- back by i times
      obtain ⟨z, hz, nz⟩ := T.mid (j - i) (by omega) (by omega)
      have g3 : Wb.go d f (Fg.rep (j - i) w ++ Fg.rep i w) = some x := by
        rw [← Fg.rep_add, show j - i + i = j by omega]
        exact g2
      rw [go_app, hz] at g3
      exact nz (go_inj G g3 g1)
    · obtain ⟨i, hi⟩ := List.getElem?_of_mem hx
      exact go_lt G hf (tg i x hi).2
    · obtain ⟨l1, g1⟩ := tg i x h1
      rw [rot_get (by rw [tl]; exact l1), tl] at h2
      obtain ⟨l2, g2⟩ := tg _ y h2
      rcases Nat.lt_or_ge (i + 1) times with c | c
      · rw [Nat.mod_eq_of_lt c, Pe.go_rep_succ, g1] at g2
        exact g2
      · have e : i + 1 = times := by omega
        rw [e, Nat.mod_self] at g2
        rw [← e, Pe.go_rep_succ, g1] at back
        cases g2
        exact back
  walk_at "end"
end Wb
namespace Lw
open PySem PySem.Spec PyProof.Rows L2 Evl
local macro_rules | `(tactic| walk_at "go") => `(tactic| repeat (first
  | with_reducible refine st_seq ?_ | with_reducible refine st_set ?_ | with_reducible refine st_asg ?_ | with_reducible refine st_ret ?_ | with_reducible refine st_drop ?_ | with_reducible refine st_if ?_
  | with_reducible refine st_c ?_ | ((with_reducible refine' st_v ?h ?_); (case h => exact rfl)) | with_reducible refine st_n ?_ | with_reducible refine st_cons ?_ | with_reducible refine st_op ?_ | with_reducible refine st_un ?_
  | with_reducible refine st_cb ?_ | with_reducible refine st_test ?_ | with_reducible refine st_call ?_ | with_reducible refine st_callK ?_ | with_reducible refine st_sl ?_ | with_reducible refine st_par ?_ | with_reducible refine st_par3 ?_ | with_reducible refine st_tru ?_
  | with_reducible refine st_and ?_ | with_reducible refine st_or ?_ | with_reducible refine st_not ?_ | with_reducible refine st_B ?_ | with_reducible refine st_andV ?_ | with_reducible refine st_orV ?_ | with_reducible refine st_notV ?_ | with_reducible refine st_ifE ?_
  | with_reducible refine st_part ?_ | with_reducible refine st_nop ?_ | with_reducible refine st_sub ?_ | with_reducible refine st_chain ?_ | with_reducible refine st_chain3 ?_ | with_reducible refine st_lenSet ?_ | with_reducible refine st_bl ?_ | with_reducible refine st_in ?_ | with_reducible refine r_truB ?_
  | with_reducible refine st_nameG ?_ | with_reducible refine if_T ?_ | with_reducible refine if_F ?_ | with_reducible refine if_nT ?_ | with_reducible refine if_nF ?_
  | with_reducible refine r_add ?_ | with_reducible refine r_0 ?_ | with_reducible refine r_neg ?_ | with_reducible refine r_intI ?_ | with_reducible refine r_intB ?_ | with_reducible refine r_abs ?_ | with_reducible refine r_max2 ?_ | with_reducible refine r_min2 ?_ | with_reducible refine r_eqI ?_ | with_reducible refine r_neI ?_
  | with_reducible refine st_nxt ?_ | with_reducible refine st_cnt ?_ | with_reducible refine st_brk ?_ | with_reducible refine st_retn ?_
  | with_reducible refine st_lstN ?_ | with_reducible refine st_tupN ?_
  | with_reducible refine st_for ?_ | with_reducible refine st_lc ?_ | with_reducible refine st_lc2 ?_ | with_reducible refine st_rng1 ?_ | with_reducible refine st_rng2 ?_ | with_reducible refine st_rng3 ?_ | with_reducible refine st_itL ?_ | with_reducible refine st_itT ?_ | with_reducible refine st_rev ?_ | with_reducible refine st_enumE ?_ | with_reducible refine st_zip3 ?_ | with_reducible refine st_lvals ?_ | with_reducible refine st_fld ?_ | with_reducible refine st_sfld ?_ | with_reducible refine st_meth ?_ | with_reducible refine st_make ?_ | with_reducible refine st_rg1 ?_ | with_reducible refine st_enumS ?_ | with_reducible refine st_enumD ?_ | with_reducible refine st_lstIt ?_ | with_reducible refine st_dg1 ?_ | with_reducible refine st_dg2 ?_ | with_reducible refine st_dpop ?_ | with_reducible refine st_dset ?_ | with_reducible refine st_ckw ?_ | with_reducible refine st_dsetT ?_ | with_reducible refine st_dnewT ?_ | with_reducible refine st_dc ?_ | with_reducible refine st_keys ?_ | with_reducible refine st_dget ?_ | with_reducible refine st_din ?_ | with_reducible refine st_dnin ?_ | with_reducible refine st_dput ?_ | with_reducible refine st_dnew ?_ | with_reducible refine st_lstRg ?_ | with_reducible refine st_rg2 ?_ | with_reducible refine r_twoI ?_ | with_reducible refine st_bm ?_ | with_reducible refine st_bm0 ?_
  | ((with_reducible refine' st_aug ?h ?_); (case h => exact rfl)) | with_reducible refine r_augI ?_ | with_reducible refine r_eqB ?_
  | dsimp only))
section
variable {P : Program} {w : World} {K : PySem.W.Frag} {mg : Str → Option Value} {base : Heap} {A : Ad}
def vO (o : Option Nat) : V := match o with
  | some g => .int (g : Int)
  | none => .non
/-- None in a list of rooms, or none -/
theorem inV_no (os : List (Option Nat)) : inV .non (os.map vO) = os.any (·.isNone) := by
  unfold inV
  induction os with
  | nil => rfl
  | cons n ns ih =>
    rw [List.map_cons, List.any_cons, List.any_cons, ih]
    cases n <;> rfl
theorem flat_os (os : List (Option Nat)) : (os.map vO).all flatV = true := by
  rw [List.all_eq_true]
  intro v hv
  obtain ⟨n, _, rfl⟩ := List.mem_map.mp hv
  cases n <;> rfl
theorem r_ninOT {K : PySem.W.Frag} {H : Hp} {Q : VK} {a : Addr} {os : List (Option Nat)} (h : SqT K H a (os.map vO)) (q : Q (.bl (!os.any (·.isNone))) H) : rIn K true .non (.ref a) H Q :=
  ⟨a, _, rfl, .inr h, rfl, flat_os os, by rw [if_pos rfl, inV_no]; exact q⟩
def tI (t : List Nat) : List Int := t.map fun (x : Nat) => (x : Int)
theorem tI_inj {t u : List Nat} (h : tI t = tI u) : t = u := by
  unfold tI at h
  induction t generalizing u with
  | nil => cases u with
    | nil => rfl
    | cons a u => cases h
  | cons a t ih => cases u with
    | nil => cases h
    | cons b u =>
      simp only [List.map_cons, List.cons.injEq] at h
      rw [ih h.2]
      congr 1
      omega
theorem tI_mem {t : List Nat} {E : List (List Nat)} : tI t ∈ E.map tI ↔ t ∈ E := ⟨fun h => by
  obtain ⟨u, hu, e⟩ := List.mem_map.mp h
  rwa [← tI_inj e], fun h => List.mem_map.mpr ⟨t, h, rfl⟩⟩
/-- a list of tuples of rooms -/
structure TuA (H : Hp) (xs : List V) (E : List (List Nat)) : Prop where
  len : xs.length = E.length
  at_ : ∀ (i : Nat) (e : List Nat), E[i]? = some e → ∃ p, xs[i]? = some (V.ref p) ∧ HTp H p (tI e)
theorem TuA.tx {H H1 : Hp} {xs : List V} {E : List (List Nat)} (h : TuA H xs E) (e : TX H H1) : TuA H1 xs E := ⟨h.len, fun i x hx => by
  obtain ⟨p, h1, h2⟩ := h.at_ i x hx
  exact ⟨p, h1, h2.tx e⟩⟩
theorem TuA.snoc {H : Hp} {xs : List V} {E : List (List Nat)} (h : TuA H xs E) {p : Addr} {e : List Nat} (hp : HTp H p (tI e)) : TuA H (xs ++ [.ref p]) (E ++ [e]) := ⟨by rw [List.length_append, List.length_append, h.len]; rfl, fun i x hx => by
  rcases Nat.lt_or_ge i E.length with c | c
  · rw [List.getElem?_append_left c] at hx
    obtain ⟨q, h1, h2⟩ := h.at_ i x hx
    exact ⟨q, by rw [List.getElem?_append_left (by rw [h.len]; exact c)]; exact h1, h2⟩
  · have hi : i = E.length := by
      have := (List.getElem?_eq_some_iff.mp hx).1
      rw [List.length_append, List.length_singleton] at this
      omega
    subst hi
    rw [List.getElem?_append_right (Nat.le_refl _), Nat.sub_self] at hx
    cases hx
    exact ⟨p, by rw [← h.len, List.getElem?_append_right (Nat.le_refl _), Nat.sub_self]; rfl, hp⟩⟩
/-- how each is led to -/
structure WvH (H : Hp) (E : List (List Nat)) (g : List Int → V) (f : List Nat → List Int) : Prop where
  at_ : ∀ e ∈ E, ∃ a, g (tI e) = V.ref a ∧ HTp H a (f e)
theorem WvH.tx {H H1 : Hp} {E : List (List Nat)} {g : List Int → V} {f : List Nat → List Int} (h : WvH H E g f) (e : TX H H1) : WvH H1 E g f := ⟨fun x hx => by
  obtain ⟨a, h1, h2⟩ := h.at_ x hx
  exact ⟨a, h1, h2.tx e⟩⟩
theorem rows_few : ∀ n < 6, ∀ k < 6, (Pm.rows n k).length ≤ 120 := by decide +kernel
theorem few_rows {n k : Nat} (hn : n ≤ 5) {E : List (List Nat)} (nd : E.Nodup) (h : ∀ e ∈ E, e.length = k ∧ e.Nodup ∧ ∀ x ∈ e, x < n) : E.length ≤ 120 := by
  cases E with
  | nil => exact Nat.zero_le _
  | cons e0 E' =>
    obtain ⟨a, b, c⟩ := h e0 (List.mem_cons_self ..)
    have k5 : k ≤ n := by rw [← a]; exact Wb.nodup_lt b c
    refine Nat.le_trans (List.Nodup.length_le_of_subset (l₂ := Pm.rows n k) nd fun e he => ?_) (rows_few n (by omega) k (by omega))
    obtain ⟨a, b, c⟩ := h e he
    rw [← a]
    exact Pm.row_of e b c
/-- what is so amid the search: the first p are done, of the next one the steps S -/
structure Tog (d : Wb.Gm) (u : List Nat) (E : List (List Nat)) (f : List Nat → List Int) (p : Nat) (S : List Int) : Prop where
  nd : E.Nodup
  zero : E[0]? = some u
  led : ∀ e ∈ E, Wb.Lead d u (f e) e
  size : ∀ (i : Nat) (e : List Nat), E[i]? = some e → (f e).length ≤ i
  cl : ∀ (i : Nat) (e : List Nat), E[i]? = some e → i < p → ∀ s e', Wb.Lead d e [s] e' → e' ∈ E
  now : ∀ e, E[p]? = some e → ∀ s ∈ S, ∀ e', Wb.Lead d e [s] e' → e' ∈ E
theorem go_one {d : Wb.Gm} {x : Nat} {s : Int} : Wb.go d x [s] = d x s := by
  rw [Wb.go]
  cases d x s <;> rfl
theorem Tog.fit {d : Wb.Gm} {L n : Nat} (G : Wb.Gr L n d) {u : List Nat} {E : List (List Nat)} {f : List Nat → List Int} {p : Nat} {S : List Int} (h : Tog d u E f p S) (nd : u.Nodup) (lt : ∀ x ∈ u, x < n) : ∀ e ∈ E, e.length = u.length ∧ e.Nodup ∧ ∀ x ∈ e, x < n := fun e he => by
  have l := h.led e he
  exact ⟨l.len.symm, l.nodup G nd, l.lt G lt⟩
theorem Tog.start (d : Wb.Gm) (u : List Nat) (f : List Nat → List Int) (hf : f u = []) : Tog d u [u] f 0 [] :=
  ⟨by simp, rfl, fun e he => by rw [List.mem_singleton.mp he, hf]; exact Wb.Lead.nil d u, fun i e he => (by
    cases i with
    | zero => cases he; rw [hf]; exact Nat.le_refl _
    | succ i => cases he), fun i e he hi => absurd hi (Nat.not_lt_zero _), fun e he s hs => (List.not_mem_nil hs).elim⟩
theorem Tog.next {d : Wb.Gm} {u : List Nat} {E : List (List Nat)} {f : List Nat → List Int} {p : Nat} {S : List Int} (h : Tog d u E f p S) {e : List Nat} (he : E[p]? = some e) (hS : ∀ s e', Wb.Lead d e [s] e' → s ∈ S) : Tog d u E f (p + 1) [] :=
  ⟨h.nd, h.zero, h.led, h.size, fun i x hx hi s e' hl => by
    rcases Nat.lt_or_ge i p with c | c
    · exact h.cl i x hx c s e' hl
    · have : i = p := by omega
      subst this
      rw [he] at hx
      cases hx
      exact h.now e he s (hS s e' hl) e' hl, fun x hx s hs => (List.not_mem_nil hs).elim⟩
theorem Tog.stay {d : Wb.Gm} {u : List Nat} {E : List (List Nat)} {f : List Nat → List Int} {p : Nat} {S : List Int} (h : Tog d u E f p S) {e : List Nat} (he : E[p]? = some e) {s : Int} (hs : ∀ e', Wb.Lead d e [s] e' → e' ∈ E) : Tog d u E f p (S ++ [s]) :=
  ⟨h.nd, h.zero, h.led, h.size, h.cl, fun x hx t ht e' hl => by
    rw [he] at hx
    cases hx
    rcases List.mem_append.mp ht with ht | ht
    · exact h.now e he t ht e' hl
    · rw [List.mem_singleton.mp ht] at hl
      exact hs e' hl⟩
theorem lead_fun {d : Wb.Gm} {t a b : List Nat} {w : List Int} (h : Wb.Lead d t w a) (k : Wb.Lead d t w b) : a = b := by
  have : a.map some = b.map some := h.symm.trans k
  exact List.map_inj_right (fun x y z => Option.some.inj z) |>.mp this
theorem Tog.put {d : Wb.Gm} {u : List Nat} {E : List (List Nat)} {f f' : List Nat → List Int} {p : Nat} {S : List Int} (h : Tog d u E f p S) {e e1 : List Nat} (he : E[p]? = some e) {s : Int} (hl1 : Wb.Lead d e [s] e1) (hn : e1 ∉ E) (hf : ∀ x, x ≠ e1 → f' x = f x) (hf1 : f' e1 = f e ++ [s]) : Tog d u (E ++ [e1]) f' p (S ++ [s]) := by
  refine Qt.drp ?_ ?_
  · have lp := (List.getElem?_eq_some_iff.mp he).1
    have ne : ∀ x ∈ E, x ≠ e1 := fun x hx z => hn (z ▸ hx)
    refine ⟨?_, ?_, fun x hx => ?_, fun i x hx => ?_, fun i x hx hi t e' hl => ?_, fun x hx t ht e' hl => ?_⟩
    · rw [List.nodup_append]
      exact ⟨h.nd, by simp, fun a ha b hb => by rw [List.mem_singleton.mp hb]; exact ne a ha⟩
    · rw [List.getElem?_append_left (by omega)]
      exact h.zero
    · rcases List.mem_append.mp hx with hx | hx
      · rw [hf x (ne x hx)]
        exact h.led x hx
      · rw [List.mem_singleton.mp hx, hf1]
        exact (h.led e (List.mem_of_getElem? he)).app hl1
    · rcases Nat.lt_or_ge i E.length with c | c
      · rw [List.getElem?_append_left c] at hx
        rw [hf x (ne x (List.mem_of_getElem? hx))]
        exact h.size i x hx
      · have hi : i = E.length := by
          have := (List.getElem?_eq_some_iff.mp hx).1
          rw [List.length_append, List.length_singleton] at this
          omega
        subst hi
        rw [List.getElem?_append_right (Nat.le_refl _), Nat.sub_self] at hx
        cases hx
        rw [hf1, List.length_append]
        have := h.size p e he
        simp only [List.length_singleton]
        omega
    · rw [List.getElem?_append_left (by omega)] at hx
      exact List.mem_append_left _ (h.cl i x hx hi t e' hl)
    · rw [List.getElem?_append_left lp] at hx
      rcases List.mem_append.mp ht with ht | ht
      · exact List.mem_append_left _ (h.now x hx t ht e' hl)
      · rw [List.mem_singleton.mp ht] at hl
        rw [he] at hx
        cases hx
        rw [lead_fun hl hl1]
        exact List.mem_append_right _ (List.mem_singleton.mpr rfl)
  walk_at "end"
theorem Tog.done {d : Wb.Gm} {u : List Nat} {E : List (List Nat)} {f : List Nat → List Int} {p : Nat} {S : List Int} (h : Tog d u E f p S) (hp : E.length ≤ p) : Wb.WT d u E f :=
  ⟨List.mem_of_getElem? h.zero, h.led, fun e he s e' hl => by
    obtain ⟨i, hi⟩ := List.getElem?_of_mem he
    exact h.cl i e hi (Nat.lt_of_lt_of_le (List.getElem?_eq_some_iff.mp hi).1 hp) s e' hl⟩
theorem oN_D (o : Option Nat) : ((vN o).getD .non) = vO o := by cases o <;> rfl
theorem lead_one {d : Wb.Gm} {e e1 : List Nat} {s : Int} : Wb.Lead d e [s] e1 ↔ e.map (fun x => d x s) = e1.map some := by
  unfold Wb.Lead
  rw [List.map_congr_left fun x _ => go_one]
/-- all are led, or some is not -/
theorem all_led (d : Wb.Gm) (e : List Nat) (s : Int) : ((e.map fun x => d x s).any (·.isNone) = false ∧ ∃ e1, Wb.Lead d e [s] e1) ∨ ((e.map fun x => d x s).any (·.isNone) = true ∧ ∀ e1, ¬ Wb.Lead d e [s] e1) := by
  cases c : (e.map fun x => d x s).any (·.isNone) with
  | true =>
    refine .inr ⟨rfl, fun e1 h => ?_⟩
    rw [lead_one.mp h, List.any_eq_true] at c
    obtain ⟨o, ho, hn⟩ := c
    obtain ⟨y, _, rfl⟩ := List.mem_map.mp ho
    cases hn
  | false =>
    refine .inl ⟨rfl, e.map (fun x => (d x s).getD 0), lead_one.mpr ?_⟩
    rw [List.map_map]
    refine List.map_congr_left fun x hx => ?_
    rw [List.any_eq_false] at c
    have := c (d x s) (List.mem_map.mpr ⟨x, hx, rfl⟩)
    cases o : d x s with
    | none => rw [o] at this; exact absurd rfl this
    | some y => show some y = some ((d x s).getD 0); rw [o]; rfl
theorem vO_some (e1 : List Nat) : (e1.map some).map vO = (tI e1).map V.int := by
  unfold tI
  rw [List.map_map, List.map_map]
  rfl
theorem r_tupLH {H : Hp} {Q : VK} {a : Addr} {xs : List V} (ha : SqL K H a xs) (q : ∀ p H1, H p = none → Ex H H1 → H1 p = some (.tup xs) → Q (.ref p) H1) : rTupU K [.ref a] H Q := ⟨a, _, rfl, .inl ⟨ha, alloc fun p H1 hp e h => q p H1 hp e h⟩⟩
end
end Lw
namespace Lw
open PySem PySem.Spec PyProof.Rows L2 Evl
local macro_rules | `(tactic| walk_at "go") => `(tactic| repeat (first
  | with_reducible refine st_seq ?_ | with_reducible refine st_set ?_ | with_reducible refine st_asg ?_ | with_reducible refine st_ret ?_ | with_reducible refine st_drop ?_ | with_reducible refine st_if ?_
  | with_reducible refine st_c ?_ | ((with_reducible refine' st_v ?h ?_); (case h => exact rfl)) | with_reducible refine st_n ?_ | with_reducible refine st_cons ?_ | with_reducible refine st_op ?_ | with_reducible refine st_un ?_
  | with_reducible refine st_cb ?_ | with_reducible refine st_test ?_ | with_reducible refine st_call ?_ | with_reducible refine st_callK ?_ | with_reducible refine st_sl ?_ | with_reducible refine st_par ?_ | with_reducible refine st_par3 ?_ | with_reducible refine st_tru ?_
  | with_reducible refine st_and ?_ | with_reducible refine st_or ?_ | with_reducible refine st_not ?_ | with_reducible refine st_B ?_ | with_reducible refine st_andV ?_ | with_reducible refine st_orV ?_ | with_reducible refine st_notV ?_ | with_reducible refine st_ifE ?_
  | with_reducible refine st_part ?_ | with_reducible refine st_nop ?_ | with_reducible refine st_sub ?_ | with_reducible refine st_chain ?_ | with_reducible refine st_chain3 ?_ | with_reducible refine st_lenSet ?_ | with_reducible refine st_bl ?_ | with_reducible refine st_in ?_ | with_reducible refine r_truB ?_
  | with_reducible refine st_nameG ?_ | with_reducible refine if_T ?_ | with_reducible refine if_F ?_ | with_reducible refine if_nT ?_ | with_reducible refine if_nF ?_
  | with_reducible refine r_add ?_ | with_reducible refine r_0 ?_ | with_reducible refine r_neg ?_ | with_reducible refine r_intI ?_ | with_reducible refine r_intB ?_ | with_reducible refine r_abs ?_ | with_reducible refine r_max2 ?_ | with_reducible refine r_min2 ?_ | with_reducible refine r_eqI ?_ | with_reducible refine r_neI ?_
  | with_reducible refine st_nxt ?_ | with_reducible refine st_cnt ?_ | with_reducible refine st_brk ?_ | with_reducible refine st_retn ?_
  | with_reducible refine st_lstN ?_ | with_reducible refine st_tupN ?_
  | with_reducible refine st_for ?_ | with_reducible refine st_lc ?_ | with_reducible refine st_lc2 ?_ | with_reducible refine st_rng1 ?_ | with_reducible refine st_rng2 ?_ | with_reducible refine st_rng3 ?_ | with_reducible refine st_itL ?_ | with_reducible refine st_itT ?_ | with_reducible refine st_rev ?_ | with_reducible refine st_enumE ?_ | with_reducible refine st_zip3 ?_ | with_reducible refine st_lvals ?_ | with_reducible refine st_fld ?_ | with_reducible refine st_sfld ?_ | with_reducible refine st_meth ?_ | with_reducible refine st_make ?_ | with_reducible refine st_rg1 ?_ | with_reducible refine st_enumS ?_ | with_reducible refine st_enumD ?_ | with_reducible refine st_lstIt ?_ | with_reducible refine st_dg1 ?_ | with_reducible refine st_dg2 ?_ | with_reducible refine st_dpop ?_ | with_reducible refine st_dset ?_ | with_reducible refine st_ckw ?_ | with_reducible refine st_dsetT ?_ | with_reducible refine st_dnewT ?_ | with_reducible refine st_dc ?_ | with_reducible refine st_keys ?_ | with_reducible refine st_dget ?_ | with_reducible refine st_din ?_ | with_reducible refine st_dnin ?_ | with_reducible refine st_dput ?_ | with_reducible refine st_dnew ?_ | with_reducible refine st_lstRg ?_ | with_reducible refine st_rg2 ?_ | with_reducible refine r_twoI ?_ | with_reducible refine st_bm ?_ | with_reducible refine st_bm0 ?_
  | ((with_reducible refine' st_aug ?h ?_); (case h => exact rfl)) | with_reducible refine r_augI ?_ | with_reducible refine r_eqB ?_
  | dsimp only))
section
variable {P : Program} {w : World} {K : PySem.W.Frag} {mg : Str → Option Value} {base : Heap} {A : Ad}
def sp_ways_together (K : PySem.W.Frag) : Sp := fun vs H Q _ => ∃ (L n : Nat) (d : Wb.Gm) (t p : Addr) (u : List Nat), vs = [.ref t, .ref p] ∧ TabH H t n d ∧ Wb.Gr L n d ∧ n ≤ 5 ∧ HTp H p (tI u) ∧ 0 < u.length ∧ u.Nodup ∧ (∀ x ∈ u, x < n) ∧
  ∀ W E g f H1, H W = none → Ex H H1 → H1 W = some (.dT (wm (E.map tI) g)) → WvH H1 E g f → E.Nodup → E.length ≤ 120 → (∀ e ∈ E, (f e).length ≤ 120 ∧ e.length = u.length) → Wb.WT d u E f → Q (.ref W) H1
theorem ok_ways_together (T : Tx K mg A) : FnOk P w K mg base CX0 1 A.a_ways_together A.f_ways_together P_ways_together (sp_ways_together K) := by
  refine Qt.drp ?_ ?_
  · refine T.F_ways_together.ok sc_ways_together (fun vs H Q E h => ?_) (fun cdv A' outer s H vs Q E hr h => ?_)
    · obtain ⟨L, n, d, t, p, u, rfl, _⟩ := h
      rfl
    · obtain ⟨L, n, d, t, p, u, rfl, tab, G, hn, hp, u0, nd, lt, q⟩ := h
      refine ⟨_, (pss_cons (ps_set (i := 2) sc_ways_together.nd rfl (Or.inl rfl) (pe_dispT (hu_of hr) (pv 1) (pe_tup pa_nil)))
        (pss_cons (ps_set (i := 3) sc_ways_together.nd rfl (Or.inl rfl) (pe_lst (pa_cons (pv 1) pa_nil)))
        (pss_cons (ps_set (i := 4) sc_ways_together.nd rfl (Or.inl rfl) pe_int)
        (pss_cons (ps_while PassesOwn.never (pt_cmpR op_lt (pv 4) (pe_callB (len_K K) (by rfl) T.n_len (by decide +kernel) (pa_cons (pv 3) pa_nil)) (nomark _)) (pss_cons (ps_set (i := 5) sc_ways_together.nd rfl (Or.inl rfl) (pe_ix (ix_K K) (pv 3) (pv 4) (fun _ _ => rfl)))
        (pss_cons (ps_lock (ps_for PassesOwn.never rfl (pi_keys (pe_ix (ix_K K) (pv 0) (pe_ix (ix_K K) (pv 5) pe_int (fun _ _ => rfl)) (fun _ _ => rfl))) (pg_name (i := 6) sc_ways_together.nd rfl (Or.inr rfl)) (pss_cons (ps_set (i := 7) sc_ways_together.nd rfl (Or.inl rfl) (pe_callTy (tuple_K K) (by rfl) T.n_tuple (by decide +kernel) (pa_cons (pe_lc (own := [("room", 8)]) rfl sc_ways_together.nd (pi_tupK K (pv 5)) (blkOk_by (own := [("room", 8)]) (N := N_ways_together) (sc := defScope s_ways_together) (by decide +kernel)) (fun _ _ _ _ _ => (pg_name (i := 8) sc_ways_together.nd rfl (Or.inl rfl))) (fun _ _ _ _ _ => pts_nil) (fun _ _ _ _ _ => (pe_dget1 (hu_of hr) (pe_ix (ix_K K) (pv 0) (pv 8) (fun _ _ => rfl)) (pv 6) ⟨rfl, rfl, rfl, rfl⟩))) pa_nil)))
        (pss_one (ps_if (PW.pt (pw_and (pt_cmpR (op_notInK K) pe_non (pv 7) (by rfl)) (pw_and1 (pt_cmp (pc_dnotin (hu_of hr) (pv 7) (pv 2)) (by rfl))))) (pss_cons (ps_dput (hu_of hr) (pv 2) (pv 7) (pe_op (op_addK K) (pe_dget (hu_of hr) (pv 2) (pv 5) (fun _ _ => rfl)) (pe_tup (pa_cons (pv 6) pa_nil))) (by rfl))
        (pss_one (ps_expr (pe_bmU K PySem.F.plainAttrs_list PySem.F.slot_list_append PySem.F.type_list_append mt_append (pv 3) (pa_cons (pv 7) pa_nil))))) pss_nil)))))
        (pss_one (ps_aug (i := 4) sc_ways_together.nd rfl (Or.inl rfl) pe_int ip_add)))))
        (pss_one (ps_ret (pv 2))))))), ?_⟩
      walk_at "go"
      intro W hW
      walk_at "go"
      refine r_newTT (u := []) (by simp) rfl fun z H1 hz e1 k1 => ?_
      have eW0 : Ex H (upd H W (.dT [])) := Ex.new hW
      have w0 := e1 _ _ (upd_same (H := H) (a := W) (o := .dT []))
      refine ⟨w0, tkey (tI u), p, rfl, (HTp.ex (hp.ex eW0) e1).key, ?_⟩
      obtain ⟨H2, hH2⟩ : ∃ H2, H2 = upd H1 W (.dT [(tkey (tI u), .ref z)]) := ⟨_, rfl⟩
      rw [← hH2]
      have nzW : z ≠ W := fun e => by rw [e, upd_same] at hz; cases hz
      have e2 : Ex H H2 := hH2 ▸ Ex.mut (eW0.trans e1) hW
      have hW2 : H2 W = some (.dT (wm ([u].map tI) fun _ => V.ref z)) := by rw [hH2, upd_same]; rfl
      have hz2 : HTp H2 z [] := by unfold HTp; rw [hH2, upd_ne nzW]; exact k1
      clear w0 k1 hz e1 eW0 hH2 nzW H1
      walk_at "go"
      refine r_newL (by simp) fun F H3 hF e3 k3 => ?_
      walk_at "go"
      have hF0 : H F = none := fresh_back e2 hF
      have nWF : W ≠ F := fun e => by rw [← e, hW2] at hF; cases hF
      refine st_while (fun m σ' H' => ∃ (k : Nat) (E : List (List Nat)) (g : List Int → V) (f : List Nat → List Int) (xs : List V) (v5 v6 v7 : Option V), m = 200 - k ∧ k ≤ E.length ∧ Ex H H' ∧ H' W = some (.dT (wm (E.map tI) g)) ∧ H' F = some (.lst xs) ∧ TuA H' xs E ∧ WvH H' E g f ∧ Tog d u E f k [] ∧
        σ' = [some (.ref t), some (.ref p), some (.ref W), some (.ref F), some (.int (k : Int)), v5, v6, v7, none]) 200
        ⟨0, [u], fun _ => .ref z, fun _ => [], [.ref p], none, none, none, rfl, Nat.zero_le _, e2.trans e3, e3 _ _ hW2, k3, ⟨rfl, fun i e he => by
          cases i with
          | zero => cases he; exact ⟨p, rfl, hp.ex (e2.trans e3)⟩
          | succ i => cases he⟩, ⟨fun e he => ⟨z, rfl, hz2.ex e3⟩⟩, Tog.start d u _ rfl, rfl⟩ fun m σ' H' zz => ?_
      obtain ⟨k, E, g, f, xs, v5, v6, v7, rfl, hk, e, hw, hf, tu, wv, T, rfl⟩ := zz
      have fit := T.fit G nd lt
      have e120 := few_rows hn T.nd fit
      walk_at "go"
      refine r_lenL (l_of hf) ?_
      rw [tu.len]
      walk_at "go"
      refine if_2 (fun hlt => ?_) fun hge => ?_
      · refine ⟨_, fun _ _ h => h, ?_⟩
        have hkl : k < E.length := by omega
        have hE := List.getElem?_eq_getElem hkl
        generalize E[k] = e0 at hE
        obtain ⟨p0, hp0, ht0⟩ := tu.at_ k e0 hE
        obtain ⟨l0, nd0, lt0⟩ := fit e0 (List.mem_of_getElem? hE)
        have le5 : e0.length ≤ 5 := Nat.le_trans (Wb.nodup_lt nd0 lt0) hn
        walk_at "go"
        refine r_ixL (l_of hf) (atI_at (by omega) hp0) ?_
        walk_at "go"
        obtain ⟨r0, hr0⟩ : ∃ r0, e0[0]? = some r0 := ⟨_, List.getElem?_eq_getElem (by omega)⟩
        obtain ⟨ds, dl, dt, dk⟩ := (tab.mono e).ex
        have lr0 := lt0 r0 (List.mem_of_getElem? hr0)
        obtain ⟨d0, hd0⟩ : ∃ d0, ds[r0]? = some d0 := ⟨_, List.getElem?_eq_getElem (by omega)⟩
        obtain ⟨kvs, kd, di⟩ := dk r0 d0 hd0
        obtain ⟨ns, nn, nm, rfl⟩ := di.dm
        have d0W : d0 ≠ W := fun z => by rw [z, hw] at kd; cases kd
        have d0F : d0 ≠ F := fun z => by rw [z, hf] at kd; cases kd
        have htab : ∀ H2 : Hp, ExW d0 H H2 → ∀ od, H2 d0 = some (.frz od (.dK (dm ns fun s => (vN (d r0 s)).getD .non))) → ∀ x i s (R : VK), ds[i]? = some x → R (vO (d i s)) H2 → rDG1b x (.int s) H2 R ∧ ∃ kv, Rd H2 x (.dK kv) := by
          intro H2 ew od fz x i s R hx r
          obtain ⟨kv, h1, h2⟩ := dk i x hx
          obtain ⟨ds', dl', dt', dk'⟩ := tab.ex
          have : ds' = ds := by
            have := (e _ _ dt').symm.trans dt
            have := HO.lst.inj (Option.some.inj this)
            exact List.map_inj_right (fun a b z => V.ref.inj z) |>.mp this
          subst this
          obtain ⟨kv', g1, g2⟩ := dk' i x hx
          by_cases c : x = d0
          · subst c
            have z := (e _ _ g1).symm.trans kd
            have z := HO.dK.inj (Option.some.inj z)
            have rd : Rd H2 x (.dK kv') := .inr ⟨od, by rw [z]; exact fz⟩
            exact ⟨r_dg1b rd g2 (by rw [oN_D]; exact r), kv', rd⟩
          · have rd : Rd H2 x (.dK kv') := .inl (ew _ _ g1 c)
            exact ⟨r_dg1b rd g2 (by rw [oN_D]; exact r), kv', rd⟩
        walk_at "go"
        refine r_lockK kd (fun od H3 R ew fz r => ?_) (fun i σ' H3 => ∃ (E : List (List Nat)) (g : List Int → V) (f : List Nat → List Int) (xs : List V) (v6 v7 : Option V), E[k]? = some e0 ∧ ExW d0 H H3 ∧ H3 W = some (.dT (wm (E.map tI) g)) ∧ H3 F = some (.lst xs) ∧ TuA H3 xs E ∧ WvH H3 E g f ∧ HTp H3 p0 (tI e0) ∧ Tog d u E f k (ns.take i) ∧
          σ' = [some (.ref t), some (.ref p), some (.ref W), some (.ref F), some (.int (k : Int)), some (.ref p0), v6, v7, none]) (fun od H3 ew fz => ?_) (fun od i s σ' H3 rt bk hx z fz => ?_) fun od σ' H3 z fz => ?_
        · walk_at "go"
          refine r_ixT (ht0.tx (tx_dk kd ew)).it (at_int (x := (r0 : Int)) (by decide) (by unfold tI; rw [show (0 : Int).toNat = 0 from rfl, List.getElem?_map, hr0]; rfl)) ?_
          walk_at "go"
          refine r_ixL (l_of (ew _ _ dt (fun z => by rw [← z, dt] at kd; cases kd))) (atI_at (x := .ref d0) (by omega) (by rw [Int.toNat_natCast, List.getElem?_map, hd0]; rfl)) ?_
          exact r
        · exact ⟨E, g, f, xs, v6, v7, hE, fun c o h n => ew _ _ (e _ _ h) n, ew _ _ hw d0W.symm, ew _ _ hf d0F.symm, tu.tx (tx_dk kd ew), wv.tx (tx_dk kd ew), ht0.tx (tx_dk kd ew), T, rfl⟩
        · obtain ⟨E, g, f, xs, v6, v7, hE, ew, hw, hf, tu, wv, ht0, T, rfl⟩ := z
          have fit := T.fit G nd lt
          have e120 := few_rows hn T.nd fit
          walk_at "go"
          refine r_itT ht0.it ?_
          refine r_cmT (ys := (e0.map fun x => d x s).map vO) ht0.it (by unfold tI; simp) (by simp; omega) (fun _ => rfl) (fun j x y H4 hx hy e4 Q' kk => ?_) fun l H4 hl e4 k4 => ?_
          · unfold tI at hx
            rw [List.map_map, List.getElem?_map] at hx
            rw [List.map_map, List.getElem?_map] at hy
            cases hej : e0[j]? with
            | none => rw [hej] at hx; cases hx
            | some z =>
              rw [hej] at hx hy
              cases hx
              cases hy
              have lz := lt0 z (List.mem_of_getElem? hej)
              obtain ⟨dz, hdz⟩ : ∃ dz, ds[z]? = some dz := ⟨_, List.getElem?_eq_getElem (by omega)⟩
              have ew4 : ExW d0 H H4 := fun c o h n => e4 _ _ (ew _ _ h n)
              have dt4 : H4 t = some (.lst (ds.map V.ref)) := by
                obtain ⟨ds', dl', dt', dk'⟩ := tab.ex
                have z := (e _ _ dt').symm.trans dt
                rw [← z] at *
                refine ew4 _ _ (dt'.trans z) fun z2 => ?_
                rw [← z2, dt] at kd
                cases kd
              walk_at "go"
              refine r_ixL (l_of dt4) (atI_at (x := .ref dz) (by simp) (by rw [List.getElem?_map]; show ((ds[z]?).map V.ref) = _; rw [hdz]; rfl)) ?_
              walk_at "go"
              obtain ⟨g1, kv, g2⟩ := htab H4 ew4 od (e4 _ _ fz) dz z s Q' hdz (kk H4 (Ex.refl H4))
              refine r_dg1 g2 ?_
              walk_at "go"
              exact g1
          walk_at "go"
          refine r_tupLH (l_of k4) fun c H5 hc e5 k5 => ?_
          have d0c : H5 d0 = some (.frz od (.dK (dm ns fun s => (vN (d r0 s)).getD .non))) := (e4.trans e5) _ _ fz
          have e45 := e4.trans e5
          have hw := e45 _ _ hw
          have hf := e45 _ _ hf
          have tu := tu.tx (TX.of e45)
          have wv := wv.tx (TX.of e45)
          have ht0 := ht0.tx (TX.of e45)
          have ew : ExW d0 H H5 := fun c o h n => e45 _ _ (ew _ _ h n)
          have hs : ns.take (i + 1) = ns.take i ++ [s] := take_snoc hx
          clear e4 e5 e45 k4 hl fz
          walk_at "go"
          refine r_ninOT (t_of k5) ?_
          rcases all_led d e0 s with ⟨h1, e1, hl1⟩ | ⟨h1, h2⟩
          · rw [h1]
            have kc : HTp H5 c (tI e1) := by unfold HTp; rw [k5, lead_one.mp hl1, vO_some]
            walk_at "go"
            refine r_wnin (.inl hw) kc ?_
            by_cases hin : e1 ∈ E
            · rw [decide_eq_true (tI_mem.mpr hin)]
              walk_at "go"
              refine ⟨⟨E, g, f, xs, _, _, hE, ew, hw, hf, tu, wv, ht0, ?_, rfl⟩, d0c⟩
              rw [hs]
              exact T.stay hE fun e' h => by rw [lead_fun h hl1]; exact hin
            · rw [decide_eq_false fun z => hin (tI_mem.mp z)]
              walk_at "go"
              obtain ⟨a0, ga, ha⟩ := wv.at_ e0 (List.mem_of_getElem? hE)
              refine r_wget (.inl hw) ht0 (tI_mem.mpr (List.mem_of_getElem? hE)) ?_
              walk_at "go"
              refine r_newTT (u := [s]) (by simp) rfl fun b H6 hb e6 k6 => ?_
              walk_at "go"
              rw [ga]
              refine r_catTT (ha.ex e6) k6 (by have := T.size _ _ hE; simp; omega) fun a1 H7 e7 k7 => ?_
              have e67 := e6.trans e7
              walk_at "go"
              refine r_wput (e67 _ _ hw) (kc.ex e67) (by rw [List.length_map]; omega) fun H8 e8 k8 => ?_
              walk_at "go"
              have nFW : F ≠ W := fun z => by rw [z, hw] at hf; cases hf
              have tx8 : TX H7 H8 := tx_dt (e67 _ _ hw) e8
              have hf8 := e8 _ _ (e67 _ _ hf) nFW
              refine r_app (l_of hf8) ?_
              walk_at "go"
              refine r_appd hf8 (by rw [tu.len]; omega) fun H9 e9 k9 => ?_
              have tx9 : TX H8 H9 := TX.w2 hf8 e9
              have tx : TX H5 H9 := ((TX.of e67).trans tx8).trans tx9
              have hw9 := e9 _ _ k8 nFW.symm
              have d09 : H9 d0 = some (.frz od (.dK (dm ns fun s => (vN (d r0 s)).getD .non))) := e9 _ _ (e8 _ _ (e67 _ _ d0c) d0W) d0F
              refine ⟨⟨E ++ [e1], fun x => if x = tI e1 then .ref a1 else g x, fun x => if x = e1 then f e0 ++ [s] else f x, xs ++ [.ref c], _, _, ?_, fun q o h n => e9 _ _ (e8 _ _ (e67 _ _ (ew _ _ h n)) (ne_of_none h hW)) (ne_of_none h hF0), ?_, k9, (tu.tx tx).snoc (kc.tx tx), ⟨fun y hy => ?_⟩, ht0.tx tx, ?_, rfl⟩, d09⟩
              · rw [List.getElem?_append_left (List.getElem?_eq_some_iff.mp hE).1]; exact hE
              · rw [hw9, List.map_append]
                unfold ins1
                rw [if_neg fun z => hin (tI_mem.mp z)]
                rfl
              · by_cases c1 : y = e1
                · subst c1
                  refine ⟨a1, if_pos rfl, ?_⟩
                  rw [if_pos rfl]
                  exact k7.tx (tx8.trans tx9)
                · have hy' : y ∈ E := (List.mem_append.mp hy).resolve_right fun z => c1 (List.mem_singleton.mp z)
                  obtain ⟨a2, g2, h2⟩ := wv.at_ y hy'
                  refine ⟨a2, (if_neg fun z => c1 (tI_inj z)).trans g2, ?_⟩
                  rw [if_neg c1]
                  exact h2.tx tx
              · rw [hs]
                exact T.put hE hl1 hin (fun x hx => if_neg hx) (if_pos rfl)
          · rw [h1]
            walk_at "go"
            refine ⟨⟨E, g, f, xs, _, _, hE, ew, hw, hf, tu, wv, ht0, ?_, rfl⟩, d0c⟩
            rw [hs]
            exact T.stay hE fun e' h => absurd h (h2 e')
        · obtain ⟨E, g, f, xs, v6, v7, hE, ew, hw, hf, tu, wv, ht0, T, rfl⟩ := z
          walk_at "go"
          have tx : TX H3 (upd H3 d0 (.dK (dm ns fun s => (vN (d r0 s)).getD .non))) := fun a ys q => upd_ne fun z => by
            rw [z, fz] at q
            rcases q with q | ⟨o, q⟩ <;> cases q
          refine ⟨200 - (k + 1), by have := (fit e0 (List.mem_of_getElem? ‹_›)); omega, k + 1, E, g, f, xs, _, _, _, rfl, (List.getElem?_eq_some_iff.mp hE).1, fun c o h => ?_, (upd_ne d0W.symm).trans hw, (upd_ne d0F.symm).trans hf, tu.tx tx, wv.tx tx, ?_, rfl⟩
          · by_cases c1 : c = d0
            · rw [c1] at h
              rw [c1, upd_same, ← kd]
              exact e _ _ h
            · rw [upd_ne c1]
              exact ew _ _ h c1
          · rw [List.take_length] at T
            refine T.next hE fun s e' hl => (nm s).mpr ?_
            obtain ⟨y, _, hy⟩ := hl.get hr0
            rw [go_one] at hy
            rw [hy]
            rfl
      · walk_at "go"
        have hkE : k = E.length := by omega
        refine q W E g f H' hW e hw wv T.nd e120 (fun x hx => ⟨?_, (fit x hx).1⟩) (T.done (by omega))
        obtain ⟨i, hi⟩ := List.getElem?_of_mem hx
        have := T.size i x hi
        have := (List.getElem?_eq_some_iff.mp hi).1
        omega
  walk_at "end"
end
end Lw
namespace Lw
open PySem PySem.Spec PyProof.Rows L2 Evl
local macro_rules | `(tactic| walk_at "go") => `(tactic| repeat (first
  | with_reducible refine st_seq ?_ | with_reducible refine st_set ?_ | with_reducible refine st_asg ?_ | with_reducible refine st_ret ?_ | with_reducible refine st_drop ?_ | with_reducible refine st_if ?_
  | with_reducible refine st_c ?_ | ((with_reducible refine' st_v ?h ?_); (case h => exact rfl)) | with_reducible refine st_n ?_ | with_reducible refine st_cons ?_ | with_reducible refine st_op ?_ | with_reducible refine st_un ?_
  | with_reducible refine st_cb ?_ | with_reducible refine st_test ?_ | with_reducible refine st_call ?_ | with_reducible refine st_callK ?_ | with_reducible refine st_sl ?_ | with_reducible refine st_par ?_ | with_reducible refine st_par3 ?_ | with_reducible refine st_tru ?_
  | with_reducible refine st_and ?_ | with_reducible refine st_or ?_ | with_reducible refine st_not ?_ | with_reducible refine st_B ?_ | with_reducible refine st_andV ?_ | with_reducible refine st_orV ?_ | with_reducible refine st_notV ?_ | with_reducible refine st_ifE ?_
  | with_reducible refine st_part ?_ | with_reducible refine st_nop ?_ | with_reducible refine st_sub ?_ | with_reducible refine st_chain ?_ | with_reducible refine st_chain3 ?_ | with_reducible refine st_lenSet ?_ | with_reducible refine st_bl ?_ | with_reducible refine st_in ?_ | with_reducible refine r_truB ?_
  | with_reducible refine st_nameG ?_ | with_reducible refine if_T ?_ | with_reducible refine if_F ?_ | with_reducible refine if_nT ?_ | with_reducible refine if_nF ?_
  | with_reducible refine r_add ?_ | with_reducible refine r_0 ?_ | with_reducible refine r_neg ?_ | with_reducible refine r_intI ?_ | with_reducible refine r_intB ?_ | with_reducible refine r_abs ?_ | with_reducible refine r_max2 ?_ | with_reducible refine r_min2 ?_ | with_reducible refine r_eqI ?_ | with_reducible refine r_neI ?_
  | with_reducible refine st_nxt ?_ | with_reducible refine st_cnt ?_ | with_reducible refine st_brk ?_ | with_reducible refine st_retn ?_
  | with_reducible refine st_lstN ?_ | with_reducible refine st_tupN ?_
  | with_reducible refine st_for ?_ | with_reducible refine st_lc ?_ | with_reducible refine st_lc2 ?_ | with_reducible refine st_rng1 ?_ | with_reducible refine st_rng2 ?_ | with_reducible refine st_rng3 ?_ | with_reducible refine st_itL ?_ | with_reducible refine st_itT ?_ | with_reducible refine st_rev ?_ | with_reducible refine st_enumE ?_ | with_reducible refine st_zip3 ?_ | with_reducible refine st_lvals ?_ | with_reducible refine st_fld ?_ | with_reducible refine st_sfld ?_ | with_reducible refine st_meth ?_ | with_reducible refine st_make ?_ | with_reducible refine st_rg1 ?_ | with_reducible refine st_enumS ?_ | with_reducible refine st_enumD ?_ | with_reducible refine st_lstIt ?_ | with_reducible refine st_dg1 ?_ | with_reducible refine st_dg2 ?_ | with_reducible refine st_dpop ?_ | with_reducible refine st_dset ?_ | with_reducible refine st_ckw ?_ | with_reducible refine st_dsetT ?_ | with_reducible refine st_dnewT ?_ | with_reducible refine st_dc ?_ | with_reducible refine st_keys ?_ | with_reducible refine st_dget ?_ | with_reducible refine st_din ?_ | with_reducible refine st_dnin ?_ | with_reducible refine st_dput ?_ | with_reducible refine st_dnew ?_ | with_reducible refine st_lstRg ?_ | with_reducible refine st_rg2 ?_ | with_reducible refine r_twoI ?_ | with_reducible refine st_bm ?_ | with_reducible refine st_bm0 ?_
  | ((with_reducible refine' st_aug ?h ?_); (case h => exact rfl)) | with_reducible refine r_augI ?_ | with_reducible refine r_eqB ?_
  | dsimp only))
section
variable {P : Program} {w : World} {K : PySem.W.Frag} {mg : Str → Option Value} {base : Heap} {A : Ad}
theorem r_forP {n r j : Nat} {σ : L2.St} {H : Hp} {D : Ends} {tb : TS} (Pv : Nat → L2.St → Hp → Prop) (h0 : Pv 0 σ H)
    (hs : ∀ i t T σ' H' H2, (Pm.prm n r)[i]? = some t → t ∈ Pm.rows n r → Pv i σ' H' → H' T = none → Ex H' H2 → HTp H2 T (tI t) → tb { D with nx := Pv (i + 1), ct := Pv (i + 1), bk := D.nx } (σ'.set j (some (.ref T))) H2)
    (hd : ∀ σ' H', Pv (Pm.prm n r).length σ' H' → D.nx σ' H') : rFor (Pm.ItP n r) (gName j) tb D σ H := by
  refine ⟨fun i m σ' H' => m = (Pm.prm n r).length - i ∧ i ≤ (Pm.prm n r).length ∧ Pv i σ' H', ⟨_, rfl, Nat.zero_le _, h0⟩, ?_⟩
  rintro i m σ' H' ⟨rfl, hi, p⟩
  rcases Nat.lt_or_ge i (Pm.prm n r).length with lt | ge
  · refine .inr ⟨lt, Pv (i + 1), fun σ2 H2 p => ⟨(Pm.prm n r).length - (i + 1), by omega, rfl, lt, p⟩, ?_⟩
    rintro v H6 ⟨T, t, rfl, hT, rfl, ht, hr⟩
    refine hs i t T σ' H' _ ht hr p hT (Ex.new hT) ?_
    unfold HTp tI
    rw [upd_same, List.map_map]
    rfl
  · have e2 : i = (Pm.prm n r).length := by omega
    subst e2
    exact .inl ⟨rfl, hd σ' H' p⟩
theorem st_perm {ta : TA} {σ : L2.St} {H : Hp} {R : It → Hp → Prop} (h : ta σ H fun vs H1 => ∃ (a : Addr) (n r : Nat), vs = [.ref a, .int r] ∧ H1 a = some (.rng 0 n) ∧ n ≤ 5 ∧ r ≤ n ∧ 0 < r ∧ R (Pm.ItP n r) H1) : Pm.iPerm ta σ H R := h
theorem tI_toNat (e : List Nat) : (tI e).map Int.toNat = e := by
  unfold tI
  rw [List.map_map]
  conv => rhs; rw [← List.map_id e]
  exact List.map_congr_left fun x _ => Int.toNat_natCast x
theorem met_few {n k : Nat} (hn : n ≤ 5) {M : List (List Int)} (nd : M.Nodup) (h : ∀ m ∈ M, ∃ e, m = tI e ∧ e ∈ Pm.rows n k) : M.length ≤ 120 := by
  have hE : M = (M.map fun m => m.map Int.toNat).map tI := by
    rw [List.map_map]
    conv => lhs; rw [← List.map_id M]
    refine List.map_congr_left fun m hm => ?_
    obtain ⟨e, rfl, _⟩ := h m hm
    show tI e = tI ((tI e).map Int.toNat)
    rw [tI_toNat]
  generalize (M.map fun m => m.map Int.toNat) = E' at hE
  subst hE
  rw [List.length_map]
  refine few_rows (k := k) hn (List.Pairwise.of_map tI (fun a b h1 h2 => h1 (by rw [h2])) nd) fun e he => ?_
  obtain ⟨e', h1, h2⟩ := h _ (List.mem_map.mpr ⟨e, he, rfl⟩)
  rw [tI_inj h1]
  exact Pm.row_lt h2
def sp_walk_in_circle (K : PySem.W.Frag) : Sp := fun vs H Q _ => ∃ (L n : Nat) (d : Wb.Gm) (t : Addr) (k : Nat), vs = [.ref t, .int (k : Int)] ∧ TabH H t n d ∧ Wb.Gr L n d ∧ n ≤ 5 ∧ 0 < k ∧ k ≤ n ∧ (¬ Wb.Circ d n k → ∀ H1, Ex H H1 → Q .non H1) ∧
  ∀ p a (u : List Nat) w (r0 : Nat) H1, Ex H H1 → H1 p = some (.tup [.int (r0 : Int), .ref a]) → HTp H1 a w → w.length ≤ 120 → u.length = k → u.Nodup → (∀ x ∈ u, x < n) → u[0]? = some r0 → Wb.Lead d u w (Wb.rot u) → Q (.ref p) H1
theorem ok_walk_in_circle (T : Tx K mg A) : FnOk P w K mg base CX0 2 A.a_walk_in_circle A.f_walk_in_circle P_walk_in_circle (sp_walk_in_circle K) := by
  refine Qt.drp ?_ ?_
  · refine T.F_walk_in_circle.ok sc_walk_in_circle (fun vs H Q E h => ?_) (fun cdv A' outer s H vs Q E hr h => ?_)
    · obtain ⟨L, n, d, t, k, rfl, _⟩ := h
      rfl
    · obtain ⟨L, n, d, t, k, rfl, tab, G, hn, k0, kn, q1, q2⟩ := h
      refine ⟨_, (pss_cons (ps_set (i := 2) sc_walk_in_circle.nd rfl (Or.inl rfl) pe_dnewT)
        (pss_cons (ps_for PassesOwn.never rfl (Pm.pi_perm rfl (by rfl) T.n_permutations (pa_cons (pe_callTy Pm.cr_range1 (by rfl) T.n_range (by decide +kernel) (pa_cons (pe_callB (len_K K) (by rfl) T.n_len (by decide +kernel) (pa_cons (pv 0) pa_nil)) pa_nil)) (pa_cons (pv 1) pa_nil))) (pg_name (i := 3) sc_walk_in_circle.nd rfl (Or.inl rfl)) (pss_one (ps_if (pt_cmp (pc_dnotin (hu_of hr) (pv 3) (pv 2)) (by rfl)) (pss_cons (ps_set (i := 4) sc_walk_in_circle.nd rfl (Or.inl rfl) (pe_call (ok_ways_together T) (hr.mono (by decide)) (by rfl) T.g_ways_together T.F_ways_together.kp T.b_ways_together .nil pass0 (pa_cons (pv 0) (pa_cons (pv 3) pa_nil))))
        (pss_cons (ps_set (i := 5) sc_walk_in_circle.nd rfl (Or.inl rfl) (pe_op (op_addK K) (pe_slice (sl_K K) (pv 3) (po_some pe_int) po_none) (pe_slice (sl_K K) (pv 3) po_none (po_some pe_int))))
        (pss_cons (ps_if (pt_cmp (pc_din (hu_of hr) (pv 5) (pv 4)) (by rfl)) (pss_one (ps_ret (pe_tup (pa_cons (pe_ix (ix_K K) (pv 3) pe_int (fun _ _ => rfl)) (pa_cons (pe_dget (hu_of hr) (pv 4) (pv 5) (fun _ _ => rfl)) pa_nil))))) pss_nil)
        (pss_one (ps_lock (ps_for PassesOwn.never rfl (pi_keys (pv 4)) (pg_name (i := 6) sc_walk_in_circle.nd rfl (Or.inl rfl)) (pss_one (ps_dput (hu_of hr) (pv 2) (pv 6) pe_bl (by rfl))))))))) pss_nil)))
        (pss_one (ps_ret pe_non)))), ?_⟩
      walk_at "go"
      intro W hW
      walk_at "go"
      obtain ⟨ds, dl, dt, _⟩ := tab.ex
      have e0 : Ex H (upd H W (.dT [])) := Ex.new hW
      refine st_perm ?_
      walk_at "go"
      refine r_lenL (l_of (e0 _ _ dt)) ?_
      rw [List.length_map, dl]
      walk_at "go"
      refine ⟨_, rfl, fun R hR => ?_⟩
      walk_at "go"
      have eR : Ex (upd H W (.dT [])) (upd (upd H W (.dT [])) R (.rng 0 n)) := Ex.new hR
      have nRW : R ≠ W := fun z => by rw [z, upd_same] at hR; cases hR
      refine ⟨R, n, k, rfl, upd_same, hn, kn, k0, ?_⟩
      have GD := Pm.good_of hn kn k0
      refine r_forP (fun i σ' H' => ∃ (M : List (List Int)) (v3 v4 v5 v6 : Option V), Ex H H' ∧ H' W = some (.dT (wm M fun _ => .bl true)) ∧ M.Nodup ∧ (∀ m ∈ M, ∃ e, m = tI e ∧ e ∈ Pm.rows n k ∧ ∀ w, ¬ Wb.Lead d e w (Wb.rot e)) ∧ (∀ j t, (Pm.prm n k)[j]? = some t → j < i → ∀ w, ¬ Wb.Lead d t w (Wb.rot t)) ∧
        σ' = [some (.ref t), some (.int (k : Int)), some (.ref W), v3, v4, v5, v6]) ⟨[], none, none, none, none, e0.trans eR, (upd_ne nRW.symm).trans upd_same, List.nodup_nil, fun m hm => (List.not_mem_nil hm).elim, fun j t _ h => absurd h (Nat.not_lt_zero _), rfl⟩ (fun i u T σ' H' H2 hu hur z hT e2 hTu => ?_) fun σ' H' z => ?_
      · obtain ⟨M, v3, v4, v5, v6, e, hw, nd, hM, hj, rfl⟩ := z
        have M120 := met_few hn nd fun m hm => let ⟨e, h1, h2, _⟩ := hM m hm; ⟨e, h1, h2⟩
        obtain ⟨ul, und, ult⟩ := Pm.row_lt hur
        have hw2 := e2 _ _ hw
        have e02 := e.trans e2
        walk_at "go"
        refine r_wnin (.inl hw2) hTu ?_
        by_cases hin : tI u ∈ M
        · rw [decide_eq_true hin]
          walk_at "go"
          refine ⟨M, _, _, _, _, e02, hw2, nd, hM, fun j t ht hlt => ?_, rfl⟩
          rcases Nat.lt_or_ge j i with c | c
          · exact hj j t ht c
          · have : j = i := by omega
            subst this
            rw [hu] at ht
            cases ht
            obtain ⟨e', h1, _, h3⟩ := hM _ hin
            rw [tI_inj h1]
            exact h3
        · rw [decide_eq_false hin]
          walk_at "go"
          refine ⟨L, n, d, t, T, u, rfl, tab.mono e02, G, hn, hTu, by omega, und, ult, fun D E g f H3 hD e3 hd wv End E120 hE WTu => ?_⟩
          walk_at "go"
          have e03 := e02.trans e3
          refine r_slTT (hTu.ex e3) (w := tI (u.drop 1)) (by rw [cut_from (by decide)]; unfold tI; simp only [List.map_drop]; rfl) fun b1 H4 e4 k4 => ?_
          walk_at "go"
          refine r_slTT ((hTu.ex e3).ex e4) (w := tI (u.take 1)) (by rw [cut_to (by decide)]; unfold tI; simp only [List.map_take]; rfl) fun b2 H5 e5 k5 => ?_
          walk_at "go"
          refine r_catTT (k4.ex e5) k5 (by unfold tI; simp; omega) fun b3 H6 e6 k6 => ?_
          have k6 : HTp H6 b3 (tI (Wb.rot u)) := by
            have : tI (Wb.rot u) = tI (u.drop 1) ++ tI (u.take 1) := by unfold tI Wb.rot; rw [List.map_append]
            rw [this]; exact k6
          have e46 := (e4.trans e5).trans e6
          walk_at "go"
          refine r_win (.inl (e46 _ _ hd)) k6 ?_
          by_cases hro : Wb.rot u ∈ E
          · rw [decide_eq_true (tI_mem.mpr hro)]
            walk_at "go"
            obtain ⟨r0, hr0⟩ : ∃ r0, u[0]? = some r0 := ⟨_, List.getElem?_eq_getElem (by omega)⟩
            refine r_ixT ((hTu.ex e3).ex e46).it (at_int (x := (r0 : Int)) (by decide) (by unfold tI; rw [show (0 : Int).toNat = 0 from rfl, List.getElem?_map, hr0]; rfl)) ?_
            walk_at "go"
            refine r_wget (.inl (e46 _ _ hd)) k6 (tI_mem.mpr hro) ?_
            obtain ⟨a, ga, ha⟩ := wv.at_ _ hro
            rw [ga]
            walk_at "go"
            refine r_newT (by simp) fun p H7 hp e7 k7 => ?_
            exact q2 p a u (f (Wb.rot u)) r0 H7 ((e03.trans e46).trans e7) k7 ((ha.ex e46).ex e7) (hE _ hro).1 ul und ult hr0 (WTu.led _ hro)
          · rw [decide_eq_false fun z => hro (tI_mem.mp z)]
            walk_at "go"
            have hwn : H6 W = some (.dT (wm M fun _ => .bl true)) := e46 _ _ (e3 _ _ hw2)
            have hD0 : H D = none := fresh_back e02 hD
            have nWD : W ≠ D := fun z => by rw [z] at hw2; rw [hw2] at hD; cases hD
            have no := fun e he w => WTu.no G hro (e := e) he w
            have rw0 : ∀ e ∈ E, e ∈ Pm.rows n k := fun e he => by
              have l := WTu.led e he
              rw [← ul, l.len]
              exact Pm.row_of e (l.nodup G und) (l.lt G ult)
            refine r_lockW (E := E.map tI) (f := g) rfl (e46 _ _ hd) (fun i' σ' H' => ∃ (M' : List (List Int)) (v6 : Option V), Ex H H' ∧ H' W = some (.dT (wm M' fun _ => .bl true)) ∧ M'.Nodup ∧ (∀ m ∈ M', ∃ e, m = tI e ∧ e ∈ Pm.rows n k ∧ ∀ w, ¬ Wb.Lead d e w (Wb.rot e)) ∧
              σ' = [some (.ref t), some (.int (k : Int)), some (.ref W), some (.ref T), some (.ref D), some (.ref b3), v6]) (fun od H7 e7 k7 => ?_) (fun od i' x q σ' H7 rt bk hx z fz hq => ?_) fun od σ' H7 z fz => ?_
            · exact ⟨M, _, fun c o h => e7 _ _ ((e03.trans e46) _ _ h) (ne_of_none h hD0), e7 _ _ hwn nWD, nd, hM, rfl⟩
            · obtain ⟨M', v6, e8, hw8, nd8, hM8, rfl⟩ := z
              have M8 := met_few hn nd8 fun m hm => let ⟨e, h1, h2, _⟩ := hM8 m hm; ⟨e, h1, h2⟩
              walk_at "go"
              refine r_wput hw8 hq (by omega) fun H9 e9 k9 => ?_
              walk_at "go"
              refine ⟨⟨ins1 M' x, _, fun c o h => e9 _ _ (e8 _ _ h) (ne_of_none h hW), ?_, ins1_nodup nd8, fun m hm => ?_, rfl⟩, e9 _ _ fz nWD.symm⟩
              · rw [k9]
                congr 2
                exact wm_congr fun _ _ => by split <;> rfl
              · rcases mem_ins1.mp hm with hm | rfl
                · exact hM8 m hm
                · obtain ⟨e, he, h1⟩ := List.mem_map.mp (List.mem_of_getElem? hx)
                  exact ⟨e, h1.symm, rw0 e he, no e he⟩
            · obtain ⟨M', v6, e8, hw8, nd8, hM8, rfl⟩ := z
              refine ⟨M', _, _, _, _, fun c o h => (upd_ne (ne_of_none h hD0)).trans (e8 _ _ h), (upd_ne nWD).trans hw8, nd8, hM8, fun j t ht hlt => ?_, rfl⟩
              rcases Nat.lt_or_ge j i with c | c
              · exact hj j t ht c
              · have : j = i := by omega
                subst this
                rw [hu] at ht
                cases ht
                exact no u WTu.mem
      · obtain ⟨M, v3, v4, v5, v6, e, hw, nd, hM, hj, rfl⟩ := z
        walk_at "go"
        refine q1 (fun ⟨u, w, ul, und, ult, hl⟩ => ?_) H' e
        obtain ⟨j, hj'⟩ := List.getElem?_of_mem (GD.every u (ul ▸ Pm.row_of u und ult))
        exact hj j u hj' (List.getElem?_eq_some_iff.mp hj').1 w hl
  walk_at "end"
end
end Lw
namespace Lw
open PySem PySem.Spec PyProof.Rows L2 Evl
local macro_rules | `(tactic| walk_at "go") => `(tactic| repeat (first
  | with_reducible refine st_seq ?_ | with_reducible refine st_set ?_ | with_reducible refine st_asg ?_ | with_reducible refine st_ret ?_ | with_reducible refine st_drop ?_ | with_reducible refine st_if ?_
  | with_reducible refine st_c ?_ | ((with_reducible refine' st_v ?h ?_); (case h => exact rfl)) | with_reducible refine st_n ?_ | with_reducible refine st_cons ?_ | with_reducible refine st_op ?_ | with_reducible refine st_un ?_
  | with_reducible refine st_cb ?_ | with_reducible refine st_test ?_ | with_reducible refine st_call ?_ | with_reducible refine st_callK ?_ | with_reducible refine st_sl ?_ | with_reducible refine st_par ?_ | with_reducible refine st_par3 ?_ | with_reducible refine st_tru ?_
  | with_reducible refine st_and ?_ | with_reducible refine st_or ?_ | with_reducible refine st_not ?_ | with_reducible refine st_B ?_ | with_reducible refine st_andV ?_ | with_reducible refine st_orV ?_ | with_reducible refine st_notV ?_ | with_reducible refine st_ifE ?_
  | with_reducible refine st_part ?_ | with_reducible refine st_nop ?_ | with_reducible refine st_sub ?_ | with_reducible refine st_chain ?_ | with_reducible refine st_chain3 ?_ | with_reducible refine st_lenSet ?_ | with_reducible refine st_bl ?_ | with_reducible refine st_in ?_ | with_reducible refine r_truB ?_
  | with_reducible refine st_nameG ?_ | with_reducible refine if_T ?_ | with_reducible refine if_F ?_ | with_reducible refine if_nT ?_ | with_reducible refine if_nF ?_
  | with_reducible refine r_add ?_ | with_reducible refine r_0 ?_ | with_reducible refine r_neg ?_ | with_reducible refine r_intI ?_ | with_reducible refine r_intB ?_ | with_reducible refine r_abs ?_ | with_reducible refine r_max2 ?_ | with_reducible refine r_min2 ?_ | with_reducible refine r_eqI ?_ | with_reducible refine r_neI ?_
  | with_reducible refine st_nxt ?_ | with_reducible refine st_cnt ?_ | with_reducible refine st_brk ?_ | with_reducible refine st_retn ?_
  | with_reducible refine st_lstN ?_ | with_reducible refine st_tupN ?_
  | with_reducible refine st_for ?_ | with_reducible refine st_lc ?_ | with_reducible refine st_lc2 ?_ | with_reducible refine st_rng1 ?_ | with_reducible refine st_rng2 ?_ | with_reducible refine st_rng3 ?_ | with_reducible refine st_itL ?_ | with_reducible refine st_itT ?_ | with_reducible refine st_rev ?_ | with_reducible refine st_enumE ?_ | with_reducible refine st_zip3 ?_ | with_reducible refine st_lvals ?_ | with_reducible refine st_fld ?_ | with_reducible refine st_sfld ?_ | with_reducible refine st_meth ?_ | with_reducible refine st_make ?_ | with_reducible refine st_rg1 ?_ | with_reducible refine st_enumS ?_ | with_reducible refine st_enumD ?_ | with_reducible refine st_lstIt ?_ | with_reducible refine st_dg1 ?_ | with_reducible refine st_dg2 ?_ | with_reducible refine st_dpop ?_ | with_reducible refine st_dset ?_ | with_reducible refine st_ckw ?_ | with_reducible refine st_dsetT ?_ | with_reducible refine st_dnewT ?_ | with_reducible refine st_dc ?_ | with_reducible refine st_keys ?_ | with_reducible refine st_dget ?_ | with_reducible refine st_din ?_ | with_reducible refine st_dnin ?_ | with_reducible refine st_dput ?_ | with_reducible refine st_dnew ?_ | with_reducible refine st_lstRg ?_ | with_reducible refine st_rg2 ?_ | with_reducible refine r_twoI ?_ | with_reducible refine st_bm ?_ | with_reducible refine st_bm0 ?_
  | ((with_reducible refine' st_aug ?h ?_); (case h => exact rfl)) | with_reducible refine r_augI ?_ | with_reducible refine r_eqB ?_
  | dsimp only))
section
variable {P : Program} {w : World} {K : PySem.W.Frag} {mg : Str → Option Value} {base : Heap} {A : Ad}
def sp_first_ways (K : PySem.W.Frag) : Sp := fun vs H Q _ => ∃ (L n : Nat) (d : Wb.Gm) (p : Addr), vs = [.int (L : Int), .ref p] ∧ TabH H p n d ∧ Wb.Web L n d ∧ n ≤ 1000 ∧ ∀ a xs H1, Ex H H1 → H a = none → H1 a = some (.lst xs) → WkA K H1 xs (Wb.fws L n d) → Q (.ref a) H1
theorem ok_first_ways (T : Tx K mg A) : FnOk P w K mg base CX0 3 A.a_first_ways A.f_first_ways P_first_ways (sp_first_ways K) := by
  refine Qt.drp ?_ ?_
  · refine T.F_first_ways.ok sc_first_ways (fun vs H Q E h => ?_) (fun cdv A' outer s H vs Q E hr h => ?_)
    · obtain ⟨L, n, d, p, rfl, _⟩ := h
      rfl
    · obtain ⟨L, n, d, p, rfl, tab, W, hn, q⟩ := h
      have hp0 := W.pos
      have l4 := W.l4
      refine ⟨_, (pss_cons (ps_set (i := 2) sc_first_ways.nd rfl (Or.inl rfl) (pe_lst (pa_cons (pe_tup pa_nil) pa_nil)))
        (pss_cons (ps_set (i := 3) sc_first_ways.nd rfl (Or.inl rfl) (pe_call (ok_first_reached T) (hr.mono (by decide)) (by rfl) T.g_first_reached T.F_first_reached.kp T.b0_first_reached.choose_spec.2 T.b0_first_reached.choose_spec.1 pass0 (pa_cons (pv 0) (pa_cons (pv 1) pa_nil))))
        (pss_cons (ps_for PassesOwn.never rfl (pi_range2 (by rfl) T.n_range (pa_cons pe_int (pa_cons (pe_callB (len_K K) (by rfl) T.n_len (by decide +kernel) (pa_cons (pv 1) pa_nil)) pa_nil))) (pg_name (i := 4) sc_first_ways.nd rfl (Or.inl rfl)) (pss_cons (ps_asg (pe_dget (hu_of hr) (pv 3) (pv 4) (fun _ _ => rfl)) (pg_tupK K (by rfl) (pgs_cons (pg_name (i := 5) sc_first_ways.nd rfl (Or.inl rfl)) (pgs_cons (pg_name (i := 6) sc_first_ways.nd rfl (Or.inl rfl)) pgs_nil))))
        (pss_one (ps_expr (pe_bmU K PySem.F.plainAttrs_list PySem.F.slot_list_append PySem.F.type_list_append mt_append (pv 2) (pa_cons (pe_op (op_addK K) (pe_ix (ix_K K) (pv 2) (pv 5) (fun _ _ => rfl)) (pe_tup (pa_cons (pv 6) pa_nil))) pa_nil))))))
        (pss_one (ps_ret (pv 2)))))), ?_⟩
      walk_at "go"
      refine r_newT (by simp) fun t H1 ht e1 k1 => ?_
      walk_at "go"
      refine r_newL (by simp) fun c H2 hc e2 k2 => ?_
      have hc0 : H c = none := fresh_back e1 hc
      walk_at "go"
      refine ⟨L, n, 0, d, p, rfl, l4, W.gr, tab.mono (e1.trans e2), hp0, hn, fun b kvs H3 hb e3 k3 rch => ?_⟩
      have e13 := (e1.trans e2).trans e3
      have kc := e3 _ _ k2
      have nbc : b ≠ c := fun z => by rw [z, k2] at hb; cases hb
      have w0 : WkA K H3 [V.ref t] [[]] := ⟨rfl, fun i x w h1 h2 => by
        cases i with
        | zero => cases h1; cases h2; exact ⟨t, rfl, t_of (e3 _ _ (e2 _ _ k1))⟩
        | succ i => simp at h1⟩
      have f0 : (Wb.fws L n d).take 1 = [[]] := by
        have h := Wb.fws_at W hp0
        rw [Wb.fw_zero W] at h
        have := L2.take_snoc h
        rw [List.take_zero] at this
        exact this
      obtain ⟨ds, zd, hpd, _⟩ := tab.ex
      walk_at "go"
      refine r_lenL (l_of (e13 _ _ hpd)) ?_
      rw [List.length_map, zd]
      walk_at "go"
      refine r_rng2 ⟨by omega, by omega, by omega, by omega⟩ ?_
      rw [show ((n : Int) - 1).toNat = n - 1 by omega]
      refine r_forR (lo := 1) (m := n - 1) (fun i σ' H' => ∃ (xs : List V) (v4 v5 v6 : Option V), Ex H H' ∧ H' c = some (.lst xs) ∧ WkA K H' xs ((Wb.fws L n d).take (1 + i)) ∧ H' b = some (.dK kvs) ∧ RchH K H' kvs (Wb.bfs L n d 0) ∧ σ' = [some (.int (L : Int)), some (.ref p), some (.ref c), some (.ref b), v4, v5, v6]) ⟨_, none, none, none, e13, kc, by rw [show 1 + 0 = 1 from rfl, f0]; exact w0, k3, rch, rfl⟩ (fun i σ' H' hi z => ?_) (fun σ' H' z => ?_)
      · obtain ⟨xs, v4, v5, v6, e, kc, wa, kb, rch, rfl⟩ := z
        obtain ⟨r, s0, h1, h2, h3, h4⟩ := Wb.web_par W (g := 1 + i) (by omega) (by omega)
        have ok := Wb.bfs_ok W.gr hp0
        obtain ⟨v, hv, wv⟩ := rch.get ok.nodup h1
        obtain ⟨pv', rfl, hpv⟩ := wv
        have fl := Wb.fws_len W
        have zx : xs.length = 1 + i := by rw [wa.len, List.length_take]; omega
        have hrn : r < n := by omega
        have hfr : ((Wb.fws L n d).take (1 + i))[r]? = some (Wb.fw L n d r) := by
          rw [List.getElem?_take_of_lt h3]
          exact Wb.fws_at W hrn
        have hxr := List.getElem?_eq_getElem (l := xs) (i := r) (by omega)
        obtain ⟨pr, epr, hpr⟩ := wa.at' r _ _ hxr hfr
        rw [epr] at hxr
        have lr := (Wb.fw_go W r hrn).2.2
        walk_at "go"
        refine r_dget (x := 1 + (i : Int)) (.inl kb) (by rw [show (1 : Int) + (i : Int) = ((1 + i : Nat) : Int) by omega]; exact hv) ?_
        refine r_tup2 hpv ?_
        walk_at "go"
        refine r_app (l_of kc) ?_
        walk_at "go"
        refine r_ixL (l_of kc) (atI_at (by omega) (by rw [Int.toNat_natCast]; exact hxr)) ?_
        walk_at "go"
        refine r_newT (by simp) fun t2 H4 ht2 e4 k4 => ?_
        walk_at "go"
        refine r_catT (ex_t e4 hpr) (ys := [V.int s0]) (t_of k4) (by rw [List.length_map, List.length_singleton]; omega) fun t3 H5 e5 k5 => ?_
        have e45 := e4.trans e5
        walk_at "go"
        refine r_appd (e45 _ _ kc) (by omega) fun H6 e6 k6 => ?_
        have tx := TX.w2 (e45 _ _ kc) e6
        walk_at "go"
        refine ⟨_, _, _, _, fun q o h => e6 q o (e45 q o (e q o h)) (ne_of_none h hc0), k6, ?_, e6 _ _ (e45 _ _ kb) nbc, rch.mono ((TX.of e45).trans tx), rfl⟩
        have hf := Wb.fws_at W (g := 1 + i) (by omega)
        rw [h4] at hf
        rw [← Nat.add_assoc, L2.take_snoc hf]
        refine ((wa.ex e45).tx tx).snoc ⟨t3, rfl, tx_t tx ?_⟩
        show SqT K H5 t3 ((Wb.fw L n d r ++ [s0]).map V.int)
        rw [List.map_append]
        exact k5
      · obtain ⟨xs, v4, v5, v6, e, kc, wa, kb, rch, rfl⟩ := z
        rw [show 1 + (n - 1) = n by omega, List.take_of_length_le (by rw [Wb.fws_len W]; exact Nat.le_refl _)] at wa
        walk_at "go"
        exact q c xs H' e hc0 kc wa
  walk_at "end"
end
end Lw
namespace Lw
open PySem PySem.Spec PyProof.Rows L2 Evl
local macro_rules | `(tactic| walk_at "go") => `(tactic| repeat (first
  | with_reducible refine st_seq ?_ | with_reducible refine st_set ?_ | with_reducible refine st_asg ?_ | with_reducible refine st_ret ?_ | with_reducible refine st_drop ?_ | with_reducible refine st_if ?_
  | with_reducible refine st_c ?_ | ((with_reducible refine' st_v ?h ?_); (case h => exact rfl)) | with_reducible refine st_n ?_ | with_reducible refine st_cons ?_ | with_reducible refine st_op ?_ | with_reducible refine st_un ?_
  | with_reducible refine st_cb ?_ | with_reducible refine st_test ?_ | with_reducible refine st_call ?_ | with_reducible refine st_callK ?_ | with_reducible refine st_sl ?_ | with_reducible refine st_par ?_ | with_reducible refine st_par3 ?_ | with_reducible refine st_tru ?_
  | with_reducible refine st_and ?_ | with_reducible refine st_or ?_ | with_reducible refine st_not ?_ | with_reducible refine st_B ?_ | with_reducible refine st_andV ?_ | with_reducible refine st_orV ?_ | with_reducible refine st_notV ?_ | with_reducible refine st_ifE ?_
  | with_reducible refine st_part ?_ | with_reducible refine st_nop ?_ | with_reducible refine st_sub ?_ | with_reducible refine st_chain ?_ | with_reducible refine st_chain3 ?_ | with_reducible refine st_lenSet ?_ | with_reducible refine st_bl ?_ | with_reducible refine st_in ?_ | with_reducible refine r_truB ?_
  | with_reducible refine st_nameG ?_ | with_reducible refine if_T ?_ | with_reducible refine if_F ?_ | with_reducible refine if_nT ?_ | with_reducible refine if_nF ?_
  | with_reducible refine r_add ?_ | with_reducible refine r_0 ?_ | with_reducible refine r_neg ?_ | with_reducible refine r_intI ?_ | with_reducible refine r_intB ?_ | with_reducible refine r_abs ?_ | with_reducible refine r_max2 ?_ | with_reducible refine r_min2 ?_ | with_reducible refine r_eqI ?_ | with_reducible refine r_neI ?_
  | with_reducible refine st_nxt ?_ | with_reducible refine st_cnt ?_ | with_reducible refine st_brk ?_ | with_reducible refine st_retn ?_
  | with_reducible refine st_lstN ?_ | with_reducible refine st_tupN ?_
  | with_reducible refine st_for ?_ | with_reducible refine st_lc ?_ | with_reducible refine st_lc2 ?_ | with_reducible refine st_rng1 ?_ | with_reducible refine st_rng2 ?_ | with_reducible refine st_rng3 ?_ | with_reducible refine st_itL ?_ | with_reducible refine st_itT ?_ | with_reducible refine st_rev ?_ | with_reducible refine st_enumE ?_ | with_reducible refine st_zip3 ?_ | with_reducible refine st_lvals ?_ | with_reducible refine st_fld ?_ | with_reducible refine st_sfld ?_ | with_reducible refine st_meth ?_ | with_reducible refine st_make ?_ | with_reducible refine st_rg1 ?_ | with_reducible refine st_enumS ?_ | with_reducible refine st_enumD ?_ | with_reducible refine st_lstIt ?_ | with_reducible refine st_dg1 ?_ | with_reducible refine st_dg2 ?_ | with_reducible refine st_dpop ?_ | with_reducible refine st_dset ?_ | with_reducible refine st_ckw ?_ | with_reducible refine st_dsetT ?_ | with_reducible refine st_dnewT ?_ | with_reducible refine st_dc ?_ | with_reducible refine st_keys ?_ | with_reducible refine st_dget ?_ | with_reducible refine st_din ?_ | with_reducible refine st_dnin ?_ | with_reducible refine st_dput ?_ | with_reducible refine st_dnew ?_ | with_reducible refine st_lstRg ?_ | with_reducible refine st_rg2 ?_ | with_reducible refine r_twoI ?_ | with_reducible refine st_bm ?_ | with_reducible refine st_bm0 ?_
  | ((with_reducible refine' st_aug ?h ?_); (case h => exact rfl)) | with_reducible refine r_augI ?_ | with_reducible refine r_eqB ?_
  | dsimp only))
section
variable {P : Program} {w : World} {K : PySem.W.Frag} {mg : Str → Option Value} {base : Heap} {A : Ad}
theorem wka_at {K : PySem.W.Frag} {H : Hp} {xs : List V} {ws : List (List Int)} (h : WkA K H xs ws) {i : Nat} {w : List Int} (hw : ws[i]? = some w) : ∃ a, xs[i]? = some (.ref a) ∧ IT K H a w := by
  have hi : i < xs.length := by rw [h.len]; exact (List.getElem?_eq_some_iff.mp hw).1
  have hx := List.getElem?_eq_getElem hi
  obtain ⟨a, e, ha⟩ := h.at' i _ w hx hw
  exact ⟨a, by rw [hx, e], ha⟩
/-- the most rooms that are led round -/
def Mx (d : Wb.Gm) (n m : Nat) : Prop := 1 ≤ m ∧ m ≤ n ∧ Wb.Circ d n m ∧ ∀ j, m < j → ¬ Wb.Circ d n j
theorem Mx.one {d : Wb.Gm} {n a b : Nat} (h : Mx d n a) (k : Mx d n b) : a = b := by
  rcases Nat.lt_trichotomy a b with c | c | c
  · exact absurd k.2.2.1 (h.2.2.2 b c)
  · exact c
  · exact absurd h.2.2.1 (k.2.2.2 a c)
def sp_most_in_circle (K : PySem.W.Frag) : Sp := fun vs H Q _ => ∃ (L n : Nat) (d : Wb.Gm) (t : Addr), vs = [.ref t] ∧ TabH H t n d ∧ Wb.Gr L n d ∧ 0 < n ∧ n ≤ 5 ∧ ∀ m H1, Ex H H1 → Mx d n m → Q (.int (m : Int)) H1
theorem ok_most_in_circle (T : Tx K mg A) : FnOk P w K mg base CX0 3 A.a_most_in_circle A.f_most_in_circle P_most_in_circle (sp_most_in_circle K) := by
  refine Qt.drp ?_ ?_
  · refine T.F_most_in_circle.ok sc_most_in_circle (fun vs H Q E h => ?_) (fun cdv A' outer s H vs Q E hr h => ?_)
    · obtain ⟨L, n, d, t, rfl, _⟩ := h
      rfl
    · obtain ⟨L, n, d, t, rfl, tab, G, n0, hn, q⟩ := h
      refine ⟨_, (pss_cons (ps_set (i := 1) sc_most_in_circle.nd rfl (Or.inl rfl) (pe_callB (len_K K) (by rfl) T.n_len (by decide +kernel) (pa_cons (pv 0) pa_nil)))
        (pss_cons (ps_while PassesOwn.never (pt_cmpR op_isN (pe_call (ok_walk_in_circle T) (hr.mono (by decide)) (by rfl) T.g_walk_in_circle T.F_walk_in_circle.kp T.b_walk_in_circle .nil pass0 (pa_cons (pv 0) (pa_cons (pv 1) pa_nil))) pe_non (nomark _)) (pss_one (ps_aug (i := 1) sc_most_in_circle.nd rfl (Or.inl rfl) pe_int ip_sub)))
        (pss_one (ps_ret (pv 1))))), ?_⟩
      walk_at "go"
      obtain ⟨ds, dl, dt, _⟩ := tab.ex
      refine r_lenL (l_of dt) ?_
      rw [List.length_map, dl]
      walk_at "go"
      refine st_while (fun k σ' H' => 1 ≤ k ∧ k ≤ n ∧ Ex H H' ∧ (∀ j, k < j → ¬ Wb.Circ d n j) ∧ σ' = [some (.ref t), some (.int (k : Int))]) n ⟨n0, Nat.le_refl _, Ex.refl H, fun j hj h => by have := Wb.circ_le h; omega, rfl⟩ fun k σ' H' z => ?_
      obtain ⟨k1, kn, e, hj, rfl⟩ := z
      walk_at "go"
      refine ⟨L, n, d, t, k, rfl, tab.mono e, G, hn, k1, kn, fun hc H1 e1 => ?_, fun p a u w r0 H1 e1 h1 h2 h3 h4 h5 h6 h7 h8 => ?_⟩
      · refine ⟨rfl, _, rfl, ?_⟩
        rw [if_pos (decide_eq_true rfl)]
        refine ⟨_, fun _ _ h => h, ?_⟩
        walk_at "go"
        have k2 : 2 ≤ k := by
          rcases Nat.lt_or_ge k 2 with c | c
          · have : k = 1 := by omega
            subst this
            exact absurd (Wb.circ_one d n0) hc
          · exact c
        refine ⟨k - 1, by omega, by omega, by omega, e.trans e1, fun j hlt => ?_, by rw [show (k : Int) - 1 = ((k - 1 : Nat) : Int) by omega]; rfl⟩
        rcases Nat.lt_or_ge k j with c | c
        · exact hj j c
        · have : j = k := by omega
          rw [this]; exact hc
      · refine ⟨rfl, _, rfl, ?_⟩
        rw [if_neg (by simp)]
        walk_at "go"
        exact q k H1 (e.trans e1) ⟨k1, kn, ⟨u, w, h4, h5, h6, h8⟩, hj⟩
  walk_at "end"
def sp_power_walk (K : PySem.W.Frag) : Sp := fun vs H Q _ => ∃ (L n : Nat) (d : Wb.Gm) (a : Addr) (k : Int), vs = [.ref a, .int k] ∧ WebH K H a L n d ∧ Wb.Web L n d ∧ n ≤ 5 ∧ 1 ≤ k ∧ ((∀ m : Nat, k = m → ¬ Wb.Circ d n m) → ∀ H1, Ex H H1 → Q .non H1) ∧
  ∀ (m : Nat) p u H1, Ex H H1 → k = m → Wb.Circ d n m → IT K H1 p u → u.length ≤ 200 → Od.G L none u → (∀ j, 0 < j → j ≤ m → (Fo.Bl d (Fg.rep j u) ↔ j = m)) → Q (.ref p) H1
theorem ok_power_walk (T : Tx K mg A) : FnOk P w K mg base CX0 6 A.a_power_walk A.f_power_walk P_power_walk (sp_power_walk K) := by
  refine Qt.drp ?_ ?_
  · refine T.F_power_walk.ok sc_power_walk (fun vs H Q E h => ?_) (fun cdv A' outer s H vs Q E hr h => ?_)
    · obtain ⟨L, n, d, a, k, rfl, _⟩ := h
      rfl
    · obtain ⟨L, n, d, a, k, rfl, hw, W, hn, k1, q1, q2⟩ := h
      refine ⟨_, (pss_cons (ps_set (i := 2) sc_power_walk.nd rfl (Or.inl rfl) (pe_call (ok_checked_table T) (hr.mono (by decide)) (by rfl) T.g_checked_table T.F_checked_table.kp T.b_checked_table .nil pass0 (pa_cons (pv 0) pa_nil)))
        (pss_cons (ps_expr (pe_call (ok_check_least T) (hr.mono (by decide)) (by rfl) T.g_check_least T.F_check_least.kp T.b_check_least .nil pass0 (pa_cons (pv 1) (pa_cons pe_int pa_nil))))
        (pss_cons (ps_if (pt_cmpR op_gt (pv 1) (pe_callB (len_K K) (by rfl) T.n_len (by decide +kernel) (pa_cons (pv 2) pa_nil)) (nomark _)) (pss_one (ps_ret pe_non)) pss_nil)
        (pss_cons (ps_set (i := 3) sc_power_walk.nd rfl (Or.inl rfl) (pe_call (ok_walk_in_circle T) (hr.mono (by decide)) (by rfl) T.g_walk_in_circle T.F_walk_in_circle.kp T.b_walk_in_circle .nil pass0 (pa_cons (pv 2) (pa_cons (pv 1) pa_nil))))
        (pss_cons (ps_if (pt_cmpR op_isN (pv 3) pe_non (nomark _)) (pss_one (ps_ret pe_non)) pss_nil)
        (pss_cons (ps_set (i := 4) sc_power_walk.nd rfl (Or.inl rfl) (pe_ix (ix_K K) (pe_call (ok_first_ways T) (hr.mono (by decide)) (by rfl) T.g_first_ways T.F_first_ways.kp T.b_first_ways .nil pass0 (pa_cons (pe_ix (ix_K K) (pv 0) pe_int (fun _ _ => rfl)) (pa_cons (pv 2) pa_nil))) (pe_ix (ix_K K) (pv 3) pe_int (fun _ _ => rfl)) (fun _ _ => rfl)))
        (pss_one (ps_ret (pe_call (ok_straightened T) (hr.mono (by decide)) (by rfl) T.g_straightened T.F_straightened.kp T.b_straightened .nil pass0 (pa_cons (pe_op (op_addK K) (pe_op (op_addK K) (pv 4) (pe_ix (ix_K K) (pv 3) pe_int (fun _ _ => rfl))) (pe_call (ok_turned_back T) (hr.mono (by decide)) (by rfl) T.g_turned_back T.F_turned_back.kp T.b_turned_back .nil pass0 (pa_cons (pv 4) pa_nil))) pa_nil)))))))))), ?_⟩
      walk_at "go"
      refine ⟨L, n, d, a, rfl, hw, W, by omega, fun t H1 e1 tab => ?_⟩
      walk_at "go"
      refine ⟨k, 1, rfl, k1, ?_⟩
      walk_at "go"
      obtain ⟨ds, dl, dt, _⟩ := tab.ex
      refine r_lenL (l_of dt) ?_
      rw [List.length_map, dl]
      walk_at "go"
      refine if_2 (fun hgt => ?_) fun hle => ?_
      · walk_at "go"
        exact q1 (fun m hm hc => by have := Wb.circ_le hc; omega) H1 e1
      · obtain ⟨m, rfl⟩ : ∃ m : Nat, k = m := ⟨k.toNat, by omega⟩
        walk_at "go"
        refine ⟨L, n, d, t, m, rfl, tab, W.gr, hn, by omega, by omega, fun hc H2 e2 => ?_, fun p c u w r0 H2 e2 h1 h2 h3 h4 h5 h6 h7 h8 => ?_⟩
        · walk_at "go"
          refine ⟨rfl, _, rfl, ?_⟩
          rw [if_pos (decide_eq_true rfl)]
          walk_at "go"
          exact q1 (fun m' hm' => by have : m' = m := by omega
                                     rw [this]; exact hc) H2 (e1.trans e2)
        · walk_at "go"
          refine ⟨rfl, _, rfl, ?_⟩
          rw [if_neg (by simp)]
          walk_at "go"
          obtain ⟨rr, xs, g1, g2, g3⟩ := (hw.mono (e1.trans e2)).ex
          refine r_ixT g1 rfl ?_
          walk_at "go"
          refine ⟨L, n, d, t, rfl, tab.mono e2, W, by omega, fun l ys H3 e3 hl3 kl3 wa3 => ?_⟩
          walk_at "go"
          refine r_ixT (t_of (e3 _ _ h1)) rfl ?_
          have lr := h6 r0 (List.mem_of_getElem? h7)
          obtain ⟨fa, hfa, hfw⟩ := wka_at (show WkA K H3 ys (Wb.fws L n d) from wa3) (Wb.fws_at W lr)
          refine r_ixL (l_of kl3) (atI_at (by simp) (by simpa using hfa)) ?_
          have e23 := e2.trans e3
          have fg := Wb.fw_go W r0 lr
          walk_at "go"
          refine r_ixT (t_of (e3 _ _ h1)) rfl ?_
          walk_at "go"
          refine r_catT hfw (h2.ex e3).it (by rw [List.length_map, List.length_map]; omega) fun c1 H4 e4 k4 => ?_
          walk_at "go"
          refine ⟨fa, _, rfl, ex_t e4 hfw, by omega, fun c2 H5 e5 k5 => ?_⟩
          walk_at "go"
          refine r_catT (ex_t e5 k4) k5 (by have := Fg.bk_len (Wb.fw L n d r0); simp; omega) fun c3 H6 e6 k6 => ?_
          walk_at "go"
          have it6 : IT K H6 c3 (Wb.fw L n d r0 ++ w ++ Fg.bk (Wb.fw L n d r0)) := by
            show SqT K H6 c3 ((Wb.fw L n d r0 ++ w ++ Fg.bk (Wb.fw L n d r0)).map V.int)
            rw [List.map_append, List.map_append]
            exact k6
          have zl : (Wb.fw L n d r0 ++ w ++ Fg.bk (Wb.fw L n d r0)).length ≤ 140 := by
            rw [List.length_append, List.length_append, Fg.bk_len]; omega
          refine ⟨c3, _, rfl, it6, by omega, fun c4 H7 e7 k7 => ?_⟩
          walk_at "go"
          obtain ⟨y, _, hy⟩ := h8.get h7
          refine q2 m c4 _ H7 ((((e1.trans e23).trans e4).trans e5).trans (e6.trans e7)) rfl ⟨u, w, h4, h5, h6, h8⟩ k7 (Nat.le_trans (Fg.rd_len _) (by omega)) ?_ fun j j0 jm => ?_
          · refine Fo.G_rd fun x hx => ?_
            rcases List.mem_append.mp hx with hx | hx
            · rcases List.mem_append.mp hx with hx | hx
              · exact Fo.go_st W.gr fg.1 x hx
              · exact Fo.go_st W.gr hy x hx
            · exact Fo.go_st W.gr (Wb.go_bk W.gr fg.1) x hx
          · rw [← h4] at jm ⊢
            exact Wb.circ_walk W h5 h8 h7 lr jm j0
  walk_at "end"
def sp_greatest_power (K : PySem.W.Frag) : Sp := fun vs H Q _ => ∃ (L n : Nat) (d : Wb.Gm) (a : Addr), vs = [.ref a] ∧ WebH K H a L n d ∧ Wb.Web L n d ∧ n ≤ 5 ∧ ∀ m H1, Ex H H1 → Mx d n m → Q (.int (m : Int)) H1
theorem ok_greatest_power (T : Tx K mg A) : FnOk P w K mg base CX0 6 A.a_greatest_power A.f_greatest_power P_greatest_power (sp_greatest_power K) := by
  refine T.F_greatest_power.ok sc_greatest_power (fun vs H Q E h => ?_) (fun cdv A' outer s H vs Q E hr h => ?_)
  · obtain ⟨L, n, d, a, rfl, _⟩ := h
    rfl
  · obtain ⟨L, n, d, a, rfl, hw, W, hn, q⟩ := h
    refine ⟨_, (pss_one (ps_ret (pe_call (ok_most_in_circle T) (hr.mono (by decide)) (by rfl) T.g_most_in_circle T.F_most_in_circle.kp T.b_most_in_circle .nil pass0 (pa_cons (pe_call (ok_checked_table T) (hr.mono (by decide)) (by rfl) T.g_checked_table T.F_checked_table.kp T.b_checked_table .nil pass0 (pa_cons (pv 0) pa_nil)) pa_nil)))), ?_⟩
    walk_at "go"
    refine ⟨L, n, d, a, rfl, hw, W, by omega, fun t H1 e1 tab => ?_⟩
    walk_at "go"
    refine ⟨L, n, d, t, rfl, tab, W.gr, W.pos, hn, fun m H2 e2 hm => ?_⟩
    exact q m H2 (e1.trans e2) hm
def sp_is_rooted (K : PySem.W.Frag) : Sp := fun vs H Q _ => ∃ (L n : Nat) (d : Wb.Gm) (a : Addr), vs = [.ref a] ∧ WebH K H a L n d ∧ Wb.Web L n d ∧ n ≤ 5 ∧ ∀ m H1, Ex H H1 → Mx d n m → Q (.bl (decide ((m : Int) = 1))) H1
theorem ok_is_rooted (T : Tx K mg A) : FnOk P w K mg base CX0 6 A.a_is_rooted A.f_is_rooted P_is_rooted (sp_is_rooted K) := by
  refine Qt.drp ?_ ?_
  · refine T.F_is_rooted.ok sc_is_rooted (fun vs H Q E h => ?_) (fun cdv A' outer s H vs Q E hr h => ?_)
    · obtain ⟨L, n, d, a, rfl, _⟩ := h
      rfl
    · obtain ⟨L, n, d, a, rfl, hw, W, hn, q⟩ := h
      refine ⟨_, (pss_one (ps_ret (pe_cmpR (op_eqK K hr.units) (pe_call (ok_most_in_circle T) (hr.mono (by decide)) (by rfl) T.g_most_in_circle T.F_most_in_circle.kp T.b_most_in_circle .nil pass0 (pa_cons (pe_call (ok_checked_table T) (hr.mono (by decide)) (by rfl) T.g_checked_table T.F_checked_table.kp T.b_checked_table .nil pass0 (pa_cons (pv 0) pa_nil)) pa_nil)) pe_int (nomark _)))), ?_⟩
      walk_at "go"
      refine ⟨L, n, d, a, rfl, hw, W, by omega, fun t H1 e1 tab => ?_⟩
      walk_at "go"
      refine ⟨L, n, d, t, rfl, tab, W.gr, W.pos, hn, fun m H2 e2 hm => ?_⟩
      walk_at "go"
      exact q m H2 (e1.trans e2) hm
  walk_at "end"
end
end Lw
namespace Lw
open PySem PySem.Spec PyProof.Rows L2 Evl
local macro_rules | `(tactic| walk_at "go") => `(tactic| repeat (first
  | with_reducible refine st_seq ?_ | with_reducible refine st_set ?_ | with_reducible refine st_asg ?_ | with_reducible refine st_ret ?_ | with_reducible refine st_drop ?_ | with_reducible refine st_if ?_
  | with_reducible refine st_c ?_ | ((with_reducible refine' st_v ?h ?_); (case h => exact rfl)) | with_reducible refine st_n ?_ | with_reducible refine st_cons ?_ | with_reducible refine st_op ?_ | with_reducible refine st_un ?_
  | with_reducible refine st_cb ?_ | with_reducible refine st_test ?_ | with_reducible refine st_call ?_ | with_reducible refine st_callK ?_ | with_reducible refine st_sl ?_ | with_reducible refine st_par ?_ | with_reducible refine st_par3 ?_ | with_reducible refine st_tru ?_
  | with_reducible refine st_and ?_ | with_reducible refine st_or ?_ | with_reducible refine st_not ?_ | with_reducible refine st_B ?_ | with_reducible refine st_andV ?_ | with_reducible refine st_orV ?_ | with_reducible refine st_notV ?_ | with_reducible refine st_ifE ?_
  | with_reducible refine st_part ?_ | with_reducible refine st_nop ?_ | with_reducible refine st_sub ?_ | with_reducible refine st_chain ?_ | with_reducible refine st_chain3 ?_ | with_reducible refine st_lenSet ?_ | with_reducible refine st_bl ?_ | with_reducible refine st_in ?_ | with_reducible refine r_truB ?_
  | with_reducible refine st_nameG ?_ | with_reducible refine if_T ?_ | with_reducible refine if_F ?_ | with_reducible refine if_nT ?_ | with_reducible refine if_nF ?_
  | with_reducible refine r_add ?_ | with_reducible refine r_0 ?_ | with_reducible refine r_neg ?_ | with_reducible refine r_intI ?_ | with_reducible refine r_intB ?_ | with_reducible refine r_abs ?_ | with_reducible refine r_max2 ?_ | with_reducible refine r_min2 ?_ | with_reducible refine r_eqI ?_ | with_reducible refine r_neI ?_
  | with_reducible refine st_nxt ?_ | with_reducible refine st_cnt ?_ | with_reducible refine st_brk ?_ | with_reducible refine st_retn ?_
  | with_reducible refine st_lstN ?_ | with_reducible refine st_tupN ?_
  | with_reducible refine st_for ?_ | with_reducible refine st_lc ?_ | with_reducible refine st_lc2 ?_ | with_reducible refine st_rng1 ?_ | with_reducible refine st_rng2 ?_ | with_reducible refine st_rng3 ?_ | with_reducible refine st_itL ?_ | with_reducible refine st_itT ?_ | with_reducible refine st_rev ?_ | with_reducible refine st_enumE ?_ | with_reducible refine st_zip3 ?_ | with_reducible refine st_lvals ?_ | with_reducible refine st_fld ?_ | with_reducible refine st_sfld ?_ | with_reducible refine st_meth ?_ | with_reducible refine st_make ?_ | with_reducible refine st_rg1 ?_ | with_reducible refine st_enumS ?_ | with_reducible refine st_enumD ?_ | with_reducible refine st_lstIt ?_ | with_reducible refine st_dg1 ?_ | with_reducible refine st_dg2 ?_ | with_reducible refine st_dpop ?_ | with_reducible refine st_dset ?_ | with_reducible refine st_ckw ?_ | with_reducible refine st_dsetT ?_ | with_reducible refine st_dnewT ?_ | with_reducible refine st_dc ?_ | with_reducible refine st_keys ?_ | with_reducible refine st_dget ?_ | with_reducible refine st_din ?_ | with_reducible refine st_dnin ?_ | with_reducible refine st_dput ?_ | with_reducible refine st_dnew ?_ | with_reducible refine st_lstRg ?_ | with_reducible refine st_rg2 ?_ | with_reducible refine r_twoI ?_ | with_reducible refine st_bm ?_ | with_reducible refine st_bm0 ?_
  | ((with_reducible refine' st_aug ?h ?_); (case h => exact rfl)) | with_reducible refine r_augI ?_ | with_reducible refine r_eqB ?_
  | dsimp only))
section
variable {P : Program} {w : World} {K : PySem.W.Frag} {mg : Str → Option Value} {base : Heap} {A : Ad}
def sp__law_pot (K : PySem.W.Frag) : Sp := fun vs H Q _ => ∃ a ns k, vs = [.ref a, .int k] ∧ IL K H a ns ∧ ns.length ≤ 63 ∧ 0 ≤ k ∧ k ≤ 100 ∧ ∀ p H1, H p = none → Ex H H1 → Well H1 p 0 → Q (.ref p) H1
theorem ok__law_pot (T : Tx K mg A) : FnOk P w K mg base CX0 1 A.a__law_pot A.f__law_pot P__law_pot (sp__law_pot K) := by
  refine Qt.drp ?_ ?_
  · refine T.F__law_pot.ok sc__law_pot (fun vs H Q E h => ?_) (fun cdv A' outer s H vs Q E hr h => ?_)
    · obtain ⟨a, ns, k, rfl, _⟩ := h
      rfl
    · obtain ⟨a, ns, k, rfl, hS, hlen, hk0, hk, q⟩ := h
      refine ⟨_, (pss_cons (ps_set (i := 2) sc__law_pot.nd rfl (Or.inl rfl) (pe_op (op_addK K) (pe_op (op_mulK K) pe_int (pv 1)) pe_int))
        (Evl.pss_cut (ps_if (pt_cmpR op_lt (pv 1) (pe_callB (len_K K) (by rfl) T.n_len (by decide +kernel) (pa_cons (pv 0) pa_nil)) (nomark _)) (pss_one (ps_set (i := 2) sc__law_pot.nd rfl (Or.inl rfl) (pe_ix (ix_K K) (pv 0) (pv 1) (fun _ _ => rfl)))) pss_nil)
        (pss_cons (ps_set (i := 3) sc__law_pot.nd rfl (Or.inl rfl) (pe_callB (len_K K) (by rfl) T.n_len (by decide +kernel) (pa_cons (pv 0) pa_nil)))
        (pss_cons (ps_for PassesOwn.never rfl (pi_listK K (pv 0)) (pg_name (i := 4) sc__law_pot.nd rfl (Or.inl rfl)) (pss_one (ps_set (i := 3) sc__law_pot.nd rfl (Or.inl rfl) (pe_op op_mod (pe_callTy int_K (by rfl) T.n_int (by decide +kernel) (pa_cons (pe_op (op_addK K) (pe_op (op_mulK K) (pv 3) pe_int) (pe_op op_mod (pe_callTy int_K (by rfl) T.n_int (by decide +kernel) (pa_cons (pv 4) pa_nil)) (pe_op (op_addK K) (pe_op op_powW pe_int pe_int) pe_int))) pa_nil)) (pe_op (op_addK K) (pe_op op_powW pe_int pe_int) pe_int)))))
        (pss_one (ps_ret (pe_lst (pa_cons (pe_callB (max2_K rfl) (by rfl) T.n_max (by decide +kernel) (pa_cons pe_int (pa_cons (pe_op op_sub (pv 2) (pe_op op_powW pe_int pe_int)) pa_nil))) (pa_cons (pe_op op_mod (pe_callTy int_K (by rfl) T.n_int (by decide +kernel) (pa_cons (pe_op (op_addK K) (pe_op (op_addK K) (pe_op (op_addK K) (pe_op (op_mulK K) (pe_callB abs_K (by rfl) T.n_abs (by decide +kernel) (pa_cons (pv 2) pa_nil)) pe_int) (pe_op (op_mulK K) pe_int (pv 3))) (pe_callTy int_K (by rfl) T.n_int (by decide +kernel) (pa_cons (pe_cmpR op_lt (pv 2) pe_int (nomark _)) pa_nil))) (pv 1)) pa_nil)) (pe_op (op_addK K) (pe_op op_powW pe_int pe_int) pe_int)) (pa_cons pe_int pa_nil)))))))))), ?_⟩
      walk_at "go"
      refine r_mul (.inl ⟨by decide, by decide⟩) ?_
      walk_at "go"
      refine q_cut (M := fun σ' H' => ∃ cell : Int, H' = H ∧ σ' = [some (.ref a), some (.int k), some (.int cell), none, none]) ?_ ?_
      · walk_at "go"
        refine r_lenL hS ?_
        walk_at "go"
        refine if_2 (fun h0 => ?_) fun h0 => ?_
        · rw [List.length_map] at h0
          walk_at "go"
          have hi : k.toNat < ns.length := by omega
          refine r_ixL hS (at_int hk0 (List.getElem?_eq_getElem hi)) ?_
          exact ⟨_, rfl, rfl⟩
        · walk_at "go"
          exact ⟨_, rfl, rfl⟩
      rintro σ' H ⟨cell, rfl, rfl⟩
      walk_at "go"
      refine r_lenL hS ?_
      walk_at "go"
      refine r_itL hS (r_forL (xs := ns.map V.int) (fun i σ' H' => ∃ (t : Int) (v : Option V), H' = H ∧ σ' = [some (.ref a), some (.int k), some (.int cell), some (.int t), v]) ⟨_, none, rfl, rfl⟩ (fun i σ' H' _ p => ?_) (fun i x σ' H' hx p => ?_) (fun σ' H' p => ?_))
      · obtain ⟨t, v, rfl, _⟩ := p
        exact hS
      · obtain ⟨t, v, rfl, rfl⟩ := p
        rw [List.getElem?_map] at hx
        cases hn : ns[i]? with
        | none => rw [hn] at hx; cases hx
        | some z =>
          rw [hn] at hx
          cases hx
          walk_at "go"
          refine r_mul (.inr ⟨by decide, by decide⟩) ?_
          walk_at "go"
          refine r_pow (k := 22) (a := 4) (by decide) (by decide) (by decide) ?_
          walk_at "go"
          refine r_mod (by decide) ?_
          walk_at "go"
          refine r_pow (k := 26) (a := 4) (by decide) (by decide) (by decide) ?_
          walk_at "go"
          refine r_mod (by decide) ?_
          exact ⟨_, _, rfl, rfl⟩
      · obtain ⟨t, v, rfl, rfl⟩ := p
        walk_at "go"
        refine r_pow (k := 18) (a := 4) (by decide) (by decide) (by decide) ?_
        walk_at "go"
        refine r_mul (.inr ⟨by decide, by decide⟩) ?_
        walk_at "go"
        refine r_mul (.inl ⟨by decide, by decide⟩) ?_
        walk_at "go"
        refine r_pow (k := 28) (a := 4) (by decide) (by decide) (by decide) ?_
        walk_at "go"
        refine r_mod (by decide) ?_
        generalize hx : (((cell.natAbs : Nat) : Int) * 9973 + 2 * t + (if decide (cell < 0) = true then 1 else 0) + k) % (10 ^ (((28 : Nat) : Int)).toNat + 331) = x
        have x0 : 0 ≤ x := by rw [← hx]; exact Int.emod_nonneg _ (by decide)
        have x1 : x < 10 ^ (((28 : Nat) : Int)).toNat + 331 := by rw [← hx]; exact Int.emod_lt_of_pos _ (by decide)
        have x2 : x < 2 ^ 160 := Int.lt_trans x1 (by decide)
        walk_at "go"
        refine r_newL (by simp) fun p2 H2 hp2 e2 h2 => ?_
        exact q p2 H2 hp2 e2 ⟨_, x, 0, h2, by omega, x0, by omega, by omega, by omega⟩
  walk_at "end"
def sp__law_draw (K : PySem.W.Frag) : Sp := spTakeW
theorem ok__law_draw (T : Tx K mg A) : FnOk P w K mg base CX0 1 A.a__law_draw A.f__law_draw P__law_draw (sp__law_draw K) := by
  refine Qt.drp ?_ ?_
  · refine T.F__law_draw.ok sc__law_draw (fun vs H Q E h => ?_) (fun cdv A' outer s H vs Q E hr h => ?_)
    · obtain ⟨w, n, m, rfl, _⟩ := h
      rfl
    · obtain ⟨w, n, m, rfl, hm, hm2, ⟨a, b, c, hw, ha, hb, hb2, hc, hc2⟩, hn, q⟩ := h
      refine ⟨_, (pss_cons (ps_if (pt_cmpR op_gt (pe_ix (ix_K K) (pv 0) pe_int (fun _ _ => rfl)) pe_int (nomark _)) (pss_cons (ps_set (i := 2) sc__law_draw.nd rfl (Or.inl rfl) (pe_op op_mod (pe_callTy int_K (by rfl) T.n_int (by decide +kernel) (pa_cons (pe_ix (ix_K K) (pv 0) pe_int (fun _ _ => rfl)) pa_nil)) (pv 1)))
        (pss_cons (ps_asg (pe_op op_fdivW (pe_ix (ix_K K) (pv 0) pe_int (fun _ _ => rfl)) (pv 1)) (pg_sub (pv 0) pe_int set_list))
        (pss_one (ps_ret (pv 2))))) pss_nil)
        (pss_cons (ps_asg (pe_op (op_addK K) (pe_ix (ix_K K) (pv 0) pe_int (fun _ _ => rfl)) pe_int) (pg_sub (pv 0) pe_int set_list))
        (pss_cons (ps_set (i := 3) sc__law_draw.nd rfl (Or.inl rfl) (pe_op op_mod (pe_callTy int_K (by rfl) T.n_int (by decide +kernel) (pa_cons (pe_op (op_addK K) (pe_op (op_mulK K) (pe_ix (ix_K K) (pv 0) pe_int (fun _ _ => rfl)) pe_int) (pe_op (op_mulK K) (pe_ix (ix_K K) (pv 0) pe_int (fun _ _ => rfl)) pe_int)) pa_nil)) (pe_op (op_addK K) (pe_op op_powW pe_int pe_int) pe_int)))
        (pss_cons (ps_set (i := 3) sc__law_draw.nd rfl (Or.inl rfl) (pe_op op_mod (pe_callTy int_K (by rfl) T.n_int (by decide +kernel) (pa_cons (pe_op (op_addK K) (pe_op (op_addK K) (pe_op (op_mulK K) (pv 3) (pv 3)) (pe_op (op_mulK K) pe_int (pe_ix (ix_K K) (pv 0) pe_int (fun _ _ => rfl)))) (pe_ix (ix_K K) (pv 0) pe_int (fun _ _ => rfl))) pa_nil)) (pe_op (op_addK K) (pe_op op_powW pe_int pe_int) pe_int)))
        (pss_cons (ps_set (i := 3) sc__law_draw.nd rfl (Or.inl rfl) (pe_op op_fdivW (pe_op op_mod (pe_callTy int_K (by rfl) T.n_int (by decide +kernel) (pa_cons (pe_op (op_addK K) (pe_op (op_mulK K) (pv 3) (pv 3)) pe_int) pa_nil)) (pe_op (op_addK K) (pe_op op_powW pe_int pe_int) pe_int)) pe_int))
        (pss_one (ps_ret (pe_op op_mod (pe_callTy int_K (by rfl) T.n_int (by decide +kernel) (pa_cons (pv 3) pa_nil)) (pv 1))))))))), ?_⟩
      have w0 : SqL K H w [.int a, .int b, .int c] := l_of hw
      walk_at "go"
      refine r_ixL w0 rfl ?_
      walk_at "go"
      refine if_2 (fun h0 => ?_) fun h0 => ?_
      · walk_at "go"
        refine r_ixL w0 rfl ?_
        walk_at "go"
        refine r_mod hm ?_
        walk_at "go"
        refine r_ixL w0 rfl ?_
        walk_at "go"
        refine r_div hm (by omega : m.natAbs < 2 ^ 220) (by decide) (by decide) ?_
        walk_at "go"
        refine r_setG hw rfl fun H1 e1 h1 => ?_
        walk_at "go"
        exact q (a % m) H1 (Int.emod_nonneg _ (by omega)) (Int.emod_lt_of_pos _ hm) e1 ⟨a / m, b, c, h1, Int.ediv_nonneg ha (by omega), hb, hb2, hc, by omega⟩
      · walk_at "go"
        refine r_ixL w0 rfl ?_
        walk_at "go"
        refine r_setG hw rfl fun H1 e1 hw1 => ?_
        have w1 : SqL K H1 w [.int a, .int b, .int (c + 1)] := l_of hw1
        walk_at "go"
        refine r_ixL w1 rfl (r_mul (.inr ⟨by decide, by decide⟩) ?_)
        walk_at "go"
        refine r_ixL w1 rfl (r_mulW (wide_mul (a := 40) (b := 62) (by omega) (by decide) (by decide) (by decide) (by decide)) ?_)
        walk_at "go"
        refine r_pow (k := 28) (a := 4) (by decide) (by decide) (by decide) ?_
        walk_at "go"
        refine r_mod (by decide) ?_
        generalize hx : (b * 524287 + (c + 1) * 1442695040888963407) % (10 ^ (((28 : Nat) : Int)).toNat + 331) = x
        have x0 : 0 ≤ x := by rw [← hx]; exact Int.emod_nonneg _ (by decide)
        have x1 : x < 10 ^ (((28 : Nat) : Int)).toNat + 331 := by rw [← hx]; exact Int.emod_lt_of_pos _ (by decide)
        have x2 : x < 2 ^ 100 := Int.lt_trans x1 (by decide)
        walk_at "go"
        refine r_mulW (wide_mul (a := 100) (b := 100) (by omega) (by omega) (by decide) (by decide) (by decide)) ?_
        walk_at "go"
        refine r_ixL w1 rfl (r_mulW (wide_mul (a := 64) (b := 40) (by decide) (by omega) (by decide) (by decide) (by decide)) ?_)
        walk_at "go"
        refine r_ixL w1 rfl ?_
        walk_at "go"
        refine r_pow (k := 29) (a := 4) (by decide) (by decide) (by decide) ?_
        walk_at "go"
        refine r_mod (by decide) ?_
        generalize hy : (x * x + 7046029254386353131 * (c + 1) + b) % (10 ^ (((29 : Nat) : Int)).toNat + 319) = y
        have y0 : 0 ≤ y := by rw [← hy]; exact Int.emod_nonneg _ (by decide)
        have y1 : y < 10 ^ (((29 : Nat) : Int)).toNat + 319 := by rw [← hy]; exact Int.emod_lt_of_pos _ (by decide)
        have y2 : y < 2 ^ 100 := Int.lt_trans y1 (by decide)
        walk_at "go"
        refine r_mulW (wide_mul (a := 100) (b := 100) (by omega) (by omega) (by decide) (by decide) (by decide)) ?_
        walk_at "go"
        refine r_pow (k := 30) (a := 4) (by decide) (by decide) (by decide) ?_
        walk_at "go"
        refine r_mod (by decide) ?_
        walk_at "go"
        refine r_div (b := 14) (by decide) (by decide) (by decide) (by decide) ?_
        walk_at "go"
        refine r_mod hm ?_
        exact q _ H1 (Int.emod_nonneg _ (by omega)) (Int.emod_lt_of_pos _ hm) e1 ⟨a, b, c + 1, hw1, ha, hb, hb2, by omega, by omega⟩
  walk_at "end"
def sp__law_steps (K : PySem.W.Frag) : Sp := fun vs H Q _ => ∃ L : Nat, vs = [.int (L : Int)] ∧ L ≤ 4 ∧ ∀ p H1, H p = none → Ex H H1 → H1 p = some (.lst ((Od.steps L).map V.int)) → Q (.ref p) H1
theorem ok__law_steps (T : Tx K mg A) : FnOk P w K mg base CX0 1 A.a__law_steps A.f__law_steps P__law_steps (sp__law_steps K) := by
  refine Qt.drp ?_ ?_
  · refine T.F__law_steps.ok sc__law_steps (fun vs H Q E h => ?_) (fun cdv A' outer s H vs Q E hr h => ?_)
    · obtain ⟨L, rfl, _⟩ := h
      rfl
    · obtain ⟨L, rfl, h4, q⟩ := h
      refine ⟨_, (pss_cons (ps_set (i := 1) sc__law_steps.nd rfl (Or.inl rfl) (pe_lst pa_nil))
        (pss_cons (ps_for PassesOwn.never rfl (pi_range2 (by rfl) T.n_range (pa_cons pe_int (pa_cons (pe_op (op_addK K) (pv 0) pe_int) pa_nil))) (pg_name (i := 2) sc__law_steps.nd rfl (Or.inl rfl)) (pss_one (ps_set (i := 1) sc__law_steps.nd rfl (Or.inl rfl) (pe_op (op_addK K) (pv 1) (pe_lst (pa_cons (pv 2) (pa_cons (pe_un un_neg (pv 2)) pa_nil)))))))
        (pss_one (ps_ret (pv 1))))), ?_⟩
      walk_at "go"
      refine r_newL (by simp) fun c H1 hc e1 k1 => ?_
      walk_at "go"
      refine r_rng2 (by omega) ?_
      rw [show ((L : Int) + 1 - 1).toNat = L by omega]
      refine r_forR (lo := 1) (m := L) (fun i σ' H' => ∃ c v, H c = none ∧ Ex H H' ∧ H' c = some (.lst ((Od.steps i).map V.int)) ∧ σ' = [some (.int (L : Int)), some (.ref c), v]) ⟨c, none, hc, e1, k1, rfl⟩ ?_ ?_
      · rintro i σ' H' hi ⟨c, v, hc, e, hn, rfl⟩
        walk_at "go"
        refine r_newL (by simp) fun d H2 hd e2 k2 => ?_
        walk_at "go"
        refine r_catL (e2 _ _ hn) k2 (by rw [List.length_map, Od.steps_len]; simp; omega) fun f H3 hf e3 k3 => ?_
        walk_at "go"
        refine ⟨f, _, fresh_back (e.trans e2) hf, (e.trans e2).trans e3, ?_, rfl⟩
        rw [k3, Od.steps_succ, List.map_append, show (1 + (i : Int)) = (i : Int) + 1 by omega]
        rfl
      · rintro σ' H' ⟨c, v, hc, e, hn, rfl⟩
        walk_at "go"
        exact q c H' hc e hn
  walk_at "end"
def sp__law_is_integer (K : PySem.W.Frag) : Sp := fun vs H Q _ => ∃ i : Int, vs = [.int i, .int i] ∧ Q (.bl true) H
theorem ok__law_is_integer (T : Tx K mg A) : FnOk P w K mg base CX0 1 A.a__law_is_integer A.f__law_is_integer P__law_is_integer (sp__law_is_integer K) := by
  refine Qt.drp ?_ ?_
  · refine T.F__law_is_integer.ok sc__law_is_integer (fun vs H Q E h => ?_) (fun cdv A' outer s H vs Q E hr h => ?_)
    · obtain ⟨i, rfl, _⟩ := h
      rfl
    · obtain ⟨i, rfl, q⟩ := h
      refine ⟨_, (pss_one (ps_ret (pe_and (pe_callB (isi_K K) (by rfl) T.n_isinstance (by decide +kernel) (pa_cons (pv 0) (pa_cons (pe_bltn (v := .ty "int") (by rfl) T.n_int (by decide +kernel) rfl) pa_nil))) (pe_and (pe_not (pe_callB (isi_K K) (by rfl) T.n_isinstance (by decide +kernel) (pa_cons (pv 0) (pa_cons (pe_bltn (v := .ty "bool") (by rfl) T.n_bool (by decide +kernel) rfl) pa_nil)))) (pe_one (pe_cmpR (op_eqK K hr.units) (pv 0) (pv 1) (nomark _))))))), ?_⟩
      walk_at "go"
      refine r_isiI (b := true) (kit_ty (by decide +kernel)) ?_
      walk_at "go"
      refine r_isiI (b := false) (kit_ty (by decide +kernel)) ?_
      walk_at "go"
      rw [decide_eq_true rfl]
      exact q
  walk_at "end"
end
end Lw
namespace Lw
open PySem PySem.Spec PyProof.Rows L2 Evl
local macro_rules | `(tactic| walk_at "go") => `(tactic| repeat (first
  | with_reducible refine st_seq ?_ | with_reducible refine st_set ?_ | with_reducible refine st_asg ?_ | with_reducible refine st_ret ?_ | with_reducible refine st_drop ?_ | with_reducible refine st_if ?_
  | with_reducible refine st_c ?_ | ((with_reducible refine' st_v ?h ?_); (case h => exact rfl)) | with_reducible refine st_n ?_ | with_reducible refine st_cons ?_ | with_reducible refine st_op ?_ | with_reducible refine st_un ?_
  | with_reducible refine st_cb ?_ | with_reducible refine st_test ?_ | with_reducible refine st_call ?_ | with_reducible refine st_callK ?_ | with_reducible refine st_sl ?_ | with_reducible refine st_par ?_ | with_reducible refine st_par3 ?_ | with_reducible refine st_tru ?_
  | with_reducible refine st_and ?_ | with_reducible refine st_or ?_ | with_reducible refine st_not ?_ | with_reducible refine st_B ?_ | with_reducible refine st_andV ?_ | with_reducible refine st_orV ?_ | with_reducible refine st_notV ?_ | with_reducible refine st_ifE ?_
  | with_reducible refine st_part ?_ | with_reducible refine st_nop ?_ | with_reducible refine st_sub ?_ | with_reducible refine st_chain ?_ | with_reducible refine st_chain3 ?_ | with_reducible refine st_lenSet ?_ | with_reducible refine st_bl ?_ | with_reducible refine st_in ?_ | with_reducible refine r_truB ?_
  | with_reducible refine st_nameG ?_ | with_reducible refine if_T ?_ | with_reducible refine if_F ?_ | with_reducible refine if_nT ?_ | with_reducible refine if_nF ?_
  | with_reducible refine r_add ?_ | with_reducible refine r_0 ?_ | with_reducible refine r_neg ?_ | with_reducible refine r_intI ?_ | with_reducible refine r_intB ?_ | with_reducible refine r_abs ?_ | with_reducible refine r_max2 ?_ | with_reducible refine r_min2 ?_ | with_reducible refine r_eqI ?_ | with_reducible refine r_neI ?_
  | with_reducible refine st_nxt ?_ | with_reducible refine st_cnt ?_ | with_reducible refine st_brk ?_ | with_reducible refine st_retn ?_
  | with_reducible refine st_lstN ?_ | with_reducible refine st_tupN ?_
  | with_reducible refine st_for ?_ | with_reducible refine st_lc ?_ | with_reducible refine st_lc2 ?_ | with_reducible refine st_rng1 ?_ | with_reducible refine st_rng2 ?_ | with_reducible refine st_rng3 ?_ | with_reducible refine st_itL ?_ | with_reducible refine st_itT ?_ | with_reducible refine st_rev ?_ | with_reducible refine st_enumE ?_ | with_reducible refine st_zip3 ?_ | with_reducible refine st_lvals ?_ | with_reducible refine st_fld ?_ | with_reducible refine st_sfld ?_ | with_reducible refine st_meth ?_ | with_reducible refine st_make ?_ | with_reducible refine st_rg1 ?_ | with_reducible refine st_enumS ?_ | with_reducible refine st_enumD ?_ | with_reducible refine st_lstIt ?_ | with_reducible refine st_dg1 ?_ | with_reducible refine st_dg2 ?_ | with_reducible refine st_dpop ?_ | with_reducible refine st_dset ?_ | with_reducible refine st_ckw ?_ | with_reducible refine st_dsetT ?_ | with_reducible refine st_dnewT ?_ | with_reducible refine st_dc ?_ | with_reducible refine st_keys ?_ | with_reducible refine st_dget ?_ | with_reducible refine st_din ?_ | with_reducible refine st_dnin ?_ | with_reducible refine st_dput ?_ | with_reducible refine st_dnew ?_ | with_reducible refine st_lstRg ?_ | with_reducible refine st_rg2 ?_ | with_reducible refine r_twoI ?_ | with_reducible refine st_bm ?_ | with_reducible refine st_bm0 ?_
  | ((with_reducible refine' st_aug ?h ?_); (case h => exact rfl)) | with_reducible refine r_augI ?_ | with_reducible refine r_eqB ?_
  | dsimp only))
section
variable {P : Program} {w : World} {K : PySem.W.Frag} {mg : Str → Option Value} {base : Heap} {A : Ad}
/-- a list of tuples of integers -/
structure TuW (H : Hp) (xs : List V) (E : List (List Int)) : Prop where
  len : xs.length = E.length
  at_ : ∀ (i : Nat) (e : List Int), E[i]? = some e → ∃ p, xs[i]? = some (V.ref p) ∧ HTp H p e
theorem TuW.tx {H H1 : Hp} {xs : List V} {E : List (List Int)} (h : TuW H xs E) (e : TX H H1) : TuW H1 xs E := ⟨h.len, fun i x hx => by
  obtain ⟨p, h1, h2⟩ := h.at_ i x hx
  exact ⟨p, h1, h2.tx e⟩⟩
theorem TuW.snoc {H : Hp} {xs : List V} {E : List (List Int)} (h : TuW H xs E) {p : Addr} {e : List Int} (hp : HTp H p e) : TuW H (xs ++ [.ref p]) (E ++ [e]) := ⟨by rw [List.length_append, List.length_append, h.len]; rfl, fun i x hx => by
  rcases Nat.lt_or_ge i E.length with c | c
  · rw [List.getElem?_append_left c] at hx
    obtain ⟨q, h1, h2⟩ := h.at_ i x hx
    exact ⟨q, by rw [List.getElem?_append_left (by rw [h.len]; exact c)]; exact h1, h2⟩
  · have hi : i = E.length := by
      have := (List.getElem?_eq_some_iff.mp hx).1
      rw [List.length_append, List.length_singleton] at this
      omega
    subst hi
    rw [List.getElem?_append_right (Nat.le_refl _), Nat.sub_self] at hx
    cases hx
    exact ⟨p, by rw [← h.len, List.getElem?_append_right (Nat.le_refl _), Nat.sub_self]; rfl, hp⟩⟩
/-- all rows of numbers from -1 to n - 1 -/
def grid (n : Nat) : Nat → List (List Int)
  | 0 => [[]]
  | k + 1 => (grid n k).flatMap fun l => (List.range (n + 1)).map fun (x : Nat) => l ++ [(x : Int) - 1]
theorem flat_len {α β : Type} {f : α → List β} {c : Nat} (h : ∀ x, (f x).length = c) : ∀ l : List α, (l.flatMap f).length = l.length * c
  | [] => by simp
  | x :: l => by rw [List.flatMap_cons, List.length_append, h, flat_len h l, List.length_cons, Nat.add_mul, Nat.one_mul, Nat.add_comm]
theorem grid_len (n : Nat) : ∀ k, (grid n k).length = (n + 1) ^ k
  | 0 => rfl
  | k + 1 => by
    unfold grid
    rw [flat_len (c := n + 1) (fun l => by rw [List.length_map, List.length_range]), grid_len n k, Nat.pow_succ]
theorem grid_mem {n : Nat} : ∀ (k : Nat) (l : List Int), l.length = k → (∀ x ∈ l, -1 ≤ x ∧ x < (n : Int)) → l ∈ grid n k
  | 0, l, h, _ => by rw [List.length_eq_zero_iff.mp h]; exact List.mem_singleton.mpr rfl
  | k + 1, l, h, hx => by
    have ne : l ≠ [] := fun z => by rw [z] at h; cases h
    have e := List.dropLast_concat_getLast ne
    unfold grid
    rw [List.mem_flatMap]
    refine ⟨l.dropLast, grid_mem k _ (by rw [List.length_dropLast, h]; rfl) fun x hx' => hx x (List.dropLast_subset l hx'), ?_⟩
    rw [List.mem_map]
    obtain ⟨h1, h2⟩ := hx _ (List.getLast_mem ne)
    refine ⟨(l.getLast ne + 1).toNat, List.mem_range.mpr (by omega), ?_⟩
    rw [show (((l.getLast ne + 1).toNat : Nat) : Int) - 1 = l.getLast ne by omega]
    exact e
/-- one step more -/
def nxt (d : Wb.Gm) (T : List Int) (s : Int) : List Int := T.map fun x => if 0 ≤ x then Wb.oI (d x.toNat s) else -1
theorem tbl_nxt (d : Wb.Gm) (n : Nat) (w : List Int) (s : Int) : nxt d (Wb.tbl d n w) s = Wb.tbl d n (w ++ [s]) := by
  rw [Wb.tbl_snoc]
  unfold nxt Wb.tbl
  rw [List.map_map]
  refine List.map_congr_left fun x _ => ?_
  show (if 0 ≤ Wb.oI (Wb.go d x w) then Wb.oI (d (Wb.oI (Wb.go d x w)).toNat s) else -1) = _
  generalize Wb.go d x w = o
  cases o with
  | none => rfl
  | some y =>
    show (if (0 : Int) ≤ (y : Int) then Wb.oI (d ((y : Int)).toNat s) else -1) = Wb.oI (d y s)
    rw [if_pos (Int.natCast_nonneg y), Int.toNat_natCast]
theorem tbl_grid {d : Wb.Gm} {L n : Nat} (G : Wb.Gr L n d) (w : List Int) : Wb.tbl d n w ∈ grid n n := by
  refine grid_mem n _ (Wb.tbl_len w) fun x hx => ?_
  unfold Wb.tbl at hx
  obtain ⟨r, hr, rfl⟩ := List.mem_map.mp hx
  cases e : Wb.go d r w with
  | none => show (-1 : Int) ≤ -1 ∧ (-1 : Int) < _; omega
  | some y =>
    have := Wb.go_lt G (List.mem_range.mp hr) e
    show (-1 : Int) ≤ (y : Int) ∧ (y : Int) < _
    omega
/-- what is so amid the search of tables -/
structure Tb (d : Wb.Gm) (n : Nat) (E : List (List Int)) (p : Nat) (S : List Int) (all : List Int) : Prop where
  nd : E.Nodup
  zero : Wb.tbl d n [] ∈ E
  is : ∀ T ∈ E, ∃ w, T = Wb.tbl d n w
  cl : ∀ (i : Nat) T, E[i]? = some T → i < p → ∀ s ∈ all, nxt d T s ∈ E
  now : ∀ T, E[p]? = some T → ∀ s ∈ S, nxt d T s ∈ E
theorem Tb.few {d : Wb.Gm} {L n : Nat} (G : Wb.Gr L n d) (hn : n ≤ 5) {E : List (List Int)} {p : Nat} {S all : List Int} (h : Tb d n E p S all) : E.length ≤ 7776 := by
  refine Nat.le_trans (List.Nodup.length_le_of_subset (l₂ := grid n n) h.nd fun T hT => ?_) ?_
  · obtain ⟨w, rfl⟩ := h.is T hT
    exact tbl_grid G w
  · rw [grid_len]
    have : n = 0 ∨ n = 1 ∨ n = 2 ∨ n = 3 ∨ n = 4 ∨ n = 5 := by omega
    rcases this with z | z | z | z | z | z <;> (rw [z]; decide)
theorem Tb.stay {d : Wb.Gm} {n : Nat} {E : List (List Int)} {p : Nat} {S all : List Int} (h : Tb d n E p S all) {T : List Int} (hT : E[p]? = some T) {s : Int} (hs : nxt d T s ∈ E) : Tb d n E p (S ++ [s]) all :=
  ⟨h.nd, h.zero, h.is, h.cl, fun T' hT' t ht => by
    rw [hT] at hT'
    cases hT'
    rcases List.mem_append.mp ht with ht | ht
    · exact h.now T hT t ht
    · rw [List.mem_singleton.mp ht]; exact hs⟩
theorem Tb.put {d : Wb.Gm} {n : Nat} {E : List (List Int)} {p : Nat} {S all : List Int} (h : Tb d n E p S all) {T : List Int} (hT : E[p]? = some T) {s : Int} (hs : nxt d T s ∉ E) : Tb d n (E ++ [nxt d T s]) p (S ++ [s]) all := by
  refine Qt.drp ?_ ?_
  · have lp := (List.getElem?_eq_some_iff.mp hT).1
    refine ⟨?_, List.mem_append_left _ h.zero, fun T' hT' => ?_, fun i T' hT' hi t ht => ?_, fun T' hT' t ht => ?_⟩
    · rw [List.nodup_append]
      exact ⟨h.nd, by simp, fun a ha b hb z => hs (by rw [← List.mem_singleton.mp hb, ← z]; exact ha)⟩
    · rcases List.mem_append.mp hT' with c | c
      · exact h.is T' c
      · obtain ⟨w, hw⟩ := h.is T (List.mem_of_getElem? hT)
        exact ⟨w ++ [s], by rw [List.mem_singleton.mp c, hw, tbl_nxt]⟩
    · rw [List.getElem?_append_left (by omega)] at hT'
      exact List.mem_append_left _ (h.cl i T' hT' hi t ht)
    · rw [List.getElem?_append_left lp] at hT'
      rw [hT] at hT'
      cases hT'
      rcases List.mem_append.mp ht with ht | ht
      · exact List.mem_append_left _ (h.now T hT t ht)
      · rw [List.mem_singleton.mp ht]
        exact List.mem_append_right _ (List.mem_singleton.mpr rfl)
  walk_at "end"
theorem Tb.next {d : Wb.Gm} {n : Nat} {E : List (List Int)} {p : Nat} {all : List Int} (h : Tb d n E p all all) : Tb d n E (p + 1) [] all :=
  ⟨h.nd, h.zero, h.is, fun i T hT hi s hs => by
    rcases Nat.lt_or_ge i p with c | c
    · exact h.cl i T hT c s hs
    · have : i = p := by omega
      subst this
      exact h.now T hT s hs, fun T hT s hs => (List.not_mem_nil hs).elim⟩
theorem Tb.all {d : Wb.Gm} {n : Nat} {E : List (List Int)} {p : Nat} {S all : List Int} (h : Tb d n E p S all) (hp : E.length ≤ p) : ∀ (k : Nat) (w : List Int), w.length = k → (∀ x ∈ w, x ∈ all) → Wb.tbl d n w ∈ E
  | 0, w, hk, _ => by rw [List.length_eq_zero_iff.mp hk]; exact h.zero
  | k + 1, w, hk, hw => by
    have ne : w ≠ [] := fun z => by rw [z] at hk; cases hk
    have e := List.dropLast_concat_getLast ne
    have ih := Tb.all h hp k w.dropLast (by rw [List.length_dropLast, hk]; rfl) fun x hx => hw x (List.dropLast_subset w hx)
    obtain ⟨i, hi⟩ := List.getElem?_of_mem ih
    have := h.cl i _ hi (Nat.lt_of_lt_of_le (List.getElem?_eq_some_iff.mp hi).1 hp) (w.getLast ne) (hw _ (List.getLast_mem ne))
    rw [tbl_nxt, e] at this
    exact this
end
end Lw
namespace L2
open PySem PySem.Spec PyProof.Rows Evl
end L2
namespace Lw
open PySem PySem.Spec PyProof.Rows L2 Evl
local macro_rules | `(tactic| walk_at "go") => `(tactic| repeat (first
  | with_reducible refine st_seq ?_ | with_reducible refine st_set ?_ | with_reducible refine st_asg ?_ | with_reducible refine st_ret ?_ | with_reducible refine st_drop ?_ | with_reducible refine st_if ?_
  | with_reducible refine st_c ?_ | ((with_reducible refine' st_v ?h ?_); (case h => exact rfl)) | with_reducible refine st_n ?_ | with_reducible refine st_cons ?_ | with_reducible refine st_op ?_ | with_reducible refine st_un ?_
  | with_reducible refine st_cb ?_ | with_reducible refine st_test ?_ | with_reducible refine st_call ?_ | with_reducible refine st_callK ?_ | with_reducible refine st_sl ?_ | with_reducible refine st_par ?_ | with_reducible refine st_par3 ?_ | with_reducible refine st_tru ?_
  | with_reducible refine st_and ?_ | with_reducible refine st_or ?_ | with_reducible refine st_not ?_ | with_reducible refine st_B ?_ | with_reducible refine st_andV ?_ | with_reducible refine st_orV ?_ | with_reducible refine st_notV ?_ | with_reducible refine st_ifE ?_
  | with_reducible refine st_part ?_ | with_reducible refine st_nop ?_ | with_reducible refine st_sub ?_ | with_reducible refine st_chain ?_ | with_reducible refine st_chain3 ?_ | with_reducible refine st_lenSet ?_ | with_reducible refine st_bl ?_ | with_reducible refine st_in ?_ | with_reducible refine r_truB ?_
  | with_reducible refine st_nameG ?_ | with_reducible refine if_T ?_ | with_reducible refine if_F ?_ | with_reducible refine if_nT ?_ | with_reducible refine if_nF ?_
  | with_reducible refine r_add ?_ | with_reducible refine r_0 ?_ | with_reducible refine r_neg ?_ | with_reducible refine r_intI ?_ | with_reducible refine r_intB ?_ | with_reducible refine r_abs ?_ | with_reducible refine r_max2 ?_ | with_reducible refine r_min2 ?_ | with_reducible refine r_eqI ?_ | with_reducible refine r_neI ?_
  | with_reducible refine st_nxt ?_ | with_reducible refine st_cnt ?_ | with_reducible refine st_brk ?_ | with_reducible refine st_retn ?_
  | with_reducible refine st_lstN ?_ | with_reducible refine st_tupN ?_
  | with_reducible refine st_for ?_ | with_reducible refine st_lc ?_ | with_reducible refine st_lc2 ?_ | with_reducible refine st_rng1 ?_ | with_reducible refine st_rng2 ?_ | with_reducible refine st_rng3 ?_ | with_reducible refine st_itL ?_ | with_reducible refine st_itT ?_ | with_reducible refine st_rev ?_ | with_reducible refine st_enumE ?_ | with_reducible refine st_zip3 ?_ | with_reducible refine st_lvals ?_ | with_reducible refine st_fld ?_ | with_reducible refine st_sfld ?_ | with_reducible refine st_meth ?_ | with_reducible refine st_make ?_ | with_reducible refine st_rg1 ?_ | with_reducible refine st_enumS ?_ | with_reducible refine st_enumD ?_ | with_reducible refine st_lstIt ?_ | with_reducible refine st_dg1 ?_ | with_reducible refine st_dg2 ?_ | with_reducible refine st_dpop ?_ | with_reducible refine st_dset ?_ | with_reducible refine st_ckw ?_ | with_reducible refine st_dsetT ?_ | with_reducible refine st_dnewT ?_ | with_reducible refine st_dc ?_ | with_reducible refine st_keys ?_ | with_reducible refine st_dget ?_ | with_reducible refine st_din ?_ | with_reducible refine st_dnin ?_ | with_reducible refine st_dput ?_ | with_reducible refine st_dnew ?_ | with_reducible refine st_lstRg ?_ | with_reducible refine st_rg2 ?_ | with_reducible refine r_twoI ?_ | with_reducible refine st_bm ?_ | with_reducible refine st_bm0 ?_
  | ((with_reducible refine' st_aug ?h ?_); (case h => exact rfl)) | with_reducible refine r_augI ?_ | with_reducible refine r_eqB ?_
  | dsimp only))
section
variable {P : Program} {w : World} {K : PySem.W.Frag} {mg : Str → Option Value} {base : Heap} {A : Ad}
def sp__law_all_tables (K : PySem.W.Frag) : Sp := fun vs H Q _ => ∃ (L n : Nat) (d : Wb.Gm) (t : Addr), vs = [.ref t, .int (L : Int)] ∧ TabH H t n d ∧ Wb.Gr L n d ∧ L ≤ 4 ∧ n ≤ 5 ∧
  ∀ l xs E H1, Ex H H1 → H1 l = some (.lst xs) → TuW H1 xs E → E.length ≤ 7776 → (∀ T ∈ E, ∃ w, T = Wb.tbl d n w) → (∀ w, Rn.St L w → Wb.tbl d n w ∈ E) → Q (.ref l) H1
theorem ok__law_all_tables (T : Tx K mg A) : FnOk P w K mg base CX0 2 A.a__law_all_tables A.f__law_all_tables P__law_all_tables (sp__law_all_tables K) := by
  refine Qt.drp ?_ ?_
  · refine T.F__law_all_tables.ok sc__law_all_tables (fun vs H Q E h => ?_) (fun cdv A' outer s H vs Q E hr h => ?_)
    · obtain ⟨L, n, d, t, rfl, _⟩ := h
      rfl
    · obtain ⟨L, n, d, t, rfl, tab, G, l4, hn, q⟩ := h
      refine ⟨_, (pss_cons (ps_par (i := 2) (j := 3) (by rfl) sc__law_all_tables.nd rfl rfl (by decide) rfl rfl (pa_cons (pe_lst (pa_cons (pe_callTy (Pm.tupRg rfl) (by rfl) T.n_tuple (by decide +kernel) (pa_cons (pe_callTy Pm.cr_range1 (by rfl) T.n_range (by decide +kernel) (pa_cons (pe_callB (len_K K) (by rfl) T.n_len (by decide +kernel) (pa_cons (pv 0) pa_nil)) pa_nil)) pa_nil)) pa_nil)) (pa_cons pe_int pa_nil)) (by rfl))
        (pss_cons (ps_set (i := 4) sc__law_all_tables.nd rfl (Or.inl rfl) (pe_callTy (dictT_K K rfl hr) (by rfl) T.n_dict (by decide +kernel) (pa_cons (pe_lst (pa_cons (pe_tup (pa_cons (pe_ix (ix_K K) (pv 2) pe_int (fun _ _ => rfl)) (pa_cons pe_bl pa_nil))) pa_nil)) pa_nil)))
        (pss_cons (ps_while PassesOwn.never (pt_cmpR op_lt (pv 3) (pe_callB (len_K K) (by rfl) T.n_len (by decide +kernel) (pa_cons (pv 2) pa_nil)) (nomark _)) (pss_cons (ps_for PassesOwn.never rfl (pi_listK K (pe_call (ok__law_steps T) (hr.mono (by decide)) (by rfl) T.g__law_steps T.F__law_steps.kp T.b__law_steps .nil pass0 (pa_cons (pv 1) pa_nil))) (pg_name (i := 5) sc__law_all_tables.nd rfl (Or.inr rfl)) (pss_cons (ps_setLc (i := 6) (own := [("_law_room", 8)]) rfl sc__law_all_tables.nd rfl rfl (sw_true rfl rfl rfl (by decide +kernel)) (pi_tupK K (pe_ix (ix_K K) (pv 2) (pv 3) (fun _ _ => rfl))) (blkOk_by (own := [("_law_room", 8)]) (N := N__law_all_tables) (sc := defScope s__law_all_tables) (by decide +kernel)) (fun _ _ _ _ _ => (pg_name (i := 8) sc__law_all_tables.nd rfl (Or.inl rfl))) (fun _ _ _ _ _ => pts_nil) (fun _ _ _ _ _ => (pe_ifExp (pt_cmpR op_ge (pv 8) pe_int (nomark _)) (pe_dget2 (hu_of hr) (pe_ix (ix_K K) (pv 0) (pv 8) (fun _ _ => rfl)) (pv 5) (pe_un un_neg pe_int) ⟨rfl, rfl, rfl, rfl⟩) (pe_un un_neg pe_int))))
        (pss_cons (ps_set (i := 7) sc__law_all_tables.nd rfl (Or.inl rfl) (pe_callTy (tuple_K K) (by rfl) T.n_tuple (by decide +kernel) (pa_cons (pv 6) pa_nil)))
        (pss_one (ps_if (pt_cmp (pc_dnotin (hu_of hr) (pv 7) (pv 4)) (by rfl)) (pss_cons (ps_dput (hu_of hr) (pv 4) (pv 7) pe_bl (by rfl))
        (pss_one (ps_expr (pe_bmU K PySem.F.plainAttrs_list PySem.F.slot_list_append PySem.F.type_list_append mt_append (pv 2) (pa_cons (pv 7) pa_nil))))) pss_nil)))))
        (pss_one (ps_set (i := 3) sc__law_all_tables.nd rfl (Or.inl rfl) (pe_op (op_addK K) (pv 3) pe_int)))))
        (pss_one (ps_ret (pv 2)))))), ?_⟩
      walk_at "go"
      obtain ⟨ds, dl, dt, dk⟩ := tab.ex
      refine r_lenL (l_of dt) ?_
      rw [List.length_map, dl]
      walk_at "go"
      refine ⟨_, rfl, fun R hR => ?_⟩
      walk_at "go"
      refine ⟨R, n, rfl, upd_same, by omega, fun t0 ht0 => ?_⟩
      have e1 : Ex H (upd H R (.rng 0 n)) := Ex.new hR
      have e2 : Ex (upd H R (.rng 0 n)) (upd (upd H R (.rng 0 n)) t0 (.tup ((List.range n).map fun (x : Nat) => V.int (x : Int)))) := Ex.new ht0
      obtain ⟨H2, hH2⟩ : ∃ H2, H2 = upd (upd H R (.rng 0 n)) t0 (.tup ((List.range n).map fun (x : Nat) => V.int (x : Int))) := ⟨_, rfl⟩
      have kt0 : HTp H2 t0 (Wb.tbl d n []) := by
        unfold HTp Wb.tbl
        rw [hH2, upd_same, List.map_map]
        rfl
      rw [← hH2] at e2 ⊢
      have e02 := e1.trans e2
      clear hH2 ht0 e1 e2
      walk_at "go"
      refine r_newL (by simp) fun q0 H3 hq0 e3 k3 => ?_
      walk_at "go"
      refine ⟨_, _, rfl, ?_⟩
      walk_at "go"
      refine r_ixL (l_of k3) rfl ?_
      walk_at "go"
      refine r_newT (by simp) fun b1 H4 hb1 e4 k4 => ?_
      walk_at "go"
      refine r_newL (by simp) fun b2 H5 hb2 e5 k5 => ?_
      walk_at "go"
      refine r_dictW (E := [Wb.tbl d n []]) (f := fun _ => .bl true) k5 (KvA.nil.snoc (e5 _ _ k4) ((kt0.ex e3).ex (e4.trans e5))) (by simp) fun D H6 hD e6 k6 => ?_
      walk_at "go"
      have e36 := (e4.trans e5).trans e6
      have kq := e36 _ _ k3
      have e06 := (e02.trans e3).trans e36
      have hq00 : H q0 = none := fresh_back e02 hq0
      have hD0 : H D = none := fresh_back ((e02.trans e3).trans (e4.trans e5)) hD
      have nDq : D ≠ q0 := fun z => by rw [z, (e4.trans e5) _ _ k3] at hD; cases hD
      have kt6 : HTp H6 t0 (Wb.tbl d n []) := (kt0.ex e3).ex e36
      clear e3 e4 e5 e6 e36 k3 k4 k5 hq0 hb1 hb2 hD e02 kt0
      refine st_while (fun m σ' H' => ∃ (k : Nat) (E : List (List Int)) (xs : List V) (v5 v6 v7 : Option V), m = 10000 - k ∧ k ≤ E.length ∧ Ex H H' ∧ H' D = some (.dT (wm E fun _ => .bl true)) ∧ H' q0 = some (.lst xs) ∧ TuW H' xs E ∧ Tb d n E k [] (Od.steps L) ∧
        σ' = [some (.ref t), some (.int (L : Int)), some (.ref q0), some (.int (k : Int)), some (.ref D), v5, v6, v7, none]) 10000
        ⟨0, [Wb.tbl d n []], _, none, none, none, rfl, Nat.zero_le _, e06, k6, kq, ⟨rfl, fun i e he => by
          cases i with
          | zero => cases he; exact ⟨t0, rfl, kt6⟩
          | succ i => cases he⟩, ⟨by simp, List.mem_singleton.mpr rfl, fun T hT => ⟨[], List.mem_singleton.mp hT⟩, fun i T _ hi => absurd hi (Nat.not_lt_zero _), fun T _ s hs => (List.not_mem_nil hs).elim⟩, rfl⟩ fun m σ' H' zz => ?_
      obtain ⟨k, E, xs, v5, v6, v7, rfl, hk, e, hd, hf, tu, TB, rfl⟩ := zz
      have few := TB.few G hn
      walk_at "go"
      refine r_lenL (l_of hf) ?_
      rw [tu.len]
      walk_at "go"
      refine if_2 (fun hlt => ?_) fun hge => ?_
      · refine ⟨_, fun _ _ h => h, ?_⟩
        have hkl : k < E.length := by omega
        have hk2 : k < 7776 := by omega
        have hE := List.getElem?_eq_getElem hkl
        generalize E[k] = T at hE
        obtain ⟨w0, hw0⟩ := TB.is T (List.mem_of_getElem? hE)
        walk_at "go"
        refine ⟨L, rfl, l4, fun sl H7 hsl e7 k7 => ?_⟩
        walk_at "go"
        have hsl0 : H sl = none := fresh_back e hsl
        have nsD : sl ≠ D := fun z => by rw [z, hd] at hsl; cases hsl
        have nsq : sl ≠ q0 := fun z => by rw [z, hf] at hsl; cases hsl
        refine r_itL (l_of k7) (r_forL (xs := (Od.steps L).map V.int) (fun i σ' H' => ∃ (E : List (List Int)) (xs : List V) (v5 v6 v7 : Option V), E[k]? = some T ∧ Ex H H' ∧ H' sl = some (.lst ((Od.steps L).map V.int)) ∧ H' D = some (.dT (wm E fun _ => .bl true)) ∧ H' q0 = some (.lst xs) ∧ TuW H' xs E ∧ Tb d n E k ((Od.steps L).take i) (Od.steps L) ∧
          σ' = [some (.ref t), some (.int (L : Int)), some (.ref q0), some (.int (k : Int)), some (.ref D), v5, v6, v7, none]) ⟨E, xs, v5, v6, v7, hE, e.trans e7, k7, e7 _ _ hd, e7 _ _ hf, tu.tx (TX.of e7), TB, rfl⟩ (fun i σ' H' _ z => ?_) (fun i x σ' H' hx z => ?_) fun σ' H' z => ?_)
        · obtain ⟨_, _, _, _, _, _, _, h, _⟩ := z
          exact l_of h
        · clear hE few TB tu hf hd
          obtain ⟨E, xs, v5, v6, v7, hE, e, ks, hd, hf, tu, TB, rfl⟩ := z
          have few := TB.few G hn
          rw [List.getElem?_map] at hx
          obtain ⟨st, hst, rfl⟩ := Option.map_eq_some_iff.mp hx
          obtain ⟨pT, hpT, hT⟩ := tu.at_ k T hE
          walk_at "go"
          refine r_ixL (l_of hf) (atI_at (by omega) hpT) ?_
          walk_at "go"
          refine r_itT hT.it ?_
          have Tl : T.length = n := by rw [hw0, Wb.tbl_len]
          refine r_cmT (ys := (nxt d T st).map V.int) hT.it (by unfold nxt; simp) (by unfold nxt; simp; omega) (fun _ => rfl) (fun j x y H8 hx hy e8 Q' kk => ?_) fun l H8 hl e8 k8 => ?_
          · rw [List.getElem?_map] at hx
            obtain ⟨z, hz, rfl⟩ := Option.map_eq_some_iff.mp hx
            unfold nxt at hy
            rw [List.getElem?_map, List.getElem?_map, hz] at hy
            cases hy
            have kk : ∀ H2, Ex H8 H2 → Q' (V.int (if 0 ≤ z then Wb.oI (d z.toNat st) else -1)) H2 := kk
            walk_at "go"
            refine if_2 (fun h0 => ?_) fun h0 => ?_
            · rw [if_pos h0] at kk
              have lz : z.toNat < n := by
                rw [hw0] at hz
                obtain ⟨r, hr⟩ : ∃ r, z = (r : Int) := ⟨z.toNat, by omega⟩
                unfold Wb.tbl at hz
                rw [List.getElem?_map] at hz
                cases ej : (List.range n)[j]? with
                | none => rw [ej] at hz; cases hz
                | some x0 =>
                  rw [ej] at hz
                  have hz : Wb.oI (Wb.go d x0 w0) = z := Option.some.inj hz
                  have lx : x0 < n := List.mem_range.mp (List.mem_of_getElem? ej)
                  cases eo : Wb.go d x0 w0 with
                  | none => rw [eo] at hz; rw [← hz] at h0; exact absurd h0 (by decide)
                  | some y0 =>
                    rw [eo] at hz
                    have := Wb.go_lt G lx eo
                    rw [← hz]
                    show ((y0 : Int)).toNat < n
                    rw [Int.toNat_natCast]
                    exact this
              obtain ⟨dz, hdz⟩ : ∃ dz, ds[z.toNat]? = some dz := ⟨_, List.getElem?_eq_getElem (by omega)⟩
              obtain ⟨kv, g1, g2⟩ := dk _ dz hdz
              have e08 := e.trans e8
              walk_at "go"
              refine r_ixL (l_of (e08 _ _ dt)) (atI_at (x := .ref dz) h0 (by rw [List.getElem?_map, hdz]; rfl)) ?_
              walk_at "go"
              refine r_dg2 (.inl (e08 _ _ g1)) ?_
              walk_at "go"
              refine r_dg2b (.inl (e08 _ _ g1)) g2 ?_
              have : ((vN (d z.toNat st)).getD (V.int (-1))) = V.int (Wb.oI (d z.toNat st)) := by cases d z.toNat st <;> rfl
              rw [this]
              exact kk H8 (Ex.refl H8)
            · rw [if_neg h0] at kk
              walk_at "go"
              exact kk H8 (Ex.refl H8)
          have tx8 := TX.of e8
          have hd := e8 _ _ hd
          have hf := e8 _ _ hf
          have ks := e8 _ _ ks
          have tu := tu.tx tx8
          have e := e.trans e8
          walk_at "go"
          refine r_tupLT (l_of k8) fun c H9 hc e9 k9 => ?_
          have tx9 := TX.of e9
          have hd := e9 _ _ hd
          have hf := e9 _ _ hf
          have ks := e9 _ _ ks
          have tu := tu.tx tx9
          have e := e.trans e9
          have hs : (Od.steps L).take (i + 1) = (Od.steps L).take i ++ [st] := take_snoc hst
          walk_at "go"
          refine r_wnin (.inl hd) k9 ?_
          by_cases hin : nxt d T st ∈ E
          · rw [decide_eq_true hin]
            walk_at "go"
            refine ⟨E, xs, _, _, _, hE, e, ks, hd, hf, tu, ?_, rfl⟩
            rw [hs]
            exact TB.stay hE hin
          · rw [decide_eq_false hin]
            walk_at "go"
            refine r_wput hd k9 (by omega) fun Ha ea ka => ?_
            walk_at "go"
            have hfa := ea _ _ hf nDq.symm
            refine r_app (l_of hfa) ?_
            walk_at "go"
            refine r_appd hfa (by rw [tu.len]; omega) fun Hb eb kb => ?_
            have tx : TX H9 Hb := (tx_dt hd ea).trans (TX.w2 hfa eb)
            refine ⟨E ++ [nxt d T st], xs ++ [.ref c], _, _, _, ?_, fun c o h => eb _ _ (ea _ _ (e _ _ h) (ne_of_none h hD0)) (ne_of_none h hq00), eb _ _ (ea _ _ ks nsD) nsq, ?_, kb, (tu.tx tx).snoc (k9.tx tx), ?_, rfl⟩
            · rw [List.getElem?_append_left (List.getElem?_eq_some_iff.mp hE).1]; exact hE
            · rw [eb _ _ ka nDq]
              unfold ins1
              rw [if_neg hin]
              congr 2
              exact wm_congr fun _ _ => by split <;> rfl
            · rw [hs]
              exact TB.put hE hin
        · clear hE few TB tu hf hd
          obtain ⟨E, xs, v5, v6, v7, hE, e, ks, hd, hf, tu, TB, rfl⟩ := z
          have few := TB.few G hn
          rw [List.length_map, List.take_length] at TB
          walk_at "go"
          exact ⟨10000 - (k + 1), by omega, k + 1, E, xs, _, _, _, rfl, (List.getElem?_eq_some_iff.mp hE).1, e, hd, hf, tu, TB.next, rfl⟩
      · walk_at "go"
        exact q q0 xs E H' e hf tu few TB.is fun w hw => TB.all (by omega) _ w rfl hw
  walk_at "end"
end
end Lw
namespace Lw
open PySem PySem.Spec PyProof.Rows L2 Evl
local macro_rules | `(tactic| walk_at "go") => `(tactic| repeat (first
  | with_reducible refine st_seq ?_ | with_reducible refine st_set ?_ | with_reducible refine st_asg ?_ | with_reducible refine st_ret ?_ | with_reducible refine st_drop ?_ | with_reducible refine st_if ?_
  | with_reducible refine st_c ?_ | ((with_reducible refine' st_v ?h ?_); (case h => exact rfl)) | with_reducible refine st_n ?_ | with_reducible refine st_cons ?_ | with_reducible refine st_op ?_ | with_reducible refine st_un ?_
  | with_reducible refine st_cb ?_ | with_reducible refine st_test ?_ | with_reducible refine st_call ?_ | with_reducible refine st_callK ?_ | with_reducible refine st_sl ?_ | with_reducible refine st_par ?_ | with_reducible refine st_par3 ?_ | with_reducible refine st_tru ?_
  | with_reducible refine st_and ?_ | with_reducible refine st_or ?_ | with_reducible refine st_not ?_ | with_reducible refine st_B ?_ | with_reducible refine st_andV ?_ | with_reducible refine st_orV ?_ | with_reducible refine st_notV ?_ | with_reducible refine st_ifE ?_
  | with_reducible refine st_part ?_ | with_reducible refine st_nop ?_ | with_reducible refine st_sub ?_ | with_reducible refine st_chain ?_ | with_reducible refine st_chain3 ?_ | with_reducible refine st_lenSet ?_ | with_reducible refine st_bl ?_ | with_reducible refine st_in ?_ | with_reducible refine r_truB ?_
  | with_reducible refine st_nameG ?_ | with_reducible refine if_T ?_ | with_reducible refine if_F ?_ | with_reducible refine if_nT ?_ | with_reducible refine if_nF ?_
  | with_reducible refine r_add ?_ | with_reducible refine r_0 ?_ | with_reducible refine r_neg ?_ | with_reducible refine r_intI ?_ | with_reducible refine r_intB ?_ | with_reducible refine r_abs ?_ | with_reducible refine r_max2 ?_ | with_reducible refine r_min2 ?_ | with_reducible refine r_eqI ?_ | with_reducible refine r_neI ?_
  | with_reducible refine st_nxt ?_ | with_reducible refine st_cnt ?_ | with_reducible refine st_brk ?_ | with_reducible refine st_retn ?_
  | with_reducible refine st_lstN ?_ | with_reducible refine st_tupN ?_
  | with_reducible refine st_for ?_ | with_reducible refine st_lc ?_ | with_reducible refine st_lc2 ?_ | with_reducible refine st_rng1 ?_ | with_reducible refine st_rng2 ?_ | with_reducible refine st_rng3 ?_ | with_reducible refine st_itL ?_ | with_reducible refine st_itT ?_ | with_reducible refine st_rev ?_ | with_reducible refine st_enumE ?_ | with_reducible refine st_zip3 ?_ | with_reducible refine st_lvals ?_ | with_reducible refine st_fld ?_ | with_reducible refine st_sfld ?_ | with_reducible refine st_meth ?_ | with_reducible refine st_make ?_ | with_reducible refine st_rg1 ?_ | with_reducible refine st_enumS ?_ | with_reducible refine st_enumD ?_ | with_reducible refine st_lstIt ?_ | with_reducible refine st_dg1 ?_ | with_reducible refine st_dg2 ?_ | with_reducible refine st_dpop ?_ | with_reducible refine st_dset ?_ | with_reducible refine st_ckw ?_ | with_reducible refine st_dsetT ?_ | with_reducible refine st_dnewT ?_ | with_reducible refine st_dc ?_ | with_reducible refine st_keys ?_ | with_reducible refine st_dget ?_ | with_reducible refine st_din ?_ | with_reducible refine st_dnin ?_ | with_reducible refine st_dput ?_ | with_reducible refine st_dnew ?_ | with_reducible refine st_lstRg ?_ | with_reducible refine st_rg2 ?_ | with_reducible refine r_twoI ?_ | with_reducible refine st_bm ?_ | with_reducible refine st_bm0 ?_
  | ((with_reducible refine' st_aug ?h ?_); (case h => exact rfl)) | with_reducible refine r_augI ?_ | with_reducible refine r_eqB ?_
  | dsimp only))
section
variable {P : Program} {w : World} {K : PySem.W.Frag} {mg : Str → Option Value} {base : Heap} {A : Ad}
theorem go_tbl {d : Wb.Gm} {n : Nat} {w w' : List Int} (e : Wb.tbl d n w = Wb.tbl d n w') {x : Nat} (hx : x < n) : Wb.go d x w = Wb.go d x w' := by
  have h := Wb.tbl_get (d := d) (w := w) hx
  rw [e, Wb.tbl_get hx] at h
  exact (Wb.oI_inj (Option.some.inj h)).symm
theorem rep_tbl {d : Wb.Gm} {L n : Nat} (G : Wb.Gr L n d) {w w' : List Int} (e : Wb.tbl d n w = Wb.tbl d n w') {f : Nat} (hf : f < n) : ∀ i, Wb.go d f (Fg.rep i w) = Wb.go d f (Fg.rep i w')
  | 0 => rfl
  | i + 1 => by
    rw [Pe.go_rep_succ, Pe.go_rep_succ, rep_tbl G e hf i]
    cases o : Wb.go d f (Fg.rep i w') with
    | none => rfl
    | some y => exact go_tbl e (Wb.go_lt G hf o)
theorem turn_congr {d : Wb.Gm} {L n : Nat} (G : Wb.Gr L n d) {w w' : List Int} (e : Wb.tbl d n w = Wb.tbl d n w') {f : Nat} (hf : f < n) {j : Nat} {room : Int} {times : Nat} (T : Wb.Turn d w f j room times) : Wb.Turn d w' f j room times :=
  ⟨T.t1, T.t2, by rw [← rep_tbl G e hf]; exact T.at_, fun i a b => by rw [← rep_tbl G e hf]; exact T.mid i a b, T.on⟩
theorem turn_one {d : Wb.Gm} {w : List Int} {f j : Nat} {room : Int} {t1 t2 : Nat} (T : Wb.Turn d w f j (f : Int) t1) (S : Wb.Turn d w f j room t2) : room = (f : Int) ∧ t2 = t1 := by
  have b : Wb.go d f (Fg.rep t1 w) = some f := Wb.oI_inj T.at_.symm
  have e : t2 = t1 := by
    rcases Nat.lt_trichotomy t2 t1 with c | c | c
    · obtain ⟨y, hy, ny⟩ := T.mid t2 S.t1 c
      have z := S.at_
      rw [hy] at z
      have z : room = (y : Int) := z
      have := T.t2
      rcases S.on with q | q | q
      · omega
      · omega
      · omega
    · exact c
    · obtain ⟨y, hy, ny⟩ := S.mid t1 T.t1 c
      rw [b] at hy
      exact absurd (Option.some.inj hy).symm ny
  refine ⟨?_, e⟩
  have z := S.at_
  rw [e, b] at z
  exact z
theorem turn_of {d : Wb.Gm} {L n : Nat} (G : Wb.Gr L n d) {t : List Nat} {w : List Int} (nd : t.Nodup) (lt : ∀ x ∈ t, x < n) (hl : Wb.Lead d t w (Wb.rot t)) {f : Nat} (hf : t[0]? = some f) : Wb.Turn d w f n (f : Int) t.length := by
  have tn : t.length ≤ n := Wb.nodup_lt nd lt
  have t0 : 0 < t.length := (List.getElem?_eq_some_iff.mp hf).1
  refine ⟨t0, by omega, by rw [(Wb.circ_idx nd hl hf (Nat.le_refl _) t0).mpr rfl]; rfl, fun i a b => ?_, .inr (.inr rfl)⟩
  obtain ⟨y, _, hy⟩ := Wb.circ_go hl hf i
  refine ⟨y, hy, fun z => ?_⟩
  rw [z] at hy
  have := (Wb.circ_idx nd hl hf (Nat.le_of_lt b) a).mp hy
  omega
/-- which numbers are held, some tables done -/
structure Hs (d : Wb.Gm) (n : Nat) (E : List (List Int)) (hs : List Bool) (i j : Nat) : Prop where
  len : hs.length = n + 1
  so : ∀ k : Nat, hs[k]? = some true → 0 < k ∧ Wb.Circ d n k
  al : ∀ (i' f : Nat) T w times, (i' < i ∨ (i' = i ∧ f < j)) → f < n → E[i']? = some T → T = Wb.tbl d n w → Wb.Turn d w f n (f : Int) times → hs[times]? = some true
theorem Hs.start (d : Wb.Gm) (n : Nat) (E : List (List Int)) : Hs d n E (List.replicate (n + 1) false) 0 0 :=
  ⟨by simp, fun k h => (by rw [List.getElem?_replicate] at h; split at h <;> cases h), fun i' f T w times h => by omega⟩
theorem Hs.row {d : Wb.Gm} {n : Nat} {E : List (List Int)} {hs : List Bool} {i : Nat} (h : Hs d n E hs i n) : Hs d n E hs (i + 1) 0 :=
  ⟨h.len, h.so, fun i' f T w times hi hf => h.al i' f T w times (by omega) hf⟩
theorem Hs.no {d : Wb.Gm} {L n : Nat} (G : Wb.Gr L n d) {E : List (List Int)} {hs : List Bool} {i j : Nat} (h : Hs d n E hs i j) {T : List Int} (hT : E[i]? = some T) {w : List Int} (hw : T = Wb.tbl d n w) (hj : j < n) {room : Int} {times : Nat} (U : Wb.Turn d w j n room times) (hr : room ≠ (j : Int)) : Hs d n E hs i (j + 1) :=
  ⟨h.len, h.so, fun i' f T' w' times' hi hf hT' hw' U' => by
    by_cases c : i' = i ∧ f = j
    · obtain ⟨rfl, rfl⟩ := c
      rw [hT] at hT'
      cases hT'
      exact absurd (turn_one (turn_congr G (hw'.symm.trans hw) hf U') U).1 hr
    · exact h.al i' f T' w' times' (by omega) hf hT' hw' U'⟩
theorem Hs.yes {d : Wb.Gm} {L n : Nat} (G : Wb.Gr L n d) {E : List (List Int)} {hs : List Bool} {i j : Nat} (h : Hs d n E hs i j) {T : List Int} (hT : E[i]? = some T) {w : List Int} (hw : T = Wb.tbl d n w) (hj : j < n) {times : Nat} (U : Wb.Turn d w j n (j : Int) times) : times ≤ n ∧ Hs d n E (hs.set times true) i (j + 1) := by
  have ci := U.circ G hj
  have le := Wb.circ_le ci
  have lt : times < hs.length := by rw [h.len]; omega
  refine ⟨le, by rw [List.length_set]; exact h.len, fun k hk => ?_, fun i' f T' w' times' hi hf hT' hw' U' => ?_⟩
  · by_cases c : times = k
    · subst c; exact ⟨U.t1, ci⟩
    · rw [List.getElem?_set_ne c] at hk
      exact h.so k hk
  · by_cases c : i' = i ∧ f = j
    · obtain ⟨rfl, rfl⟩ := c
      rw [hT] at hT'
      cases hT'
      rw [← (turn_one (turn_congr G (hw'.symm.trans hw) hf U') U).2, List.getElem?_set_self lt]
    · have := h.al i' f T' w' times' (by omega) hf hT' hw' U'
      by_cases e : times = times'
      · rw [← e, List.getElem?_set_self lt]
      · rw [List.getElem?_set_ne e]; exact this
theorem Hs.done {d : Wb.Gm} {L n : Nat} (G : Wb.Gr L n d) {E : List (List Int)} {hs : List Bool} (h : Hs d n E hs E.length 0) (hE : ∀ w, Rn.St L w → Wb.tbl d n w ∈ E) (k : Nat) : hs[k]? = some true ↔ 0 < k ∧ Wb.Circ d n k := by
  refine ⟨h.so k, fun ⟨k0, t, w, tl, nd, lt, hl⟩ => ?_⟩
  obtain ⟨f, hf⟩ : ∃ f, t[0]? = some f := ⟨_, List.getElem?_eq_getElem (by omega)⟩
  obtain ⟨y, _, hy⟩ := hl.get hf
  obtain ⟨i, hi⟩ := List.getElem?_of_mem (hE w (Fo.go_st G hy))
  rw [← tl]
  exact h.al i f _ w t.length (.inl (List.getElem?_eq_some_iff.mp hi).1) (lt f (List.mem_of_getElem? hf)) hi rfl (turn_of G nd lt hl hf)
def sp__law_rounds (K : PySem.W.Frag) : Sp := fun vs H Q _ => ∃ (L n : Nat) (d : Wb.Gm) (a : Addr) (xs : List V) (E : List (List Int)), vs = [.ref a, .int (n : Int)] ∧ H a = some (.lst xs) ∧ TuW H xs E ∧ E.length ≤ 7776 ∧ Wb.Gr L n d ∧ n ≤ 5 ∧ (∀ T ∈ E, ∃ w, T = Wb.tbl d n w) ∧ (∀ w, Rn.St L w → Wb.tbl d n w ∈ E) ∧
  ∀ F (hs : List Bool) H1, H F = none → Ex H H1 → H1 F = some (.lst (hs.map V.bl)) → hs.length = n + 1 → (∀ k : Nat, hs[k]? = some true ↔ 0 < k ∧ Wb.Circ d n k) → Q (.ref F) H1
theorem ok__law_rounds (T : Tx K mg A) : FnOk P w K mg base CX0 1 A.a__law_rounds A.f__law_rounds P__law_rounds (sp__law_rounds K) := by
  refine Qt.drp ?_ ?_
  · refine T.F__law_rounds.ok sc__law_rounds (fun vs H Q E h => ?_) (fun cdv A' outer s H vs Q E hr h => ?_)
    · obtain ⟨L, n, d, a, xs, E, rfl, _⟩ := h
      rfl
    · obtain ⟨L, n, d, a, xs, E, rfl, ha, tu, few, G, hn, hE1, hE2, q⟩ := h
      refine ⟨_, (pss_cons (ps_set (i := 2) sc__law_rounds.nd rfl (Or.inl rfl) (pe_op (op_mulK K) (pe_lst (pa_cons pe_bl pa_nil)) (pe_op (op_addK K) (pv 1) pe_int)))
        (pss_cons (ps_for PassesOwn.never rfl (pi_listK K (pv 0)) (pg_name (i := 3) sc__law_rounds.nd rfl (Or.inl rfl)) (pss_one (ps_for PassesOwn.never rfl (pi_range1 (by rfl) T.n_range (pa_cons (pv 1) pa_nil)) (pg_name (i := 4) sc__law_rounds.nd rfl (Or.inl rfl)) (pss_cons (ps_par (i := 5) (j := 6) (by rfl) sc__law_rounds.nd rfl rfl (by decide) rfl rfl (pa_cons (pe_ix (ix_K K) (pv 3) (pv 4) (fun _ _ => rfl)) (pa_cons pe_int pa_nil)) (by rfl))
        (pss_cons (ps_for PassesOwn.never rfl (pi_range1 (by rfl) T.n_range (pa_cons (pv 1) pa_nil)) (pg_name (i := 7) sc__law_rounds.nd rfl (Or.inl rfl)) (pss_one (ps_if (PW.pt (pw_and (pt_cmpR op_ge (pv 5) pe_int (nomark _)) (pw_and1 (pt_cmpR (op_neK K hr.units) (pv 5) (pv 4) (nomark _))))) (pss_one (ps_par (i := 5) (j := 6) (by rfl) sc__law_rounds.nd rfl rfl (by decide) rfl rfl (pa_cons (pe_ix (ix_K K) (pv 3) (pv 5) (fun _ _ => rfl)) (pa_cons (pe_op (op_addK K) (pv 6) pe_int) pa_nil)) (by rfl))) pss_nil)))
        (pss_one (ps_if (pt_cmpR (op_eqK K hr.units) (pv 5) (pv 4) (nomark _)) (pss_one (ps_asg pe_bl (pg_sub (pv 2) (pv 6) set_list))) pss_nil)))))))
        (pss_one (ps_ret (pv 2))))), ?_⟩
      walk_at "go"
      refine r_newL (by simp) fun z0 H1 hz0 e1 k1 => ?_
      walk_at "go"
      refine r_repL k1 (by omega) (by omega) (by simp; omega) fun F H2 hF e2 k2 => ?_
      have e12 := e1.trans e2
      have hF0 : H F = none := fresh_back e1 hF
      have k2 : H2 F = some (.lst ((List.replicate (n + 1) false).map V.bl)) := by
        rw [k2, show ((n : Int) + 1).toNat = n + 1 by omega]
        congr 2
        have : ∀ m : Nat, (List.replicate m [V.bl false]).flatten = (List.replicate m false).map V.bl := fun m => by
          induction m with
          | zero => rfl
          | succ m ih => rw [List.replicate_succ, List.flatten_cons, ih, List.replicate_succ]; rfl
        exact this _
      walk_at "go"
      have tE := tu.len
      refine r_itL (l_of (e12 _ _ ha)) (r_forL (xs := xs) (fun i σ' H' => ∃ (hs : List Bool) (v3 v4 v5 v6 v7 : Option V), Ex H H' ∧ H' F = some (.lst (hs.map V.bl)) ∧ Hs d n E hs i 0 ∧ σ' = [some (.ref a), some (.int (n : Int)), some (.ref F), v3, v4, v5, v6, v7]) ⟨_, none, none, none, none, none, e12, k2, Hs.start d n E, rfl⟩ (fun i σ' H' _ z => ?_) (fun i x σ' H' hx z => ?_) fun σ' H' z => ?_)
      · obtain ⟨_, _, _, _, _, _, e, _⟩ := z
        exact l_of (e _ _ ha)
      · obtain ⟨hs, v3, v4, v5, v6, v7, e, kF, S, rfl⟩ := z
        have hi : i < E.length := by rw [← tE]; exact (List.getElem?_eq_some_iff.mp hx).1
        obtain ⟨pT, hpT, hT⟩ := tu.at_ i _ (List.getElem?_eq_getElem hi)
        have hE := List.getElem?_eq_getElem hi
        generalize E[i] = T at hT hE
        rw [hx] at hpT
        cases hpT
        obtain ⟨w, hw⟩ := hE1 T (List.mem_of_getElem? hE)
        walk_at "go"
        refine r_rng1 (by omega) (by omega) (r_forR (lo := 0) (m := ((n : Nat) : Int).toNat) (fun j σ' H' => ∃ (hs : List Bool) (v4 v5 v6 v7 : Option V), Ex H H' ∧ H' F = some (.lst (hs.map V.bl)) ∧ Hs d n E hs i j ∧ σ' = [some (.ref a), some (.int (n : Int)), some (.ref F), some (.ref pT), v4, v5, v6, v7]) ⟨hs, v4, v5, v6, v7, e, kF, S, rfl⟩ (fun j σ' H' hj z => ?_) fun σ' H' z => ?_)
        · have hj : j < n := hj
          clear S kF e
          obtain ⟨hs, v4, v5, v6, v7, e, kF, S, rfl⟩ := z
          have hT := hT.ex e
          walk_at "go"
          refine r_ixT hT.it (at_int (x := Wb.oI (Wb.go d j w)) (by omega) (by rw [hw, show ((0 : Int) + (j : Int)).toNat = j by omega]; exact Wb.tbl_get hj)) ?_
          walk_at "go"
          refine ⟨_, _, rfl, ?_⟩
          walk_at "go"
          refine r_rng1 (by omega) (by omega) (r_forR (lo := 0) (m := ((n : Nat) : Int).toNat) (fun c σ' H' => ∃ (room : Int) (times : Nat) (v7 : Option V), H' = _ ∧ Wb.Turn d w j c room times ∧ σ' = [some (.ref a), some (.int (n : Int)), some (.ref F), some (.ref pT), some (.int (0 + (j : Int))), some (.int room), some (.int (times : Int)), v7]) ⟨_, 1, v7, rfl, Wb.Turn.start, rfl⟩ (fun c σ' H2 hc z => ?_) fun σ' H2 z => ?_)
          · obtain ⟨room, times, v7, rfl, U, rfl⟩ := z
            walk_at "go"
            refine if_2 (fun h0 => ?_) fun h0 => ?_
            · by_cases c0 : room = 0 + (j : Int)
              · walk_at "go"
                rw [decide_eq_true c0, if_neg (by decide)]
                walk_at "go"
                exact ⟨room, times, _, rfl, U.stay fun z => z.2 (by omega), rfl⟩
              · walk_at "go"
                rw [decide_eq_false c0, if_pos (show (!false) = true from rfl)]
                walk_at "go"
                obtain ⟨y, rfl, hy, U'⟩ := U.go ⟨h0, by omega⟩
                have ly := Wb.go_lt G hj hy
                refine r_ixT hT.it (at_int (x := Wb.oI (Wb.go d y w)) (by omega) (by rw [hw, Int.toNat_natCast]; exact Wb.tbl_get ly)) ?_
                walk_at "go"
                refine ⟨_, _, rfl, ?_⟩
                walk_at "go"
                exact ⟨_, times + 1, _, rfl, U', by rw [show (times : Int) + 1 = ((times + 1 : Nat) : Int) by omega]; rfl⟩
            · walk_at "go"
              exact ⟨room, times, _, rfl, U.stay fun z => h0 z.1, rfl⟩
          · obtain ⟨room, times, v7, rfl, U, rfl⟩ := z
            have U : Wb.Turn d w j n room times := U
            walk_at "go"
            by_cases c0 : room = 0 + (j : Int)
            · rw [decide_eq_true c0]
              walk_at "go"
              obtain rfl : room = (j : Int) := by omega
              obtain ⟨le, S'⟩ := S.yes G hE hw hj U
              refine r_set (k := times) kF (by rw [List.length_map, S.len]; exact ixN_in (by omega) (by omega)) ?_
              refine ⟨hs.set times true, _, _, _, _, fun c o h => (upd_ne (ne_of_none h hF0)).trans (e _ _ h), ?_, S', rfl⟩
              rw [upd_same, List.map_set]
            · rw [decide_eq_false c0]
              walk_at "go"
              exact ⟨hs, _, _, _, _, e, kF, S.no G hE hw hj U fun z => c0 (by omega), rfl⟩
        · clear S kF e
          obtain ⟨hs, v4, v5, v6, v7, e, kF, S, rfl⟩ := z
          exact ⟨hs, _, _, _, _, _, e, kF, Hs.row (by exact S), rfl⟩
      · obtain ⟨hs, v3, v4, v5, v6, v7, e, kF, S, rfl⟩ := z
        walk_at "go"
        rw [tE] at S
        exact q F hs H' hF0 e kF S.len (S.done G hE2)
  walk_at "end"
end
end Lw
namespace Lw
open PySem PySem.Spec PyProof.Rows L2 Evl
local macro_rules | `(tactic| walk_at "go") => `(tactic| repeat (first
  | with_reducible refine st_seq ?_ | with_reducible refine st_set ?_ | with_reducible refine st_asg ?_ | with_reducible refine st_ret ?_ | with_reducible refine st_drop ?_ | with_reducible refine st_if ?_
  | with_reducible refine st_c ?_ | ((with_reducible refine' st_v ?h ?_); (case h => exact rfl)) | with_reducible refine st_n ?_ | with_reducible refine st_cons ?_ | with_reducible refine st_op ?_ | with_reducible refine st_un ?_
  | with_reducible refine st_cb ?_ | with_reducible refine st_test ?_ | with_reducible refine st_call ?_ | with_reducible refine st_callK ?_ | with_reducible refine st_sl ?_ | with_reducible refine st_par ?_ | with_reducible refine st_par3 ?_ | with_reducible refine st_tru ?_
  | with_reducible refine st_and ?_ | with_reducible refine st_or ?_ | with_reducible refine st_not ?_ | with_reducible refine st_B ?_ | with_reducible refine st_andV ?_ | with_reducible refine st_orV ?_ | with_reducible refine st_notV ?_ | with_reducible refine st_ifE ?_
  | with_reducible refine st_part ?_ | with_reducible refine st_nop ?_ | with_reducible refine st_sub ?_ | with_reducible refine st_chain ?_ | with_reducible refine st_chain3 ?_ | with_reducible refine st_lenSet ?_ | with_reducible refine st_bl ?_ | with_reducible refine st_in ?_ | with_reducible refine r_truB ?_
  | with_reducible refine st_nameG ?_ | with_reducible refine if_T ?_ | with_reducible refine if_F ?_ | with_reducible refine if_nT ?_ | with_reducible refine if_nF ?_
  | with_reducible refine r_add ?_ | with_reducible refine r_0 ?_ | with_reducible refine r_neg ?_ | with_reducible refine r_intI ?_ | with_reducible refine r_intB ?_ | with_reducible refine r_abs ?_ | with_reducible refine r_max2 ?_ | with_reducible refine r_min2 ?_ | with_reducible refine r_eqI ?_ | with_reducible refine r_neI ?_
  | with_reducible refine st_nxt ?_ | with_reducible refine st_cnt ?_ | with_reducible refine st_brk ?_ | with_reducible refine st_retn ?_
  | with_reducible refine st_lstN ?_ | with_reducible refine st_tupN ?_
  | with_reducible refine st_for ?_ | with_reducible refine st_lc ?_ | with_reducible refine st_lc2 ?_ | with_reducible refine st_rng1 ?_ | with_reducible refine st_rng2 ?_ | with_reducible refine st_rng3 ?_ | with_reducible refine st_itL ?_ | with_reducible refine st_itT ?_ | with_reducible refine st_rev ?_ | with_reducible refine st_enumE ?_ | with_reducible refine st_zip3 ?_ | with_reducible refine st_lvals ?_ | with_reducible refine st_fld ?_ | with_reducible refine st_sfld ?_ | with_reducible refine st_meth ?_ | with_reducible refine st_make ?_ | with_reducible refine st_rg1 ?_ | with_reducible refine st_enumS ?_ | with_reducible refine st_enumD ?_ | with_reducible refine st_lstIt ?_ | with_reducible refine st_dg1 ?_ | with_reducible refine st_dg2 ?_ | with_reducible refine st_dpop ?_ | with_reducible refine st_dset ?_ | with_reducible refine st_ckw ?_ | with_reducible refine st_dsetT ?_ | with_reducible refine st_dnewT ?_ | with_reducible refine st_dc ?_ | with_reducible refine st_keys ?_ | with_reducible refine st_dget ?_ | with_reducible refine st_din ?_ | with_reducible refine st_dnin ?_ | with_reducible refine st_dput ?_ | with_reducible refine st_dnew ?_ | with_reducible refine st_lstRg ?_ | with_reducible refine st_rg2 ?_ | with_reducible refine r_twoI ?_ | with_reducible refine st_bm ?_ | with_reducible refine st_bm0 ?_
  | ((with_reducible refine' st_aug ?h ?_); (case h => exact rfl)) | with_reducible refine r_augI ?_ | with_reducible refine r_eqB ?_
  | dsimp only))
section
variable {P : Program} {w : World} {K : PySem.W.Frag} {mg : Str → Option Value} {base : Heap} {A : Ad}
def sp__law_short (K : PySem.W.Frag) : Sp := fun vs H Q _ => ∃ a ns, vs = [.ref a] ∧ IT K H a ns ∧ ns.length ≤ 5000 ∧ ∀ p H1, Ex H H1 → IT K H1 p (Fg.rd ns) → Q (.ref p) H1
theorem ok__law_short (T : Tx K mg A) : FnOk P w K mg base CX0 1 A.a__law_short A.f__law_short P__law_short (sp__law_short K) := by
  refine Qt.drp ?_ ?_
  · refine T.F__law_short.ok sc__law_short (fun vs H Q E h => ?_) (fun cdv A' outer s H vs Q E hr h => ?_)
    · obtain ⟨a, ns, rfl, _⟩ := h
      rfl
    · obtain ⟨a, ns, rfl, ht, hz, q⟩ := h
      refine ⟨_, (pss_cons (ps_set (i := 1) sc__law_short.nd rfl (Or.inl rfl) (pe_lst pa_nil))
        (pss_cons (ps_for PassesOwn.never rfl (pi_tupK K (pv 0)) (pg_name (i := 2) sc__law_short.nd rfl (Or.inl rfl)) (pss_one (ps_if (PW.pt (pw_and (pt_cmpR (op_neK K hr.units) (pv 1) (pe_lst pa_nil) (nomark _)) (pw_and1 (pt_cmpR (op_eqK K hr.units) (pe_ix (ix_K K) (pv 1) (pe_un un_neg pe_int) (fun _ _ => rfl)) (pe_un un_neg (pv 2)) (nomark _))))) (pss_one (ps_expr (pe_bm0U K PySem.F.plainAttrs_list PySem.F.slot_list_pop PySem.F.type_list_pop mt_pop (pv 1)))) (pss_one (ps_expr (pe_bmU K PySem.F.plainAttrs_list PySem.F.slot_list_append PySem.F.type_list_append mt_append (pv 1) (pa_cons (pv 2) pa_nil)))))))
        (pss_one (ps_ret (pe_callTy (tuple_K K) (by rfl) T.n_tuple (by decide +kernel) (pa_cons (pv 1) pa_nil)))))), ?_⟩
      walk_at "go"
      refine r_newL (by simp) fun l H1 hl e1 h1 => ?_
      walk_at "go"
      refine r_itT (ex_t e1 ht) (r_forT (xs := ns.map V.int) (fun i σ' H' => ∃ v, Ex H H' ∧ σ' = [some (.ref a), some (.ref l), v] ∧ H' l = some (.lst ((Fg.rd (ns.take i)).map V.int))) ⟨none, e1, rfl, h1⟩ (fun i σ' H' _ p => ex_t p.choose_spec.1 ht) (fun i x σ' H' hx p => ?_) fun σ' H' p => ?_)
      · obtain ⟨v, e2, rfl, h2⟩ := p
        rw [List.getElem?_map] at hx
        obtain ⟨z, hn, rfl⟩ := Option.map_eq_some_iff.mp hx
        have hi := (List.getElem?_eq_some_iff.mp hn).1
        have step : Fg.rd (ns.take (i + 1)) = (Fg.stp (Fg.rd (ns.take i)).reverse z).reverse := by rw [take_snoc hn, Fg.rd_snoc]
        have hlen : (Fg.rd (ns.take i)).length ≤ 5000 := Nat.le_trans (Fg.rd_len _) (by rw [List.length_take]; omega)
        generalize Fg.rd (ns.take i) = q at h2 step hlen
        walk_at "go"
        refine r_newL (by simp) fun c H3 hc e3 h3 => ?_
        walk_at "go"
        have k2 := e3 _ _ h2
        have e23 := e2.trans e3
        refine r_neL (ns := q) (ms := []) (l_of k2) (l_of h3) ?_
        walk_at "go"
        rcases List.eq_nil_or_concat q with e | ⟨r, y, e⟩
        · subst e
          refine if_nT ?_
          walk_at "go"
          refine r_app (l_of k2) ?_
          walk_at "go"
          refine r_appd k2 (by simp) fun H4 e4 k4 => ?_
          walk_at "go"
          refine ⟨_, fun b o hb => e4 _ _ (e23 _ _ hb) (fun zz => by rw [zz, hl] at hb; cases hb), rfl, ?_⟩
          rw [step]
          exact k4
        · rw [List.concat_eq_append] at e
          subst e
          rw [decide_eq_false (show ¬ (r ++ [y] = []) by simp)]
          refine if_nF ?_
          walk_at "go"
          refine r_ixL (l_of k2) (at_last (x := y) (by simp)) ?_
          walk_at "go"
          by_cases hy : y = -z
          · rw [decide_eq_true hy]
            refine if_T ?_
            have e4 : Fg.rd (ns.take (i + 1)) = r := by
              rw [step, List.reverse_append]
              show (if y = -z then r.reverse else z :: y :: r.reverse).reverse = r
              rw [if_pos hy, List.reverse_reverse]
            walk_at "go"
            refine r_pop (xs := r.map V.int) (v := .int y) (by rw [k2, List.map_append]; rfl) fun H4 e5 k5 => ?_
            walk_at "go"
            refine ⟨_, fun b o hb => e5 _ _ (e23 _ _ hb) (fun zz => by rw [zz, hl] at hb; cases hb), rfl, ?_⟩
            rw [e4]
            exact k5
          · rw [decide_eq_false hy]
            refine if_F ?_
            have e4 : Fg.rd (ns.take (i + 1)) = (r ++ [y]) ++ [z] := by
              rw [step, List.reverse_append]
              show (if y = -z then r.reverse else z :: y :: r.reverse).reverse = r ++ [y] ++ [z]
              rw [if_neg hy, List.reverse_cons, List.reverse_cons, List.reverse_reverse]
            walk_at "go"
            refine r_app (l_of k2) ?_
            walk_at "go"
            refine r_appd k2 (by rw [List.length_map]; omega) fun H4 e5 k5 => ?_
            walk_at "go"
            refine ⟨_, fun b o hb => e5 _ _ (e23 _ _ hb) (fun zz => by rw [zz, hl] at hb; cases hb), rfl, ?_⟩
            rw [e4, k5, List.map_append (l₁ := r ++ [y])]
            rfl
      · obtain ⟨v, e2, rfl, h2⟩ := p
        rw [List.length_map, List.take_length] at h2
        walk_at "go"
        refine r_tuL (l_of h2) fun p H3 _ e3 h3 => ?_
        walk_at "go"
        exact q p H3 (e2.trans e3) h3
  walk_at "end"
end
end Lw
namespace Lw
open PySem PySem.Spec PyProof.Rows L2 Evl
local macro_rules | `(tactic| walk_at "go") => `(tactic| repeat (first
  | with_reducible refine st_seq ?_ | with_reducible refine st_set ?_ | with_reducible refine st_asg ?_ | with_reducible refine st_ret ?_ | with_reducible refine st_drop ?_ | with_reducible refine st_if ?_
  | with_reducible refine st_c ?_ | ((with_reducible refine' st_v ?h ?_); (case h => exact rfl)) | with_reducible refine st_n ?_ | with_reducible refine st_cons ?_ | with_reducible refine st_op ?_ | with_reducible refine st_un ?_
  | with_reducible refine st_cb ?_ | with_reducible refine st_test ?_ | with_reducible refine st_call ?_ | with_reducible refine st_callK ?_ | with_reducible refine st_sl ?_ | with_reducible refine st_par ?_ | with_reducible refine st_par3 ?_ | with_reducible refine st_tru ?_
  | with_reducible refine st_and ?_ | with_reducible refine st_or ?_ | with_reducible refine st_not ?_ | with_reducible refine st_B ?_ | with_reducible refine st_andV ?_ | with_reducible refine st_orV ?_ | with_reducible refine st_notV ?_ | with_reducible refine st_ifE ?_
  | with_reducible refine st_part ?_ | with_reducible refine st_nop ?_ | with_reducible refine st_sub ?_ | with_reducible refine st_chain ?_ | with_reducible refine st_chain3 ?_ | with_reducible refine st_lenSet ?_ | with_reducible refine st_bl ?_ | with_reducible refine st_in ?_ | with_reducible refine r_truB ?_
  | with_reducible refine st_nameG ?_ | with_reducible refine if_T ?_ | with_reducible refine if_F ?_ | with_reducible refine if_nT ?_ | with_reducible refine if_nF ?_
  | with_reducible refine r_add ?_ | with_reducible refine r_0 ?_ | with_reducible refine r_neg ?_ | with_reducible refine r_intI ?_ | with_reducible refine r_intB ?_ | with_reducible refine r_abs ?_ | with_reducible refine r_max2 ?_ | with_reducible refine r_min2 ?_ | with_reducible refine r_eqI ?_ | with_reducible refine r_neI ?_
  | with_reducible refine st_nxt ?_ | with_reducible refine st_cnt ?_ | with_reducible refine st_brk ?_ | with_reducible refine st_retn ?_
  | with_reducible refine st_lstN ?_ | with_reducible refine st_tupN ?_
  | with_reducible refine st_for ?_ | with_reducible refine st_lc ?_ | with_reducible refine st_lc2 ?_ | with_reducible refine st_rng1 ?_ | with_reducible refine st_rng2 ?_ | with_reducible refine st_rng3 ?_ | with_reducible refine st_itL ?_ | with_reducible refine st_itT ?_ | with_reducible refine st_rev ?_ | with_reducible refine st_enumE ?_ | with_reducible refine st_zip3 ?_ | with_reducible refine st_lvals ?_ | with_reducible refine st_fld ?_ | with_reducible refine st_sfld ?_ | with_reducible refine st_meth ?_ | with_reducible refine st_make ?_ | with_reducible refine st_rg1 ?_ | with_reducible refine st_enumS ?_ | with_reducible refine st_enumD ?_ | with_reducible refine st_lstIt ?_ | with_reducible refine st_dg1 ?_ | with_reducible refine st_dg2 ?_ | with_reducible refine st_dpop ?_ | with_reducible refine st_dset ?_ | with_reducible refine st_ckw ?_ | with_reducible refine st_dsetT ?_ | with_reducible refine st_dnewT ?_ | with_reducible refine st_dc ?_ | with_reducible refine st_keys ?_ | with_reducible refine st_dget ?_ | with_reducible refine st_din ?_ | with_reducible refine st_dnin ?_ | with_reducible refine st_dput ?_ | with_reducible refine st_dnew ?_ | with_reducible refine st_lstRg ?_ | with_reducible refine st_rg2 ?_ | with_reducible refine r_twoI ?_ | with_reducible refine st_bm ?_ | with_reducible refine st_bm0 ?_
  | ((with_reducible refine' st_aug ?h ?_); (case h => exact rfl)) | with_reducible refine r_augI ?_ | with_reducible refine r_eqB ?_
  | dsimp only))
section
variable {P : Program} {w : World} {K : PySem.W.Frag} {mg : Str → Option Value} {base : Heap} {A : Ad}
def sp__law_is_walk (K : PySem.W.Frag) : Sp := fun vs H Q _ => ∃ (a : Addr) (u : List Int) (L : Nat), vs = [.ref a, .int (L : Int)] ∧ IT K H a u ∧ u.length ≤ 5000 ∧ Od.G L none u ∧ ∀ H1, Ex H H1 → Q (.bl true) H1
theorem ok__law_is_walk (T : Tx K mg A) : FnOk P w K mg base CX0 2 A.a__law_is_walk A.f__law_is_walk P__law_is_walk (sp__law_is_walk K) := by
  refine Qt.drp ?_ ?_
  · refine T.F__law_is_walk.ok sc__law_is_walk (fun vs H Q E h => ?_) (fun cdv A' outer s H vs Q E hr h => ?_)
    · obtain ⟨a, u, L, rfl, _⟩ := h
      rfl
    · obtain ⟨a, u, L, rfl, ha, hu, gu, q⟩ := h
      refine ⟨_, (pss_cons (ps_if (pt_not (pt_truK K (pe_callB (isi_K K) (by rfl) T.n_isinstance (by decide +kernel) (pa_cons (pv 0) (pa_cons (pe_bltn (v := .ty "tuple") (by rfl) T.n_tuple (by decide +kernel) rfl) pa_nil))))) (pss_one (ps_ret pe_bl)) pss_nil)
        (pss_cons (ps_for PassesOwn.never rfl (pi_tupK K (pv 0)) (pg_name (i := 2) sc__law_is_walk.nd rfl (Or.inl rfl)) (pss_one (ps_if (PW.pt (pw_or (pt_not (pt_truK K (pe_callB (isi_K K) (by rfl) T.n_isinstance (by decide +kernel) (pa_cons (pv 2) (pa_cons (pe_bltn (v := .ty "int") (by rfl) T.n_int (by decide +kernel) rfl) pa_nil))))) (pw_or (pt_truK K (pe_callB (isi_K K) (by rfl) T.n_isinstance (by decide +kernel) (pa_cons (pv 2) (pa_cons (pe_bltn (v := .ty "bool") (by rfl) T.n_bool (by decide +kernel) rfl) pa_nil)))) (pw_or (pt_cmpR (op_eqK K hr.units) (pv 2) pe_int (nomark _)) (pw_or1 (pt_cmpR op_gt (pe_callB abs_K (by rfl) T.n_abs (by decide +kernel) (pa_cons (pv 2) pa_nil)) (pv 1) (nomark _))))))) (pss_one (ps_ret pe_bl)) pss_nil)))
        (pss_one (ps_ret (pe_cmpR (op_eqK K hr.units) (pe_call (ok__law_short T) (hr.mono (by decide)) (by rfl) T.g__law_short T.F__law_short.kp T.b__law_short .nil pass0 (pa_cons (pv 0) pa_nil)) (pv 0) (nomark _)))))), ?_⟩
      walk_at "go"
      refine r_isiT (b := true) ha (kit_ty (by decide +kernel)) ?_
      refine r_truB ?_
      refine if_nT ?_
      walk_at "go"
      refine r_itT ha (r_forT (xs := u.map V.int) (fun i σ' H' => ∃ v, H' = H ∧ σ' = [some (.ref a), some (.int (L : Int)), v]) ⟨none, rfl, rfl⟩ (fun i σ' H' _ p => by obtain ⟨v, rfl, _⟩ := p; exact ha) (fun i x σ' H' hx p => ?_) fun σ' H' p => ?_)
      · obtain ⟨v, rfl, rfl⟩ := p
        rw [List.getElem?_map] at hx
        obtain ⟨z, hn, rfl⟩ := Option.map_eq_some_iff.mp hx
        have hz := Od.mem_steps.mp (Od.G_mem gu z (List.mem_of_getElem? hn))
        walk_at "go"
        refine r_isiI (b := true) (kit_ty (by decide +kernel)) ?_
        refine r_truB ?_
        refine if_nT ?_
        walk_at "go"
        refine r_isiI (b := false) (kit_ty (by decide +kernel)) ?_
        refine r_truB ?_
        refine if_F ?_
        walk_at "go"
        rw [decide_eq_false hz.1]
        refine if_F ?_
        walk_at "go"
        refine if_2 (fun h => by omega) fun h => ?_
        exact ⟨_, rfl, rfl⟩
      · obtain ⟨v, rfl, rfl⟩ := p
        walk_at "go"
        refine ⟨a, u, rfl, ha, hu, fun p2 H2 e2 it2 => ?_⟩
        walk_at "go"
        refine r_eqT it2 (ex_t e2 ha) ?_
        rw [decide_eq_true (Fg.rd_str (Od.of_G gu).2)]
        exact q H2 e2
  walk_at "end"
end
end Lw
namespace Lw
open PySem PySem.Spec PyProof.Rows L2 Evl
local macro_rules | `(tactic| walk_at "go") => `(tactic| repeat (first
  | with_reducible refine st_seq ?_ | with_reducible refine st_set ?_ | with_reducible refine st_asg ?_ | with_reducible refine st_ret ?_ | with_reducible refine st_drop ?_ | with_reducible refine st_if ?_
  | with_reducible refine st_c ?_ | ((with_reducible refine' st_v ?h ?_); (case h => exact rfl)) | with_reducible refine st_n ?_ | with_reducible refine st_cons ?_ | with_reducible refine st_op ?_ | with_reducible refine st_un ?_
  | with_reducible refine st_cb ?_ | with_reducible refine st_test ?_ | with_reducible refine st_call ?_ | with_reducible refine st_callK ?_ | with_reducible refine st_sl ?_ | with_reducible refine st_par ?_ | with_reducible refine st_par3 ?_ | with_reducible refine st_tru ?_
  | with_reducible refine st_and ?_ | with_reducible refine st_or ?_ | with_reducible refine st_not ?_ | with_reducible refine st_B ?_ | with_reducible refine st_andV ?_ | with_reducible refine st_orV ?_ | with_reducible refine st_notV ?_ | with_reducible refine st_ifE ?_
  | with_reducible refine st_part ?_ | with_reducible refine st_nop ?_ | with_reducible refine st_sub ?_ | with_reducible refine st_chain ?_ | with_reducible refine st_chain3 ?_ | with_reducible refine st_lenSet ?_ | with_reducible refine st_bl ?_ | with_reducible refine st_in ?_ | with_reducible refine r_truB ?_
  | with_reducible refine st_nameG ?_ | with_reducible refine if_T ?_ | with_reducible refine if_F ?_ | with_reducible refine if_nT ?_ | with_reducible refine if_nF ?_
  | with_reducible refine r_add ?_ | with_reducible refine r_0 ?_ | with_reducible refine r_neg ?_ | with_reducible refine r_intI ?_ | with_reducible refine r_intB ?_ | with_reducible refine r_abs ?_ | with_reducible refine r_max2 ?_ | with_reducible refine r_min2 ?_ | with_reducible refine r_eqI ?_ | with_reducible refine r_neI ?_
  | with_reducible refine st_nxt ?_ | with_reducible refine st_cnt ?_ | with_reducible refine st_brk ?_ | with_reducible refine st_retn ?_
  | with_reducible refine st_lstN ?_ | with_reducible refine st_tupN ?_
  | with_reducible refine st_for ?_ | with_reducible refine st_lc ?_ | with_reducible refine st_lc2 ?_ | with_reducible refine st_rng1 ?_ | with_reducible refine st_rng2 ?_ | with_reducible refine st_rng3 ?_ | with_reducible refine st_itL ?_ | with_reducible refine st_itT ?_ | with_reducible refine st_rev ?_ | with_reducible refine st_enumE ?_ | with_reducible refine st_zip3 ?_ | with_reducible refine st_lvals ?_ | with_reducible refine st_fld ?_ | with_reducible refine st_sfld ?_ | with_reducible refine st_meth ?_ | with_reducible refine st_make ?_ | with_reducible refine st_rg1 ?_ | with_reducible refine st_enumS ?_ | with_reducible refine st_enumD ?_ | with_reducible refine st_lstIt ?_ | with_reducible refine st_dg1 ?_ | with_reducible refine st_dg2 ?_ | with_reducible refine st_dpop ?_ | with_reducible refine st_dset ?_ | with_reducible refine st_ckw ?_ | with_reducible refine st_dsetT ?_ | with_reducible refine st_dnewT ?_ | with_reducible refine st_dc ?_ | with_reducible refine st_keys ?_ | with_reducible refine st_dget ?_ | with_reducible refine st_din ?_ | with_reducible refine st_dnin ?_ | with_reducible refine st_dput ?_ | with_reducible refine st_dnew ?_ | with_reducible refine st_lstRg ?_ | with_reducible refine st_rg2 ?_ | with_reducible refine r_twoI ?_ | with_reducible refine st_bm ?_ | with_reducible refine st_bm0 ?_
  | ((with_reducible refine' st_aug ?h ?_); (case h => exact rfl)) | with_reducible refine r_augI ?_ | with_reducible refine r_eqB ?_
  | dsimp only))
section
variable {P : Program} {w : World} {K : PySem.W.Frag} {mg : Str → Option Value} {base : Heap} {A : Ad}
theorem flat_rep (k : Nat) (u : List Int) : (List.replicate k (u.map V.int)).flatten = (Fg.rep k u).map V.int := by
  rw [← Fg.rep_flat, List.map_flatten, List.map_replicate]
theorem go_rd_bl {d : Wb.Gm} {w : List Int} : Wb.oI (Wb.go d 0 (Fg.rd w)) = 0 ↔ Fo.Bl d w := by
  constructor
  · intro h
    exact Wb.oI_inj (h.trans (rfl : (0 : Int) = Wb.oI (some 0)))
  · intro h
    have h : Wb.go d 0 (Fg.rd w) = some 0 := h
    rw [h]
    rfl
def sp__law_round (K : PySem.W.Frag) : Sp := fun vs H Q _ => ∃ (L n : Nat) (d : Wb.Gm) (t a : Addr) (u : List Int) (m : Nat), vs = [.ref t, .ref a, .int (n : Int)] ∧ TabH H t n d ∧ Wb.Gr L n d ∧ 0 < n ∧ n ≤ 5 ∧ IT K H a u ∧ u.length ≤ 200 ∧ 1 ≤ m ∧ m ≤ n ∧ (∀ j, 0 < j → j ≤ m → (Fo.Bl d (Fg.rep j u) ↔ j = m)) ∧ ∀ H1, Ex H H1 → Q (.int (m : Int)) H1
theorem ok__law_round (T : Tx K mg A) : FnOk P w K mg base CX0 2 A.a__law_round A.f__law_round P__law_round (sp__law_round K) := by
  refine Qt.drp ?_ ?_
  · refine T.F__law_round.ok sc__law_round (fun vs H Q E h => ?_) (fun cdv A' outer s H vs Q E hr h => ?_)
    · obtain ⟨L, n, d, t, a, u, m, rfl, _⟩ := h
      rfl
    · obtain ⟨L, n, d, t, a, u, m, rfl, tab, G, n0, hn, ha, zu, m1, mn, hm, q⟩ := h
      refine ⟨_, (pss_cons (ps_for PassesOwn.never rfl (pi_range2 (by rfl) T.n_range (pa_cons pe_int (pa_cons (pe_op (op_addK K) (pv 2) pe_int) pa_nil))) (pg_name (i := 3) sc__law_round.nd rfl (Or.inl rfl)) (pss_cons (ps_set (i := 4) sc__law_round.nd rfl (Or.inl rfl) pe_int)
        (pss_cons (ps_for PassesOwn.never rfl (pi_tupK K (pe_call (ok__law_short T) (hr.mono (by decide)) (by rfl) T.g__law_short T.F__law_short.kp T.b__law_short .nil pass0 (pa_cons (pe_op (op_mulK K) (pv 1) (pv 3)) pa_nil))) (pg_name (i := 5) sc__law_round.nd rfl (Or.inl rfl)) (pss_one (ps_if (pt_cmpR op_ge (pv 4) pe_int (nomark _)) (pss_one (ps_set (i := 4) sc__law_round.nd rfl (Or.inl rfl) (pe_dget2 (hu_of hr) (pe_ix (ix_K K) (pv 0) (pv 4) (fun _ _ => rfl)) (pv 5) (pe_un un_neg pe_int) ⟨rfl, rfl, rfl, rfl⟩))) pss_nil)))
        (pss_one (ps_if (pt_cmpR (op_eqK K hr.units) (pv 4) pe_int (nomark _)) (pss_one (ps_ret (pv 3))) pss_nil)))))
        (pss_one (ps_ret pe_int))), ?_⟩
      walk_at "go"
      refine r_rng2 ⟨by omega, by omega, by omega, by omega⟩ ?_
      rw [show ((n : Int) + 1 - 1).toNat = n by omega]
      refine r_forR (lo := 1) (m := n) (fun i σ' H' => ∃ (v3 v4 v5 : Option V), i < m ∧ Ex H H' ∧ σ' = [some (.ref t), some (.ref a), some (.int (n : Int)), v3, v4, v5]) ⟨none, none, none, by omega, Ex.refl H, rfl⟩ (fun i σ' H' hi z => ?_) fun σ' H' z => ?_
      · obtain ⟨v3, v4, v5, him, e, rfl⟩ := z
        walk_at "go"
        refine r_repT (ex_t e ha) (by omega) (by omega) (by rw [List.length_map]; omega) fun b H1 e1 k1 => ?_
        rw [flat_rep, show ((1 : Int) + (i : Int)).toNat = i + 1 by omega] at k1
        walk_at "go"
        have rl := Fg.rep_len (i + 1) u
        have rl2 : (i + 1) * u.length ≤ 5 * 200 := Nat.mul_le_mul (by omega) zu
        refine ⟨b, _, rfl, k1, by omega, fun c H2 e2 k2 => ?_⟩
        walk_at "go"
        have e02 := (e.trans e1).trans e2
        refine r_itT k2 (r_forT (xs := (Fg.rd (Fg.rep (i + 1) u)).map V.int) (fun j σ' H' => ∃ v5 : Option V, H' = _ ∧ σ' = [some (.ref t), some (.ref a), some (.int (n : Int)), some (.int (1 + (i : Int))), some (.int (Wb.oI (Wb.go d 0 ((Fg.rd (Fg.rep (i + 1) u)).take j)))), v5]) ⟨v5, rfl, rfl⟩ (fun j σ' H3 _ z => ?_) (fun j x σ' H3 hx z => ?_) fun σ' H3 z => ?_)
        · obtain ⟨v5, rfl, _⟩ := z
          exact k2
        · obtain ⟨v5, rfl, rfl⟩ := z
          rw [List.getElem?_map] at hx
          obtain ⟨st, hst, rfl⟩ := Option.map_eq_some_iff.mp hx
          have hs := take_snoc hst
          walk_at "go"
          refine if_2 (fun h0 => ?_) fun h0 => ?_
          · cases eo : Wb.go d 0 ((Fg.rd (Fg.rep (i + 1) u)).take j) with
            | none => rw [eo] at h0; exact absurd h0 (by decide)
            | some y =>
              have ly := Wb.go_lt G n0 eo
              obtain ⟨ds, dl, dt, dk⟩ := tab.ex
              obtain ⟨dz, hdz⟩ : ∃ dz, ds[y]? = some dz := ⟨_, List.getElem?_eq_getElem (by omega)⟩
              obtain ⟨kv, g1, g2⟩ := dk _ dz hdz
              walk_at "go"
              refine r_ixL (l_of (e02 _ _ dt)) (atI_at (x := .ref dz) (Int.natCast_nonneg y) (by rw [List.getElem?_map]; show (ds[((y : Int)).toNat]?).map V.ref = _; rw [Int.toNat_natCast, hdz]; rfl)) ?_
              walk_at "go"
              refine r_dg2 (.inl (e02 _ _ g1)) ?_
              walk_at "go"
              refine r_dg2b (.inl (e02 _ _ g1)) g2 ?_
              refine ⟨some (.int st), rfl, ?_⟩
              have : ((vN (d y st)).getD (V.int (-1))) = V.int (Wb.oI (d y st)) := by cases d y st <;> rfl
              rw [this, hs, Wb.go_snoc, eo]
              rfl
          · walk_at "go"
            refine ⟨some (.int st), rfl, ?_⟩
            cases eo : Wb.go d 0 ((Fg.rd (Fg.rep (i + 1) u)).take j) with
            | none => rw [hs, Wb.go_snoc, eo]; rfl
            | some y => rw [eo] at h0; exact absurd (Int.natCast_nonneg y) h0
        · obtain ⟨v5, rfl, rfl⟩ := z
          rw [List.length_map, List.take_length]
          walk_at "go"
          by_cases c : i + 1 = m
          · have := (hm (i + 1) (by omega) (by omega)).mpr c
            rw [decide_eq_true (go_rd_bl.mpr this)]
            walk_at "go"
            rw [show (1 : Int) + (i : Int) = (m : Int) by omega]
            exact q _ e02
          · have : ¬ Fo.Bl d (Fg.rep (i + 1) u) := fun z => c ((hm (i + 1) (by omega) (by omega)).mp z)
            rw [decide_eq_false fun z => this (go_rd_bl.mp z)]
            walk_at "go"
            exact ⟨_, _, _, by omega, e02, rfl⟩
      · obtain ⟨v3, v4, v5, him, e, rfl⟩ := z
        omega
  walk_at "end"
def sp__law_walk_right (K : PySem.W.Frag) : Sp := fun vs H Q _ => ∃ (L n : Nat) (d : Wb.Gm) (t : Addr) (v : V) (k : Int) (due : Bool), vs = [.ref t, .int (L : Int), v, .int k, .bl due] ∧ TabH H t n d ∧ Wb.Gr L n d ∧ 0 < n ∧ n ≤ 5 ∧
  ((due = false ∧ v = .non) ∨ (due = true ∧ ∃ a u m, v = .ref a ∧ k = ((m : Nat) : Int) ∧ IT K H a u ∧ u.length ≤ 200 ∧ Od.G L none u ∧ 1 ≤ m ∧ m ≤ n ∧ (∀ j, 0 < j → j ≤ m → (Fo.Bl d (Fg.rep j u) ↔ j = m)))) ∧ ∀ H1, Ex H H1 → Q (.bl true) H1
theorem ok__law_walk_right (T : Tx K mg A) : FnOk P w K mg base CX0 3 A.a__law_walk_right A.f__law_walk_right P__law_walk_right (sp__law_walk_right K) := by
  refine Qt.drp ?_ ?_
  · refine T.F__law_walk_right.ok sc__law_walk_right (fun vs H Q E h => ?_) (fun cdv A' outer s H vs Q E hr h => ?_)
    · obtain ⟨L, n, d, t, v, k, due, rfl, _⟩ := h
      rfl
    · obtain ⟨L, n, d, t, v, k, due, rfl, tab, G, n0, hn, c, q⟩ := h
      refine ⟨_, (pss_cons (ps_if (pt_not (pt_truK K (pv 4))) (pss_one (ps_ret (pe_cmpR op_isN (pv 2) pe_non (nomark _)))) pss_nil)
        (pss_one (ps_ret (pe_and (pe_call (ok__law_is_walk T) (hr.mono (by decide)) (by rfl) T.g__law_is_walk T.F__law_is_walk.kp T.b__law_is_walk .nil pass0 (pa_cons (pv 2) (pa_cons (pv 1) pa_nil))) (pe_one (pe_cmpR (op_eqK K hr.units) (pe_call (ok__law_round T) (hr.mono (by decide)) (by rfl) T.g__law_round T.F__law_round.kp T.b__law_round .nil pass0 (pa_cons (pv 0) (pa_cons (pv 2) (pa_cons (pe_callB (len_K K) (by rfl) T.n_len (by decide +kernel) (pa_cons (pv 0) pa_nil)) pa_nil)))) (pv 3) (nomark _))))))), ?_⟩
      rcases c with ⟨rfl, rfl⟩ | ⟨rfl, a, u, m, rfl, rfl, ha, zu, gu, m1, mn, hm⟩
      · walk_at "go"
        refine ⟨rfl, ?_⟩
        rw [decide_eq_true (rfl : V.non = V.non)]
        exact q H (Ex.refl H)
      · walk_at "go"
        refine ⟨a, u, L, rfl, ha, by omega, gu, fun H1 e1 => ?_⟩
        walk_at "go"
        obtain ⟨ds, dl, dt, dk⟩ := tab.ex
        refine r_lenL (l_of (e1 _ _ dt)) ?_
        rw [List.length_map, dl]
        walk_at "go"
        refine ⟨L, n, d, t, a, u, m, rfl, tab.mono e1, G, n0, hn, ex_t e1 ha, zu, m1, mn, hm, fun H2 e2 => ?_⟩
        walk_at "go"
        rw [decide_eq_true (rfl : (m : Int) = (m : Int))]
        exact q H2 (e1.trans e2)
  walk_at "end"
def sp__law_truth (K : PySem.W.Frag) : Sp := fun vs H Q _ => ∃ b : Bool, vs = [.bl b, .bl b] ∧ Q (.bl true) H
theorem ok__law_truth (T : Tx K mg A) : FnOk P w K mg base CX0 1 A.a__law_truth A.f__law_truth P__law_truth (sp__law_truth K) := by
  refine T.F__law_truth.ok sc__law_truth (fun vs H Q E h => ?_) (fun cdv A' outer s H vs Q E hr h => ?_)
  · obtain ⟨b, rfl, _⟩ := h
    rfl
  · obtain ⟨b, rfl, q⟩ := h
    refine ⟨_, (pss_one (ps_ret (pe_and (pe_callB (isi_K K) (by rfl) T.n_isinstance (by decide +kernel) (pa_cons (pv 0) (pa_cons (pe_bltn (v := .ty "bool") (by rfl) T.n_bool (by decide +kernel) rfl) pa_nil))) (pe_one (pe_cmpR (op_eqK K hr.units) (pv 0) (pv 1) (nomark _)))))), ?_⟩
    walk_at "go"
    refine r_isiB (c := true) (kit_ty (by decide +kernel)) ?_
    refine ⟨_, rfl, ?_⟩
    rw [if_pos rfl]
    walk_at "go"
    rw [decide_eq_true (rfl : b = b)]
    exact q
end
end Lw
namespace Lw
open PySem PySem.Spec PyProof.Rows L2 Evl
local macro_rules | `(tactic| walk_at "go") => `(tactic| repeat (first
  | with_reducible refine st_seq ?_ | with_reducible refine st_set ?_ | with_reducible refine st_asg ?_ | with_reducible refine st_ret ?_ | with_reducible refine st_drop ?_ | with_reducible refine st_if ?_
  | with_reducible refine st_c ?_ | ((with_reducible refine' st_v ?h ?_); (case h => exact rfl)) | with_reducible refine st_n ?_ | with_reducible refine st_cons ?_ | with_reducible refine st_op ?_ | with_reducible refine st_un ?_
  | with_reducible refine st_cb ?_ | with_reducible refine st_test ?_ | with_reducible refine st_call ?_ | with_reducible refine st_callK ?_ | with_reducible refine st_sl ?_ | with_reducible refine st_par ?_ | with_reducible refine st_par3 ?_ | with_reducible refine st_tru ?_
  | with_reducible refine st_and ?_ | with_reducible refine st_or ?_ | with_reducible refine st_not ?_ | with_reducible refine st_B ?_ | with_reducible refine st_andV ?_ | with_reducible refine st_orV ?_ | with_reducible refine st_notV ?_ | with_reducible refine st_ifE ?_
  | with_reducible refine st_part ?_ | with_reducible refine st_nop ?_ | with_reducible refine st_sub ?_ | with_reducible refine st_chain ?_ | with_reducible refine st_chain3 ?_ | with_reducible refine st_lenSet ?_ | with_reducible refine st_bl ?_ | with_reducible refine st_in ?_ | with_reducible refine r_truB ?_
  | with_reducible refine st_nameG ?_ | with_reducible refine if_T ?_ | with_reducible refine if_F ?_ | with_reducible refine if_nT ?_ | with_reducible refine if_nF ?_
  | with_reducible refine r_add ?_ | with_reducible refine r_0 ?_ | with_reducible refine r_neg ?_ | with_reducible refine r_intI ?_ | with_reducible refine r_intB ?_ | with_reducible refine r_abs ?_ | with_reducible refine r_max2 ?_ | with_reducible refine r_min2 ?_ | with_reducible refine r_eqI ?_ | with_reducible refine r_neI ?_
  | with_reducible refine st_nxt ?_ | with_reducible refine st_cnt ?_ | with_reducible refine st_brk ?_ | with_reducible refine st_retn ?_
  | with_reducible refine st_lstN ?_ | with_reducible refine st_tupN ?_
  | with_reducible refine st_for ?_ | with_reducible refine st_lc ?_ | with_reducible refine st_lc2 ?_ | with_reducible refine st_rng1 ?_ | with_reducible refine st_rng2 ?_ | with_reducible refine st_rng3 ?_ | with_reducible refine st_itL ?_ | with_reducible refine st_itT ?_ | with_reducible refine st_rev ?_ | with_reducible refine st_enumE ?_ | with_reducible refine st_zip3 ?_ | with_reducible refine st_lvals ?_ | with_reducible refine st_fld ?_ | with_reducible refine st_sfld ?_ | with_reducible refine st_meth ?_ | with_reducible refine st_make ?_ | with_reducible refine st_rg1 ?_ | with_reducible refine st_enumS ?_ | with_reducible refine st_enumD ?_ | with_reducible refine st_lstIt ?_ | with_reducible refine st_dg1 ?_ | with_reducible refine st_dg2 ?_ | with_reducible refine st_dpop ?_ | with_reducible refine st_dset ?_ | with_reducible refine st_ckw ?_ | with_reducible refine st_dsetT ?_ | with_reducible refine st_dnewT ?_ | with_reducible refine st_dc ?_ | with_reducible refine st_keys ?_ | with_reducible refine st_dget ?_ | with_reducible refine st_din ?_ | with_reducible refine st_dnin ?_ | with_reducible refine st_dput ?_ | with_reducible refine st_dnew ?_ | with_reducible refine st_lstRg ?_ | with_reducible refine st_rg2 ?_ | with_reducible refine r_twoI ?_ | with_reducible refine st_bm ?_ | with_reducible refine st_bm0 ?_
  | ((with_reducible refine' st_aug ?h ?_); (case h => exact rfl)) | with_reducible refine r_augI ?_ | with_reducible refine r_eqB ?_
  | dsimp only))
section
variable {P : Program} {w : World} {K : PySem.W.Frag} {mg : Str → Option Value} {base : Heap} {A : Ad}
theorem gr4 {L n : Nat} {d : Wb.Gm} (G : Wb.Gr L n d) (h : L ≤ 4) : ∀ r s g, d r s = some g → s ∈ Od.steps 4 := fun r s g e => by
  have := Od.mem_steps.mp (G.dom _ _ _ e).2.2
  exact Od.mem_steps.mpr (by omega)
theorem laid4 {L n : Nat} {d : Wb.Gm} {i j x : Nat} {s : Int} (G : Wb.Gr L n d) (h4 : L ≤ 4) (h : (Wb.laid d i j x s).isSome = true) : s ∈ Od.steps 4 := by
  have k2 := Wb.laid_sub h
  cases e : d x s with
  | none => rw [e] at k2; cases k2
  | some g => exact gr4 G h4 _ _ _ e
def sp__law_doors (K : PySem.W.Frag) : Sp := fun vs H Q _ => ∃ (L n : Nat) (d : Wb.Gm) (a : Addr), vs = [.ref a] ∧ WebH K H a L n d ∧ Wb.Gr L n d ∧ L ≤ 4 ∧ n ≤ 1000 ∧ ∀ p H1, Ex H H1 → TabH H1 p n d → Q (.ref p) H1
theorem ok__law_doors (T : Tx K mg A) : FnOk P w K mg base CX0 1 A.a__law_doors A.f__law_doors P__law_doors (sp__law_doors K) := by
  refine Qt.drp ?_ ?_
  · refine T.F__law_doors.ok sc__law_doors (fun vs H Q E h => ?_) (fun cdv A' outer s H vs Q E hr h => ?_)
    · obtain ⟨L, n, d, a, rfl, _⟩ := h
      rfl
    · obtain ⟨L, n, d, a, rfl, hW, G, l4, hn, q⟩ := h
      obtain ⟨r, xs, ha, hr0, wa⟩ := hW.ex
      refine ⟨_, (pss_cons (ps_setLc (i := 1) (own := [("_law_row", 5)]) rfl sc__law_doors.nd rfl rfl (sw_true rfl rfl rfl (by decide +kernel)) (pi_tupK K (pe_ix (ix_K K) (pv 0) pe_int (fun _ _ => rfl))) (blkOk_by (own := [("_law_row", 5)]) (N := N__law_doors) (sc := defScope s__law_doors) (by decide +kernel)) (fun _ _ _ _ _ => (pg_name (i := 5) sc__law_doors.nd rfl (Or.inl rfl))) (fun _ _ _ _ _ => pts_nil) (fun _ _ _ _ _ => pe_dnewK))
        (pss_cons (ps_for PassesOwn.never rfl (pi_range1 (by rfl) T.n_range (pa_cons (pe_callB (len_K K) (by rfl) T.n_len (by decide +kernel) (pa_cons (pv 1) pa_nil)) pa_nil)) (pg_name (i := 2) sc__law_doors.nd rfl (Or.inl rfl)) (pss_one (ps_for PassesOwn.never rfl (pi_range1 (by rfl) T.n_range (pa_cons (pe_ix (ix_K K) (pv 0) pe_int (fun _ _ => rfl)) pa_nil)) (pg_name (i := 3) sc__law_doors.nd rfl (Or.inl rfl)) (pss_cons (ps_set (i := 4) sc__law_doors.nd rfl (Or.inl rfl) (pe_ix (ix_K K) (pe_ix (ix_K K) (pe_ix (ix_K K) (pv 0) pe_int (fun _ _ => rfl)) (pv 2) (fun _ _ => rfl)) (pv 3) (fun _ _ => rfl)))
        (pss_one (ps_if (pt_cmpR op_ge (pv 4) pe_int (nomark _)) (pss_cons (ps_dput (hu_of hr) (pe_ix (ix_K K) (pv 1) (pv 2) (fun _ _ => rfl)) (pe_op (op_addK K) (pv 3) pe_int) (pv 4) (by rfl))
        (pss_one (ps_dput (hu_of hr) (pe_ix (ix_K K) (pv 1) (pv 4) (fun _ _ => rfl)) (pe_op op_sub (pe_un un_neg (pv 3)) pe_int) (pv 2) (by rfl)))) pss_nil))))))
        (pss_one (ps_ret (pv 1))))), ?_⟩
      have zx : xs.length = n := by rw [wa.len, Wb.rows_len]
      walk_at "go"
      refine r_ixT ha rfl ?_
      walk_at "go"
      refine r_itT hr0 (dl_T hr0 (by omega) (fun _ => rfl) fun p H1 hp e1 T0 => ?_)
      rw [zx] at T0
      have T1 : DL H H1 p n fun x s => vN (Wb.laid d 0 0 x s) := T0.congr fun i _ s => by rw [Wb.laid_start G]; rfl
      clear T0
      walk_at "go"
      obtain ⟨ds, zd, hp1⟩ : ∃ ds : List Addr, ds.length = n ∧ H1 p = some (.lst (ds.map V.ref)) := by
        obtain ⟨ds, h1, _, _, _, _, h6, _⟩ := T1.ex
        exact ⟨ds, h1, h6⟩
      refine r_lenL (l_of hp1) ?_
      rw [List.length_map, zd]
      walk_at "go"
      refine r_rng1 (by omega) (by omega) ?_
      rw [show ((n : Nat) : Int).toNat = n from rfl]
      refine r_forR (lo := 0) (m := n) (fun i σ' H' => ∃ v2 v3 v4, Ex H H' ∧ (DL H H' p n fun x s => vN (Wb.laid d i 0 x s)) ∧ σ' = [some (.ref a), some (.ref p), v2, v3, v4, none]) ⟨none, none, none, e1, T1, rfl⟩ (fun i σ' H' hi z => ?_) (fun σ' H' z => ?_)
      · obtain ⟨v2, v3, v4, e, T2, rfl⟩ := z
        walk_at "go"
        refine r_ixT (ex_t e ha) rfl ?_
        walk_at "go"
        refine r_rng1 (by omega) (by omega) ?_
        rw [show ((L : Nat) : Int).toNat = L from rfl]
        refine r_forR (lo := 0) (m := L) (fun j σ' H' => ∃ v3 v4, Ex H H' ∧ (DL H H' p n fun x s => vN (Wb.laid d i j x s)) ∧ σ' = [some (.ref a), some (.ref p), some (.int (0 + (i : Int))), v3, v4, none]) ⟨v3, v4, e, T2, rfl⟩ (fun j σ' H' hj z => ?_) (fun σ' H' z => ?_)
        · obtain ⟨v3, v4, e, T5, rfl⟩ := z
          have hx := List.getElem?_eq_getElem (show i < xs.length by omega)
          obtain ⟨w, hw, pr, hpr, wr⟩ := wa.get hx
          rw [hpr] at hx
          rw [Wb.rows_at hi] at hw
          cases hw
          have wr2 := ex_t e wr
          walk_at "go"
          refine r_ixT (ex_t e ha) rfl ?_
          walk_at "go"
          refine r_ixT (ex_t e hr0) (atI_at (i := (0 : Int) + (i : Int)) (by omega) (by rw [show ((0 : Int) + (i : Int)).toNat = i by omega]; exact hx)) ?_
          walk_at "go"
          have hrow := Wb.row_at (d := d) (r := i) hj
          cases hd : d i ((j : Int) + 1) with
          | none =>
            rw [hd] at hrow
            refine r_ixT wr2 (at_int (x := -1) (by omega) (by rw [show ((0 : Int) + (j : Int)).toNat = j by omega]; exact hrow)) ?_
            walk_at "go"
            rw [decide_eq_false (by decide : ¬ (-1 : Int) ≥ 0)]
            walk_at "go"
            exact ⟨_, _, e, T5.congr fun x _ s => by rw [Wb.laid_none G hd], rfl⟩
          | some g =>
            rw [hd] at hrow
            have hg := (G.dom _ _ _ hd).2.1
            refine r_ixT wr2 (at_int (x := (g : Int)) (by omega) (by rw [show ((0 : Int) + (j : Int)).toNat = j by omega]; exact hrow)) ?_
            walk_at "go"
            rw [decide_eq_true (by omega : (g : Int) ≥ 0)]
            walk_at "go"
            obtain ⟨ys, pi, kvs, b1, b2, b3, b4, b5, b6, b7, b8⟩ := dl_set T5 hi fun s hs => laid4 G l4 hs
            refine r_ixL (l_of b1) (atI_at (i := (0 : Int) + (i : Int)) (by omega) (by rw [show ((0 : Int) + (i : Int)).toNat = i by omega]; exact b2)) ?_
            walk_at "go"
            refine r_dputI b3 b4 b5 fun H4 kv3 e4 k4 d4 => ?_
            have ex4 := DL.ex0 e e4 b7
            have T6 := b8 H4 kv3 _ g e4 k4 d4
            obtain ⟨ys3, pg2, kv4, c1, c2, c3, c4, c5, c6, c7, c8⟩ := dl_set T6 hg fun s hs => by
              by_cases z : g = i ∧ s = 0 + (j : Int) + 1
              · exact Od.mem_steps.mpr (by omega)
              · rw [if_neg z] at hs
                exact laid4 G l4 hs
            walk_at "go"
            refine r_ixL (l_of c1) (atI_at (by omega) (by rw [show ((g : Nat) : Int).toNat = g by omega]; exact c2)) ?_
            walk_at "go"
            refine r_dputI c3 c4 c5 fun H5 kv5 e5 k5 d5 => ?_
            have ex5 := DL.ex0 ex4 e5 c7
            rw [show ((0 : Int) + (i : Int)) = ((i : Nat) : Int) by omega] at d5
            have T7 := c8 H5 kv5 _ i e5 k5 d5
            walk_at "go"
            refine ⟨_, _, ex5, T7.congr fun x _ s => ?_, rfl⟩
            rw [Wb.laid_some G hd, show (0 : Int) + (j : Int) + 1 = (j : Int) + 1 by omega, show -(0 + (j : Int)) - 1 = -((j : Int) + 1) by omega]
        · obtain ⟨v3, v4, e, T5, rfl⟩ := z
          walk_at "go"
          exact ⟨_, _, _, e, T5.congr fun x _ s => by rw [Wb.laid_row G], rfl⟩
      · obtain ⟨v2, v3, v4, e, T5, rfl⟩ := z
        walk_at "go"
        exact q p H' e (TabH.of T5 fun i _ s => by rw [Wb.laid_all G])
  walk_at "end"
end
end Lw
namespace Lw
open PySem PySem.Spec PyProof.Rows L2 Evl
local macro_rules | `(tactic| walk_at "go") => `(tactic| repeat (first
  | with_reducible refine st_seq ?_ | with_reducible refine st_set ?_ | with_reducible refine st_asg ?_ | with_reducible refine st_ret ?_ | with_reducible refine st_drop ?_ | with_reducible refine st_if ?_
  | with_reducible refine st_c ?_ | ((with_reducible refine' st_v ?h ?_); (case h => exact rfl)) | with_reducible refine st_n ?_ | with_reducible refine st_cons ?_ | with_reducible refine st_op ?_ | with_reducible refine st_un ?_
  | with_reducible refine st_cb ?_ | with_reducible refine st_test ?_ | with_reducible refine st_call ?_ | with_reducible refine st_callK ?_ | with_reducible refine st_sl ?_ | with_reducible refine st_par ?_ | with_reducible refine st_par3 ?_ | with_reducible refine st_tru ?_
  | with_reducible refine st_and ?_ | with_reducible refine st_or ?_ | with_reducible refine st_not ?_ | with_reducible refine st_B ?_ | with_reducible refine st_andV ?_ | with_reducible refine st_orV ?_ | with_reducible refine st_notV ?_ | with_reducible refine st_ifE ?_
  | with_reducible refine st_part ?_ | with_reducible refine st_nop ?_ | with_reducible refine st_sub ?_ | with_reducible refine st_chain ?_ | with_reducible refine st_chain3 ?_ | with_reducible refine st_lenSet ?_ | with_reducible refine st_bl ?_ | with_reducible refine st_in ?_ | with_reducible refine r_truB ?_
  | with_reducible refine st_nameG ?_ | with_reducible refine if_T ?_ | with_reducible refine if_F ?_ | with_reducible refine if_nT ?_ | with_reducible refine if_nF ?_
  | with_reducible refine r_add ?_ | with_reducible refine r_0 ?_ | with_reducible refine r_neg ?_ | with_reducible refine r_intI ?_ | with_reducible refine r_intB ?_ | with_reducible refine r_abs ?_ | with_reducible refine r_max2 ?_ | with_reducible refine r_min2 ?_ | with_reducible refine r_eqI ?_ | with_reducible refine r_neI ?_
  | with_reducible refine st_nxt ?_ | with_reducible refine st_cnt ?_ | with_reducible refine st_brk ?_ | with_reducible refine st_retn ?_
  | with_reducible refine st_lstN ?_ | with_reducible refine st_tupN ?_
  | with_reducible refine st_for ?_ | with_reducible refine st_lc ?_ | with_reducible refine st_lc2 ?_ | with_reducible refine st_rng1 ?_ | with_reducible refine st_rng2 ?_ | with_reducible refine st_rng3 ?_ | with_reducible refine st_itL ?_ | with_reducible refine st_itT ?_ | with_reducible refine st_rev ?_ | with_reducible refine st_enumE ?_ | with_reducible refine st_zip3 ?_ | with_reducible refine st_lvals ?_ | with_reducible refine st_fld ?_ | with_reducible refine st_sfld ?_ | with_reducible refine st_meth ?_ | with_reducible refine st_make ?_ | with_reducible refine st_rg1 ?_ | with_reducible refine st_enumS ?_ | with_reducible refine st_enumD ?_ | with_reducible refine st_lstIt ?_ | with_reducible refine st_dg1 ?_ | with_reducible refine st_dg2 ?_ | with_reducible refine st_dpop ?_ | with_reducible refine st_dset ?_ | with_reducible refine st_ckw ?_ | with_reducible refine st_dsetT ?_ | with_reducible refine st_dnewT ?_ | with_reducible refine st_dc ?_ | with_reducible refine st_keys ?_ | with_reducible refine st_dget ?_ | with_reducible refine st_din ?_ | with_reducible refine st_dnin ?_ | with_reducible refine st_dput ?_ | with_reducible refine st_dnew ?_ | with_reducible refine st_lstRg ?_ | with_reducible refine st_rg2 ?_ | with_reducible refine r_twoI ?_ | with_reducible refine st_bm ?_ | with_reducible refine st_bm0 ?_
  | ((with_reducible refine' st_aug ?h ?_); (case h => exact rfl)) | with_reducible refine r_augI ?_ | with_reducible refine r_eqB ?_
  | dsimp only))
section
variable {P : Program} {w : World} {K : PySem.W.Frag} {mg : Str → Option Value} {base : Heap} {A : Ad}
structure TJ (L m i j : Nat) (d : Wb.Gm) (left : List Nat) : Prop where
  gr : Wb.Gr L m d
  low : ∀ r s g, d r s = some g → -((i : Int) + 1) ≤ s ∧ s ≤ (i : Int) + 1
  no1 : ∀ r, j ≤ r → d r ((i : Int) + 1) = none
  no2 : ∀ g ∈ left, d g (-((i : Int) + 1)) = none
  nd : left.Nodup
  lt : ∀ g ∈ left, g < m
  len : left.length + j = m
theorem erase_map {α β : Type} (f : α → β) (l : List α) (k : Nat) : (l.map f).eraseIdx k = (l.eraseIdx k).map f := by
  rw [List.eraseIdx_eq_take_drop_succ, List.eraseIdx_eq_take_drop_succ, List.map_append, List.map_take, List.map_drop]
theorem erase_off {left : List Nat} {k g : Nat} (hn : left.Nodup) (hk : left[k]? = some g) : (left.eraseIdx k).Nodup ∧ g ∉ left.eraseIdx k ∧ (∀ x ∈ left.eraseIdx k, x ∈ left) ∧ (left.eraseIdx k).length + 1 = left.length := by
  have hl := (List.getElem?_eq_some_iff.mp hk).1
  have e : left = left.take k ++ g :: left.drop (k + 1) := by
    have h2 := (List.getElem?_eq_some_iff.mp hk).2
    rw [← h2, ← List.drop_eq_getElem_cons hl, List.take_append_drop]
  have p : left.Perm (g :: left.eraseIdx k) := by
    rw [List.eraseIdx_eq_take_drop_succ]
    conv => lhs; rw [e]
    exact List.perm_middle
  have q := List.nodup_cons.mp (p.nodup_iff.mp hn)
  exact ⟨q.2, q.1, fun x hx => p.mem_iff.mpr (List.mem_cons_of_mem _ hx), by rw [p.length_eq]; rfl⟩
theorem tj_drop {L m i j k g : Nat} {d : Wb.Gm} {left : List Nat} (T : TJ L m i j d left) (hk : left[k]? = some g) (hj : j < m) : TJ L m i (j + 1) d (left.eraseIdx k) := by
  obtain ⟨e1, e2, e3, e4⟩ := erase_off T.nd hk
  exact ⟨T.gr, T.low, fun r h => T.no1 r (by omega), fun x hx => T.no2 x (e3 x hx), e1, fun x hx => T.lt x (e3 x hx), by have := T.len; omega⟩
theorem tj_put {L m i j k g : Nat} {d : Wb.Gm} {left : List Nat} (T : TJ L m i j d left) (hk : left[k]? = some g) (hj : j < m) (hi : i < L) : TJ L m i (j + 1) (Wb.set1 (Wb.set1 d j ((i : Int) + 1) g) g (-((i : Int) + 1)) j) (left.eraseIdx k) := by
  refine Qt.drp ?_ ?_
  · obtain ⟨e1, e2, e3, e4⟩ := erase_off T.nd hk
    have hg := List.mem_of_getElem? hk
    have gm := T.lt g hg
    have n1 := T.no1 j (Nat.le_refl _)
    have n2 := T.no2 g hg
    have cs : ∀ x s v, Wb.set1 (Wb.set1 d j ((i : Int) + 1) g) g (-((i : Int) + 1)) j x s = some v → (x = g ∧ s = -((i : Int) + 1) ∧ v = j) ∨ (x = j ∧ s = (i : Int) + 1 ∧ v = g) ∨ d x s = some v := fun x s v h => by
      unfold Wb.set1 at h
      by_cases c1 : x = g ∧ s = -((i : Int) + 1)
      · rw [if_pos c1] at h
        cases h
        exact .inl ⟨c1.1, c1.2, rfl⟩
      · rw [if_neg c1] at h
        by_cases c2 : x = j ∧ s = (i : Int) + 1
        · rw [if_pos c2] at h
          cases h
          exact .inr (.inl ⟨c2.1, c2.2, rfl⟩)
        · rw [if_neg c2] at h
          exact .inr (.inr h)
    have s1 : ∀ x s, x = g → s = -((i : Int) + 1) → Wb.set1 (Wb.set1 d j ((i : Int) + 1) g) g (-((i : Int) + 1)) j x s = some j := fun x s a b => if_pos ⟨a, b⟩
    have s2 : ∀ x s, x = j → s = (i : Int) + 1 → Wb.set1 (Wb.set1 d j ((i : Int) + 1) g) g (-((i : Int) + 1)) j x s = some g := fun x s a b => (if_neg (by omega)).trans (if_pos ⟨a, b⟩)
    have s3 : ∀ x s, ¬ (x = g ∧ s = -((i : Int) + 1)) → ¬ (x = j ∧ s = (i : Int) + 1) → Wb.set1 (Wb.set1 d j ((i : Int) + 1) g) g (-((i : Int) + 1)) j x s = d x s := fun x s a b => (if_neg a).trans (if_neg b)
    refine ⟨⟨fun x s v h => ?_, fun x s v h => ?_⟩, fun x s v h => ?_, fun r h => ?_, fun x hx => ?_, e1, fun x hx => T.lt x (e3 x hx), by have := T.len; omega⟩
    · rcases cs x s v h with ⟨rfl, rfl, rfl⟩ | ⟨rfl, rfl, rfl⟩ | h
      · exact ⟨gm, hj, Od.mem_steps.mpr (by omega)⟩
      · exact ⟨hj, gm, Od.mem_steps.mpr (by omega)⟩
      · exact T.gr.dom _ _ _ h
    · rcases cs x s v h with ⟨rfl, rfl, rfl⟩ | ⟨rfl, rfl, rfl⟩ | h
      · exact s2 _ _ rfl (by omega)
      · exact s1 _ _ rfl rfl
      · have h2 := T.gr.sym _ _ _ h
        rw [s3 v (-s) (fun z => ?_) fun z => ?_]
        · exact h2
        · rw [z.1, z.2, n2] at h2
          cases h2
        · rw [z.1, z.2, n1] at h2
          cases h2
    · rcases cs x s v h with ⟨rfl, rfl, rfl⟩ | ⟨rfl, rfl, rfl⟩ | h
      · omega
      · omega
      · exact T.low _ _ _ h
    · rw [s3 _ _ (by omega) (by omega)]
      exact T.no1 r (by omega)
    · rw [s3 _ _ (fun z => e2 (z.1 ▸ hx)) (by omega)]
      exact T.no2 x (e3 x hx)
  walk_at "end"
theorem tj_start {L m i : Nat} {d : Wb.Gm} (G : Wb.Gr L m d) (low : ∀ r s g, d r s = some g → -(i : Int) ≤ s ∧ s ≤ (i : Int)) : TJ L m i 0 d (List.range m) := by
  refine ⟨G, fun r s g h => ?_, fun r _ => ?_, fun g _ => ?_, List.nodup_range, fun g hg => List.mem_range.mp hg, by rw [List.length_range]; rfl⟩
  · have := low _ _ _ h
    omega
  · cases e : d r ((i : Int) + 1) with
    | none => rfl
    | some v => have := low _ _ _ e; omega
  · cases e : d g (-((i : Int) + 1)) with
    | none => rfl
    | some v => have := low _ _ _ e; omega
def sp__law_tables (K : PySem.W.Frag) : Sp := fun vs H Q _ => ∃ (w : Addr) (n L m g : Nat), vs = [.ref w, .int (L : Int), .int (m : Int), .int (g : Int)] ∧ Well H w n ∧ n < 2 ^ 20 ∧ L ≤ 4 ∧ m ≤ 12 ∧ g ≤ 6 ∧ ∀ p d H1, DrS w H (n + 96) H1 → TabH H1 p m d → Wb.Gr L m d → Q (.ref p) H1
theorem ok__law_tables (T : Tx K mg A) : FnOk P w K mg base CX0 2 A.a__law_tables A.f__law_tables P__law_tables (sp__law_tables K) := by
  refine Qt.drp ?_ ?_
  · refine T.F__law_tables.ok sc__law_tables (fun vs H Q E h => ?_) (fun cdv A' outer s H vs Q E hr h => ?_)
    · obtain ⟨w, n, L, m, g, rfl, _⟩ := h
      rfl
    · obtain ⟨w, n, L, m, gp, rfl, hw, hn, l4, m12, g6, q⟩ := h
      refine ⟨_, (pss_cons (ps_setLc (i := 4) (own := [("_law_room", 7)]) rfl sc__law_tables.nd rfl rfl (sw_true rfl rfl rfl (by decide +kernel)) (pi_range1 (by rfl) T.n_range (pa_cons (pv 2) pa_nil)) (blkOk_by (own := [("_law_room", 7)]) (N := N__law_tables) (sc := defScope s__law_tables) (by decide +kernel)) (fun _ _ _ _ _ => (pg_name (i := 7) sc__law_tables.nd rfl (Or.inl rfl))) (fun _ _ _ _ _ => pts_nil) (fun _ _ _ _ _ => pe_dnewK))
        (pss_cons (ps_for PassesOwn.never rfl (pi_range2 (by rfl) T.n_range (pa_cons pe_int (pa_cons (pe_op (op_addK K) (pv 1) pe_int) pa_nil))) (pg_name (i := 5) sc__law_tables.nd rfl (Or.inl rfl)) (pss_cons (ps_set (i := 6) sc__law_tables.nd rfl (Or.inl rfl) (pe_listRg rfl (by rfl) T.n_list (prg_1 (by rfl) T.n_range (pv 2))))
        (pss_one (ps_for PassesOwn.never rfl (pi_range1 (by rfl) T.n_range (pa_cons (pv 2) pa_nil)) (pg_name (i := 7) sc__law_tables.nd rfl (Or.inl rfl)) (pss_cons (ps_set (i := 8) sc__law_tables.nd rfl (Or.inl rfl) (pe_bmU K PySem.F.plainAttrs_list PySem.F.slot_list_pop PySem.F.type_list_pop mt_popAt (pv 6) (pa_cons (pe_call (ok__law_draw T) (hr.mono (by decide)) (by rfl) T.g__law_draw T.F__law_draw.kp T.b__law_draw .nil pass0 (pa_cons (pv 0) (pa_cons (pe_callB (len_K K) (by rfl) T.n_len (by decide +kernel) (pa_cons (pv 6) pa_nil)) pa_nil))) pa_nil)))
        (pss_one (ps_if (PW.pt (pw_or (pt_cmpR (op_eqK K hr.units) (pv 3) pe_int (nomark _)) (pw_or1 (pt_cmpR op_gt (pe_call (ok__law_draw T) (hr.mono (by decide)) (by rfl) T.g__law_draw T.F__law_draw.kp T.b__law_draw .nil pass0 (pa_cons (pv 0) (pa_cons (pv 3) pa_nil))) pe_int (nomark _))))) (pss_cons (ps_dput (hu_of hr) (pe_ix (ix_K K) (pv 4) (pv 7) (fun _ _ => rfl)) (pv 5) (pv 8) (by rfl))
        (pss_one (ps_dput (hu_of hr) (pe_ix (ix_K K) (pv 4) (pv 8) (fun _ _ => rfl)) (pe_un un_neg (pv 5)) (pv 7) (by rfl)))) pss_nil)))))))
        (pss_one (ps_ret (pv 4))))), ?_⟩
      have hw0 : H w ≠ none := fun z => by
        obtain ⟨_, _, _, h1, _⟩ := hw.ex
        rw [z] at h1
        cases h1
      walk_at "go"
      refine r_rng1 (by omega) (by omega) ?_
      rw [show ((m : Nat) : Int).toNat = m from rfl]
      refine dl_R (by omega) (fun _ => rfl) fun p H1 hp e1 dl => ?_
      have npw : p ≠ w := fun z => hw0 (z ▸ hp)
      have dl1 : DL H H1 p m fun x s => vN ((fun _ _ => none : Wb.Gm) x s) := dl
      clear dl
      walk_at "go"
      refine r_rng2 ⟨by omega, by omega, by omega, by omega⟩ ?_
      rw [show ((L : Int) + 1 - 1).toNat = L by omega]
      refine r_forR (lo := 1) (m := L) (fun i σ' H' => ∃ (d : Wb.Gm) (v5 v6 v7 v8 : Option V), DrS w H (n + 24 * i) H' ∧ (DL H H' p m fun x s => vN (d x s)) ∧ Wb.Gr L m d ∧ (∀ r s g, d r s = some g → -(i : Int) ≤ s ∧ s ≤ (i : Int)) ∧ σ' = [some (.ref w), some (.int (L : Int)), some (.int (m : Int)), some (.int (gp : Int)), some (.ref p), v5, v6, v7, v8]) ⟨fun _ _ => none, none, none, none, none, ⟨.of e1, hw.mono e1⟩, dl1, ⟨fun _ _ _ z => (by cases z), fun _ _ _ z => (by cases z)⟩, fun _ _ _ z => (by cases z), rfl⟩ (fun i σ' H' hi z => ?_) (fun σ' H' z => ?_)
      · obtain ⟨d, v5, v6, v7, v8, s1, dl, G, low, rfl⟩ := z
        walk_at "go"
        refine r_lstRg (by decide) (by omega) (by decide) (by omega) fun lf H2 hlf e2 k2 => ?_
        have er : rgI 0 (m : Int) = nI (List.range m) := by
          unfold rgI nI
          rw [show ((m : Int) - 0).toNat = m by omega]
          exact List.map_congr_left fun g _ => by omega
        rw [er] at k2
        have nlw : lf ≠ w := s1.well.ne hlf
        have hlf0 : H lf = none := s1.fresh hlf
        have nlp : lf ≠ p := fun z => by
          obtain ⟨ds, _, _, _, _, _, h6, _⟩ := dl.ex
          rw [← z, hlf] at h6
          cases h6
        walk_at "go"
        refine r_rng1 (by omega) (by omega) ?_
        rw [show ((m : Nat) : Int).toNat = m from rfl]
        refine r_forR (lo := 0) (m := m) (fun j σ' H' => ∃ (d : Wb.Gm) (left : List Nat) (v7 v8 : Option V), DrS w H (n + 24 * i + 2 * j) H' ∧ (DL H H' p m fun x s => vN (d x s)) ∧ TJ L m i j d left ∧ H' lf = some (.lst ((nI left).map V.int)) ∧ σ' = [some (.ref w), some (.int (L : Int)), some (.int (m : Int)), some (.int (gp : Int)), some (.ref p), some (.int (1 + (i : Int))), some (.ref lf), v7, v8]) ⟨d, List.range m, v7, v8, s1.ext e2, dl.mono e2, tj_start G low, k2, rfl⟩ (fun j σ' H' hj z => ?_) (fun σ' H' z => ?_)
        · obtain ⟨d, left, v7, v8, s1, dl, T, kl, rfl⟩ := z
          have zl := T.len
          walk_at "go"
          refine r_pa (l_of kl) ?_
          walk_at "go"
          refine r_lenL (l_of kl) ?_
          rw [List.length_map, nI_len]
          walk_at "go"
          refine ⟨w, _, _, rfl, by omega, by omega, s1.well, by omega, fun r H3 r0 r1 e3 w3 => ?_⟩
          have s3 := s1.on e3 w3
          have dl3 := dl_w dl (s1.ex.trans e3 |> fun _ => e3) hw0
          have kl3 := e3 _ _ kl nlw
          walk_at "go"
          have hk := List.getElem?_eq_getElem (show r.toNat < left.length by omega)
          generalize left[r.toNat] = g at hk
          have hgm := T.lt g (List.mem_of_getElem? hk)
          refine r_popA kl3 r0 (by rw [List.length_map, nI_len]; omega) (v := .int (g : Int)) (by rw [List.getElem?_map, nI_at hk]; rfl) fun H4 e4 k4 => ?_
          have s4 := s3.mut e4 hlf0 nlw
          have dl4 := dl_l dl3 e4 kl3 nlp
          have k4' : H4 lf = some (.lst ((nI (left.eraseIdx r.toNat)).map V.int)) := by
            rw [k4]
            unfold nI
            rw [erase_map, erase_map]
          clear k4 kl kl3 dl dl3 e3 e4 s1 s3 w3
          walk_at "go"
          have put : ∀ H5, DrS w H (n + 24 * i + 2 * (j + 1)) H5 → (DL H H5 p m fun x s => vN (d x s)) → H5 lf = some (.lst ((nI (left.eraseIdx r.toNat)).map V.int)) →
              ∀ (R : Hp → Prop), (∀ H6, (∃ (d : Wb.Gm) (left : List Nat) (v7 v8 : Option V), DrS w H (n + 24 * i + 2 * (j + 1)) H6 ∧ (DL H H6 p m fun x s => vN (d x s)) ∧ TJ L m i (j + 1) d left ∧ H6 lf = some (.lst ((nI left).map V.int)) ∧ [some (V.ref w), some (.int (L : Int)), some (.int (m : Int)), some (.int (gp : Int)), some (.ref p), some (.int (1 + (i : Int))), some (.ref lf), some (.int (0 + (j : Int))), some (.int (g : Int))] = [some (.ref w), some (.int (L : Int)), some (.int (m : Int)), some (.int (gp : Int)), some (.ref p), some (.int (1 + (i : Int))), some (.ref lf), v7, v8]) → R H6) →
              ∃ xs b kvs, H5 p = some (.lst xs) ∧ xs[j]? = some (.ref b) ∧ H5 b = some (.dK kvs) ∧ DI kvs (fun s => vN (d j s)) ∧ kvs.length < 100000 ∧
                ∀ H6 kv2, ExW b H5 H6 → H6 b = some (.dK kv2) → DI kv2 (fun t => if t = 1 + (i : Int) then some (.int (g : Int)) else vN (d j t)) →
                ∃ xs2 b2 kv3 f3, H6 p = some (.lst xs2) ∧ xs2[g]? = some (.ref b2) ∧ H6 b2 = some (.dK kv3) ∧ DI kv3 f3 ∧ kv3.length < 100000 ∧
                ∀ H7 kv4, ExW b2 H6 H7 → H7 b2 = some (.dK kv4) → DI kv4 (fun t => if t = -(1 + (i : Int)) then some (.int (0 + (j : Int))) else f3 t) → R H7 := by
            intro H5 s5 dl5 k5 R hR
            obtain ⟨xs, b, kvs, b1, b2, b3, b4, b5, b6, b7, b8⟩ := dl_set dl5 hj fun s hs => by
              cases e : d j s with
              | none => rw [e] at hs; cases hs
              | some v => exact gr4 T.gr l4 _ _ _ e
            refine ⟨xs, b, kvs, b1, b2, b3, b4, b5, fun H6 kv2 e6 k6 d6 => ?_⟩
            have T6 := b8 H6 kv2 _ g e6 k6 d6
            have nbw : b ≠ w := fun z => hw0 (z ▸ b7)
            have nbl : b ≠ lf := fun z => by rw [z, k5] at b3; cases b3
            obtain ⟨xs2, b2', kv3, c1, c2, c3, c4, c5, c6, c7, c8⟩ := dl_set T6 hgm fun s hs => by
              by_cases z : g = j ∧ s = 1 + (i : Int)
              · exact Od.mem_steps.mpr (by omega)
              · rw [if_neg z] at hs
                cases e : d g s with
                | none => rw [e] at hs; cases hs
                | some v => exact gr4 T.gr l4 _ _ _ e
            refine ⟨xs2, b2', kv3, _, c1, c2, c3, c4, c5, fun H7 kv4 e7 k7 d7 => hR H7 ?_⟩
            rw [show (0 : Int) + (j : Int) = ((j : Nat) : Int) by omega] at d7
            have T7 := c8 H7 kv4 _ j e7 k7 d7
            have nbw2 : b2' ≠ w := fun z => hw0 (z ▸ c7)
            have kl6 := e6 _ _ k5 nbl.symm
            have nbl2 : b2' ≠ lf := fun z => by rw [z, kl6] at c3; cases c3
            refine ⟨_, left.eraseIdx r.toNat, _, _, (s5.mut e6 b7 nbw).mut e7 c7 nbw2, T7, ?_, e7 _ _ kl6 nbl2.symm, rfl⟩
            have TT := tj_put T hk hj hi
            unfold Wb.set1 at TT
            rw [show (i : Int) + 1 = 1 + (i : Int) by omega] at TT
            exact TT
          refine if_2 (fun h0 => ?_) fun h0 => ?_
          · refine if_T ?_
            walk_at "go"
            obtain ⟨xs, b, kvs, b1, b2, b3, b4, b5, k⟩ := put H4 (s4.more (by omega)) dl4 k4' _ fun H6 z => z
            refine r_ixL (l_of b1) (atI_at (i := (0 : Int) + (j : Int)) (by omega) (by rw [show ((0 : Int) + (j : Int)).toNat = j by omega]; exact b2)) ?_
            walk_at "go"
            refine r_dputI b3 b4 b5 fun H6 kv2 e6 k6 d6 => ?_
            obtain ⟨xs2, b2', kv3, f3, c1, c2, c3, c4, c5, k⟩ := k H6 kv2 e6 k6 d6
            walk_at "go"
            refine r_ixL (l_of c1) (atI_at (by omega) (by rw [show ((g : Nat) : Int).toNat = g by omega]; exact c2)) ?_
            walk_at "go"
            refine r_dputI c3 c4 c5 fun H7 kv4 e7 k7 d7 => ?_
            walk_at "go"
            exact k H7 kv4 e7 k7 d7
          · walk_at "go"
            refine ⟨w, _, _, rfl, by omega, by omega, s4.well, by omega, fun r2 H5 r20 r21 e5 w5 => ?_⟩
            have s5 := s4.on e5 w5
            have dl5 := dl_w dl4 e5 hw0
            have k5 := e5 _ _ k4' nlw
            walk_at "go"
            refine if_2 (fun h1 => ?_) fun h1 => ?_
            · walk_at "go"
              obtain ⟨xs, b, kvs, b1, b2, b3, b4, b5, k⟩ := put H5 (s5.more (by omega)) dl5 k5 _ fun H6 z => z
              refine r_ixL (l_of b1) (atI_at (i := (0 : Int) + (j : Int)) (by omega) (by rw [show ((0 : Int) + (j : Int)).toNat = j by omega]; exact b2)) ?_
              walk_at "go"
              refine r_dputI b3 b4 b5 fun H6 kv2 e6 k6 d6 => ?_
              obtain ⟨xs2, b2', kv3, f3, c1, c2, c3, c4, c5, k⟩ := k H6 kv2 e6 k6 d6
              walk_at "go"
              refine r_ixL (l_of c1) (atI_at (by omega) (by rw [show ((g : Nat) : Int).toNat = g by omega]; exact c2)) ?_
              walk_at "go"
              refine r_dputI c3 c4 c5 fun H7 kv4 e7 k7 d7 => ?_
              walk_at "go"
              exact k H7 kv4 e7 k7 d7
            · walk_at "go"
              exact ⟨d, left.eraseIdx r.toNat, _, _, s5.more (by omega), dl5, tj_drop T hk hj, k5, rfl⟩
        · obtain ⟨d, left, v7, v8, s1, dl, T, kl, rfl⟩ := z
          walk_at "go"
          exact ⟨d, _, _, _, _, s1.more (by omega), dl, T.gr, fun r s g h => by have := T.low _ _ _ h; omega, rfl⟩
      · obtain ⟨d, v5, v6, v7, v8, s1, dl, G, low, rfl⟩ := z
        walk_at "go"
        exact q p d H' (s1.more (by omega)) (TabH.of dl fun i _ s => rfl) G
  walk_at "end"
end
end Lw
namespace Lw
open PySem PySem.Spec PyProof.Rows L2 Evl
local macro_rules | `(tactic| walk_at "go") => `(tactic| repeat (first
  | with_reducible refine st_seq ?_ | with_reducible refine st_set ?_ | with_reducible refine st_asg ?_ | with_reducible refine st_ret ?_ | with_reducible refine st_drop ?_ | with_reducible refine st_if ?_
  | with_reducible refine st_c ?_ | ((with_reducible refine' st_v ?h ?_); (case h => exact rfl)) | with_reducible refine st_n ?_ | with_reducible refine st_cons ?_ | with_reducible refine st_op ?_ | with_reducible refine st_un ?_
  | with_reducible refine st_cb ?_ | with_reducible refine st_test ?_ | with_reducible refine st_call ?_ | with_reducible refine st_callK ?_ | with_reducible refine st_sl ?_ | with_reducible refine st_par ?_ | with_reducible refine st_par3 ?_ | with_reducible refine st_tru ?_
  | with_reducible refine st_and ?_ | with_reducible refine st_or ?_ | with_reducible refine st_not ?_ | with_reducible refine st_B ?_ | with_reducible refine st_andV ?_ | with_reducible refine st_orV ?_ | with_reducible refine st_notV ?_ | with_reducible refine st_ifE ?_
  | with_reducible refine st_part ?_ | with_reducible refine st_nop ?_ | with_reducible refine st_sub ?_ | with_reducible refine st_chain ?_ | with_reducible refine st_chain3 ?_ | with_reducible refine st_lenSet ?_ | with_reducible refine st_bl ?_ | with_reducible refine st_in ?_ | with_reducible refine r_truB ?_
  | with_reducible refine st_nameG ?_ | with_reducible refine if_T ?_ | with_reducible refine if_F ?_ | with_reducible refine if_nT ?_ | with_reducible refine if_nF ?_
  | with_reducible refine r_add ?_ | with_reducible refine r_0 ?_ | with_reducible refine r_neg ?_ | with_reducible refine r_intI ?_ | with_reducible refine r_intB ?_ | with_reducible refine r_abs ?_ | with_reducible refine r_max2 ?_ | with_reducible refine r_min2 ?_ | with_reducible refine r_eqI ?_ | with_reducible refine r_neI ?_
  | with_reducible refine st_nxt ?_ | with_reducible refine st_cnt ?_ | with_reducible refine st_brk ?_ | with_reducible refine st_retn ?_
  | with_reducible refine st_lstN ?_ | with_reducible refine st_tupN ?_
  | with_reducible refine st_for ?_ | with_reducible refine st_lc ?_ | with_reducible refine st_lc2 ?_ | with_reducible refine st_rng1 ?_ | with_reducible refine st_rng2 ?_ | with_reducible refine st_rng3 ?_ | with_reducible refine st_itL ?_ | with_reducible refine st_itT ?_ | with_reducible refine st_rev ?_ | with_reducible refine st_enumE ?_ | with_reducible refine st_zip3 ?_ | with_reducible refine st_lvals ?_ | with_reducible refine st_fld ?_ | with_reducible refine st_sfld ?_ | with_reducible refine st_meth ?_ | with_reducible refine st_make ?_ | with_reducible refine st_rg1 ?_ | with_reducible refine st_enumS ?_ | with_reducible refine st_enumD ?_ | with_reducible refine st_lstIt ?_ | with_reducible refine st_dg1 ?_ | with_reducible refine st_dg2 ?_ | with_reducible refine st_dpop ?_ | with_reducible refine st_dset ?_ | with_reducible refine st_ckw ?_ | with_reducible refine st_dsetT ?_ | with_reducible refine st_dnewT ?_ | with_reducible refine st_dc ?_ | with_reducible refine st_keys ?_ | with_reducible refine st_dget ?_ | with_reducible refine st_din ?_ | with_reducible refine st_dnin ?_ | with_reducible refine st_dput ?_ | with_reducible refine st_dnew ?_ | with_reducible refine st_lstRg ?_ | with_reducible refine st_rg2 ?_ | with_reducible refine r_twoI ?_ | with_reducible refine st_bm ?_ | with_reducible refine st_bm0 ?_
  | ((with_reducible refine' st_aug ?h ?_); (case h => exact rfl)) | with_reducible refine r_augI ?_ | with_reducible refine r_eqB ?_
  | dsimp only))
section
variable {P : Program} {w : World} {K : PySem.W.Frag} {mg : Str → Option Value} {base : Heap} {A : Ad}
def okStep (fs : List Int) (s : Int) : Bool := decide (fs = []) || !decide (fs.getLast? = some (-s))
theorem ok_bh {L : Nat} {fs : List Int} {s : Int} (h : s ∈ Od.steps L) (k : okStep fs s = true) : s ∈ Od.bh L (Od.lst none fs) := by
  refine Od.mem_bh.mpr ⟨h, fun e => ?_⟩
  unfold okStep at k
  unfold Od.lst at e
  cases c : fs.getLast? with
  | none => rw [c] at e; cases e
  | some y =>
    rw [c] at e k
    cases e
    have : fs ≠ [] := fun z => by rw [z] at c; cases c
    rw [decide_eq_false this, decide_eq_true rfl] at k
    cases k
theorem ok_some (L : Nat) (l1 : 1 ≤ L) (fs : List Int) : 0 < ((Od.steps L).filter (okStep fs)).length := by
  have m1 : (1 : Int) ∈ Od.steps L := Od.mem_steps.mpr (by omega)
  have m2 : (-1 : Int) ∈ Od.steps L := Od.mem_steps.mpr (by omega)
  by_cases h : fs.getLast? = some (-1)
  · refine List.length_pos_of_mem (List.mem_filter.mpr ⟨m2, ?_⟩)
    unfold okStep
    rw [h]
    simp
  · refine List.length_pos_of_mem (List.mem_filter.mpr ⟨m1, ?_⟩)
    unfold okStep
    rw [decide_eq_false h]
    simp
def sp__law_straight (K : PySem.W.Frag) : Sp := fun vs H Q _ => ∃ (w : Addr) (n L m : Nat), vs = [.ref w, .int (L : Int), .int (m : Int)] ∧ Well H w n ∧ n < 2 ^ 20 ∧ 1 ≤ L ∧ L ≤ 4 ∧ m ≤ 60 ∧ ∀ p ns H1, DrS w H (n + m) H1 → IT K H1 p ns → (ns.length = m ∧ Od.G L none ns) → (∀ x ∈ ns, x ∈ Od.steps L) → Q (.ref p) H1
theorem ok__law_straight (T : Tx K mg A) : FnOk P w K mg base CX0 2 A.a__law_straight A.f__law_straight P__law_straight (sp__law_straight K) := by
  refine Qt.drp ?_ ?_
  · refine T.F__law_straight.ok sc__law_straight (fun vs H Q E h => ?_) (fun cdv A' outer s H vs Q E hr h => ?_)
    · obtain ⟨w, n, L, m, rfl, _⟩ := h
      rfl
    · obtain ⟨w, n, L, m, rfl, hw, hn, l1, l4, hm, q⟩ := h
      refine ⟨_, (pss_cons (ps_set (i := 3) sc__law_straight.nd rfl (Or.inr rfl) (pe_lst pa_nil))
        (pss_cons (ps_for PassesOwn.never rfl (pi_range1 (by rfl) T.n_range (pa_cons (pv 2) pa_nil)) (pg_name (i := 4) sc__law_straight.nd rfl (Or.inl rfl)) (pss_cons (ps_setLc (i := 5) (own := [("_law_step", 6)]) rfl sc__law_straight.nd rfl rfl (sw_true rfl rfl rfl (by decide +kernel)) (pi_listK K (pe_call (ok__law_steps T) (hr.mono (by decide)) (by rfl) T.g__law_steps T.F__law_steps.kp T.b__law_steps .nil pass0 (pa_cons (pv 1) pa_nil))) (blkOk_by (own := [("_law_step", 6)]) (N := N__law_straight) (sc := defScope s__law_straight) (by decide +kernel)) (fun _ _ _ _ _ => (pg_name (i := 6) sc__law_straight.nd rfl (Or.inl rfl))) (fun _ _ _ _ _ => (pts_one (PW.pt (pw_or (pt_cmpR (op_eqK K hr.units) (pv 3) (pe_lst pa_nil) (nomark _)) (pw_or1 (pt_cmpR (op_neK K hr.units) (pv 6) (pe_un un_neg (pe_ix (ix_K K) (pv 3) (pe_un un_neg pe_int) (fun _ _ => rfl))) (nomark _))))))) (fun _ _ _ _ _ => (pv 6)))
        (pss_one (ps_expr (pe_bmU K PySem.F.plainAttrs_list PySem.F.slot_list_append PySem.F.type_list_append mt_append (pv 3) (pa_cons (pe_ix (ix_K K) (pv 5) (pe_call (ok__law_draw T) (hr.mono (by decide)) (by rfl) T.g__law_draw T.F__law_draw.kp T.b__law_draw .nil pass0 (pa_cons (pv 0) (pa_cons (pe_callB (len_K K) (by rfl) T.n_len (by decide +kernel) (pa_cons (pv 5) pa_nil)) pa_nil))) (fun _ _ => rfl)) pa_nil))))))
        (pss_one (ps_ret (pe_callTy (tuple_K K) (by rfl) T.n_tuple (by decide +kernel) (pa_cons (pv 3) pa_nil)))))), ?_⟩
      walk_at "go"
      refine r_newL (by simp) fun c H1 hc e1 k1 => ?_
      have ncw : c ≠ w := hw.ne hc
      walk_at "go"
      refine r_rng1 (by omega) (by omega) (r_forR (m := ((m : Nat) : Int).toNat) (fun i σ' H' => ∃ (fs : List Int) (v4 v5 : Option V), DrS w H (n + i) H' ∧ H' c = some (.lst (fs.map V.int)) ∧ fs.length = i ∧ Od.G L none fs ∧ σ' = [some (.ref w), some (.int (L : Int)), some (.int (m : Int)), some (.ref c), v4, v5, none]) ⟨[], none, none, ⟨.of e1, hw.mono e1⟩, k1, rfl, trivial, rfl⟩ ?_ ?_)
      · rintro i σ' H2 hi ⟨fs, v4, v5, s2, h2, z2, m2, rfl⟩
        walk_at "go"
        refine ⟨L, rfl, l4, fun p H3 hp e3 h3 => ?_⟩
        walk_at "go"
        refine r_itL (l_of h3) (r_cmLA (xs := (Od.steps L).map V.int) (fun j ys H' => Ex H3 H' ∧ ys = (((Od.steps L).take j).filter (okStep fs)).map V.int) (by rw [List.length_map, Od.steps_len]; omega) (fun _ => rfl) (fun j ys H' p => ex_l p.1 (l_of h3)) (fun D hD o => ⟨Ex.new hD, rfl⟩) (fun j x H4 D acc hx hz hacc p hall => ?_) fun D H4 ys hD hl p hall => ?_)
        · obtain ⟨e4, eacc⟩ := p
          have hD3 : H3 D = none := ex_none fun o => (hall o).1
          rw [List.getElem?_map] at hx
          cases hs : (Od.steps L)[j]? with
          | none => rw [hs] at hx; cases hx
          | some s =>
            rw [hs] at hx
            cases hx
            have hj := (List.getElem?_eq_some_iff.mp hs).1
            rw [Od.steps_len] at hj
            have tk := take_snoc hs
            have yes : okStep fs s = true → ∀ H5, Ex H4 H5 → CmY (fun j ys H' => Ex H3 H' ∧ ys = (((Od.steps L).take j).filter (okStep fs)).map V.int) D j (.int s) H5 := fun h0 H5 e5 => by
              refine cm_yes (e5 _ _ hacc) hz (by omega) fun o => ⟨ex_put (e4.trans e5) hD3, ?_⟩
              rw [tk, List.filter_append, List.filter_cons_of_pos h0, List.filter_nil, List.map_append, eacc]
              rfl
            have h4 := e4 _ _ (e3 _ _ h2)
            walk_at "go"
            refine r_newL (by simp) fun z H5 hz5 e5 h5 => ?_
            walk_at "go"
            refine r_eqL (ns := fs) (ms := []) (l_of (e5 _ _ h4)) (l_of h5) ?_
            walk_at "go"
            refine if_2 (fun h0 => ?_) fun h0 => ?_
            · refine if_T ?_
              walk_at "go"
              exact yes (by unfold okStep; rw [decide_eq_true h0]; rfl) H5 e5
            · obtain ⟨y, hy⟩ : ∃ y, fs.getLast? = some y := by
                cases e : fs.getLast? with
                | none => exact absurd (List.getLast?_eq_none_iff.mp e) h0
                | some y => exact ⟨y, rfl⟩
              walk_at "go"
              refine r_ixL (l_of (e5 _ _ h4)) (at_last hy) ?_
              walk_at "go"
              by_cases hsy : s = -y
              · rw [decide_eq_true hsy]
                refine if_F ?_
                refine cm_no (e5 _ _ hacc) hz fun o => ⟨ex_put (e4.trans e5) hD3, ?_⟩
                have : okStep fs s = false := by
                  unfold okStep
                  rw [decide_eq_false h0, hy, hsy]
                  simp
                rw [tk, List.filter_append, List.filter_cons_of_neg (by rw [this]; decide), List.filter_nil, List.append_nil, eacc]
              · rw [decide_eq_false hsy]
                refine if_T ?_
                walk_at "go"
                refine yes ?_ H5 e5
                unfold okStep
                rw [decide_eq_false h0, hy, decide_eq_false (fun z => hsy (by cases z; omega))]
                rfl
        · obtain ⟨e4, eys⟩ := p
          rw [List.length_map, List.take_of_length_le (by exact Nat.le_refl _)] at eys
          have hpos := ok_some L l1 fs
          have hmem : ∀ x ∈ (Od.steps L).filter (okStep fs), x ∈ Od.bh L (Od.lst none fs) := fun x hx => ok_bh (List.mem_filter.mp hx).1 (List.mem_filter.mp hx).2
          have hlen : ((Od.steps L).filter (okStep fs)).length ≤ 8 := Nat.le_trans (List.length_filter_le _ _) (by rw [Od.steps_len]; omega)
          generalize (Od.steps L).filter (okStep fs) = menu at eys hpos hmem hlen
          subst eys
          have s4 := (s2.ext e3).ext e4
          have h4 := e4 _ _ (e3 _ _ h2)
          have ncD : D ≠ c := fun z => by rw [z, e3 _ _ h2] at hD; cases hD
          have nDw : D ≠ w := (s2.ext e3).well.ne hD
          walk_at "go"
          refine r_app (l_of h4) ?_
          walk_at "go"
          refine r_lenL (l_of hl) ?_
          rw [List.length_map]
          walk_at "go"
          refine ⟨w, n + i, _, rfl, by omega, by omega, s4.well, by omega, fun r H5 r0 r1 e5 w5 => ?_⟩
          have hl5 := e5 _ _ hl nDw
          have h5 := e5 _ _ h4 ncw
          have hr := List.getElem?_eq_getElem (show r.toNat < menu.length by omega)
          walk_at "go"
          refine r_ixL (l_of hl5) (at_int r0 hr) ?_
          walk_at "go"
          have s5 := s4.on e5 w5
          have nH : H c = none := hc
          refine r_appd h5 (by rw [List.length_map]; omega) fun H6 e6 h6 => ?_
          walk_at "go"
          refine ⟨fs ++ [menu[r.toNat]], _, _, (s5.mut e6 hc ncw).more (by omega), by rw [h6, List.map_append]; rfl, by rw [List.length_append, z2]; rfl, Od.G_snoc.mpr ⟨m2, hmem _ (List.getElem_mem _)⟩, rfl⟩
      · rintro σ' H' ⟨fs, v4, v5, s2, h2, z2, m2, rfl⟩
        walk_at "go"
        refine r_tupL (l_of h2) fun p H3 hp e3 h3 => ?_
        exact q p fs H3 ((s2.ext e3).more (by omega)) h3 ⟨by omega, m2⟩ fun x hx => Od.mem_steps.mpr ((Od.of_G m2).1 x hx)
  walk_at "end"
end
end Lw
namespace Lw
open PySem PySem.Spec PyProof.Rows L2 Evl
local macro_rules | `(tactic| walk_at "go") => `(tactic| repeat (first
  | with_reducible refine st_seq ?_ | with_reducible refine st_set ?_ | with_reducible refine st_asg ?_ | with_reducible refine st_ret ?_ | with_reducible refine st_drop ?_ | with_reducible refine st_if ?_
  | with_reducible refine st_c ?_ | ((with_reducible refine' st_v ?h ?_); (case h => exact rfl)) | with_reducible refine st_n ?_ | with_reducible refine st_cons ?_ | with_reducible refine st_op ?_ | with_reducible refine st_un ?_
  | with_reducible refine st_cb ?_ | with_reducible refine st_test ?_ | with_reducible refine st_call ?_ | with_reducible refine st_callK ?_ | with_reducible refine st_sl ?_ | with_reducible refine st_par ?_ | with_reducible refine st_par3 ?_ | with_reducible refine st_tru ?_
  | with_reducible refine st_and ?_ | with_reducible refine st_or ?_ | with_reducible refine st_not ?_ | with_reducible refine st_B ?_ | with_reducible refine st_andV ?_ | with_reducible refine st_orV ?_ | with_reducible refine st_notV ?_ | with_reducible refine st_ifE ?_
  | with_reducible refine st_part ?_ | with_reducible refine st_nop ?_ | with_reducible refine st_sub ?_ | with_reducible refine st_chain ?_ | with_reducible refine st_chain3 ?_ | with_reducible refine st_lenSet ?_ | with_reducible refine st_bl ?_ | with_reducible refine st_in ?_ | with_reducible refine r_truB ?_
  | with_reducible refine st_nameG ?_ | with_reducible refine if_T ?_ | with_reducible refine if_F ?_ | with_reducible refine if_nT ?_ | with_reducible refine if_nF ?_
  | with_reducible refine r_add ?_ | with_reducible refine r_0 ?_ | with_reducible refine r_neg ?_ | with_reducible refine r_intI ?_ | with_reducible refine r_intB ?_ | with_reducible refine r_abs ?_ | with_reducible refine r_max2 ?_ | with_reducible refine r_min2 ?_ | with_reducible refine r_eqI ?_ | with_reducible refine r_neI ?_
  | with_reducible refine st_nxt ?_ | with_reducible refine st_cnt ?_ | with_reducible refine st_brk ?_ | with_reducible refine st_retn ?_
  | with_reducible refine st_lstN ?_ | with_reducible refine st_tupN ?_
  | with_reducible refine st_for ?_ | with_reducible refine st_lc ?_ | with_reducible refine st_lc2 ?_ | with_reducible refine st_rng1 ?_ | with_reducible refine st_rng2 ?_ | with_reducible refine st_rng3 ?_ | with_reducible refine st_itL ?_ | with_reducible refine st_itT ?_ | with_reducible refine st_rev ?_ | with_reducible refine st_enumE ?_ | with_reducible refine st_zip3 ?_ | with_reducible refine st_lvals ?_ | with_reducible refine st_fld ?_ | with_reducible refine st_sfld ?_ | with_reducible refine st_meth ?_ | with_reducible refine st_make ?_ | with_reducible refine st_rg1 ?_ | with_reducible refine st_enumS ?_ | with_reducible refine st_enumD ?_ | with_reducible refine st_lstIt ?_ | with_reducible refine st_dg1 ?_ | with_reducible refine st_dg2 ?_ | with_reducible refine st_dpop ?_ | with_reducible refine st_dset ?_ | with_reducible refine st_ckw ?_ | with_reducible refine st_dsetT ?_ | with_reducible refine st_dnewT ?_ | with_reducible refine st_dc ?_ | with_reducible refine st_keys ?_ | with_reducible refine st_dget ?_ | with_reducible refine st_din ?_ | with_reducible refine st_dnin ?_ | with_reducible refine st_dput ?_ | with_reducible refine st_dnew ?_ | with_reducible refine st_lstRg ?_ | with_reducible refine st_rg2 ?_ | with_reducible refine r_twoI ?_ | with_reducible refine st_bm ?_ | with_reducible refine st_bm0 ?_
  | ((with_reducible refine' st_aug ?h ?_); (case h => exact rfl)) | with_reducible refine r_augI ?_ | with_reducible refine r_eqB ?_
  | dsimp only))
section
variable {P : Program} {w : World} {K : PySem.W.Frag} {mg : Str → Option Value} {base : Heap} {A : Ad}
theorem cut_two {d : Wb.Gm} {r g x : Nat} {s t : Int} : (if x = g ∧ t = -s then none else if x = r ∧ t = s then none else d x t) = Wb.cut d r g s x t := by
  unfold Wb.cut
  by_cases c2 : x = g ∧ t = -s
  · rw [if_pos c2, if_pos (Or.inr c2)]
  · rw [if_neg c2]
    by_cases c1 : x = r ∧ t = s
    · rw [if_pos c1, if_pos (Or.inl c1)]
    · rw [if_neg c1, if_neg fun z => z.elim c1 c2]
def sp__law_web (K : PySem.W.Frag) : Sp := fun vs H Q _ => ∃ (L n : Nat) (d : Wb.Gm) (a : Addr), vs = [.int (L : Int), .ref a] ∧ TabH H a n d ∧ Wb.Gr L n d ∧ 1 ≤ L ∧ L ≤ 4 ∧ 0 < n ∧ n ≤ 1000 ∧ ∀ p m d' H1, Ex H H1 → m ≤ n → WebH K H1 p L m d' → Wb.Web L m d' → Q (.ref p) H1
theorem ok__law_web (T : Tx K mg A) : FnOk P w K mg base CX0 2 A.a__law_web A.f__law_web P__law_web (sp__law_web K) := by
  refine Qt.drp ?_ ?_
  · refine T.F__law_web.ok sc__law_web (fun vs H Q E h => ?_) (fun cdv A' outer s H vs Q E hr h => ?_)
    · obtain ⟨L, n, d, a, rfl, _⟩ := h
      rfl
    · obtain ⟨L, n, d, a, rfl, tab, G, l1, l4, hn0, hn, q⟩ := h
      refine ⟨_, (pss_cons (ps_set (i := 2) sc__law_web.nd rfl (Or.inr rfl) (pe_lc (own := [("_law_steps_here", 11)]) rfl sc__law_web.nd (pi_listK K (pv 1)) (blkOk_by (own := [("_law_steps_here", 11)]) (N := N__law_web) (sc := defScope s__law_web) (by decide +kernel)) (fun _ _ _ _ _ => (pg_name (i := 11) sc__law_web.nd rfl (Or.inl rfl))) (fun _ _ _ _ _ => pts_nil) (fun _ _ _ _ _ => (pe_callTy dict_C (by rfl) T.n_dict (by decide +kernel) (pa_cons (pv 11) pa_nil)))))
        (pss_cons (ps_for PassesOwn.never rfl (pi_range1 (by rfl) T.n_range (pa_cons (pe_callB (len_K K) (by rfl) T.n_len (by decide +kernel) (pa_cons (pv 2) pa_nil)) pa_nil)) (pg_name (i := 3) sc__law_web.nd rfl (Or.inl rfl)) (pss_one (ps_for PassesOwn.never rfl (pi_range2 (by rfl) T.n_range (pa_cons pe_int (pa_cons (pe_callB (len_K K) (by rfl) T.n_len (by decide +kernel) (pa_cons (pv 2) pa_nil)) pa_nil))) (pg_name (i := 4) sc__law_web.nd rfl (Or.inr rfl)) (pss_one (ps_if (pt_cmpR (op_eqK K hr.units) (pe_callB len_D (by rfl) T.n_len (by decide +kernel) (pa_cons (pe_ix (ix_K K) (pv 2) (pv 4) (fun _ _ => rfl)) pa_nil)) pe_int (nomark _)) (pss_cons (ps_set (i := 5) sc__law_web.nd rfl (Or.inl rfl) (pe_ix (ix_K K) (pe_callTy (list_D rfl) (by rfl) T.n_list (by decide +kernel) (pa_cons (pe_ix (ix_K K) (pv 2) (pv 4) (fun _ _ => rfl)) pa_nil)) pe_int (fun _ _ => rfl)))
        (pss_cons (ps_set (i := 6) sc__law_web.nd rfl (Or.inl rfl) (pe_dpop1 (pe_ix (ix_K K) (pv 2) (pv 4) (fun _ _ => rfl)) (pv 5) ⟨rfl, rfl, rfl, rfl⟩))
        (pss_one (ps_expr (pe_dpop1 (pe_ix (ix_K K) (pv 2) (pv 6) (fun _ _ => rfl)) (pe_un un_neg (pv 5)) ⟨rfl, rfl, rfl, rfl⟩))))) pss_nil)))))
        (pss_cons (ps_asg (pe_tup (pa_cons (pe_lst (pa_cons pe_int pa_nil)) (pa_cons pe_int pa_nil))) (pg_tupK K (by rfl) (pgs_cons (pg_name (i := 7) sc__law_web.nd rfl (Or.inr rfl)) (pgs_cons (pg_name (i := 8) sc__law_web.nd rfl (Or.inl rfl)) pgs_nil))))
        (pss_cons (ps_while PassesOwn.never (pt_cmpR op_lt (pv 8) (pe_callB (len_K K) (by rfl) T.n_len (by decide +kernel) (pa_cons (pv 7) pa_nil)) (nomark _)) (pss_cons (ps_for PassesOwn.never rfl (pi_listK K (pe_call (ok__law_steps T) (hr.mono (by decide)) (by rfl) T.g__law_steps T.F__law_steps.kp T.b__law_steps .nil pass0 (pa_cons (pv 0) pa_nil))) (pg_name (i := 5) sc__law_web.nd rfl (Or.inl rfl)) (pss_cons (ps_set (i := 6) sc__law_web.nd rfl (Or.inl rfl) (pe_dget2 (hu_of hr) (pe_ix (ix_K K) (pv 2) (pe_ix (ix_K K) (pv 7) (pv 8) (fun _ _ => rfl)) (fun _ _ => rfl)) (pv 5) (pe_un un_neg pe_int) ⟨rfl, rfl, rfl, rfl⟩))
        (pss_one (ps_if (PW.pt (pw_and (pt_cmpR op_ge (pv 6) pe_int (nomark _)) (pw_and1 (pt_cmpR (op_notInK K) (pv 6) (pv 7) (by rfl))))) (pss_one (ps_expr (pe_bmU K PySem.F.plainAttrs_list PySem.F.slot_list_append PySem.F.type_list_append mt_append (pv 7) (pa_cons (pv 6) pa_nil)))) pss_nil))))
        (pss_one (ps_set (i := 8) sc__law_web.nd rfl (Or.inl rfl) (pe_op (op_addK K) (pv 8) pe_int)))))
        (pss_cons (ps_set (i := 9) sc__law_web.nd rfl (Or.inl rfl) (pe_lst pa_nil))
        (pss_cons (ps_for PassesOwn.never rfl (pi_listK K (pv 7)) (pg_name (i := 4) sc__law_web.nd rfl (Or.inr rfl)) (pss_cons (ps_setLc (i := 10) (own := [("_law_letter", 12)]) rfl sc__law_web.nd rfl rfl (sw_true rfl rfl rfl (by decide +kernel)) (pi_range2 (by rfl) T.n_range (pa_cons pe_int (pa_cons (pe_op (op_addK K) (pv 0) pe_int) pa_nil))) (blkOk_by (own := [("_law_letter", 12)]) (N := N__law_web) (sc := defScope s__law_web) (by decide +kernel)) (fun _ _ _ _ _ => (pg_name (i := 12) sc__law_web.nd rfl (Or.inl rfl))) (fun _ _ _ _ _ => pts_nil) (fun _ _ _ _ _ => (pe_dget2 (hu_of hr) (pe_ix (ix_K K) (pv 2) (pv 4) (fun _ _ => rfl)) (pv 12) (pe_un un_neg pe_int) ⟨rfl, rfl, rfl, rfl⟩)))
        (pss_one (ps_expr (pe_bmU K PySem.F.plainAttrs_list PySem.F.slot_list_append PySem.F.type_list_append mt_append (pv 9) (pa_cons (pe_callTy (tuple_K K) (by rfl) T.n_tuple (by decide +kernel) (pa_cons (pe_lc (own := [("_law_goal", 6)]) rfl sc__law_web.nd (pi_listK K (pv 10)) (blkOk_by (own := [("_law_goal", 6)]) (N := N__law_web) (sc := defScope s__law_web) (by decide +kernel)) (fun _ _ _ _ _ => (pg_name (i := 6) sc__law_web.nd rfl (Or.inl rfl))) (fun _ _ _ _ _ => pts_nil) (fun _ _ _ _ _ => (pe_ifExp (pt_cmpR op_ge (pv 6) pe_int (nomark _)) (pe_bmU K PySem.F.plainAttrs_list PySem.F.slot_list_index PySem.F.type_list_index (mt_indexK K) (pv 7) (pa_cons (pv 6) pa_nil)) (pe_un un_neg pe_int)))) pa_nil)) pa_nil))))))
        (pss_one (ps_ret (pe_tup (pa_cons (pv 0) (pa_cons (pe_callTy (tuple_K K) (by rfl) T.n_tuple (by decide +kernel) (pa_cons (pv 9) pa_nil)) pa_nil))))))))))), ?_⟩
      walk_at "go"
      obtain ⟨ds, zd, hp, hds⟩ := tab.ex
      refine r_itL (l_of hp) (dlf_L (l_of hp) (f := fun i s => vN (d i s)) (by rw [List.length_map]; omega) (fun _ => rfl) (fun i y H1 R hy e1 kk => ?_) fun le H1 hle e1 dl => ?_)
      · rw [List.getElem?_map] at hy
        cases hi : ds[i]? with
        | none => rw [hi] at hy; cases hy
        | some z =>
          rw [hi] at hy
          cases hy
          obtain ⟨kvs, q1, q2⟩ := hds i z hi
          walk_at "go"
          refine r_dictC (.inl (e1 _ _ q1)) fun p H2 hp2 e2 h2 => ?_
          exact kk p _ H2 hp2 e2 h2 q2
      rw [List.length_map, zd] at dl
      clear hp hds zd ds
      walk_at "go"
      obtain ⟨ds, zd, hp⟩ : ∃ ds : List Addr, ds.length = n ∧ H1 le = some (.lst (ds.map V.ref)) := by
        obtain ⟨ds, h1, _, _, _, _, h6, _⟩ := dl.ex
        exact ⟨ds, h1, h6⟩
      refine r_lenL (l_of hp) ?_
      rw [List.length_map, zd]
      clear hp zd ds
      walk_at "go"
      refine r_rng1 (by omega) (by omega) ?_
      rw [show ((n : Nat) : Int).toNat = n from rfl]
      refine r_forR (lo := 0) (m := n) (fun t σ' H' => ∃ (d : Wb.Gm) (v3 v4 v5 v6 : Option V), Ex H H' ∧ (DL H H' le n fun x s => vN (d x s)) ∧ Wb.Gr L n d ∧ Wb.TrimO L n t d ∧ σ' = [some (.int (L : Int)), some (.ref a), some (.ref le), v3, v4, v5, v6, none, none, none, none, none, none]) ⟨d, none, none, none, none, e1, dl, G, Wb.trim_first hn0, rfl⟩ (fun t σ' H' ht z => ?_) (fun σ' H' z => ?_)
      · obtain ⟨d, v3, v4, v5, v6, e, dl, G, tr, rfl⟩ := z
        walk_at "go"
        obtain ⟨ds, zd, hp⟩ : ∃ ds : List Addr, ds.length = n ∧ H' le = some (.lst (ds.map V.ref)) := by
          obtain ⟨ds, h1, _, _, _, _, h6, _⟩ := dl.ex
          exact ⟨ds, h1, h6⟩
        refine r_lenL (l_of hp) ?_
        rw [List.length_map, zd]
        clear hp zd ds
        walk_at "go"
        refine r_rng2 ⟨by omega, by omega, by omega, by omega⟩ ?_
        rw [show ((n : Int) - 1).toNat = n - 1 by omega]
        refine r_forR (lo := 1) (m := n - 1) (fun j σ' H' => ∃ (d : Wb.Gm) (v4 v5 v6 : Option V), Ex H H' ∧ (DL H H' le n fun x s => vN (d x s)) ∧ Wb.Gr L n d ∧ Wb.TrimI L n t (1 + j) d ∧ σ' = [some (.int (L : Int)), some (.ref a), some (.ref le), some (.int (0 + (t : Int))), v4, v5, v6, none, none, none, none, none, none]) ⟨d, v4, v5, v6, e, dl, G, Wb.trim_start tr, rfl⟩ (fun j σ' H' hj z => ?_) (fun σ' H' z => ?_)
        · obtain ⟨d, v4, v5, v6, e, dl, G, tr, rfl⟩ := z
          have hj2 : 1 + j < n := by omega
          obtain ⟨xs, b, kvs, a1, a2, a3, a4, a6, a7, a8⟩ := dl_pop dl hj2
          have dg := di_deg (d := d) (r := 1 + j) a4 G
          have a2' : atI xs (1 + (j : Int)) = some (.ref b) := atI_at (by omega) (by rw [show ((1 : Int) + (j : Int)).toNat = 1 + j by omega]; exact a2)
          walk_at "go"
          refine r_ixL (l_of a1) a2' ?_
          walk_at "go"
          refine r_lenD a3 ?_
          walk_at "go"
          refine if_2 (fun h0 => ?_) fun h0 => ?_
          · have h1 : kvs.length = 1 := by omega
            obtain ⟨s0, g, hg, hk⟩ := di_one (d := d) (r := 1 + j) a4 h1
            have hgn := (G.dom _ _ _ hg).2.1
            have hs0 := Od.mem_steps.mp (G.dom _ _ _ hg).2.2
            walk_at "go"
            refine r_ixL (l_of a1) a2' ?_
            walk_at "go"
            refine r_lstD a3 fun c H2 hc e2 k2 => ?_
            rw [hk] at k2
            walk_at "go"
            refine r_ixL (l_of k2) rfl ?_
            walk_at "go"
            refine r_ixL (l_of (e2 _ _ a1)) a2' ?_
            walk_at "go"
            refine r_dpop (.inl (e2 _ _ a3)) ?_
            walk_at "go"
            refine r_dpopb (e2 _ _ a3) a4 (x := s0) (v := .int (g : Int)) (by rw [hg]; rfl) fun H3 kv3 e3 k3 d3 => ?_
            have ex3 := DL.ex0 (e.trans e2) e3 a7
            have dl3 := (dl_pop (dl.mono e2) hj2).choose_spec.choose_spec.choose_spec
            have T3 : DL H H3 le n fun x s => vN (if x = 1 + j ∧ s = s0 then none else d x s) := by
              obtain ⟨b1, b2, b3, b4, b6, b7, b8⟩ := dl3
              have eb := b1.symm.trans (e2 _ _ a1)
              cases eb
              have eb2 := b2.symm.trans a2
              cases eb2
              exact b8 H3 kv3 s0 e3 k3 d3
            obtain ⟨ys, b', kv4, c1, c2, c3, c4, c6, c7, c8⟩ := dl_pop T3 hgn
            walk_at "go"
            refine r_ixL (l_of c1) (atI_at (by omega) (by rw [show ((g : Nat) : Int).toNat = g by omega]; exact c2)) ?_
            walk_at "go"
            refine r_dpop (.inl c3) ?_
            walk_at "go"
            have hback : (if g = 1 + j ∧ -s0 = s0 then none else d g (-s0)) = some (1 + j) := by
              rw [if_neg (by omega)]
              exact G.sym _ _ _ hg
            refine r_dpopb c3 c4 (x := -s0) (v := .int ((1 + j : Nat) : Int)) (by rw [hback]; rfl) fun H4 kv5 e5 k5 d5 => ?_
            have ex4 := DL.ex0 ex3 e5 c7
            have T4 := c8 H4 kv5 (-s0) e5 k5 d5
            walk_at "go"
            refine ⟨Wb.cut d (1 + j) g s0, _, _, _, ex4, T4.congr fun x _ s => congrArg vN cut_two, Wb.cut_gr G hg, ?_, rfl⟩
            exact Wb.trim_yes (j := 1 + j) tr G hg (dg ▸ h1) (by omega)
          · exact ⟨d, _, _, _, e, dl, G, Wb.trim_no (j := 1 + j) tr (fun z => h0 (by rw [dg, z]; rfl)), rfl⟩
        · obtain ⟨d, v4, v5, v6, e, dl, G, tr, rfl⟩ := z
          walk_at "go"
          rw [show 1 + (n - 1) = n by omega] at tr
          exact ⟨d, _, _, _, _, e, dl, G, Wb.trim_round tr, rfl⟩
      obtain ⟨d, v3, v4, v5, v6, e, dl, G, tr, rfl⟩ := z
      have leaf := Wb.trim_end tr
      obtain ⟨d', W, hd'⟩ := Wb.web_of_bfs l1 l4 hn0 G leaf
      clear tr leaf e1
      walk_at "go"
      refine r_newL (by simp) fun b H2 hb e2 k2 => ?_
      walk_at "go"
      refine r_newT (by simp) fun tp H3 htp e3 k3 => ?_
      walk_at "go"
      refine r_tup2 (t_of k3) ?_
      have k2 := e3 _ _ k2
      have dl := (dl.mono e2).mono e3
      have hb0 : H b = none := fresh_back e hb
      have nbl : b ≠ le := fun z => by
        obtain ⟨ds, _, _, _, _, _, h6, _⟩ := dl.ex
        rw [← z, k2] at h6
        have h6 := HO.lst.inj (Option.some.inj h6)
        cases ds with
        | nil => cases h6
        | cons y ds => cases h6
      have e := (e.trans e2).trans e3
      clear e2 e3 k3 htp hb
      walk_at "go"
      refine st_while (fun m σ' H' => ∃ (fd : Wb.Fd) (pl : Nat) (v5 v6 : Option V), m = n + 1 - pl ∧ pl ≤ fd.length ∧ Wb.Ok n fd ∧ Wb.run d (Od.steps L) (n + 1 - pl) pl fd = Wb.bfs L n d 0 ∧ Ex H H' ∧ (DL H H' le n fun x s => vN (d x s)) ∧ H' b = some (.lst ((nI (fd.map (·.1))).map V.int)) ∧
        σ' = [some (.int (L : Int)), some (.ref a), some (.ref le), v3, v4, v5, v6, some (.ref b), some (.int (pl : Int)), none, none, none, none]) (n + 1) ⟨[(0, none)], 0, _, _, rfl, Nat.zero_le _, (Wb.rn_start (d := d) (L := L) hn0).ok, rfl, e, dl, k2, rfl⟩ fun m σ' H' z => ?_
      obtain ⟨fd, pl, v5, v6, rfl, zpl, ok, hrun, e, dl, k2, rfl⟩ := z
      have zfd := ok.len
      walk_at "go"
      refine r_lenL (l_of k2) ?_
      rw [List.length_map, nI_len, List.length_map]
      walk_at "go"
      refine if_2 (fun h0 => ?_) fun h0 => ?_
      · have hpl : pl < fd.length := by omega
        have hg := List.getElem?_eq_getElem hpl
        obtain ⟨r, x, hfx⟩ : ∃ r x, fd[pl] = (r, x) := ⟨_, _, rfl⟩
        rw [hfx] at hg
        have hr : r < n := ok.lt r (List.mem_map.mpr ⟨_, List.mem_of_getElem? hg, rfl⟩)
        have hgk : (fd.map (·.1))[pl]? = some r := by rw [List.getElem?_map, hg]; rfl
        refine ⟨_, fun _ _ h => h, ?_⟩
        walk_at "go"
        refine ⟨L, rfl, l4, fun c H3 hc e3 k3 => ?_⟩
        walk_at "go"
        have k2b := e3 _ _ k2
        have ncb : c ≠ b := fun z => by rw [z, k2] at hc; cases hc
        refine r_itL (l_of k3) (r_forL (xs := (Od.steps L).map V.int) (fun i σ' H' => ∃ (v5 v6 : Option V), Wb.Ok n (Wb.look d r ((Od.steps L).take i) fd) ∧ (∃ m, Wb.look d r ((Od.steps L).take i) fd = fd ++ m) ∧ Ex H H' ∧ (DL H H' le n fun x s => vN (d x s)) ∧ H' b = some (.lst ((nI ((Wb.look d r ((Od.steps L).take i) fd).map (·.1))).map V.int)) ∧ H' c = some (.lst ((Od.steps L).map V.int)) ∧
          σ' = [some (.int (L : Int)), some (.ref a), some (.ref le), v3, v4, v5, v6, some (.ref b), some (.int (pl : Int)), none, none, none, none]) ⟨v5, v6, by rw [List.take_zero]; exact ok, ⟨[], by rw [List.take_zero, List.append_nil]; rfl⟩, e.trans e3, dl.mono e3, by rw [List.take_zero]; exact k2b, k3, rfl⟩ (fun i σ' H' _ z => ?_) (fun i y σ' H' hy z => ?_) fun σ' H' z => ?_)
        · obtain ⟨_, _, _, _, _, _, _, k3, _⟩ := z
          exact l_of k3
        · obtain ⟨v5, v6, ok, ⟨pm, hpm⟩, e, dl, k2, k3, rfl⟩ := z
          rw [List.getElem?_map] at hy
          cases hs : (Od.steps L)[i]? with
          | none => rw [hs] at hy; cases hy
          | some s0 =>
            rw [hs] at hy
            cases hy
            rw [take_snoc hs, Wb.look_snoc]
            generalize Wb.look d r ((Od.steps L).take i) fd = fd2 at ok k2 hpm
            have zf2 := ok.len
            have okn := Wb.adv_ok (r := r) (s := s0) G ok
            obtain ⟨xs, t, kt, a1, a3, a4, a5, _⟩ := dl.at' hr
            have hat : (nI (fd2.map (·.1)))[pl]? = some (r : Int) := by
              refine nI_at ?_
              rw [hpm, List.map_append, List.getElem?_append_left (by rw [List.length_map]; exact hpl)]
              exact hgk
            walk_at "go"
            refine r_ixL (l_of k2) (at_int (by omega) (x := (r : Int)) (by rw [Int.toNat_natCast]; exact hat)) ?_
            walk_at "go"
            refine r_ixL (l_of a1) (atI_at (by omega) (by rw [Int.toNat_natCast]; exact a3)) ?_
            walk_at "go"
            refine r_dg2 (.inl a4) ?_
            walk_at "go"
            refine r_dg2b (.inl a4) a5 ?_
            cases hd : d r s0 with
            | none =>
              have ea : Wb.adv d r fd2 s0 = fd2 := by unfold Wb.adv; rw [hd]
              rw [ea]
              rw [show (vN none).getD (V.int (-1)) = V.int (-1) from rfl]
              walk_at "go"
              rw [decide_eq_false (by decide : ¬ (-1 : Int) ≥ 0)]
              walk_at "go"
              exact ⟨_, _, ok, ⟨pm, hpm⟩, e, dl, k2, k3, rfl⟩
            | some g =>
              rw [show (vN (some g)).getD (V.int (-1)) = V.int (g : Int) from rfl]
              walk_at "go"
              rw [decide_eq_true (by omega : (g : Int) ≥ 0)]
              walk_at "go"
              refine r_ninL (l_of k2) ?_
              walk_at "go"
              by_cases hm : g ∈ fd2.map (·.1)
              · have ea : Wb.adv d r fd2 s0 = fd2 := by unfold Wb.adv; rw [hd]; exact if_pos hm
                rw [ea, decide_eq_true (nI_mem.mpr hm)]
                walk_at "go"
                exact ⟨_, _, ok, ⟨pm, hpm⟩, e, dl, k2, k3, rfl⟩
              · have ea : Wb.adv d r fd2 s0 = fd2 ++ [(g, some (r, s0))] := by unfold Wb.adv; rw [hd]; exact if_neg hm
                rw [ea] at okn ⊢
                rw [decide_eq_false fun z => hm (nI_mem.mp z)]
                walk_at "go"
                refine r_app (l_of k2) ?_
                walk_at "go"
                refine r_appd k2 (by rw [List.length_map, nI_len, List.length_map]; omega) fun H6 e6 k6 => ?_
                walk_at "go"
                refine ⟨_, _, okn, ⟨pm ++ [(g, some (r, s0))], by rw [hpm, List.append_assoc]⟩, fun q o ho => e6 q o (e q o ho) (ne_of_none ho hb0), dl_l dl e6 k2 nbl, ?_, e6 _ _ k3 ncb, rfl⟩
                rw [k6]
                unfold nI
                rw [List.map_append, List.map_append, List.map_append]
                rfl
        · obtain ⟨v5, v6, ok, _, e, dl, k2, k3, rfl⟩ := z
          rw [List.length_map, List.take_length] at ok k2
          obtain ⟨m, em⟩ := Wb.look_pre d r (Od.steps L) fd
          walk_at "go"
          rw [show (pl : Int) + 1 = ((pl + 1 : Nat) : Int) by omega]
          refine ⟨n + 1 - (pl + 1), by omega, _, pl + 1, _, _, rfl, ?_, ok, ?_, e, dl, k2, rfl⟩
          · rw [em, List.length_append]
            omega
          · rw [← hrun, show n + 1 - pl = (n + 1 - (pl + 1)) + 1 by omega, Wb.run_on hg]
      · have e2 : Wb.bfs L n d 0 = fd := by rw [← hrun]; exact Wb.run_end (by omega)
        rw [e2] at W hd'
        obtain ⟨ord, ho⟩ : ∃ ord, fd.map (·.1) = ord := ⟨_, rfl⟩
        have zo : ord.length = fd.length := by rw [← ho, List.length_map]
        have olt : ∀ g ∈ ord, g < n := fun g hg => ok.lt g (ho ▸ hg)
        rw [ho] at k2 hd'
        have hcl : ∀ r s g, r ∈ ord → d r s = some g → g ∈ ord := fun r s g hr hd => by
          rw [← ho, ← e2] at hr ⊢
          exact Wb.bfs_closed G hn0 hr hd
        rw [← zo] at W hd'
        have zon : ord.length ≤ n := by omega
        clear ho hrun e2 h0 zo ok zfd zpl
        walk_at "go"
        refine r_newL (by simp) fun rw H3 hrw e3 k3 => ?_
        have nrb : rw ≠ b := fun z => by rw [z, k2] at hrw; cases hrw
        have nrl : rw ≠ le := fun z => by
          obtain ⟨ds, _, _, _, _, _, h6, _⟩ := dl.ex
          rw [← z, hrw] at h6
          cases h6
        have hrw0 : H rw = none := fresh_back e hrw
        walk_at "go"
        refine r_itL (l_of (e3 _ _ k2)) (r_forL (xs := (nI ord).map V.int) (fun i σ' H' => ∃ (v4 v5 v6 v10 : Option V) (xs : List V), Ex H H' ∧ (DL H H' le n fun x s => vN (d x s)) ∧ H' b = some (.lst ((nI ord).map V.int)) ∧ H' rw = some (.lst xs) ∧ WkA K H' xs ((Wb.rows L ord.length d').take i) ∧
          σ' = [some (.int (L : Int)), some (.ref a), some (.ref le), v3, v4, v5, v6, some (.ref b), some (.int (pl : Int)), some (.ref rw), v10, none, none]) ⟨_, _, _, none, [], e.trans e3, dl.mono e3, e3 _ _ k2, k3, WkA.nil, rfl⟩ (fun i σ' H' _ z => ?_) (fun i y σ' H' hy z => ?_) fun σ' H' z => ?_)
        · obtain ⟨_, _, _, _, _, _, _, k2, _⟩ := z
          exact l_of k2
        · obtain ⟨v4, v5, v6, v10, xs, e, dl, k2, k3, wa, rfl⟩ := z
          unfold nI at hy
          rw [List.getElem?_map, List.getElem?_map] at hy
          cases ho : ord[i]? with
          | none => rw [ho] at hy; cases hy
          | some r =>
            rw [ho] at hy
            cases hy
            have hi := (List.getElem?_eq_some_iff.mp ho).1
            have hrin := List.mem_of_getElem? ho
            have hr := olt r hrin
            walk_at "go"
            refine r_rng2 ⟨by omega, by omega, by omega, by omega⟩ ?_
            rw [show ((L : Int) + 1 - 1).toNat = L by omega]
            refine r_cmR (ys := (Wb.row L d r).map V.int) (by rw [List.length_map, Wb.row_len]) (by rw [List.length_map, Wb.row_len]; omega) (fun _ => rfl) (fun l y H4 hl hy e4 Q' kk => ?_) fun gs H4 hgs e4 k4 => ?_
            · obtain ⟨xs, t, kt, a1, a3, a4, a5, _⟩ := (dl.mono e4).at' hr
              rw [List.getElem?_map, Wb.row_at hl] at hy
              cases hy
              walk_at "go"
              refine r_ixL (l_of a1) (atI_at (by omega) (by rw [Int.toNat_natCast]; exact a3)) ?_
              walk_at "go"
              refine r_dg2 (.inl a4) ?_
              walk_at "go"
              refine r_dg2b (.inl a4) a5 ?_
              rw [show (1 : Int) + (l : Int) = (l : Int) + 1 by omega]
              cases hd : d r ((l : Int) + 1) with
              | none =>
                rw [hd] at kk
                exact kk H4 (Ex.refl H4)
              | some g =>
                rw [hd] at kk
                exact kk H4 (Ex.refl H4)
            walk_at "go"
            refine r_app (l_of (e4 _ _ k3)) ?_
            walk_at "go"
            refine r_itL (l_of k4) (r_cmL (ys := (Wb.row L d' i).map V.int) (l_of k4) (by rw [List.length_map, List.length_map, Wb.row_len, Wb.row_len]) (by rw [List.length_map, Wb.row_len]; omega) (fun _ => rfl) (fun l y y2 H5 hy hy2 e5 Q' kk => ?_) fun gt H5 hgt e5 k5 => ?_)
            · have hl : l < L := by
                have := (List.getElem?_eq_some_iff.mp hy).1
                rwa [List.length_map, Wb.row_len] at this
              rw [List.getElem?_map, Wb.row_at hl] at hy hy2
              cases hy
              cases hy2
              have hdd := hd' i hi ((l : Int) + 1)
              rw [show ord.getD i 0 = r by rw [List.getD_eq_getElem?_getD, ho]; rfl] at hdd
              walk_at "go"
              cases hd : d r ((l : Int) + 1) with
              | none =>
                rw [hd] at hdd
                rw [hdd] at kk
                rw [decide_eq_false (by decide : ¬ (-1 : Int) ≥ 0)]
                walk_at "go"
                exact kk H5 (Ex.refl H5)
              | some g =>
                rw [hd] at hdd
                rw [hdd] at kk
                rw [decide_eq_true (by omega : (g : Int) ≥ 0)]
                walk_at "go"
                refine ⟨.inl ⟨rfl, _, l_of (e5 _ _ (e4 _ _ k2))⟩, ?_⟩
                walk_at "go"
                refine r_index (l_of (e5 _ _ (e4 _ _ k2))) (nI_mem.mpr (hcl _ _ _ hrin hd)) ?_
                rw [nI_idx]
                exact kk H5 (Ex.refl H5)
            walk_at "go"
            refine r_tupL (l_of k5) fun tp H6 htp e6 k6 => ?_
            walk_at "go"
            have e46 := (e4.trans e5).trans e6
            have k3' := e46 _ _ k3
            refine r_appd k3' (by rw [wa.len, List.length_take, Wb.rows_len]; omega) fun H7 e7 k7 => ?_
            walk_at "go"
            have tx7 : TX H6 H7 := TX.w2 k3' e7
            refine ⟨_, _, _, _, _, fun q o h => e7 q o (e46 q o (e q o h)) (ne_of_none h hrw0), dl_l (dl.mono e46) e7 k3' nrl, e7 _ _ (e46 _ _ k2) nrb.symm, k7, ?_, rfl⟩
            rw [take_snoc (Wb.rows_at (L := L) (d := d') hi)]
            exact ((wa.ex e46).tx tx7).snoc ⟨tp, rfl, tx_t tx7 k6⟩
        · obtain ⟨v4, v5, v6, v10, xs, e, dl, k2, k3, wa, rfl⟩ := z
          rw [List.length_map, nI_len, List.take_of_length_le (by rw [Wb.rows_len]; exact Nat.le_refl _)] at wa
          walk_at "go"
          refine r_tupL (l_of k3) fun tp H6 htp e6 k6 => ?_
          walk_at "go"
          refine r_newT (by simp) fun tw H7 htw e7 k7 => ?_
          exact q tw ord.length d' H7 ((e.trans e6).trans e7) zon ⟨tp, xs, t_of k7, ex_t e7 k6, (wa.ex e6).ex e7⟩ W
  walk_at "end"
end
end Lw
namespace Lw
open PySem PySem.Spec PyProof.Rows L2 Evl
local macro_rules | `(tactic| walk_at "go") => `(tactic| repeat (first
  | with_reducible refine st_seq ?_ | with_reducible refine st_set ?_ | with_reducible refine st_asg ?_ | with_reducible refine st_ret ?_ | with_reducible refine st_drop ?_ | with_reducible refine st_if ?_
  | with_reducible refine st_c ?_ | ((with_reducible refine' st_v ?h ?_); (case h => exact rfl)) | with_reducible refine st_n ?_ | with_reducible refine st_cons ?_ | with_reducible refine st_op ?_ | with_reducible refine st_un ?_
  | with_reducible refine st_cb ?_ | with_reducible refine st_test ?_ | with_reducible refine st_call ?_ | with_reducible refine st_callK ?_ | with_reducible refine st_sl ?_ | with_reducible refine st_par ?_ | with_reducible refine st_par3 ?_ | with_reducible refine st_tru ?_
  | with_reducible refine st_and ?_ | with_reducible refine st_or ?_ | with_reducible refine st_not ?_ | with_reducible refine st_B ?_ | with_reducible refine st_andV ?_ | with_reducible refine st_orV ?_ | with_reducible refine st_notV ?_ | with_reducible refine st_ifE ?_
  | with_reducible refine st_part ?_ | with_reducible refine st_nop ?_ | with_reducible refine st_sub ?_ | with_reducible refine st_chain ?_ | with_reducible refine st_chain3 ?_ | with_reducible refine st_lenSet ?_ | with_reducible refine st_bl ?_ | with_reducible refine st_in ?_ | with_reducible refine r_truB ?_
  | with_reducible refine st_nameG ?_ | with_reducible refine if_T ?_ | with_reducible refine if_F ?_ | with_reducible refine if_nT ?_ | with_reducible refine if_nF ?_
  | with_reducible refine r_add ?_ | with_reducible refine r_0 ?_ | with_reducible refine r_neg ?_ | with_reducible refine r_intI ?_ | with_reducible refine r_intB ?_ | with_reducible refine r_abs ?_ | with_reducible refine r_max2 ?_ | with_reducible refine r_min2 ?_ | with_reducible refine r_eqI ?_ | with_reducible refine r_neI ?_
  | with_reducible refine st_nxt ?_ | with_reducible refine st_cnt ?_ | with_reducible refine st_brk ?_ | with_reducible refine st_retn ?_
  | with_reducible refine st_lstN ?_ | with_reducible refine st_tupN ?_
  | with_reducible refine st_for ?_ | with_reducible refine st_lc ?_ | with_reducible refine st_lc2 ?_ | with_reducible refine st_rng1 ?_ | with_reducible refine st_rng2 ?_ | with_reducible refine st_rng3 ?_ | with_reducible refine st_itL ?_ | with_reducible refine st_itT ?_ | with_reducible refine st_rev ?_ | with_reducible refine st_enumE ?_ | with_reducible refine st_zip3 ?_ | with_reducible refine st_lvals ?_ | with_reducible refine st_fld ?_ | with_reducible refine st_sfld ?_ | with_reducible refine st_meth ?_ | with_reducible refine st_make ?_ | with_reducible refine st_rg1 ?_ | with_reducible refine st_enumS ?_ | with_reducible refine st_enumD ?_ | with_reducible refine st_lstIt ?_ | with_reducible refine st_dg1 ?_ | with_reducible refine st_dg2 ?_ | with_reducible refine st_dpop ?_ | with_reducible refine st_dset ?_ | with_reducible refine st_ckw ?_ | with_reducible refine st_dsetT ?_ | with_reducible refine st_dnewT ?_ | with_reducible refine st_dc ?_ | with_reducible refine st_keys ?_ | with_reducible refine st_dget ?_ | with_reducible refine st_din ?_ | with_reducible refine st_dnin ?_ | with_reducible refine st_dput ?_ | with_reducible refine st_dnew ?_ | with_reducible refine st_lstRg ?_ | with_reducible refine st_rg2 ?_ | with_reducible refine r_twoI ?_ | with_reducible refine st_bm ?_ | with_reducible refine st_bm0 ?_
  | ((with_reducible refine' st_aug ?h ?_); (case h => exact rfl)) | with_reducible refine r_augI ?_ | with_reducible refine r_eqB ?_
  | dsimp only))
section
variable {P : Program} {w : World} {K : PySem.W.Frag} {mg : Str → Option Value} {base : Heap} {A : Ad}
def wy3 (w : Nat × Int × Nat) : List Int := [(w.1 : Int), w.2.1, (w.2.2 : Int)]
theorem ways_add {L n a b : Nat} {s : Int} {W : Wb.Ways} (h : Wb.WaysOk L n W) (ha : a < n) (hb : b < n) (hs : s ∈ Od.steps L) : Wb.WaysOk L n (W ++ [(a, s, b)] ++ [(b, -s, a)]) := by
  refine Qt.drp ?_ ?_
  · have hs2 : -s ∈ Od.steps L := Od.mem_steps.mpr (by have := Od.mem_steps.mp hs; omega)
    have cs : ∀ x t y, (x, t, y) ∈ W ++ [(a, s, b)] ++ [(b, -s, a)] → (x, t, y) ∈ W ∨ (x = a ∧ t = s ∧ y = b) ∨ (x = b ∧ t = -s ∧ y = a) := fun x t y h => by
      rcases List.mem_append.mp h with h | h
      · rcases List.mem_append.mp h with h | h
        · exact .inl h
        · cases List.mem_singleton.mp h
          exact .inr (.inl ⟨rfl, rfl, rfl⟩)
      · cases List.mem_singleton.mp h
        exact .inr (.inr ⟨rfl, rfl, rfl⟩)
    have i1 : (a, s, b) ∈ W ++ [(a, s, b)] ++ [(b, -s, a)] := List.mem_append_left _ (List.mem_append_right _ (List.mem_singleton.mpr rfl))
    have i2 : (b, -s, a) ∈ W ++ [(a, s, b)] ++ [(b, -s, a)] := List.mem_append_right _ (List.mem_singleton.mpr rfl)
    refine ⟨fun x t y m => ?_, fun x t y m => ?_⟩
    · rcases cs _ _ _ m with m | ⟨rfl, rfl, rfl⟩ | ⟨rfl, rfl, rfl⟩
      · exact h.dom _ _ _ m
      · exact ⟨ha, hb, hs⟩
      · exact ⟨hb, ha, hs2⟩
    · rcases cs _ _ _ m with m | ⟨rfl, rfl, rfl⟩ | ⟨rfl, rfl, rfl⟩
      · exact List.mem_append_left _ (List.mem_append_left _ (h.rev _ _ _ m))
      · exact i2
      · rw [Int.neg_neg]
        exact i1
  walk_at "end"
theorem ways_more {L n m : Nat} {W : Wb.Ways} (h : Wb.WaysOk L n W) (e : n ≤ m) : Wb.WaysOk L m W := ⟨fun a s b k => by obtain ⟨h1, h2, h3⟩ := h.dom _ _ _ k; exact ⟨by omega, by omega, h3⟩, h.rev⟩
def rms (c z : Nat) : List Nat := 0 :: ((List.range (z - 1)).map (c + ·) ++ [0])
theorem rms_len (c z : Nat) (h : 0 < z) : (rms c z).length = z + 1 := by
  unfold rms
  rw [List.length_cons, List.length_append, List.length_map, List.length_range]
  simp
  omega
theorem rms_lt {c z : Nat} (h : 0 < z) (hc : 0 < c) : ∀ x ∈ rms c z, x < c + z - 1 := fun x hx => by
  unfold rms at hx
  rcases List.mem_cons.mp hx with e | hx
  · omega
  · rcases List.mem_append.mp hx with hx | hx
    · obtain ⟨k, hk, e⟩ := List.mem_map.mp hx
      have := List.mem_range.mp hk
      omega
    · have := List.mem_singleton.mp hx
      omega
def tot (us : List (List Int)) : Nat := (us.map List.length).sum
theorem tot_take {us : List (List Int)} {i : Nat} {u : List Int} (h : us[i]? = some u) : tot (us.take (i + 1)) = tot (us.take i) + u.length := by
  unfold tot
  rw [take_snoc h, List.map_append, List.sum_append]
  simp
theorem tot_le {us : List (List Int)} (i : Nat) : tot (us.take i) ≤ tot us := by
  unfold tot
  conv => rhs; rw [← List.take_append_drop i us, List.map_append, List.sum_append]
  omega
theorem nI_merge {h : List Nat} {lo hi : Nat} : nI (Wb.merge h lo hi) = (nI h).map fun x => if x = (hi : Int) then (lo : Int) else x := by
  unfold nI Wb.merge
  rw [List.map_map, List.map_map]
  refine List.map_congr_left fun x _ => ?_
  show (((if x = hi then lo else x : Nat)) : Int) = if (x : Int) = (hi : Int) then (lo : Int) else (x : Int)
  by_cases c : x = hi
  · rw [if_pos c, if_pos (by omega)]
  · rw [if_neg c, if_neg (by omega)]
theorem at0_nI {h : List Nat} {n a : Nat} (k : Wb.HeadsOk n h) (ha : a < n) : (nI h)[a]? = some ((Wb.at0 h a : Nat) : Int) := by
  refine nI_at ?_
  unfold Wb.at0
  rw [List.getD_eq_getElem?_getD, List.getElem?_eq_getElem (by rw [k.len]; exact ha)]
  rfl
def sp__law_rings (K : PySem.W.Frag) : Sp := fun vs H Q _ => ∃ (L : Nat) (p : Addr) (xs : List V) (us : List (List Int)), vs = [.ref p] ∧ SqL K H p xs ∧ WkA K H xs us ∧ (∀ u ∈ us, 0 < u.length ∧ ∀ s ∈ u, s ∈ Od.steps L) ∧ tot us ≤ 60 ∧ L ≤ 4 ∧ ∀ a n d H1, Ex H H1 → TabH H1 a n d → Wb.Gr L n d → 0 < n → n + us.length ≤ tot us + 1 → Q (.ref a) H1
theorem ok__law_rings (T : Tx K mg A) : FnOk P w K mg base CX0 1 A.a__law_rings A.f__law_rings P__law_rings (sp__law_rings K) := by
  refine Qt.drp ?_ ?_
  · refine T.F__law_rings.ok sc__law_rings (fun vs H Q E h => ?_) (fun cdv A' outer s H vs Q E hr h => ?_)
    · obtain ⟨L, p, xs, us, rfl, _⟩ := h
      rfl
    · obtain ⟨L, p, xs, us, rfl, hp, wa, hus, htot, l4, q⟩ := h
      refine ⟨_, (pss_cons (ps_asg (pe_tup (pa_cons (pe_lst pa_nil) (pa_cons pe_int pa_nil))) (pg_tupK K (by rfl) (pgs_cons (pg_name (i := 1) sc__law_rings.nd rfl (Or.inl rfl)) (pgs_cons (pg_name (i := 2) sc__law_rings.nd rfl (Or.inr rfl)) pgs_nil))))
        (pss_cons (ps_for PassesOwn.never rfl (pi_listK K (pv 0)) (pg_name (i := 3) sc__law_rings.nd rfl (Or.inl rfl)) (pss_cons (ps_set (i := 4) sc__law_rings.nd rfl (Or.inl rfl) (pe_op (op_addK K) (pe_op (op_addK K) (pe_lst (pa_cons pe_int pa_nil)) (pe_lc (own := [("_law_k", 5)]) rfl sc__law_rings.nd (pi_range1 (by rfl) T.n_range (pa_cons (pe_op op_sub (pe_callB (len_K K) (by rfl) T.n_len (by decide +kernel) (pa_cons (pv 3) pa_nil)) pe_int) pa_nil)) (blkOk_by (own := [("_law_k", 5)]) (N := N__law_rings) (sc := defScope s__law_rings) (by decide +kernel)) (fun _ _ _ _ _ => (pg_name (i := 5) sc__law_rings.nd rfl (Or.inl rfl))) (fun _ _ _ _ _ => pts_nil) (fun _ _ _ _ _ => (pe_op (op_addK K) (pv 2) (pv 5))))) (pe_lst (pa_cons pe_int pa_nil))))
        (pss_cons (ps_set (i := 2) sc__law_rings.nd rfl (Or.inr rfl) (pe_op op_sub (pe_op (op_addK K) (pv 2) (pe_callB (len_K K) (by rfl) T.n_len (by decide +kernel) (pa_cons (pv 3) pa_nil))) pe_int))
        (pss_one (ps_for PassesOwn.never rfl (pi_range1 (by rfl) T.n_range (pa_cons (pe_callB (len_K K) (by rfl) T.n_len (by decide +kernel) (pa_cons (pv 3) pa_nil)) pa_nil)) (pg_name (i := 5) sc__law_rings.nd rfl (Or.inl rfl)) (pss_cons (ps_expr (pe_bmU K PySem.F.plainAttrs_list PySem.F.slot_list_append PySem.F.type_list_append mt_append (pv 1) (pa_cons (pe_tup (pa_cons (pe_ix (ix_K K) (pv 4) (pv 5) (fun _ _ => rfl)) (pa_cons (pe_ix (ix_K K) (pv 3) (pv 5) (fun _ _ => rfl)) (pa_cons (pe_ix (ix_K K) (pv 4) (pe_op (op_addK K) (pv 5) pe_int) (fun _ _ => rfl)) pa_nil)))) pa_nil)))
        (pss_one (ps_expr (pe_bmU K PySem.F.plainAttrs_list PySem.F.slot_list_append PySem.F.type_list_append mt_append (pv 1) (pa_cons (pe_tup (pa_cons (pe_ix (ix_K K) (pv 4) (pe_op (op_addK K) (pv 5) pe_int) (fun _ _ => rfl)) (pa_cons (pe_un un_neg (pe_ix (ix_K K) (pv 3) (pv 5) (fun _ _ => rfl))) (pa_cons (pe_ix (ix_K K) (pv 4) (pv 5) (fun _ _ => rfl)) pa_nil)))) pa_nil))))))))))
        (pss_cons (ps_par (i := 6) (j := 7) (by rfl) sc__law_rings.nd rfl rfl (by decide) rfl rfl (pa_cons (pe_listRg rfl (by rfl) T.n_list (prg_1 (by rfl) T.n_range (pv 2))) (pa_cons (pe_lst pa_nil) pa_nil)) (by rfl))
        (pss_cons (ps_for PassesOwn.never rfl (pi_range1 (by rfl) T.n_range (pa_cons (pv 2) pa_nil)) (pg_name (i := 8) sc__law_rings.nd rfl (Or.inl rfl)) (pss_cons (ps_setLc (i := 7) (own := [("_law_room", 9)]) rfl sc__law_rings.nd rfl rfl (sw_true rfl rfl rfl (by decide +kernel)) (pi_range1 (by rfl) T.n_range (pa_cons (pv 2) pa_nil)) (blkOk_by (own := [("_law_room", 9)]) (N := N__law_rings) (sc := defScope s__law_rings) (by decide +kernel)) (fun _ _ _ _ _ => (pg_name (i := 9) sc__law_rings.nd rfl (Or.inl rfl))) (fun _ _ _ _ _ => pts_nil) (fun _ _ _ _ _ => pe_dnewK))
        (pss_one (ps_for PassesOwn.never rfl (pi_listK K (pv 1)) (pg_tupK K (by rfl) (pgs_cons (pg_name (i := 9) sc__law_rings.nd rfl (Or.inl rfl)) (pgs_cons (pg_name (i := 10) sc__law_rings.nd rfl (Or.inl rfl)) (pgs_cons (pg_name (i := 11) sc__law_rings.nd rfl (Or.inl rfl)) pgs_nil)))) (pss_cons (ps_par (i := 12) (j := 13) (by rfl) sc__law_rings.nd rfl rfl (by decide) rfl rfl (pa_cons (pe_ix (ix_K K) (pv 6) (pv 9) (fun _ _ => rfl)) (pa_cons (pe_ix (ix_K K) (pv 6) (pv 11) (fun _ _ => rfl)) pa_nil)) (by rfl))
        (pss_cons (ps_set (i := 14) sc__law_rings.nd rfl (Or.inl rfl) (pe_dsetd (pe_ix (ix_K K) (pv 7) (pv 12) (fun _ _ => rfl)) (pv 10) (pv 13) ⟨rfl, rfl, rfl, rfl⟩))
        (pss_one (ps_if (pt_cmpR (op_neK K hr.units) (pv 14) (pv 13) (nomark _)) (pss_cons (ps_asg (pe_tup (pa_cons (pe_callB (min2_K rfl) (by rfl) T.n_min (by decide +kernel) (pa_cons (pv 14) (pa_cons (pv 13) pa_nil))) (pa_cons (pe_callB (max2_K rfl) (by rfl) T.n_max (by decide +kernel) (pa_cons (pv 14) (pa_cons (pv 13) pa_nil))) pa_nil))) (pg_tupK K (by rfl) (pgs_cons (pg_name (i := 15) sc__law_rings.nd rfl (Or.inr rfl)) (pgs_cons (pg_name (i := 16) sc__law_rings.nd rfl (Or.inr rfl)) pgs_nil))))
        (pss_one (ps_setLc (i := 6) (own := [("_law_head", 17)]) rfl sc__law_rings.nd rfl rfl (sw_true rfl rfl rfl (by decide +kernel)) (pi_listK K (pv 6)) (blkOk_by (own := [("_law_head", 17)]) (N := N__law_rings) (sc := defScope s__law_rings) (by decide +kernel)) (fun _ _ _ _ _ => (pg_name (i := 17) sc__law_rings.nd rfl (Or.inl rfl))) (fun _ _ _ _ _ => pts_nil) (fun _ _ _ _ _ => (pe_ifExp (pt_cmpR (op_eqK K hr.units) (pv 17) (pv 16) (nomark _)) (pv 15) (pv 17)))))) pss_nil))))))))
        (pss_one (ps_ret (pv 7))))))), ?_⟩
      walk_at "go"
      refine r_newL (by simp) fun wl H1 hwl e1 k1 => ?_
      walk_at "go"
      refine r_newT (by simp) fun tp H2 htp e2 k2 => ?_
      walk_at "go"
      refine r_tup2 (t_of k2) ?_
      walk_at "go"
      have hwl0 : H wl = none := hwl
      refine r_itL (ex_l (e1.trans e2) hp) (r_forL (xs := xs) (fun i σ' H' => ∃ (W : Wb.Ways) (ys : List V) (c : Nat) (v3 v4 v5 : Option V), Ex H H' ∧ H' wl = some (.lst ys) ∧ WkA K H' ys (W.map wy3) ∧ Wb.WaysOk L c W ∧ 0 < c ∧ c + (us.take i).length ≤ 1 + tot (us.take i) ∧ W.length ≤ 2 * tot (us.take i) ∧
        σ' = [some (.ref p), some (.ref wl), some (.int (c : Int)), v3, v4, v5, none, none, none, none, none, none, none, none, none, none, none, none]) ⟨[], [], 1, none, none, none, e1.trans e2, e2 _ _ k1, WkA.nil, ⟨fun a s b h => (List.not_mem_nil h).elim, fun a s b h => (List.not_mem_nil h).elim⟩, Nat.one_pos, by rw [List.take_zero, List.length_nil]; omega, Nat.zero_le _, rfl⟩ (fun i σ' H' _ z => ?_) (fun i x σ' H' hx z => ?_) (fun σ' H' z => ?_))
      · obtain ⟨_, _, _, _, _, _, e, _⟩ := z
        exact ex_l e hp
      · obtain ⟨W, ys, c, v3, v4, v5, e, hw, ww, wo, c0, hc, zw, rfl⟩ := z
        obtain ⟨u, hu, pu, rfl, hpu⟩ := wa.get hx
        obtain ⟨zu, su⟩ := hus u (List.mem_of_getElem? hu)
        have ht := tot_take hu
        have htl : (us.take (i + 1)).length = (us.take i).length + 1 := by rw [take_snoc hu, List.length_append]; rfl
        have ht2 := tot_le (us := us) (i + 1)
        have hpu := ex_t e hpu
        walk_at "go"
        refine r_newL (by simp) fun a1 H3 ha1 e3 k3 => ?_
        walk_at "go"
        refine r_lenT (ex_t e3 hpu) ?_
        rw [List.length_map]
        walk_at "go"
        refine r_rng1 (by omega) (by omega) ?_
        rw [show ((u.length : Int) - 1).toNat = u.length - 1 by omega]
        refine r_cmR (ys := (nI ((List.range (u.length - 1)).map (c + ·))).map V.int) (by rw [List.length_map, nI_len, List.length_map, List.length_range]) (by rw [List.length_map, nI_len, List.length_map, List.length_range]; omega) (fun _ => rfl) (fun l y H4 hl hy e4 Q' kk => ?_) fun a2 H4 ha2 e4 k4 => ?_
        · unfold nI at hy
          rw [List.getElem?_map, List.getElem?_map, List.getElem?_map, List.getElem?_range hl] at hy
          cases hy
          walk_at "go"
          have this : Q' (V.int (((c + l : Nat)) : Int)) H4 := kk H4 (Ex.refl H4)
          rw [show (((c + l : Nat)) : Int) = (c : Int) + (0 + (l : Int)) by omega] at this
          exact this
        walk_at "go"
        refine r_catL (e4 _ _ k3) k4 (by simp; rw [nI_len]; simp; omega) fun a3 H5 ha3 e5 k5 => ?_
        walk_at "go"
        refine r_newL (by simp) fun a4 H6 ha4 e6 k6 => ?_
        walk_at "go"
        refine r_catL (e6 _ _ k5) k6 (by simp; rw [nI_len]; simp; omega) fun rl H7 hrl e7 k7 => ?_
        have e37 := ((e3.trans e4).trans e5).trans (e6.trans e7)
        have k7 : H7 rl = some (.lst ((nI (rms c u.length)).map V.int)) := by
          rw [k7]
          unfold rms nI
          simp
        have nrl : rl ≠ wl := fun z => by
          rw [z, (e3.trans e4 |>.trans e5 |>.trans e6) _ _ hw] at hrl
          cases hrl
        have e := e.trans e37
        have hw := e37 _ _ hw
        have ww := ww.ex e37
        have hpu := ex_t e37 hpu
        clear e3 e4 e5 e6 e7 e37 k3 k4 k5 k6 ha1 ha2 ha3 ha4 hrl
        walk_at "go"
        refine r_lenT hpu ?_
        rw [List.length_map]
        walk_at "go"
        refine r_lenT hpu ?_
        rw [List.length_map]
        walk_at "go"
        refine r_rng1 (by omega) (by omega) ?_
        rw [show ((u.length : Nat) : Int).toNat = u.length from rfl]
        have hcc : (c : Int) + (u.length : Int) - 1 = ((c + u.length - 1 : Nat) : Int) := by omega
        rw [hcc]
        have rlen := rms_len c u.length zu
        have rlt := rms_lt (c := c) zu c0
        refine r_forR (lo := 0) (m := u.length) (fun k σ' H' => ∃ (W2 : Wb.Ways) (ys : List V) (v5 : Option V), Ex H H' ∧ H' wl = some (.lst ys) ∧ WkA K H' ys (W2.map wy3) ∧ Wb.WaysOk L (c + u.length - 1) W2 ∧ W2.length ≤ W.length + 2 * k ∧ H' rl = some (.lst ((nI (rms c u.length)).map V.int)) ∧ IT K H' pu u ∧
          σ' = [some (.ref p), some (.ref wl), some (.int ((c + u.length - 1 : Nat) : Int)), some (.ref pu), some (.ref rl), v5, none, none, none, none, none, none, none, none, none, none, none, none]) ⟨W, ys, _, e, hw, ww, ways_more wo (by omega), by omega, k7, hpu, rfl⟩ (fun k σ' H' hk z => ?_) (fun σ' H' z => ?_)
        · obtain ⟨W2, ys, v5, e, hw, ww, wo, zw2, kr, hpu, rfl⟩ := z
          have zy : ys.length = W2.length := by rw [ww.len, List.length_map]
          obtain ⟨ra, hra⟩ : ∃ ra, (rms c u.length)[k]? = some ra := ⟨_, List.getElem?_eq_getElem (by omega)⟩
          obtain ⟨rb, hrb⟩ : ∃ rb, (rms c u.length)[k + 1]? = some rb := ⟨_, List.getElem?_eq_getElem (by omega)⟩
          obtain ⟨st, hst⟩ : ∃ st, u[k]? = some st := ⟨_, List.getElem?_eq_getElem hk⟩
          have la := rlt _ (List.mem_of_getElem? hra)
          have lb := rlt _ (List.mem_of_getElem? hrb)
          have ls := su _ (List.mem_of_getElem? hst)
          have ia : atI ((nI (rms c u.length)).map V.int) (0 + (k : Int)) = some (.int (ra : Int)) := at_int (by omega) (by rw [show ((0 : Int) + (k : Int)).toNat = k by omega]; exact nI_at hra)
          have ib : atI ((nI (rms c u.length)).map V.int) (0 + (k : Int) + 1) = some (.int (rb : Int)) := at_int (by omega) (by rw [show ((0 : Int) + (k : Int) + 1).toNat = k + 1 by omega]; exact nI_at hrb)
          have is : atI (u.map V.int) (0 + (k : Int)) = some (.int st) := at_int (by omega) (by rw [show ((0 : Int) + (k : Int)).toNat = k by omega]; exact hst)
          walk_at "go"
          refine r_app (l_of hw) ?_
          walk_at "go"
          refine r_ixL (l_of kr) ia ?_
          walk_at "go"
          refine r_ixT hpu is ?_
          walk_at "go"
          refine r_ixL (l_of kr) ib ?_
          walk_at "go"
          refine r_newT (by simp) fun t1 H3 ht1 e3 k3 => ?_
          have hw3 := e3 _ _ hw
          walk_at "go"
          refine r_appd hw3 (by omega) fun H4 e4 k4 => ?_
          have tx4 : TX H3 H4 := TX.w2 hw3 e4
          have kr4 := e4 _ _ (e3 _ _ kr) nrl
          have hpu4 := tx_t tx4 (ex_t e3 hpu)
          have ex4 : Ex H H4 := fun q o h => e4 q o (e3 q o (e q o h)) (ne_of_none h hwl0)
          have ww4 : WkA K H4 (ys ++ [.ref t1]) ((W2 ++ [(ra, st, rb)]).map wy3) := by
            rw [List.map_append]
            exact ((ww.ex e3).tx tx4).snoc ⟨t1, rfl, tx_t tx4 (t_of k3)⟩
          clear e3 e4 k3 hw3 hw kr hpu ww tx4 ht1 e
          walk_at "go"
          refine r_app (l_of k4) ?_
          walk_at "go"
          refine r_ixL (l_of kr4) ib ?_
          walk_at "go"
          refine r_ixT hpu4 is ?_
          walk_at "go"
          refine r_ixL (l_of kr4) ia ?_
          walk_at "go"
          refine r_newT (by simp) fun t2 H5 ht2 e5 k5 => ?_
          have hw5 := e5 _ _ k4
          walk_at "go"
          refine r_appd hw5 (by rw [List.length_append]; simp; omega) fun H6 e6 k6 => ?_
          have tx6 : TX H5 H6 := TX.w2 hw5 e6
          walk_at "go"
          refine ⟨W2 ++ [(ra, st, rb)] ++ [(rb, -st, ra)], _, _, fun q o h => e6 q o (e5 q o (ex4 q o h)) (ne_of_none h hwl0), k6, ?_, ways_add wo la lb ls, by simp; omega, e6 _ _ (e5 _ _ kr4) nrl, tx_t tx6 (ex_t e5 hpu4), rfl⟩
          rw [List.map_append]
          exact ((ww4.ex e5).tx tx6).snoc ⟨t2, rfl, tx_t tx6 (t_of k5)⟩
        · obtain ⟨W2, ys, v5, e, hw, ww, wo, zw2, kr, hpu, rfl⟩ := z
          walk_at "go"
          exact ⟨W2, ys, _, _, _, _, e, hw, ww, wo, by omega, by omega, by omega, rfl⟩
      obtain ⟨W, ys, n, v3, v4, v5, e, hw, ww, wo, n0, hn, zw, rfl⟩ := z
      have hcE : n + us.length ≤ 1 + tot us := by rw [wa.len, List.take_length] at hn; exact hn
      have htl := tot_le (us := us) xs.length
      have zy : ys.length = W.length := by rw [ww.len, List.length_map]
      clear e1 e2 k1 k2 htp
      walk_at "go"
      refine r_lstRg (by decide) (by omega) (by decide) (by omega) fun h0 H2 hh0 e2 k2 => ?_
      have er : rgI 0 (n : Int) = nI (List.range n) := by
        unfold rgI nI
        rw [show ((n : Int) - 0).toNat = n by omega]
        exact List.map_congr_left fun g _ => by omega
      rw [er] at k2
      walk_at "go"
      refine r_newL (by simp) fun d0 H3 hd0 e3 k3 => ?_
      walk_at "go"
      have e03 := (e.trans e2).trans e3
      have hw3 := (e2.trans e3) _ _ hw
      have ww3 := ww.ex (e2.trans e3)
      have hk0 : Wb.HeadsOk n (List.range n) := ⟨List.length_range, fun x hx => List.mem_range.mp hx⟩
      refine ⟨_, _, rfl, ?_⟩
      walk_at "go"
      refine r_rng1 (by omega) (by omega) ?_
      rw [show ((n : Nat) : Int).toNat = n from rfl]
      refine r_forR (lo := 0) (m := n) (fun t σ' H' => ∃ (h : List Nat) (d : Wb.Gm) (hd pd : Addr) (v8 v9 v10 v11 v12 v13 v14 v15 v16 : Option V), Ex H H' ∧ H' wl = some (.lst ys) ∧ WkA K H' ys (W.map wy3) ∧ H' hd = some (.lst ((nI h).map V.int)) ∧ Wb.HeadsOk n h ∧ Wb.RO n W t h d ∧ (0 < t → DL H H' pd n fun x s => vN (d x s)) ∧
        σ' = [some (.ref p), some (.ref wl), some (.int (n : Int)), v3, v4, v5, some (.ref hd), some (.ref pd), v8, v9, v10, v11, v12, v13, v14, v15, v16, none]) ⟨List.range n, fun _ _ => none, h0, d0, none, none, none, none, none, none, none, none, none, e03, hw3, ww3, e3 _ _ k2, hk0, Wb.ro_first, fun z => absurd z (Nat.lt_irrefl 0), rfl⟩ (fun t σ' H' ht z => ?_) (fun σ' H' z => ?_)
      · obtain ⟨h, d, hd, pd, v8, v9, v10, v11, v12, v13, v14, v15, v16, e, hw, ww, kh, ho, ro, _, rfl⟩ := z
        walk_at "go"
        refine r_rng1 (by omega) (by omega) ?_
        rw [show ((n : Nat) : Int).toNat = n from rfl]
        refine dl_R (by omega) (fun _ => rfl) fun pd2 H4 hpd2 e4 dl => ?_
        have dl4 : DL H H4 pd2 n fun x s => vN ((fun _ _ => none : Wb.Gm) x s) := dl_back dl e
        clear dl
        walk_at "go"
        refine r_itL (l_of (e4 _ _ hw)) (r_forL (xs := ys) (fun i σ' H' => ∃ (h2 : List Nat) (d : Wb.Gm) (hd : Addr) (v9 v10 v11 v12 v13 v14 v15 v16 : Option V), Ex H H' ∧ H' wl = some (.lst ys) ∧ WkA K H' ys (W.map wy3) ∧ H' hd = some (.lst ((nI h2).map V.int)) ∧ Wb.HeadsOk n h2 ∧ Wb.RI n W (W.take i) h h2 d ∧ Wb.Dom L n d ∧ (DL H H' pd2 n fun x s => vN (d x s)) ∧
          σ' = [some (.ref p), some (.ref wl), some (.int (n : Int)), v3, v4, v5, some (.ref hd), some (.ref pd2), some (.int (0 + (t : Int))), v9, v10, v11, v12, v13, v14, v15, v16, none]) ⟨h, fun _ _ => none, hd, _, _, _, _, _, _, _, _, e.trans e4, e4 _ _ hw, ww.ex e4, e4 _ _ kh, ho, by rw [List.take_zero]; exact Wb.ri_start, (fun _ _ _ z => by cases z), dl4, rfl⟩ (fun i σ' H' _ z => ?_) (fun i x σ' H' hx z => ?_) fun σ' H' z => ?_)
        · obtain ⟨_, _, _, _, _, _, _, _, _, _, _, _, hw, _⟩ := z
          exact l_of hw
        · obtain ⟨h2, d, hd, v9, v10, v11, v12, v13, v14, v15, v16, e, hw, ww, kh, ho2, ri, dom, dl, rfl⟩ := z
          obtain ⟨wv, hwv, tw, rfl, htw⟩ := ww.get hx
          rw [List.getElem?_map] at hwv
          cases hW : W[i]? with
          | none => rw [hW] at hwv; cases hwv
          | some abs =>
            obtain ⟨a, st, b⟩ := abs
            rw [hW] at hwv
            cases hwv
            have hin := List.mem_of_getElem? hW
            obtain ⟨la, lb, ls⟩ := wo.dom _ _ _ hin
            have hl := ho2.lt _ (ho2.in la)
            have hl2 := ho2.lt _ (ho2.in lb)
            have tks := take_snoc hW
            have hall : ∀ w ∈ W.take i, w ∈ W := fun w hw => List.mem_of_mem_take hw
            refine r_tup3 (x := .int (a : Int)) (y := .int st) (z := .int (b : Int)) htw ?_
            walk_at "go"
            refine r_ixL (l_of kh) (at_int (by omega) (by rw [Int.toNat_natCast]; exact at0_nI ho2 la)) ?_
            walk_at "go"
            refine r_ixL (l_of kh) (at_int (by omega) (by rw [Int.toNat_natCast]; exact at0_nI ho2 lb)) ?_
            walk_at "go"
            refine ⟨_, _, rfl, ?_⟩
            walk_at "go"
            obtain ⟨zs, bd, kvs, b1, b2, b3, b4, b5, b6, b7, b8⟩ := dl_set dl hl fun s hs => by
              cases ee : d (Wb.at0 h2 a) s with
              | none => rw [ee] at hs; cases hs
              | some v => exact Od.mem_steps.mpr (by have := Od.mem_steps.mp (dom _ _ _ ee).2.2; omega)
            refine r_ixL (l_of b1) (atI_at (by omega) (by rw [Int.toNat_natCast]; exact b2)) ?_
            walk_at "go"
            refine r_dset (.inl b3) ?_
            walk_at "go"
            refine r_dsetb b3 b4 b5 (fun v hv => ?_) fun hv H5 kv2 e5 k5 d5 => ?_
            · cases ee : d (Wb.at0 h2 a) st with
              | none => rw [ee] at hv; cases hv
              | some known =>
                rw [ee] at hv
                cases hv
                walk_at "go"
                by_cases hkt : known = Wb.at0 h2 b
                · rw [hkt]
                  rw [decide_eq_true (rfl : ((Wb.at0 h2 b : Nat) : Int) = _)]
                  walk_at "go"
                  refine ⟨h2, d, hd, _, _, _, _, _, _, _, _, e, hw, ww, kh, ho2, ?_, dom, dl, rfl⟩
                  rw [tks]
                  exact Wb.ri_same ri (hkt ▸ ee)
                · rw [decide_eq_false (show ¬ ((known : Nat) : Int) = ((Wb.at0 h2 b : Nat) : Int) by omega)]
                  walk_at "go"
                  refine r_newT (by simp) fun t5 H5 ht5 e5 k5 => ?_
                  walk_at "go"
                  refine r_tup2 (t_of k5) ?_
                  walk_at "go"
                  have hmin : min (known : Int) ((Wb.at0 h2 b : Nat) : Int) = ((min known (Wb.at0 h2 b) : Nat) : Int) := by omega
                  have hmax : max (known : Int) ((Wb.at0 h2 b : Nat) : Int) = ((max known (Wb.at0 h2 b) : Nat) : Int) := by omega
                  rw [hmin, hmax]
                  have kh5 := e5 _ _ kh
                  refine r_itL (l_of kh5) (r_cmL (ys := (nI (Wb.merge h2 (min known (Wb.at0 h2 b)) (max known (Wb.at0 h2 b)))).map V.int) (l_of kh5) (by rw [nI_merge]; simp) (by rw [nI_merge, List.length_map, List.length_map, nI_len, ho2.len]; omega) (fun _ => rfl) (fun k y y2 H6 hy hy2 e6 Q' kk => ?_) fun hd2 H6 hhd2 e6 k6 => ?_)
                  · rw [nI_merge, List.getElem?_map, List.getElem?_map] at hy2
                    rw [List.getElem?_map] at hy
                    cases hz : (nI h2)[k]? with
                    | none => rw [hz] at hy; cases hy
                    | some y0 =>
                      rw [hz] at hy hy2
                      cases hy
                      cases hy2
                      try dsimp only at kk
                      walk_at "go"
                      by_cases hc : y0 = ((max known (Wb.at0 h2 b) : Nat) : Int)
                      · rw [if_pos hc] at kk
                        rw [decide_eq_true hc]
                        walk_at "go"
                        exact kk H6 (Ex.refl H6)
                      · rw [if_neg hc] at kk
                        rw [decide_eq_false hc]
                        walk_at "go"
                        exact kk H6 (Ex.refl H6)
                  walk_at "go"
                  have e56 := e5.trans e6
                  refine ⟨_, d, hd2, _, _, _, _, _, _, _, _, e.trans e56, e56 _ _ hw, ww.ex e56, k6, Wb.merge_ok ho2 ?_, ?_, dom, dl.mono e56, rfl⟩
                  · have := (dom _ _ _ ee).2.1
                    omega
                  · exact Wb.ri_merge (rest := []) ri ho2 hall hin (fun a s b m => ⟨(wo.dom _ _ _ m).1, (wo.dom _ _ _ m).2.1⟩) ee hkt rfl rfl _
            · have ee : d (Wb.at0 h2 a) st = none := by
                cases ee : d (Wb.at0 h2 a) st with
                | none => rfl
                | some v => rw [ee] at hv; cases hv
              have T5 := b8 H5 kv2 st (Wb.at0 h2 b) e5 k5 d5
              have ex5 := DL.ex0 e e5 b7
              have nbw : wl ≠ bd := fun z => by rw [← z, hw] at b3; cases b3
              have nbh : hd ≠ bd := fun z => by rw [← z, kh] at b3; cases b3
              walk_at "go"
              rw [decide_eq_true (rfl : ((Wb.at0 h2 b : Nat) : Int) = _)]
              walk_at "go"
              refine ⟨h2, Wb.set1 d (Wb.at0 h2 a) st (Wb.at0 h2 b), hd, _, _, _, _, _, _, _, _, ex5, e5 _ _ hw nbw, ww.tx (tx_dk b3 e5), e5 _ _ kh nbh, ho2, ?_, fun x s v hv => ?_, T5, rfl⟩
              · rw [tks]
                exact Wb.ri_new ri ee
              · unfold Wb.set1 at hv
                by_cases c : x = Wb.at0 h2 a ∧ s = st
                · rw [if_pos c] at hv
                  cases hv
                  exact ⟨by omega, hl2, c.2 ▸ ls⟩
                · rw [if_neg c] at hv
                  exact dom _ _ _ hv
        · obtain ⟨h2, d, hd, v9, v10, v11, v12, v13, v14, v15, v16, e, hw, ww, kh, ho2, ri, dom, dl, rfl⟩ := z
          rw [zy, List.take_length] at ri
          walk_at "go"
          exact ⟨h2, d, hd, pd2, _, _, _, _, _, _, _, _, _, e, hw, ww, kh, ho2, Wb.ro_turn ro ri, fun _ => dl, rfl⟩
      · obtain ⟨h, d, hd, pd, v8, v9, v10, v11, v12, v13, v14, v15, v16, e, hw, ww, kh, ho, ro, dl, rfl⟩ := z
        walk_at "go"
        exact q pd n d H' e (TabH.of (dl n0) fun i _ s => rfl) (Wb.ro_end ro ho wo n0) n0 (by have := hcE; omega)
  walk_at "end"
end
end Lw
namespace Lw
open PySem PySem.Spec PyProof.Rows L2 Evl
local macro_rules | `(tactic| walk_at "go") => `(tactic| repeat (first
  | with_reducible refine st_seq ?_ | with_reducible refine st_set ?_ | with_reducible refine st_asg ?_ | with_reducible refine st_ret ?_ | with_reducible refine st_drop ?_ | with_reducible refine st_if ?_
  | with_reducible refine st_c ?_ | ((with_reducible refine' st_v ?h ?_); (case h => exact rfl)) | with_reducible refine st_n ?_ | with_reducible refine st_cons ?_ | with_reducible refine st_op ?_ | with_reducible refine st_un ?_
  | with_reducible refine st_cb ?_ | with_reducible refine st_test ?_ | with_reducible refine st_call ?_ | with_reducible refine st_callK ?_ | with_reducible refine st_sl ?_ | with_reducible refine st_par ?_ | with_reducible refine st_par3 ?_ | with_reducible refine st_tru ?_
  | with_reducible refine st_and ?_ | with_reducible refine st_or ?_ | with_reducible refine st_not ?_ | with_reducible refine st_B ?_ | with_reducible refine st_andV ?_ | with_reducible refine st_orV ?_ | with_reducible refine st_notV ?_ | with_reducible refine st_ifE ?_
  | with_reducible refine st_part ?_ | with_reducible refine st_nop ?_ | with_reducible refine st_sub ?_ | with_reducible refine st_chain ?_ | with_reducible refine st_chain3 ?_ | with_reducible refine st_lenSet ?_ | with_reducible refine st_bl ?_ | with_reducible refine st_in ?_ | with_reducible refine r_truB ?_
  | with_reducible refine st_nameG ?_ | with_reducible refine if_T ?_ | with_reducible refine if_F ?_ | with_reducible refine if_nT ?_ | with_reducible refine if_nF ?_
  | with_reducible refine r_add ?_ | with_reducible refine r_0 ?_ | with_reducible refine r_neg ?_ | with_reducible refine r_intI ?_ | with_reducible refine r_intB ?_ | with_reducible refine r_abs ?_ | with_reducible refine r_max2 ?_ | with_reducible refine r_min2 ?_ | with_reducible refine r_eqI ?_ | with_reducible refine r_neI ?_
  | with_reducible refine st_nxt ?_ | with_reducible refine st_cnt ?_ | with_reducible refine st_brk ?_ | with_reducible refine st_retn ?_
  | with_reducible refine st_lstN ?_ | with_reducible refine st_tupN ?_
  | with_reducible refine st_for ?_ | with_reducible refine st_lc ?_ | with_reducible refine st_lc2 ?_ | with_reducible refine st_rng1 ?_ | with_reducible refine st_rng2 ?_ | with_reducible refine st_rng3 ?_ | with_reducible refine st_itL ?_ | with_reducible refine st_itT ?_ | with_reducible refine st_rev ?_ | with_reducible refine st_enumE ?_ | with_reducible refine st_zip3 ?_ | with_reducible refine st_lvals ?_ | with_reducible refine st_fld ?_ | with_reducible refine st_sfld ?_ | with_reducible refine st_meth ?_ | with_reducible refine st_make ?_ | with_reducible refine st_rg1 ?_ | with_reducible refine st_enumS ?_ | with_reducible refine st_enumD ?_ | with_reducible refine st_lstIt ?_ | with_reducible refine st_dg1 ?_ | with_reducible refine st_dg2 ?_ | with_reducible refine st_dpop ?_ | with_reducible refine st_dset ?_ | with_reducible refine st_ckw ?_ | with_reducible refine st_dsetT ?_ | with_reducible refine st_dnewT ?_ | with_reducible refine st_dc ?_ | with_reducible refine st_keys ?_ | with_reducible refine st_dget ?_ | with_reducible refine st_din ?_ | with_reducible refine st_dnin ?_ | with_reducible refine st_dput ?_ | with_reducible refine st_dnew ?_ | with_reducible refine st_lstRg ?_ | with_reducible refine st_rg2 ?_ | with_reducible refine r_twoI ?_ | with_reducible refine st_bm ?_ | with_reducible refine st_bm0 ?_
  | ((with_reducible refine' st_aug ?h ?_); (case h => exact rfl)) | with_reducible refine r_augI ?_ | with_reducible refine r_eqB ?_
  | dsimp only))
section
variable {P : Program} {w : World} {K : PySem.W.Frag} {mg : Str → Option Value} {base : Heap} {A : Ad}
theorem bare_web {L : Nat} (l1 : 1 ≤ L) (l4 : L ≤ 4) : ∃ d : Wb.Gm, Wb.Web L 1 d ∧ Wb.rows L 1 d = [List.replicate L (-1)] := by
  have G : Wb.Gr L 1 fun _ _ => none := ⟨fun _ _ _ z => (by cases z), fun _ _ _ z => (by cases z)⟩
  obtain ⟨d, W, hd⟩ := Wb.web_of_bfs l1 l4 Nat.one_pos G fun r h1 h2 => by omega
  have hm : (Wb.bfs L 1 (fun _ _ => none) 0).length = 1 := by
    have h1 := (Wb.bfs_ok G Nat.one_pos).len
    have h2 := W.pos
    omega
  rw [hm] at W hd
  refine ⟨d, W, ?_⟩
  show [Wb.row L d 0] = _
  have : Wb.row L d 0 = List.replicate L (-1) := by
    refine List.ext_getElem? fun l => ?_
    rw [List.getElem?_replicate]
    by_cases hl : l < L
    · rw [Wb.row_at hl, if_pos hl, hd 0 Nat.one_pos]
      rfl
    · rw [if_neg hl, List.getElem?_eq_none (by rw [Wb.row_len]; omega)]
  rw [this]
def sp__law_drawn (K : PySem.W.Frag) : Sp := fun vs H Q _ => ∃ (w : Addr) (n M t : Nat), vs = [.ref w, .int (M : Int), .int (t : Int)] ∧ Well H w n ∧ n < 2 ^ 19 ∧ 1 ≤ M ∧ M ≤ 12 ∧ 1 ≤ t ∧ t ≤ 4 ∧ ∀ p L m d H1, DrS w H (n + 200) H1 → WebH K H1 p L m d → Wb.Web L m d → m ≤ M → L ≤ t → Q (.ref p) H1
theorem ok__law_drawn (T : Tx K mg A) : FnOk P w K mg base CX0 3 A.a__law_drawn A.f__law_drawn P__law_drawn (sp__law_drawn K) := by
  refine Qt.drp ?_ ?_
  · refine T.F__law_drawn.ok sc__law_drawn (fun vs H Q E h => ?_) (fun cdv A' outer s H vs Q E hr h => ?_)
    · obtain ⟨w, n, M, t, rfl, _⟩ := h
      rfl
    · obtain ⟨w, n, M, t, rfl, hw, hn, M1, M12, t1, t4, q⟩ := h
      refine ⟨_, (pss_cons (ps_set (i := 3) sc__law_drawn.nd rfl (Or.inl rfl) (pe_op (op_addK K) pe_int (pe_call (ok__law_draw T) (hr.mono (by decide)) (by rfl) T.g__law_draw T.F__law_draw.kp T.b__law_draw .nil pass0 (pa_cons (pv 0) (pa_cons (pv 2) pa_nil)))))
        (pss_cons (ps_set (i := 4) sc__law_drawn.nd rfl (Or.inl rfl) (pe_call (ok__law_draw T) (hr.mono (by decide)) (by rfl) T.g__law_draw T.F__law_draw.kp T.b__law_draw .nil pass0 (pa_cons (pv 0) (pa_cons pe_int pa_nil))))
        (pss_cons (ps_if (pt_cmpR (op_eqK K hr.units) (pv 4) pe_int (nomark _)) (pss_one (ps_ret (pe_tup (pa_cons (pv 3) (pa_cons (pe_tup (pa_cons (pe_op (op_mulK K) (pe_tup (pa_cons (pe_un un_neg pe_int) pa_nil)) (pv 3)) pa_nil)) pa_nil))))) pss_nil)
        (pss_cons (ps_if (pt_cmpR op_lt (pv 4) pe_int (nomark _)) (pss_cons (ps_par (i := 5) (j := 6) (by rfl) sc__law_drawn.nd rfl rfl (by decide) rfl rfl (pa_cons (pe_lst pa_nil) (pa_cons (pv 1) pa_nil)) (by rfl))
        (pss_cons (ps_for PassesOwn.never rfl (pi_range1 (by rfl) T.n_range (pa_cons (pe_op (op_addK K) pe_int (pe_call (ok__law_draw T) (hr.mono (by decide)) (by rfl) T.g__law_draw T.F__law_draw.kp T.b__law_draw .nil pass0 (pa_cons (pv 0) (pa_cons pe_int pa_nil)))) pa_nil)) (pg_name (i := 7) sc__law_drawn.nd rfl (Or.inl rfl)) (pss_one (ps_if (pt_cmpR op_gt (pv 6) pe_int (nomark _)) (pss_cons (ps_set (i := 8) sc__law_drawn.nd rfl (Or.inl rfl) (pe_op (op_addK K) pe_int (pe_call (ok__law_draw T) (hr.mono (by decide)) (by rfl) T.g__law_draw T.F__law_draw.kp T.b__law_draw .nil pass0 (pa_cons (pv 0) (pa_cons (pv 6) pa_nil)))))
        (pss_cons (ps_expr (pe_bmU K PySem.F.plainAttrs_list PySem.F.slot_list_append PySem.F.type_list_append mt_append (pv 5) (pa_cons (pe_call (ok__law_straight T) (hr.mono (by decide)) (by rfl) T.g__law_straight T.F__law_straight.kp T.b__law_straight .nil pass0 (pa_cons (pv 0) (pa_cons (pv 3) (pa_cons (pv 8) pa_nil)))) pa_nil)))
        (pss_one (ps_set (i := 6) sc__law_drawn.nd rfl (Or.inl rfl) (pe_op op_sub (pv 6) (pv 8)))))) pss_nil)))
        (pss_one (ps_ret (pe_call (ok__law_web T) (hr.mono (by decide)) (by rfl) T.g__law_web T.F__law_web.kp T.b__law_web .nil pass0 (pa_cons (pv 3) (pa_cons (pe_call (ok__law_rings T) (hr.mono (by decide)) (by rfl) T.g__law_rings T.F__law_rings.kp T.b__law_rings .nil pass0 (pa_cons (pv 5) pa_nil)) pa_nil))))))) pss_nil)
        (pss_cons (ps_set (i := 9) sc__law_drawn.nd rfl (Or.inl rfl) (pe_ix (ix_K K) (pe_lst (pa_cons pe_int (pa_cons pe_int (pa_cons pe_int (pa_cons pe_int (pa_cons pe_int pa_nil)))))) (pe_call (ok__law_draw T) (hr.mono (by decide)) (by rfl) T.g__law_draw T.F__law_draw.kp T.b__law_draw .nil pass0 (pa_cons (pv 0) (pa_cons pe_int pa_nil))) (fun _ _ => rfl)))
        (pss_one (ps_ret (pe_call (ok__law_web T) (hr.mono (by decide)) (by rfl) T.g__law_web T.F__law_web.kp T.b__law_web .nil pass0 (pa_cons (pv 3) (pa_cons (pe_call (ok__law_tables T) (hr.mono (by decide)) (by rfl) T.g__law_tables T.F__law_tables.kp T.b__law_tables .nil pass0 (pa_cons (pv 0) (pa_cons (pv 3) (pa_cons (pe_op (op_addK K) pe_int (pe_call (ok__law_draw T) (hr.mono (by decide)) (by rfl) T.g__law_draw T.F__law_draw.kp T.b__law_draw .nil pass0 (pa_cons (pv 0) (pa_cons (pv 1) pa_nil)))) (pa_cons (pv 9) pa_nil))))) pa_nil)))))))))), ?_⟩
      walk_at "go"
      refine ⟨w, n, t, rfl, by omega, by omega, hw, by omega, fun r0 H1 r00 r01 e1 w1 => ?_⟩
      walk_at "go"
      obtain ⟨L, hL⟩ : ∃ L : Nat, (1 : Int) + r0 = (L : Int) := ⟨(1 + r0).toNat, by omega⟩
      rw [hL]
      have l1 : 1 ≤ L := by omega
      have l4 : L ≤ 4 := by omega
      have s1 : DrS w H (n + 1) H1 := ⟨e1, w1⟩
      clear e1 w1
      refine ⟨w, _, 9, rfl, by omega, by omega, s1.well, by omega, fun way H2 w0 w9 e2 w2 => ?_⟩
      have s2 := s1.on e2 w2
      clear e2 w2 s1
      walk_at "go"
      refine if_2 (fun h0 => ?_) fun h0 => ?_
      · obtain ⟨d, W, hrows⟩ := bare_web l1 l4
        walk_at "go"
        refine r_newT (by simp) fun a1 H3 ha1 e3 k3 => ?_
        walk_at "go"
        refine r_repT (xs := [V.int (-1)]) (t_of k3) (by omega) (by omega) (by simp) fun a2 H4 e4 k4 => ?_
        walk_at "go"
        refine r_newT (by simp) fun a3 H5 ha3 e5 k5 => ?_
        walk_at "go"
        refine r_newT (by simp) fun a4 H6 ha4 e6 k6 => ?_
        have es := (((s2.ext e3).ext e4).ext e5).ext e6
        refine q a4 L 1 d H6 (es.more (by omega)) ⟨a3, [.ref a2], t_of k6, ex_t e6 (t_of k5), ?_⟩ W (by omega) (by omega)
        rw [hrows]
        refine WkA.nil.snoc (u := List.replicate L (-1)) ⟨a2, rfl, ex_t (e5.trans e6) ?_⟩
        have ez : ∀ k : Nat, (List.replicate k [V.int (-1)]).flatten = (List.replicate k (-1 : Int)).map V.int := fun k => by
          induction k with
          | zero => rfl
          | succ k ih => rw [List.replicate_succ, List.flatten_cons, ih, List.replicate_succ]; rfl
        have k4' := k4
        rw [show ((L : Nat) : Int).toNat = L from rfl] at k4'
        rw [ez] at k4'
        exact k4'
      · walk_at "go"
        refine if_2 (fun h5 => ?_) fun h5 => ?_
        · walk_at "go"
          refine r_newL (by simp) fun wk H3 hwk e3 k3 => ?_
          walk_at "go"
          refine ⟨_, _, rfl, ?_⟩
          walk_at "go"
          have s3 := s2.ext e3
          have nww : wk ≠ w := s2.well.ne hwk
          have hwk0 : H wk = none := s2.fresh hwk
          refine ⟨w, _, 3, rfl, by omega, by omega, s3.well, by omega, fun r4 H4 r40 r43 e4 w4 => ?_⟩
          have s4 := s3.on e4 w4
          have k4 := e4 _ _ k3 nww
          walk_at "go"
          refine r_rng1 (by omega) (by omega) ?_
          obtain ⟨mt, hmt, mt3⟩ : ∃ mt : Nat, ((1 : Int) + r4).toNat = mt ∧ mt ≤ 3 := ⟨_, rfl, by omega⟩
          rw [hmt]
          refine r_forR (lo := 0) (m := mt) (fun i σ' H' => ∃ (us : List (List Int)) (xs : List V) (left : Nat) (v7 v8 : Option V), DrS w H (n + 4 + 14 * i) H' ∧ H' wk = some (.lst xs) ∧ WkA K H' xs us ∧ (∀ u ∈ us, 0 < u.length ∧ ∀ s ∈ u, s ∈ Od.steps L) ∧ tot us + left = M ∧ us.length ≤ i ∧ (i = 0 → us = []) ∧ (0 < i → 1 ≤ us.length) ∧
            σ' = [some (.ref w), some (.int (M : Int)), some (.int (t : Int)), some (.int (L : Int)), some (.int way), some (.ref wk), some (.int (left : Int)), v7, v8, none]) ⟨[], [], M, none, none, s4.more (by omega), k4, WkA.nil, fun u h => (List.not_mem_nil h).elim, by unfold tot; simp, by simp, fun _ => rfl, fun h => absurd h (by decide), rfl⟩ (fun i σ' H' hi z => ?_) (fun σ' H' z => ?_)
          · obtain ⟨us, xs, left, v7, v8, s5, k5, wa, hus, htot, zus, zi0, zi1, rfl⟩ := z
            walk_at "go"
            refine if_2 (fun h6 => ?_) fun h6 => ?_
            · walk_at "go"
              refine ⟨w, _, _, rfl, by omega, by omega, s5.well, by omega, fun r5 H5 r50 r51 e5 w5 => ?_⟩
              have s6 := s5.on e5 w5
              have k6 := e5 _ _ k5 nww
              have wa6 := wa.tx (TX.w e5 s5.well)
              walk_at "go"
              refine r_app (l_of k6) ?_
              walk_at "go"
              obtain ⟨sz, hsz⟩ : ∃ sz : Nat, (1 : Int) + r5 = (sz : Int) := ⟨(1 + r5).toNat, by omega⟩
              rw [hsz]
              refine ⟨w, _, L, sz, rfl, s6.well, by omega, l1, l4, by omega, fun pu u H6 s7 hpu zu su => ?_⟩
              have k7 := s7.ex _ _ k6 nww
              have wa7 := wa6.tx (TX.w s7.ex s6.well)
              have s8 := s6.on s7.ex s7.well
              walk_at "go"
              refine r_appd k7 (by rw [wa.len]; omega) fun H7 e7 k8 => ?_
              walk_at "go"
              have tx7 : TX H6 H7 := TX.w2 k7 e7
              refine ⟨us ++ [u], _, left - sz, some (.int (0 + (i : Int))), some (.int (sz : Int)), (s8.mut e7 hwk0 nww).more (by omega), k8, (wa7.tx tx7).snoc ⟨pu, rfl, tx_t tx7 hpu⟩, fun v hv => ?_, ?_, by rw [List.length_append]; simp; omega, fun h => absurd h (Nat.succ_ne_zero _), fun _ => by rw [List.length_append]; simp, ?_⟩
              · rcases List.mem_append.mp hv with hv | hv
                · exact hus v hv
                · rw [List.mem_singleton.mp hv]
                  exact ⟨by omega, su⟩
              · unfold tot
                rw [List.map_append, List.sum_append]
                have := htot
                unfold tot at this
                simp
                omega
              · rw [show (left : Int) - (sz : Int) = ((left - sz : Nat) : Int) by omega]
                rfl
            · refine ⟨us, xs, left, _, _, s5.more (by omega), k5, wa, hus, htot, by omega, fun h => absurd h (Nat.succ_ne_zero _), fun _ => ?_, rfl⟩
              rcases Nat.eq_zero_or_pos i with hi0 | hi0
              · have := zi0 hi0
                rw [this] at htot
                have : tot ([] : List (List Int)) = 0 := rfl
                omega
              · exact zi1 hi0
          · obtain ⟨us, xs, left, v7, v8, s5, k5, wa, hus, htot, zus, zi0, zi1, rfl⟩ := z
            walk_at "go"
            refine ⟨L, wk, xs, us, rfl, l_of k5, wa, hus, by omega, l4, fun a m d H5 e5 tab G m0 m61 => ?_⟩
            have hus1 : 1 ≤ us.length := zi1 (by omega)
            walk_at "go"
            refine ⟨L, m, d, a, rfl, tab, G, l1, l4, m0, by omega, fun p m' d' H6 e6 hm WH W => ?_⟩
            exact q p L m' d' H6 (((s5.ext e5).ext e6).more (by omega)) WH W (by omega) (by omega)
        · walk_at "go"
          refine r_newL (by simp) fun gl H3 hgl e3 k3 => ?_
          walk_at "go"
          have s3 := s2.ext e3
          have ngw : gl ≠ w := s2.well.ne hgl
          refine ⟨w, _, 5, rfl, by omega, by omega, s3.well, by omega, fun r4 H4 r40 r45 e4 w4 => ?_⟩
          have s4 := s3.on e4 w4
          have k4 := e4 _ _ k3 ngw
          walk_at "go"
          obtain ⟨g, hg, hg6⟩ : ∃ g : Nat, ([0, 0, 2, 3, 6] : List Nat)[r4.toNat]? = some g ∧ g ≤ 6 := by
            have hlt : r4.toNat < 5 := by omega
            have hh := List.getElem?_eq_getElem (l := ([0, 0, 2, 3, 6] : List Nat)) (i := r4.toNat) hlt
            exact ⟨_, hh, (by decide : ∀ x ∈ ([0, 0, 2, 3, 6] : List Nat), x ≤ 6) _ (List.mem_of_getElem? hh)⟩
          refine r_ixL (l_of k4) (v := .int (g : Int)) (atI_at r40 ?_) ?_
          · have : ([V.int 0, .int 0, .int 2, .int 3, .int 6] : List V) = ([0, 0, 2, 3, 6] : List Nat).map fun (x : Nat) => V.int (x : Int) := rfl
            rw [this, List.getElem?_map, hg]
            rfl
          walk_at "go"
          refine ⟨w, _, M, rfl, by omega, by omega, s4.well, by omega, fun r5 H5 r50 r51 e5 w5 => ?_⟩
          have s5 := s4.on e5 w5
          walk_at "go"
          obtain ⟨c, hc⟩ : ∃ c : Nat, (1 : Int) + r5 = (c : Int) := ⟨(1 + r5).toNat, by omega⟩
          rw [hc]
          refine ⟨w, _, L, c, g, rfl, s5.well, by omega, l4, by omega, hg6, fun a d H6 s6 tab G => ?_⟩
          walk_at "go"
          refine ⟨L, c, d, a, rfl, tab, G, l1, l4, by omega, by omega, fun p m' d' H7 e7 hm WH W => ?_⟩
          have s7 := (s5.on s6.ex s6.well).ext e7
          exact q p L m' d' H7 (s7.more (by omega)) WH W (by omega) (by omega)
  walk_at "end"
end
end Lw
namespace Lw
open PySem PySem.Spec PyProof.Rows L2 Evl
local macro_rules | `(tactic| walk_at "go") => `(tactic| repeat (first
  | with_reducible refine st_seq ?_ | with_reducible refine st_set ?_ | with_reducible refine st_asg ?_ | with_reducible refine st_ret ?_ | with_reducible refine st_drop ?_ | with_reducible refine st_if ?_
  | with_reducible refine st_c ?_ | ((with_reducible refine' st_v ?h ?_); (case h => exact rfl)) | with_reducible refine st_n ?_ | with_reducible refine st_cons ?_ | with_reducible refine st_op ?_ | with_reducible refine st_un ?_
  | with_reducible refine st_cb ?_ | with_reducible refine st_test ?_ | with_reducible refine st_call ?_ | with_reducible refine st_callK ?_ | with_reducible refine st_sl ?_ | with_reducible refine st_par ?_ | with_reducible refine st_par3 ?_ | with_reducible refine st_tru ?_
  | with_reducible refine st_and ?_ | with_reducible refine st_or ?_ | with_reducible refine st_not ?_ | with_reducible refine st_B ?_ | with_reducible refine st_andV ?_ | with_reducible refine st_orV ?_ | with_reducible refine st_notV ?_ | with_reducible refine st_ifE ?_
  | with_reducible refine st_part ?_ | with_reducible refine st_nop ?_ | with_reducible refine st_sub ?_ | with_reducible refine st_chain ?_ | with_reducible refine st_chain3 ?_ | with_reducible refine st_lenSet ?_ | with_reducible refine st_bl ?_ | with_reducible refine st_in ?_ | with_reducible refine r_truB ?_
  | with_reducible refine st_nameG ?_ | with_reducible refine if_T ?_ | with_reducible refine if_F ?_ | with_reducible refine if_nT ?_ | with_reducible refine if_nF ?_
  | with_reducible refine r_add ?_ | with_reducible refine r_0 ?_ | with_reducible refine r_neg ?_ | with_reducible refine r_intI ?_ | with_reducible refine r_intB ?_ | with_reducible refine r_abs ?_ | with_reducible refine r_max2 ?_ | with_reducible refine r_min2 ?_ | with_reducible refine r_eqI ?_ | with_reducible refine r_neI ?_
  | with_reducible refine st_nxt ?_ | with_reducible refine st_cnt ?_ | with_reducible refine st_brk ?_ | with_reducible refine st_retn ?_
  | with_reducible refine st_lstN ?_ | with_reducible refine st_tupN ?_
  | with_reducible refine st_for ?_ | with_reducible refine st_lc ?_ | with_reducible refine st_lc2 ?_ | with_reducible refine st_rng1 ?_ | with_reducible refine st_rng2 ?_ | with_reducible refine st_rng3 ?_ | with_reducible refine st_itL ?_ | with_reducible refine st_itT ?_ | with_reducible refine st_rev ?_ | with_reducible refine st_enumE ?_ | with_reducible refine st_zip3 ?_ | with_reducible refine st_lvals ?_ | with_reducible refine st_fld ?_ | with_reducible refine st_sfld ?_ | with_reducible refine st_meth ?_ | with_reducible refine st_make ?_ | with_reducible refine st_rg1 ?_ | with_reducible refine st_enumS ?_ | with_reducible refine st_enumD ?_ | with_reducible refine st_lstIt ?_ | with_reducible refine st_dg1 ?_ | with_reducible refine st_dg2 ?_ | with_reducible refine st_dpop ?_ | with_reducible refine st_dset ?_ | with_reducible refine st_ckw ?_ | with_reducible refine st_dsetT ?_ | with_reducible refine st_dnewT ?_ | with_reducible refine st_dc ?_ | with_reducible refine st_keys ?_ | with_reducible refine st_dget ?_ | with_reducible refine st_din ?_ | with_reducible refine st_dnin ?_ | with_reducible refine st_dput ?_ | with_reducible refine st_dnew ?_ | with_reducible refine st_lstRg ?_ | with_reducible refine st_rg2 ?_ | with_reducible refine r_twoI ?_ | with_reducible refine st_bm ?_ | with_reducible refine st_bm0 ?_
  | ((with_reducible refine' st_aug ?h ?_); (case h => exact rfl)) | with_reducible refine r_augI ?_ | with_reducible refine r_eqB ?_
  | dsimp only))
section
variable {P : Program} {w : World} {K : PySem.W.Frag} {mg : Str → Option Value} {base : Heap} {A : Ad}
theorem hold_len {d : Wb.Gm} {n : Nat} {hs : List Bool} (hl : hs.length = n + 1) (hh : ∀ k : Nat, hs[k]? = some true ↔ 0 < k ∧ Wb.Circ d n k) {k : Nat} (hk : k ≤ n) : ∃ b : Bool, hs[k]? = some b ∧ (b = true ↔ 0 < k ∧ Wb.Circ d n k) := by
  have h := List.getElem?_eq_getElem (l := hs) (i := k) (by omega)
  refine ⟨hs[k]'(by omega), h, ?_⟩
  rw [← hh k, h]
  constructor
  · intro z; rw [z]
  · intro z; exact Option.some.inj z
theorem and_due {c : Bool} {te : TE} {σ : L2.St} {H : Hp} {Q : VK} (D : Bool → Prop) (h1 : c = true → ∀ Q' : VK, (∀ b, D b → Q' (.bl b) H) → te σ H Q') (h2 : c = false → D false) (k : ∀ b, D b → Q (.bl b) H) : if c = true then te σ H Q else Q (.bl false) H := by
  cases c with
  | true => rw [if_pos rfl]; exact h1 rfl Q k
  | false => rw [if_neg (by decide)]; exact k false (h2 rfl)
def sp__law_right (K : PySem.W.Frag) : Sp := fun vs H Q _ => ∃ w, vs = [.ref w] ∧ Well H w 0 ∧ ∀ H1, ExW w H H1 → Q (.bl true) H1
theorem ok__law_right (T : Tx K mg A) : FnOk P w K mg base CX0 7 A.a__law_right A.f__law_right P__law_right (sp__law_right K) := by
  refine Qt.drp ?_ ?_
  · refine T.F__law_right.ok sc__law_right (fun vs H Q E h => ?_) (fun cdv A' outer s H vs Q E hr h => ?_)
    · obtain ⟨w, rfl, _⟩ := h
      rfl
    · obtain ⟨w, rfl, hw, q⟩ := h
      refine ⟨_, (pss_cons (ps_set (i := 1) sc__law_right.nd rfl (Or.inl rfl) (pe_call (ok__law_drawn T) (hr.mono (by decide)) (by rfl) T.g__law_drawn T.F__law_drawn.kp T.b__law_drawn .nil pass0 (pa_cons (pv 0) (pa_cons (pe_ix (ix_K K) (pe_lst (pa_cons pe_int (pa_cons pe_int (pa_cons pe_int (pa_cons pe_int pa_nil))))) (pe_call (ok__law_draw T) (hr.mono (by decide)) (by rfl) T.g__law_draw T.F__law_draw.kp T.b__law_draw .nil pass0 (pa_cons (pv 0) (pa_cons pe_int pa_nil))) (fun _ _ => rfl)) (pa_cons pe_int pa_nil)))))
        (pss_cons (ps_set (i := 2) sc__law_right.nd rfl (Or.inl rfl) (pe_call (ok__law_doors T) (hr.mono (by decide)) (by rfl) T.g__law_doors T.F__law_doors.kp T.b__law_doors .nil pass0 (pa_cons (pv 1) pa_nil)))
        (pss_cons (ps_set (i := 3) sc__law_right.nd rfl (Or.inr rfl) (pe_call (ok__law_rounds T) (hr.mono (by decide)) (by rfl) T.g__law_rounds T.F__law_rounds.kp T.b__law_rounds .nil pass0 (pa_cons (pe_call (ok__law_all_tables T) (hr.mono (by decide)) (by rfl) T.g__law_all_tables T.F__law_all_tables.kp T.b__law_all_tables .nil pass0 (pa_cons (pv 2) (pa_cons (pe_ix (ix_K K) (pv 1) pe_int (fun _ _ => rfl)) pa_nil))) (pa_cons (pe_callB (len_K K) (by rfl) T.n_len (by decide +kernel) (pa_cons (pv 2) pa_nil)) pa_nil))))
        (pss_cons (ps_set (i := 4) sc__law_right.nd rfl (Or.inl rfl) (pe_callB (maxl_K K rfl) (by rfl) T.n_max (by decide +kernel) (pa_cons (pe_lc (own := [("_law_times", 7)]) rfl sc__law_right.nd (pi_range1 (by rfl) T.n_range (pa_cons (pe_callB (len_K K) (by rfl) T.n_len (by decide +kernel) (pa_cons (pv 3) pa_nil)) pa_nil)) (blkOk_by (own := [("_law_times", 7)]) (N := N__law_right) (sc := defScope s__law_right) (by decide +kernel)) (fun _ _ _ _ _ => (pg_name (i := 7) sc__law_right.nd rfl (Or.inl rfl))) (fun _ _ _ _ _ => (pts_one (pt_truK K (pe_ix (ix_K K) (pv 3) (pv 7) (fun _ _ => rfl))))) (fun _ _ _ _ _ => (pv 7))) pa_nil)))
        (pss_cons (ps_if (PW.pt (pw_or (pt_not (pt_truK K (pe_call (ok__law_is_integer T) (hr.mono (by decide)) (by rfl) T.g__law_is_integer T.F__law_is_integer.kp T.b__law_is_integer .nil pass0 (pa_cons (pe_call (ok_greatest_power T) (hr.mono (by decide)) (by rfl) T.g_greatest_power T.F_greatest_power.kp T.b_greatest_power .nil pass0 (pa_cons (pv 1) pa_nil)) (pa_cons (pv 4) pa_nil))))) (pw_or1 (pt_not (pt_truK K (pe_call (ok__law_truth T) (hr.mono (by decide)) (by rfl) T.g__law_truth T.F__law_truth.kp T.b__law_truth .nil pass0 (pa_cons (pe_call (ok_is_rooted T) (hr.mono (by decide)) (by rfl) T.g_is_rooted T.F_is_rooted.kp T.b_is_rooted .nil pass0 (pa_cons (pv 1) pa_nil)) (pa_cons (pe_cmpR (op_eqK K hr.units) (pv 4) pe_int (nomark _)) pa_nil)))))))) (pss_one (ps_ret pe_bl)) pss_nil)
        (pss_cons (ps_set (i := 5) sc__law_right.nd rfl (Or.inl rfl) (pe_op (op_addK K) (pe_listRg rfl (by rfl) T.n_list (prg_2 (by rfl) T.n_range pe_int (pe_op (op_addK K) (pe_callB (len_K K) (by rfl) T.n_len (by decide +kernel) (pa_cons (pv 2) pa_nil)) pe_int))) (pe_lst (pa_cons (pe_op (op_addK K) pe_int (pe_call (ok__law_draw T) (hr.mono (by decide)) (by rfl) T.g__law_draw T.F__law_draw.kp T.b__law_draw .nil pass0 (pa_cons (pv 0) (pa_cons (pe_op op_sub (pe_op op_powW pe_int pe_int) pe_int) pa_nil)))) pa_nil))))
        (pss_cons (ps_for PassesOwn.never rfl (pi_range1 (by rfl) T.n_range (pa_cons (pe_callB (len_K K) (by rfl) T.n_len (by decide +kernel) (pa_cons (pv 5) pa_nil)) pa_nil)) (pg_name (i := 6) sc__law_right.nd rfl (Or.inl rfl)) (pss_cons (ps_set (i := 7) sc__law_right.nd rfl (Or.inl rfl) (pe_bmU K PySem.F.plainAttrs_list PySem.F.slot_list_pop PySem.F.type_list_pop mt_popAt (pv 5) (pa_cons (pe_call (ok__law_draw T) (hr.mono (by decide)) (by rfl) T.g__law_draw T.F__law_draw.kp T.b__law_draw .nil pass0 (pa_cons (pv 0) (pa_cons (pe_callB (len_K K) (by rfl) T.n_len (by decide +kernel) (pa_cons (pv 5) pa_nil)) pa_nil))) pa_nil)))
        (pss_cons (ps_set (i := 8) sc__law_right.nd rfl (Or.inl rfl) (pe_and (pe_cmpR op_lt (pv 7) (pe_callB (len_K K) (by rfl) T.n_len (by decide +kernel) (pa_cons (pv 3) pa_nil)) (nomark _)) (pe_one (pe_ix (ix_K K) (pv 3) (pv 7) (fun _ _ => rfl)))))
        (pss_cons (ps_set (i := 9) sc__law_right.nd rfl (Or.inl rfl) (pe_call (ok_power_walk T) (hr.mono (by decide)) (by rfl) T.g_power_walk T.F_power_walk.kp T.b_power_walk .nil pass0 (pa_cons (pv 1) (pa_cons (pv 7) pa_nil))))
        (pss_cons (ps_if (pt_not (pt_truK K (pe_call (ok__law_walk_right T) (hr.mono (by decide)) (by rfl) T.g__law_walk_right T.F__law_walk_right.kp T.b__law_walk_right .nil pass0 (pa_cons (pv 2) (pa_cons (pe_ix (ix_K K) (pv 1) pe_int (fun _ _ => rfl)) (pa_cons (pv 9) (pa_cons (pv 7) (pa_cons (pv 8) pa_nil)))))))) (pss_one (ps_ret pe_bl)) pss_nil)
        (pss_one (ps_if (pt_not (pt_truK K (pe_call (ok__law_walk_right T) (hr.mono (by decide)) (by rfl) T.g__law_walk_right T.F__law_walk_right.kp T.b__law_walk_right .nil pass0 (pa_cons (pv 2) (pa_cons (pe_ix (ix_K K) (pv 1) pe_int (fun _ _ => rfl)) (pa_cons (pe_callK0 (ok_power_walk T) (hr.mono (by decide)) (by rfl) T.g_power_walk T.F_power_walk.kp (kb_power_walk_times_web T.F_power_walk) pass0 (pk_cons (pv 7) (pk_cons (pv 1) pk_nil))) (pa_cons (pv 7) (pa_cons (pv 8) pa_nil)))))))) (pss_one (ps_ret pe_bl)) pss_nil)))))))
        (pss_one (ps_ret (pe_and (pe_call (ok__law_truth T) (hr.mono (by decide)) (by rfl) T.g__law_truth T.F__law_truth.kp T.b__law_truth .nil pass0 (pa_cons (pe_callK0 (ok_is_rooted T) (hr.mono (by decide)) (by rfl) T.g_is_rooted T.F_is_rooted.kp (kb_is_rooted_web T.F_is_rooted) pass0 (pk_cons (pv 1) pk_nil)) (pa_cons (pe_cmpR (op_eqK K hr.units) (pv 4) pe_int (nomark _)) pa_nil))) (pe_one (pe_call (ok__law_is_integer T) (hr.mono (by decide)) (by rfl) T.g__law_is_integer T.F__law_is_integer.kp T.b__law_is_integer .nil pass0 (pa_cons (pe_callK0 (ok_greatest_power T) (hr.mono (by decide)) (by rfl) T.g_greatest_power T.F_greatest_power.kp (kb_greatest_power_web T.F_greatest_power) pass0 (pk_cons (pv 1) pk_nil)) (pa_cons (pv 4) pa_nil)))))))))))))), ?_⟩
      walk_at "go"
      refine r_newL (by simp) fun l0 H1 hl0 e1 k1 => ?_
      walk_at "go"
      have s1 : DrS w H 0 H1 := (DrS.refl hw).ext e1
      refine ⟨w, _, 4, rfl, by omega, by omega, s1.well, by omega, fun r0 H2 r00 r04 e2 w2 => ?_⟩
      walk_at "go"
      have k2 := e2 _ _ k1 (hw.ne hl0)
      have s2 := s1.on e2 w2
      obtain ⟨M, hM, hM5⟩ : ∃ M : Nat, ([4, 4, 3, 5] : List Nat)[r0.toNat]? = some M ∧ 3 ≤ M ∧ M ≤ 5 := by
        have hlt : r0.toNat < 4 := by omega
        have hh := List.getElem?_eq_getElem (l := ([4, 4, 3, 5] : List Nat)) (i := r0.toNat) hlt
        exact ⟨_, hh, (by decide : ∀ x ∈ ([4, 4, 3, 5] : List Nat), 3 ≤ x ∧ x ≤ 5) _ (List.mem_of_getElem? hh)⟩
      refine r_ixL (l_of k2) (v := .int (M : Int)) (atI_at r00 ?_) ?_
      · have : ([V.int 4, .int 4, .int 3, .int 5] : List V) = ([4, 4, 3, 5] : List Nat).map fun (x : Nat) => V.int (x : Int) := rfl
        rw [this, List.getElem?_map, hM]
        rfl
      walk_at "go"
      refine ⟨w, _, M, 3, rfl, s2.well, by omega, by omega, by omega, by omega, by omega, fun p L n d H3 s3 WH W nM L3 => ?_⟩
      have s3 := s2.on s3.ex s3.well
      clear e1 e2 k1 k2 hM s1 s2 hl0
      have hn : n ≤ 5 := by omega
      walk_at "go"
      refine ⟨L, n, d, p, rfl, WH, W.gr, by omega, by omega, fun t H4 e4 tab => ?_⟩
      walk_at "go"
      have WH := WH.mono e4
      obtain ⟨rr, ys, g1, g2, g3⟩ := WH.ex
      refine r_ixT g1 rfl ?_
      walk_at "go"
      refine ⟨L, n, d, t, rfl, tab, W.gr, by omega, hn, fun l xs E H5 e5 k5 tu few hE1 hE2 => ?_⟩
      walk_at "go"
      obtain ⟨ds, dl, dt, dk⟩ := tab.ex
      refine r_lenL (l_of (e5 _ _ dt)) ?_
      rw [List.length_map, dl]
      walk_at "go"
      refine ⟨L, n, d, l, xs, E, rfl, k5, tu, few, W.gr, hn, hE1, hE2, fun F hs H6 hF e6 k6 hsl hh => ?_⟩
      walk_at "go"
      refine r_lenL (l_of k6) ?_
      rw [List.length_map, hsl]
      walk_at "go"
      refine r_rng1 (by omega) (by omega) ?_
      rw [show (((n + 1 : Nat)) : Int).toNat = n + 1 by omega]
      refine r_cmRF (lo := 0) (m := n + 1) (fun k => hs.getD k false) (fun k => .int (k : Int)) (by omega) (fun _ => rfl) (fun k H7 hk e7 Q' kk => ?_) (fun k H7 hk hf e7 Q' kk => ?_) fun ml H7 hml e7 k7 => ?_
      · walk_at "go"
        obtain ⟨b, hb, _⟩ := hold_len hsl hh (k := k) (by omega)
        refine r_ixL (l_of (e7 _ _ k6)) (v := .bl b) (atI_at (by omega) (by rw [show ((0 : Int) + (k : Int)).toNat = k by omega, List.getElem?_map, hb]; rfl)) ?_
        have : hs.getD k false = b := by rw [List.getD_eq_getElem?_getD, hb]; rfl
        rw [this] at kk
        exact ⟨b, rfl, kk H7 (Ex.refl H7)⟩
      · walk_at "go"
        rw [Int.zero_add]
        exact kk H7 (Ex.refl H7)
      walk_at "go"
      have mx : ∃ m, Mx d n m := by
        have : ∀ k, k < n → ∃ m, Mx d n m ∨ ∀ j, n - k ≤ j → ¬ Wb.Circ d n j := fun k => by
          induction k with
          | zero =>
            intro _
            by_cases c : Wb.Circ d n n
            · exact ⟨n, .inl ⟨W.pos, Nat.le_refl _, c, fun j hj h => by have := Wb.circ_le h; omega⟩⟩
            · exact ⟨0, .inr fun j hj h => by
                have := Wb.circ_le h
                have : j = n := by omega
                exact c (this ▸ h)⟩
          | succ k ih =>
            intro hk
            obtain ⟨m, h | h⟩ := ih (by omega)
            · exact ⟨m, .inl h⟩
            · by_cases c : Wb.Circ d n (n - (k + 1))
              · exact ⟨n - (k + 1), .inl ⟨by omega, by omega, c, fun j hj => h j (by omega)⟩⟩
              · refine ⟨0, .inr fun j hj => ?_⟩
                by_cases e : j = n - (k + 1)
                · rw [e]; exact c
                · exact h j (by omega)
        obtain ⟨m, h | h⟩ := this (n - 1) (by have := W.pos; omega)
        · exact ⟨m, h⟩
        · exact absurd (Wb.circ_one d W.pos) (h 1 (by have := W.pos; omega))
      obtain ⟨mst, hmx⟩ := mx
      have k7 : H7 ml = some (.lst (((List.filter (fun k => hs.getD k false) (List.range (n + 1))).map fun (k : Nat) => (k : Int)).map V.int)) := by
        rw [k7]
        unfold given
        rw [List.map_map]
        rfl
      have inl : ∀ k : Nat, (k : Int) ∈ ((List.filter (fun k => hs.getD k false) (List.range (n + 1))).map fun (k : Nat) => (k : Int)) ↔ k ≤ n ∧ 0 < k ∧ Wb.Circ d n k := fun k => by
        rw [List.mem_map]
        constructor
        · rintro ⟨k', hk', e⟩
          obtain rfl : k' = k := by omega
          rw [List.mem_filter, List.mem_range] at hk'
          obtain ⟨b, hb, hb2⟩ := hold_len hsl hh (k := k') (by omega)
          have : hs.getD k' false = b := by rw [List.getD_eq_getElem?_getD, hb]; rfl
          exact ⟨by omega, hb2.mp (by rw [← this]; exact hk'.2)⟩
        · rintro ⟨h1, h2⟩
          obtain ⟨b, hb, hb2⟩ := hold_len hsl hh (k := k) h1
          have : hs.getD k false = b := by rw [List.getD_eq_getElem?_getD, hb]; rfl
          exact ⟨k, List.mem_filter.mpr ⟨List.mem_range.mpr (by omega), by rw [this]; exact hb2.mpr h2⟩, rfl⟩
      refine ⟨ml, _, rfl, l_of k7, List.length_pos_iff.mpr fun z => ?_, fun m hm1 hm2 => ?_⟩
      · have := (inl mst).mpr ⟨hmx.2.1, hmx.1, hmx.2.2.1⟩
        rw [z] at this
        exact (List.not_mem_nil this).elim
      obtain ⟨m', rfl⟩ : ∃ m' : Nat, m = (m' : Int) := by
        obtain ⟨k', _, e⟩ := List.mem_map.mp hm1
        exact ⟨k', e.symm⟩
      have hmx' : m' = mst := by
        obtain ⟨a1, a2, a3⟩ := (inl m').mp hm1
        have := hm2 _ ((inl mst).mpr ⟨hmx.2.1, hmx.1, hmx.2.2.1⟩)
        rcases Nat.lt_trichotomy m' mst with c | c | c
        · omega
        · exact c
        · exact absurd a3 (hmx.2.2.2 _ c)
      subst hmx'
      have s7 := (((s3.ext e4).ext e5).ext e6).ext e7
      have e47 := (e5.trans e6).trans e7
      have WH7 := WH.mono e47
      have tab7 := tab.mono e47
      have kF7 := e7 _ _ k6
      have nFw : F ≠ w := ((s3.ext e4).ext e5).well.ne hF
      clear hm1 hm2 inl k7 e4 e5 e6 e7 e47 WH tab k6 hml s3 g1 g2 g3 dt dk
      walk_at "go"
      refine ⟨L, n, d, p, rfl, WH7, W, hn, fun m H8 e8 hm => ?_⟩
      obtain rfl := hm.one hmx
      walk_at "go"
      refine ⟨_, rfl, ?_⟩
      refine r_truB (if_nT ?_)
      walk_at "go"
      refine ⟨L, n, d, p, rfl, WH7.mono e8, W, hn, fun m2 H9 e9 hm2 => ?_⟩
      obtain rfl := hm2.one hmx
      walk_at "go"
      refine ⟨_, rfl, ?_⟩
      refine r_truB (if_nT ?_)
      walk_at "go"
      have tab9 := tab7.mono (e8.trans e9)
      obtain ⟨ds, dl, dt, dk⟩ := tab9.ex
      refine r_lenL (l_of dt) ?_
      rw [List.length_map, dl]
      walk_at "go"
      have s9 := (s7.ext e8).ext e9
      refine r_lstRg (by omega) (by omega) (by omega) (by omega) fun p1 Ha hp1 ea ka => ?_
      have z9 := DrS.refl s9.well
      have kF9 := (e8.trans e9) _ _ kF7
      have WH9 := WH7.mono (e8.trans e9)
      have sa := z9.ext ea
      walk_at "go"
      refine r_pow (a := 4) (k := 60) (by decide) (by decide) (by decide) ?_
      walk_at "go"
      refine ⟨w, _, _, rfl, by decide, by decide, sa.well, by omega, fun r1 Hb r10 r11 eb wb => ?_⟩
      have sb := sa.on eb wb
      have kb := eb _ _ ka (s9.well.ne hp1)
      walk_at "go"
      refine r_newL (by simp) fun p2 Hc hp2 ec kc => ?_
      walk_at "go"
      have lr : (rgI 1 ((n : Int) + 2)).length = n + 1 := by unfold rgI; rw [List.length_map, List.length_range]; omega
      refine r_catL (ec _ _ kb) kc (by rw [List.length_map, lr]; simp; omega) fun pl Hd hpl ed kd => ?_
      have sd := (sb.ext ec).ext ed
      have npw : pl ≠ w := (sb.ext ec).well.ne hpl
      have hpl9 : H9 pl = none := (sb.ext ec).fresh hpl
      have kd : Hd pl = some (.lst (((rgI 1 ((n : Int) + 2)) ++ [6 + r1]).map V.int)) := by
        rw [kd, List.map_append]; rfl
      have ge1 : ∀ x ∈ (rgI 1 ((n : Int) + 2)) ++ [6 + r1], 1 ≤ x := fun x hx => by
        rcases List.mem_append.mp hx with hx | hx
        · unfold rgI at hx
          obtain ⟨y, _, rfl⟩ := List.mem_map.mp hx
          omega
        · rw [List.mem_singleton.mp hx]; omega
      have lps : ((rgI 1 ((n : Int) + 2)) ++ [6 + r1]).length = n + 2 := by rw [List.length_append, lr]; rfl
      generalize (rgI 1 ((n : Int) + 2)) ++ [6 + r1] = ps at kd ge1 lps
      clear ea ka hp1 eb wb kb sa hp2 ec kc sb hpl ed lr
      walk_at "go"
      refine r_lenL (l_of kd) ?_
      rw [List.length_map, lps]
      walk_at "go"
      refine r_rng1 (by omega) (by omega) ?_
      rw [show (((n + 2 : Nat)) : Int).toNat = n + 2 by omega]
      refine r_forR (lo := 0) (m := n + 2) (fun i σ' H' => ∃ (qs : List Int) (v6 v7 v8 v9 : Option V), DrS w H9 (300 + i) H' ∧ H' pl = some (.lst (qs.map V.int)) ∧ (∀ x ∈ qs, 1 ≤ x) ∧ qs.length + i = n + 2 ∧
        σ' = [some (.ref w), some (.ref p), some (.ref t), some (.ref F), some (.int (m2 : Int)), some (.ref pl), v6, v7, v8, v9]) ⟨ps, none, none, none, none, sd.more (by omega), kd, ge1, lps, rfl⟩ (fun i σ' H' hi z => ?_) fun σ' H' z => ?_
      · obtain ⟨qs, v6, v7, v8, v9, si, kq, gq, lq, rfl⟩ := z
        walk_at "go"
        refine r_pa (l_of kq) ?_
        walk_at "go"
        refine r_lenL (l_of kq) ?_
        rw [List.length_map]
        walk_at "go"
        refine ⟨w, _, _, rfl, by omega, by omega, si.well, by omega, fun r Hr r0 r1 er wr => ?_⟩
        have sr := si.on er wr
        have kr := er _ _ kq npw
        walk_at "go"
        have hk := List.getElem?_eq_getElem (show r.toNat < qs.length by omega)
        generalize qs[r.toNat] = x at hk
        have hx1 := gq x (List.mem_of_getElem? hk)
        refine r_popA kr r0 (by rw [List.length_map]; omega) (v := .int x) (by rw [List.getElem?_map, hk]; rfl) fun He ee ke => ?_
        have se := sr.mut ee hpl9 npw
        have WHe := WH9.tx (TX.w se.ex s9.well)
        have tabe := tab9.w s9.well se.ex
        have kFe := se.ex _ _ kF9 nFw
        rw [erase_map] at ke
        have gq2 : ∀ y ∈ qs.eraseIdx r.toNat, 1 ≤ y := fun y hy => gq y (List.eraseIdx_subset hy)
        have lq2 : (qs.eraseIdx r.toNat).length + (i + 1) = n + 2 := by rw [List.length_eraseIdx_of_lt (by omega)]; omega
        obtain ⟨rr, ys, g1, g2, g3⟩ := WHe.ex
        obtain ⟨du, dul, dut, _⟩ := tabe.ex
        walk_at "go"
        refine r_lenL (l_of kFe) ?_
        rw [List.length_map, hsl]
        walk_at "go"
        refine and_due (fun b => b = true ↔ ∃ m : Nat, x = m ∧ Wb.Circ d n m) (fun c Q' kk => ?_) (fun c => ?_) fun b hb => ?_
        · have hlt := of_decide_eq_true c
          obtain ⟨b', hb', hb2⟩ := hold_len hsl hh (k := x.toNat) (by omega)
          walk_at "go"
          refine r_ixL (l_of kFe) (v := .bl b') (atI_at (by omega) (by rw [List.getElem?_map, hb']; rfl)) ?_
          refine kk b' ?_
          rw [hb2]
          constructor
          · rintro ⟨_, c⟩; exact ⟨x.toNat, by omega, c⟩
          · rintro ⟨m, hm, c⟩
            have : x.toNat = m := by omega
            rw [this]
            exact ⟨by omega, c⟩
        · have hge := of_decide_eq_false c
          constructor
          · intro z; cases z
          · rintro ⟨m, hm, c⟩
            have := Wb.circ_le c
            omega
        walk_at "go"
        refine ⟨L, n, d, p, x, rfl, WHe, W, hn, hx1, fun hno Hf ef => ?_, fun m p' u Hf ef hxm hc hp' zu gu hm => ?_⟩
        · walk_at "go"
          refine r_ixT (ex_t ef g1) rfl ?_
          walk_at "go"
          have bf : b = false := by
            cases b with
            | false => rfl
            | true => obtain ⟨m, h1, h2⟩ := hb.mp rfl; exact absurd h2 (hno m h1)
          subst bf
          refine ⟨L, n, d, t, .non, x, false, rfl, tabe.mono ef, W.gr, W.pos, hn, .inl ⟨rfl, rfl⟩, fun Hg eg => ?_⟩
          refine r_truB (if_nT ?_)
          have efg := ef.trans eg
          walk_at "go"
          refine r_ixT (ex_t efg g1) rfl ?_
          walk_at "go"
          refine ⟨L, n, d, p, x, rfl, WHe.mono efg, W, hn, hx1, fun _ Hh eh => ?_, fun m p' u Hf ef hxm hc _ _ _ _ => absurd hc (hno m hxm)⟩
          walk_at "go"
          refine ⟨L, n, d, t, .non, x, false, rfl, tabe.mono (efg.trans eh), W.gr, W.pos, hn, .inl ⟨rfl, rfl⟩, fun Hi ei => ?_⟩
          refine r_truB (if_nT ?_)
          have ex := (efg.trans eh).trans ei
          exact ⟨_, _, _, _, _, (se.ext ex).more (by omega), ex _ _ ke, gq2, lq2, rfl⟩
        · walk_at "go"
          refine r_ixT (ex_t ef g1) rfl ?_
          walk_at "go"
          obtain rfl : b = true := hb.mpr ⟨m, hxm, hc⟩
          have m1 : 1 ≤ m := by omega
          have mn := Wb.circ_le hc
          refine ⟨L, n, d, t, .ref p', x, true, rfl, tabe.mono ef, W.gr, W.pos, hn, .inr ⟨rfl, p', u, m, rfl, hxm, hp', zu, gu, m1, mn, hm⟩, fun Hg eg => ?_⟩
          refine r_truB (if_nT ?_)
          have efg := ef.trans eg
          walk_at "go"
          refine r_ixT (ex_t efg g1) rfl ?_
          walk_at "go"
          refine ⟨L, n, d, p, x, rfl, WHe.mono efg, W, hn, hx1, fun hno Hh eh => absurd hc (hno m hxm), fun m' p2 u2 Hh eh hxm2 hc2 hp2 zu2 gu2 hm2 => ?_⟩
          walk_at "go"
          refine ⟨L, n, d, t, .ref p2, x, true, rfl, tabe.mono (efg.trans eh), W.gr, W.pos, hn, .inr ⟨rfl, p2, u2, m', rfl, hxm2, hp2, zu2, gu2, by omega, Wb.circ_le hc2, hm2⟩, fun Hi ei => ?_⟩
          refine r_truB (if_nT ?_)
          have ex := (efg.trans eh).trans ei
          exact ⟨_, _, _, _, _, (se.ext ex).more (by omega), ex _ _ ke, gq2, lq2, rfl⟩
      · obtain ⟨qs, v6, v7, v8, v9, si, kq, gq, lq, rfl⟩ := z
        have WHe := WH9.tx (TX.w si.ex s9.well)
        walk_at "go"
        refine ⟨L, n, d, p, rfl, WHe, W, hn, fun m Hf ef hm => ?_⟩
        obtain rfl := hm.one hmx
        walk_at "go"
        refine ⟨_, rfl, ?_⟩
        refine ⟨_, rfl, ?_⟩
        rw [if_pos rfl]
        walk_at "go"
        refine ⟨L, n, d, p, rfl, WHe.mono ef, W, hn, fun m3 Hg eg hm3 => ?_⟩
        obtain rfl := hm3.one hmx
        walk_at "go"
        refine ⟨_, rfl, ?_⟩
        exact q Hg (fun c o h hne => (ef.trans eg) _ _ (si.ex _ _ (s9.ex _ _ h hne) hne))
  walk_at "end"
end
end Lw
namespace Lw
open PySem PySem.Spec PyProof.Rows L2 Evl
local macro_rules | `(tactic| walk_at "go") => `(tactic| repeat (first
  | with_reducible refine st_seq ?_ | with_reducible refine st_set ?_ | with_reducible refine st_asg ?_ | with_reducible refine st_ret ?_ | with_reducible refine st_drop ?_ | with_reducible refine st_if ?_
  | with_reducible refine st_c ?_ | ((with_reducible refine' st_v ?h ?_); (case h => exact rfl)) | with_reducible refine st_n ?_ | with_reducible refine st_cons ?_ | with_reducible refine st_op ?_ | with_reducible refine st_un ?_
  | with_reducible refine st_cb ?_ | with_reducible refine st_test ?_ | with_reducible refine st_call ?_ | with_reducible refine st_callK ?_ | with_reducible refine st_sl ?_ | with_reducible refine st_par ?_ | with_reducible refine st_par3 ?_ | with_reducible refine st_tru ?_
  | with_reducible refine st_and ?_ | with_reducible refine st_or ?_ | with_reducible refine st_not ?_ | with_reducible refine st_B ?_ | with_reducible refine st_andV ?_ | with_reducible refine st_orV ?_ | with_reducible refine st_notV ?_ | with_reducible refine st_ifE ?_
  | with_reducible refine st_part ?_ | with_reducible refine st_nop ?_ | with_reducible refine st_sub ?_ | with_reducible refine st_chain ?_ | with_reducible refine st_chain3 ?_ | with_reducible refine st_lenSet ?_ | with_reducible refine st_bl ?_ | with_reducible refine st_in ?_ | with_reducible refine r_truB ?_
  | with_reducible refine st_nameG ?_ | with_reducible refine if_T ?_ | with_reducible refine if_F ?_ | with_reducible refine if_nT ?_ | with_reducible refine if_nF ?_
  | with_reducible refine r_add ?_ | with_reducible refine r_0 ?_ | with_reducible refine r_neg ?_ | with_reducible refine r_intI ?_ | with_reducible refine r_intB ?_ | with_reducible refine r_abs ?_ | with_reducible refine r_max2 ?_ | with_reducible refine r_min2 ?_ | with_reducible refine r_eqI ?_ | with_reducible refine r_neI ?_
  | with_reducible refine st_nxt ?_ | with_reducible refine st_cnt ?_ | with_reducible refine st_brk ?_ | with_reducible refine st_retn ?_
  | with_reducible refine st_lstN ?_ | with_reducible refine st_tupN ?_
  | with_reducible refine st_for ?_ | with_reducible refine st_lc ?_ | with_reducible refine st_lc2 ?_ | with_reducible refine st_rng1 ?_ | with_reducible refine st_rng2 ?_ | with_reducible refine st_rng3 ?_ | with_reducible refine st_itL ?_ | with_reducible refine st_itT ?_ | with_reducible refine st_rev ?_ | with_reducible refine st_enumE ?_ | with_reducible refine st_zip3 ?_ | with_reducible refine st_lvals ?_ | with_reducible refine st_fld ?_ | with_reducible refine st_sfld ?_ | with_reducible refine st_meth ?_ | with_reducible refine st_make ?_ | with_reducible refine st_rg1 ?_ | with_reducible refine st_enumS ?_ | with_reducible refine st_enumD ?_ | with_reducible refine st_lstIt ?_ | with_reducible refine st_dg1 ?_ | with_reducible refine st_dg2 ?_ | with_reducible refine st_dpop ?_ | with_reducible refine st_dset ?_ | with_reducible refine st_ckw ?_ | with_reducible refine st_dsetT ?_ | with_reducible refine st_dnewT ?_ | with_reducible refine st_dc ?_ | with_reducible refine st_keys ?_ | with_reducible refine st_dget ?_ | with_reducible refine st_din ?_ | with_reducible refine st_dnin ?_ | with_reducible refine st_dput ?_ | with_reducible refine st_dnew ?_ | with_reducible refine st_lstRg ?_ | with_reducible refine st_rg2 ?_ | with_reducible refine r_twoI ?_ | with_reducible refine st_bm ?_ | with_reducible refine st_bm0 ?_
  | ((with_reducible refine' st_aug ?h ?_); (case h => exact rfl)) | with_reducible refine r_augI ?_ | with_reducible refine r_eqB ?_
  | dsimp only))
section
variable {P : Program} {w : World} {K : PySem.W.Frag} {mg : Str → Option Value} {base : Heap} {A : Ad}
def sp_law (K : PySem.W.Frag) : Sp := fun vs H Q _ => ∃ (a : Addr) (ns : List Int), vs = [.ref a] ∧ SqL K H a (ns.map V.int) ∧ ns.length ≤ 63 ∧ ∀ H', Q (.bl true) H'
theorem ok_law (T : Tx K mg A) : FnOk P w K mg base CX0 8 A.a_law A.f_law P_law (sp_law K) := by
  refine Qt.drp ?_ ?_
  · refine T.F_law.ok sc_law (fun vs H Q E h => ?_) (fun cdv A' outer s H vs Q E hr h => ?_)
    · obtain ⟨a, ns, rfl, _⟩ := h
      rfl
    · obtain ⟨a, sc, rfl, hS, hlen, q⟩ := h
      refine ⟨_, (pss_cons (ps_for PassesOwn.never rfl (pi_range1 (by rfl) T.n_range (pa_cons (pe_callB (max2_K rfl) (by rfl) T.n_max (by decide +kernel) (pa_cons pe_int (pa_cons (pe_callB (min2_K rfl) (by rfl) T.n_min (by decide +kernel) (pa_cons pe_int (pa_cons (pe_callB (len_K K) (by rfl) T.n_len (by decide +kernel) (pa_cons (pv 0) pa_nil)) pa_nil))) pa_nil))) pa_nil)) (pg_name (i := 1) sc_law.nd rfl (Or.inl rfl)) (pss_one (ps_if (pt_not (pt_truK K (pe_call (ok__law_right T) (hr.mono (by decide)) (by rfl) T.g__law_right T.F__law_right.kp T.b__law_right .nil pass0 (pa_cons (pe_call (ok__law_pot T) (hr.mono (by decide)) (by rfl) T.g__law_pot T.F__law_pot.kp T.b__law_pot .nil pass0 (pa_cons (pv 0) (pa_cons (pv 1) pa_nil))) pa_nil)))) (pss_one (ps_ret pe_bl)) pss_nil)))
        (pss_one (ps_ret pe_bl))), ?_⟩
      walk_at "go"
      refine r_lenL hS ?_
      walk_at "go"
      rw [List.length_map]
      refine r_rng1 (by omega) (by omega) (r_forR (m := (max (1 : Int) (min 3 (sc.length : Int))).toNat) (fun i σ' H' => ∃ vk, Ex H H' ∧ σ' = [some (.ref a), vk]) ⟨none, Ex.refl H, rfl⟩ ?_ ?_)
      · rintro i σ' H1 hi ⟨vk, e1, rfl⟩
        walk_at "go"
        refine ⟨a, sc, _, rfl, ex_l e1 hS, hlen, by omega, by omega, fun w H2 hw e2 d2 => ?_⟩
        have hw0 : H w = none := fresh_back e1 hw
        walk_at "go"
        refine ⟨w, rfl, d2, fun H3 e3 => ?_⟩
        refine r_truB (if_nT ?_)
        exact ⟨_, fun b o hb => e3 b o (e2 b o (e1 b o hb)) (ne_of_none hb hw0), rfl⟩
      · rintro σ' H' ⟨vk, e1, rfl⟩
        walk_at "go"
        exact q H'
  walk_at "end"
end
end Lw
namespace Lw
open PySem PySem.Spec PyProof.Rows L2 Evl
local macro_rules | `(tactic| walk_at "go") => `(tactic| repeat (first
  | with_reducible refine st_seq ?_ | with_reducible refine st_set ?_ | with_reducible refine st_asg ?_ | with_reducible refine st_ret ?_ | with_reducible refine st_drop ?_ | with_reducible refine st_if ?_
  | with_reducible refine st_c ?_ | ((with_reducible refine' st_v ?h ?_); (case h => exact rfl)) | with_reducible refine st_n ?_ | with_reducible refine st_cons ?_ | with_reducible refine st_op ?_ | with_reducible refine st_un ?_
  | with_reducible refine st_cb ?_ | with_reducible refine st_test ?_ | with_reducible refine st_call ?_ | with_reducible refine st_callK ?_ | with_reducible refine st_sl ?_ | with_reducible refine st_par ?_ | with_reducible refine st_par3 ?_ | with_reducible refine st_tru ?_
  | with_reducible refine st_and ?_ | with_reducible refine st_or ?_ | with_reducible refine st_not ?_ | with_reducible refine st_B ?_ | with_reducible refine st_andV ?_ | with_reducible refine st_orV ?_ | with_reducible refine st_notV ?_ | with_reducible refine st_ifE ?_
  | with_reducible refine st_part ?_ | with_reducible refine st_nop ?_ | with_reducible refine st_sub ?_ | with_reducible refine st_chain ?_ | with_reducible refine st_chain3 ?_ | with_reducible refine st_lenSet ?_ | with_reducible refine st_bl ?_ | with_reducible refine st_in ?_ | with_reducible refine r_truB ?_
  | with_reducible refine st_nameG ?_ | with_reducible refine if_T ?_ | with_reducible refine if_F ?_ | with_reducible refine if_nT ?_ | with_reducible refine if_nF ?_
  | with_reducible refine r_add ?_ | with_reducible refine r_0 ?_ | with_reducible refine r_neg ?_ | with_reducible refine r_intI ?_ | with_reducible refine r_intB ?_ | with_reducible refine r_abs ?_ | with_reducible refine r_max2 ?_ | with_reducible refine r_min2 ?_ | with_reducible refine r_eqI ?_ | with_reducible refine r_neI ?_
  | with_reducible refine st_nxt ?_ | with_reducible refine st_cnt ?_ | with_reducible refine st_brk ?_ | with_reducible refine st_retn ?_
  | with_reducible refine st_lstN ?_ | with_reducible refine st_tupN ?_
  | with_reducible refine st_for ?_ | with_reducible refine st_lc ?_ | with_reducible refine st_lc2 ?_ | with_reducible refine st_rng1 ?_ | with_reducible refine st_rng2 ?_ | with_reducible refine st_rng3 ?_ | with_reducible refine st_itL ?_ | with_reducible refine st_itT ?_ | with_reducible refine st_rev ?_ | with_reducible refine st_enumE ?_ | with_reducible refine st_zip3 ?_ | with_reducible refine st_lvals ?_ | with_reducible refine st_fld ?_ | with_reducible refine st_sfld ?_ | with_reducible refine st_meth ?_ | with_reducible refine st_make ?_ | with_reducible refine st_rg1 ?_ | with_reducible refine st_enumS ?_ | with_reducible refine st_enumD ?_ | with_reducible refine st_lstIt ?_ | with_reducible refine st_dg1 ?_ | with_reducible refine st_dg2 ?_ | with_reducible refine st_dpop ?_ | with_reducible refine st_dset ?_ | with_reducible refine st_ckw ?_ | with_reducible refine st_dsetT ?_ | with_reducible refine st_dnewT ?_ | with_reducible refine st_dc ?_ | with_reducible refine st_keys ?_ | with_reducible refine st_dget ?_ | with_reducible refine st_din ?_ | with_reducible refine st_dnin ?_ | with_reducible refine st_dput ?_ | with_reducible refine st_dnew ?_ | with_reducible refine st_lstRg ?_ | with_reducible refine st_rg2 ?_ | with_reducible refine r_twoI ?_ | with_reducible refine st_bm ?_ | with_reducible refine st_bm0 ?_
  | ((with_reducible refine' st_aug ?h ?_); (case h => exact rfl)) | with_reducible refine r_augI ?_ | with_reducible refine r_eqB ?_
  | dsimp only))
theorem all_mk {l : PySem.W.OpenLaw} {w : World} {K : PySem.W.Frag} {h : Heap} {mg : Str → Option Value} {fa : Addr} {f_is_integer f_steps_of f_straightened f_turned_back f_step_table f_ways_together f__law_pot f__law_draw f__law_steps f__law_doors f__law_rings f__law_short f__law_is_integer f__law_rounds f__law_truth f_is_letters f_check_least f_is_row f_first_reached f_walk_in_circle f__law_web f__law_straight f__law_tables f__law_all_tables f__law_round f__law_is_walk f_has_web_form f_first_ways f_most_in_circle f__law_drawn f__law_walk_right f_right_table f_checked_table f_power_walk f_greatest_power f_is_rooted f__law_right f_law dT_first_reached : Addr} (X : K.In h) (G : h.Ns mainGlobals mg) (hfa : mg "law" = some (.ref fa))
    {ocT_first_reached : Value} {odT_first_reached : Option Addr} {nT_first_reached : Nat} {slT_first_reached : Array (Option Value)} {dt0_first_reached : Tok}
    {od_is_integer an_is_integer od_steps_of an_steps_of od_straightened an_straightened od_turned_back an_turned_back od_step_table an_step_table od_ways_together an_ways_together od__law_pot an__law_pot od__law_draw an__law_draw od__law_steps an__law_steps od__law_doors an__law_doors od__law_rings an__law_rings od__law_short an__law_short od__law_is_integer an__law_is_integer od__law_rounds an__law_rounds od__law_truth an__law_truth od_is_letters an_is_letters od_check_least an_check_least od_is_row an_is_row od_first_reached an_first_reached od_walk_in_circle an_walk_in_circle od__law_web an__law_web od__law_straight an__law_straight od__law_tables an__law_tables od__law_all_tables an__law_all_tables od__law_round an__law_round od__law_is_walk an__law_is_walk od_has_web_form an_has_web_form od_first_ways an_first_ways od_most_in_circle an_most_in_circle od__law_drawn an__law_drawn od__law_walk_right an__law_walk_right od_right_table an_right_table od_checked_table an_checked_table od_power_walk an_power_walk od_greatest_power an_greatest_power od_is_rooted an_is_rooted od__law_right an__law_right od_law an_law : Option Addr} {sl_is_integer sl_steps_of sl_straightened sl_turned_back sl_step_table sl_ways_together sl__law_pot sl__law_draw sl__law_steps sl__law_doors sl__law_rings sl__law_short sl__law_is_integer sl__law_rounds sl__law_truth sl_is_letters sl_check_least sl_is_row sl_first_reached sl_walk_in_circle sl__law_web sl__law_straight sl__law_tables sl__law_all_tables sl__law_round sl__law_is_walk sl_has_web_form sl_first_ways sl_most_in_circle sl__law_drawn sl__law_walk_right sl_right_table sl_checked_table sl_power_walk sl_greatest_power sl_is_rooted sl__law_right sl_law : Array (Option Value)} {oc_is_integer kV_is_integer dc_is_integer pm_is_integer cd_is_integer ct_is_integer oc_steps_of kV_steps_of dc_steps_of pm_steps_of cd_steps_of ct_steps_of oc_straightened kV_straightened dc_straightened pm_straightened cd_straightened ct_straightened oc_turned_back kV_turned_back dc_turned_back pm_turned_back cd_turned_back ct_turned_back oc_step_table kV_step_table dc_step_table pm_step_table cd_step_table ct_step_table oc_ways_together kV_ways_together dc_ways_together pm_ways_together cd_ways_together ct_ways_together oc__law_pot kV__law_pot dc__law_pot pm__law_pot cd__law_pot ct__law_pot oc__law_draw kV__law_draw dc__law_draw pm__law_draw cd__law_draw ct__law_draw oc__law_steps kV__law_steps dc__law_steps pm__law_steps cd__law_steps ct__law_steps oc__law_doors kV__law_doors dc__law_doors pm__law_doors cd__law_doors ct__law_doors oc__law_rings kV__law_rings dc__law_rings pm__law_rings cd__law_rings ct__law_rings oc__law_short kV__law_short dc__law_short pm__law_short cd__law_short ct__law_short oc__law_is_integer kV__law_is_integer dc__law_is_integer pm__law_is_integer cd__law_is_integer ct__law_is_integer oc__law_rounds kV__law_rounds dc__law_rounds pm__law_rounds cd__law_rounds ct__law_rounds oc__law_truth kV__law_truth dc__law_truth pm__law_truth cd__law_truth ct__law_truth oc_is_letters kV_is_letters dc_is_letters pm_is_letters cd_is_letters ct_is_letters oc_check_least kV_check_least dc_check_least pm_check_least cd_check_least ct_check_least oc_is_row kV_is_row dc_is_row pm_is_row cd_is_row ct_is_row oc_first_reached kV_first_reached dc_first_reached pm_first_reached cd_first_reached ct_first_reached oc_walk_in_circle kV_walk_in_circle dc_walk_in_circle pm_walk_in_circle cd_walk_in_circle ct_walk_in_circle oc__law_web kV__law_web dc__law_web pm__law_web cd__law_web ct__law_web oc__law_straight kV__law_straight dc__law_straight pm__law_straight cd__law_straight ct__law_straight oc__law_tables kV__law_tables dc__law_tables pm__law_tables cd__law_tables ct__law_tables oc__law_all_tables kV__law_all_tables dc__law_all_tables pm__law_all_tables cd__law_all_tables ct__law_all_tables oc__law_round kV__law_round dc__law_round pm__law_round cd__law_round ct__law_round oc__law_is_walk kV__law_is_walk dc__law_is_walk pm__law_is_walk cd__law_is_walk ct__law_is_walk oc_has_web_form kV_has_web_form dc_has_web_form pm_has_web_form cd_has_web_form ct_has_web_form oc_first_ways kV_first_ways dc_first_ways pm_first_ways cd_first_ways ct_first_ways oc_most_in_circle kV_most_in_circle dc_most_in_circle pm_most_in_circle cd_most_in_circle ct_most_in_circle oc__law_drawn kV__law_drawn dc__law_drawn pm__law_drawn cd__law_drawn ct__law_drawn oc__law_walk_right kV__law_walk_right dc__law_walk_right pm__law_walk_right cd__law_walk_right ct__law_walk_right oc_right_table kV_right_table dc_right_table pm_right_table cd_right_table ct_right_table oc_checked_table kV_checked_table dc_checked_table pm_checked_table cd_checked_table ct_checked_table oc_power_walk kV_power_walk dc_power_walk pm_power_walk cd_power_walk ct_power_walk oc_greatest_power kV_greatest_power dc_greatest_power pm_greatest_power cd_greatest_power ct_greatest_power oc_is_rooted kV_is_rooted dc_is_rooted pm_is_rooted cd_is_rooted ct_is_rooted oc__law_right kV__law_right dc__law_right pm__law_right cd__law_right ct__law_right oc_law kV_law dc_law pm_law cd_law ct_law : Value} {tc_MOST_LETTERS : Tok}
    (a_is_integer : PySem.W.nsIn K mainGlobals "is_integer" = some (some (.ref f_is_integer))) (l_is_integer : K.lookup f_is_integer = some ⟨oc_is_integer, od_is_integer, .func (PySem.W.fnOf "is_integer" "is_integer" (defArgs s_is_integer) (defBody s_is_integer) (defScope s_is_integer) .none kV_is_integer dc_is_integer pm_is_integer an_is_integer cd_is_integer ct_is_integer), sl_is_integer⟩) (c_is_integer : PySem.W.codeIn K cd_is_integer "is_integer" = true) (k_is_integer : PySem.W.keepIn K (.ref f_is_integer) = true)
    (a_steps_of : PySem.W.nsIn K mainGlobals "steps_of" = some (some (.ref f_steps_of))) (l_steps_of : K.lookup f_steps_of = some ⟨oc_steps_of, od_steps_of, .func (PySem.W.fnOf "steps_of" "steps_of" (defArgs s_steps_of) (defBody s_steps_of) (defScope s_steps_of) .none kV_steps_of dc_steps_of pm_steps_of an_steps_of cd_steps_of ct_steps_of), sl_steps_of⟩) (c_steps_of : PySem.W.codeIn K cd_steps_of "steps_of" = true) (k_steps_of : PySem.W.keepIn K (.ref f_steps_of) = true)
    (a_straightened : PySem.W.nsIn K mainGlobals "straightened" = some (some (.ref f_straightened))) (l_straightened : K.lookup f_straightened = some ⟨oc_straightened, od_straightened, .func (PySem.W.fnOf "straightened" "straightened" (defArgs s_straightened) (defBody s_straightened) (defScope s_straightened) .none kV_straightened dc_straightened pm_straightened an_straightened cd_straightened ct_straightened), sl_straightened⟩) (c_straightened : PySem.W.codeIn K cd_straightened "straightened" = true) (k_straightened : PySem.W.keepIn K (.ref f_straightened) = true)
    (a_turned_back : PySem.W.nsIn K mainGlobals "turned_back" = some (some (.ref f_turned_back))) (l_turned_back : K.lookup f_turned_back = some ⟨oc_turned_back, od_turned_back, .func (PySem.W.fnOf "turned_back" "turned_back" (defArgs s_turned_back) (defBody s_turned_back) (defScope s_turned_back) .none kV_turned_back dc_turned_back pm_turned_back an_turned_back cd_turned_back ct_turned_back), sl_turned_back⟩) (c_turned_back : PySem.W.codeIn K cd_turned_back "turned_back" = true) (k_turned_back : PySem.W.keepIn K (.ref f_turned_back) = true)
    (a_step_table : PySem.W.nsIn K mainGlobals "step_table" = some (some (.ref f_step_table))) (l_step_table : K.lookup f_step_table = some ⟨oc_step_table, od_step_table, .func (PySem.W.fnOf "step_table" "step_table" (defArgs s_step_table) (defBody s_step_table) (defScope s_step_table) .none kV_step_table dc_step_table pm_step_table an_step_table cd_step_table ct_step_table), sl_step_table⟩) (c_step_table : PySem.W.codeIn K cd_step_table "step_table" = true) (k_step_table : PySem.W.keepIn K (.ref f_step_table) = true)
    (a_ways_together : PySem.W.nsIn K mainGlobals "ways_together" = some (some (.ref f_ways_together))) (l_ways_together : K.lookup f_ways_together = some ⟨oc_ways_together, od_ways_together, .func (PySem.W.fnOf "ways_together" "ways_together" (defArgs s_ways_together) (defBody s_ways_together) (defScope s_ways_together) .none kV_ways_together dc_ways_together pm_ways_together an_ways_together cd_ways_together ct_ways_together), sl_ways_together⟩) (c_ways_together : PySem.W.codeIn K cd_ways_together "ways_together" = true) (k_ways_together : PySem.W.keepIn K (.ref f_ways_together) = true)
    (a__law_pot : PySem.W.nsIn K mainGlobals "_law_pot" = some (some (.ref f__law_pot))) (l__law_pot : K.lookup f__law_pot = some ⟨oc__law_pot, od__law_pot, .func (PySem.W.fnOf "_law_pot" "_law_pot" (defArgs s__law_pot) (defBody s__law_pot) (defScope s__law_pot) .none kV__law_pot dc__law_pot pm__law_pot an__law_pot cd__law_pot ct__law_pot), sl__law_pot⟩) (c__law_pot : PySem.W.codeIn K cd__law_pot "_law_pot" = true) (k__law_pot : PySem.W.keepIn K (.ref f__law_pot) = true)
    (a__law_draw : PySem.W.nsIn K mainGlobals "_law_draw" = some (some (.ref f__law_draw))) (l__law_draw : K.lookup f__law_draw = some ⟨oc__law_draw, od__law_draw, .func (PySem.W.fnOf "_law_draw" "_law_draw" (defArgs s__law_draw) (defBody s__law_draw) (defScope s__law_draw) .none kV__law_draw dc__law_draw pm__law_draw an__law_draw cd__law_draw ct__law_draw), sl__law_draw⟩) (c__law_draw : PySem.W.codeIn K cd__law_draw "_law_draw" = true) (k__law_draw : PySem.W.keepIn K (.ref f__law_draw) = true)
    (a__law_steps : PySem.W.nsIn K mainGlobals "_law_steps" = some (some (.ref f__law_steps))) (l__law_steps : K.lookup f__law_steps = some ⟨oc__law_steps, od__law_steps, .func (PySem.W.fnOf "_law_steps" "_law_steps" (defArgs s__law_steps) (defBody s__law_steps) (defScope s__law_steps) .none kV__law_steps dc__law_steps pm__law_steps an__law_steps cd__law_steps ct__law_steps), sl__law_steps⟩) (c__law_steps : PySem.W.codeIn K cd__law_steps "_law_steps" = true) (k__law_steps : PySem.W.keepIn K (.ref f__law_steps) = true)
    (a__law_doors : PySem.W.nsIn K mainGlobals "_law_doors" = some (some (.ref f__law_doors))) (l__law_doors : K.lookup f__law_doors = some ⟨oc__law_doors, od__law_doors, .func (PySem.W.fnOf "_law_doors" "_law_doors" (defArgs s__law_doors) (defBody s__law_doors) (defScope s__law_doors) .none kV__law_doors dc__law_doors pm__law_doors an__law_doors cd__law_doors ct__law_doors), sl__law_doors⟩) (c__law_doors : PySem.W.codeIn K cd__law_doors "_law_doors" = true) (k__law_doors : PySem.W.keepIn K (.ref f__law_doors) = true)
    (a__law_rings : PySem.W.nsIn K mainGlobals "_law_rings" = some (some (.ref f__law_rings))) (l__law_rings : K.lookup f__law_rings = some ⟨oc__law_rings, od__law_rings, .func (PySem.W.fnOf "_law_rings" "_law_rings" (defArgs s__law_rings) (defBody s__law_rings) (defScope s__law_rings) .none kV__law_rings dc__law_rings pm__law_rings an__law_rings cd__law_rings ct__law_rings), sl__law_rings⟩) (c__law_rings : PySem.W.codeIn K cd__law_rings "_law_rings" = true) (k__law_rings : PySem.W.keepIn K (.ref f__law_rings) = true)
    (a__law_short : PySem.W.nsIn K mainGlobals "_law_short" = some (some (.ref f__law_short))) (l__law_short : K.lookup f__law_short = some ⟨oc__law_short, od__law_short, .func (PySem.W.fnOf "_law_short" "_law_short" (defArgs s__law_short) (defBody s__law_short) (defScope s__law_short) .none kV__law_short dc__law_short pm__law_short an__law_short cd__law_short ct__law_short), sl__law_short⟩) (c__law_short : PySem.W.codeIn K cd__law_short "_law_short" = true) (k__law_short : PySem.W.keepIn K (.ref f__law_short) = true)
    (a__law_is_integer : PySem.W.nsIn K mainGlobals "_law_is_integer" = some (some (.ref f__law_is_integer))) (l__law_is_integer : K.lookup f__law_is_integer = some ⟨oc__law_is_integer, od__law_is_integer, .func (PySem.W.fnOf "_law_is_integer" "_law_is_integer" (defArgs s__law_is_integer) (defBody s__law_is_integer) (defScope s__law_is_integer) .none kV__law_is_integer dc__law_is_integer pm__law_is_integer an__law_is_integer cd__law_is_integer ct__law_is_integer), sl__law_is_integer⟩) (c__law_is_integer : PySem.W.codeIn K cd__law_is_integer "_law_is_integer" = true) (k__law_is_integer : PySem.W.keepIn K (.ref f__law_is_integer) = true)
    (a__law_rounds : PySem.W.nsIn K mainGlobals "_law_rounds" = some (some (.ref f__law_rounds))) (l__law_rounds : K.lookup f__law_rounds = some ⟨oc__law_rounds, od__law_rounds, .func (PySem.W.fnOf "_law_rounds" "_law_rounds" (defArgs s__law_rounds) (defBody s__law_rounds) (defScope s__law_rounds) .none kV__law_rounds dc__law_rounds pm__law_rounds an__law_rounds cd__law_rounds ct__law_rounds), sl__law_rounds⟩) (c__law_rounds : PySem.W.codeIn K cd__law_rounds "_law_rounds" = true) (k__law_rounds : PySem.W.keepIn K (.ref f__law_rounds) = true)
    (a__law_truth : PySem.W.nsIn K mainGlobals "_law_truth" = some (some (.ref f__law_truth))) (l__law_truth : K.lookup f__law_truth = some ⟨oc__law_truth, od__law_truth, .func (PySem.W.fnOf "_law_truth" "_law_truth" (defArgs s__law_truth) (defBody s__law_truth) (defScope s__law_truth) .none kV__law_truth dc__law_truth pm__law_truth an__law_truth cd__law_truth ct__law_truth), sl__law_truth⟩) (c__law_truth : PySem.W.codeIn K cd__law_truth "_law_truth" = true) (k__law_truth : PySem.W.keepIn K (.ref f__law_truth) = true)
    (a_is_letters : PySem.W.nsIn K mainGlobals "is_letters" = some (some (.ref f_is_letters))) (l_is_letters : K.lookup f_is_letters = some ⟨oc_is_letters, od_is_letters, .func (PySem.W.fnOf "is_letters" "is_letters" (defArgs s_is_letters) (defBody s_is_letters) (defScope s_is_letters) .none kV_is_letters dc_is_letters pm_is_letters an_is_letters cd_is_letters ct_is_letters), sl_is_letters⟩) (c_is_letters : PySem.W.codeIn K cd_is_letters "is_letters" = true) (k_is_letters : PySem.W.keepIn K (.ref f_is_letters) = true)
    (a_check_least : PySem.W.nsIn K mainGlobals "check_least" = some (some (.ref f_check_least))) (l_check_least : K.lookup f_check_least = some ⟨oc_check_least, od_check_least, .func (PySem.W.fnOf "check_least" "check_least" (defArgs s_check_least) (defBody s_check_least) (defScope s_check_least) .none kV_check_least dc_check_least pm_check_least an_check_least cd_check_least ct_check_least), sl_check_least⟩) (c_check_least : PySem.W.codeIn K cd_check_least "check_least" = true) (k_check_least : PySem.W.keepIn K (.ref f_check_least) = true)
    (a_is_row : PySem.W.nsIn K mainGlobals "is_row" = some (some (.ref f_is_row))) (l_is_row : K.lookup f_is_row = some ⟨oc_is_row, od_is_row, .func (PySem.W.fnOf "is_row" "is_row" (defArgs s_is_row) (defBody s_is_row) (defScope s_is_row) .none kV_is_row dc_is_row pm_is_row an_is_row cd_is_row ct_is_row), sl_is_row⟩) (c_is_row : PySem.W.codeIn K cd_is_row "is_row" = true) (k_is_row : PySem.W.keepIn K (.ref f_is_row) = true)
    (a_first_reached : PySem.W.nsIn K mainGlobals "first_reached" = some (some (.ref f_first_reached))) (l_first_reached : K.lookup f_first_reached = some ⟨oc_first_reached, od_first_reached, .func (PySem.W.fnOf "first_reached" "first_reached" (defArgs s_first_reached) (defBody s_first_reached) (defScope s_first_reached) (.ref dT_first_reached) kV_first_reached dc_first_reached pm_first_reached an_first_reached cd_first_reached ct_first_reached), sl_first_reached⟩) (c_first_reached : PySem.W.codeIn K cd_first_reached "first_reached" = true) (k_first_reached : PySem.W.keepIn K (.ref f_first_reached) = true)
    (lT_first_reached : K.lookup dT_first_reached = some ⟨ocT_first_reached, odT_first_reached, .seq #[Value.int 0 dt0_first_reached] nT_first_reached, slT_first_reached⟩)
    (a_walk_in_circle : PySem.W.nsIn K mainGlobals "walk_in_circle" = some (some (.ref f_walk_in_circle))) (l_walk_in_circle : K.lookup f_walk_in_circle = some ⟨oc_walk_in_circle, od_walk_in_circle, .func (PySem.W.fnOf "walk_in_circle" "walk_in_circle" (defArgs s_walk_in_circle) (defBody s_walk_in_circle) (defScope s_walk_in_circle) .none kV_walk_in_circle dc_walk_in_circle pm_walk_in_circle an_walk_in_circle cd_walk_in_circle ct_walk_in_circle), sl_walk_in_circle⟩) (c_walk_in_circle : PySem.W.codeIn K cd_walk_in_circle "walk_in_circle" = true) (k_walk_in_circle : PySem.W.keepIn K (.ref f_walk_in_circle) = true)
    (a__law_web : PySem.W.nsIn K mainGlobals "_law_web" = some (some (.ref f__law_web))) (l__law_web : K.lookup f__law_web = some ⟨oc__law_web, od__law_web, .func (PySem.W.fnOf "_law_web" "_law_web" (defArgs s__law_web) (defBody s__law_web) (defScope s__law_web) .none kV__law_web dc__law_web pm__law_web an__law_web cd__law_web ct__law_web), sl__law_web⟩) (c__law_web : PySem.W.codeIn K cd__law_web "_law_web" = true) (k__law_web : PySem.W.keepIn K (.ref f__law_web) = true)
    (a__law_straight : PySem.W.nsIn K mainGlobals "_law_straight" = some (some (.ref f__law_straight))) (l__law_straight : K.lookup f__law_straight = some ⟨oc__law_straight, od__law_straight, .func (PySem.W.fnOf "_law_straight" "_law_straight" (defArgs s__law_straight) (defBody s__law_straight) (defScope s__law_straight) .none kV__law_straight dc__law_straight pm__law_straight an__law_straight cd__law_straight ct__law_straight), sl__law_straight⟩) (c__law_straight : PySem.W.codeIn K cd__law_straight "_law_straight" = true) (k__law_straight : PySem.W.keepIn K (.ref f__law_straight) = true)
    (a__law_tables : PySem.W.nsIn K mainGlobals "_law_tables" = some (some (.ref f__law_tables))) (l__law_tables : K.lookup f__law_tables = some ⟨oc__law_tables, od__law_tables, .func (PySem.W.fnOf "_law_tables" "_law_tables" (defArgs s__law_tables) (defBody s__law_tables) (defScope s__law_tables) .none kV__law_tables dc__law_tables pm__law_tables an__law_tables cd__law_tables ct__law_tables), sl__law_tables⟩) (c__law_tables : PySem.W.codeIn K cd__law_tables "_law_tables" = true) (k__law_tables : PySem.W.keepIn K (.ref f__law_tables) = true)
    (a__law_all_tables : PySem.W.nsIn K mainGlobals "_law_all_tables" = some (some (.ref f__law_all_tables))) (l__law_all_tables : K.lookup f__law_all_tables = some ⟨oc__law_all_tables, od__law_all_tables, .func (PySem.W.fnOf "_law_all_tables" "_law_all_tables" (defArgs s__law_all_tables) (defBody s__law_all_tables) (defScope s__law_all_tables) .none kV__law_all_tables dc__law_all_tables pm__law_all_tables an__law_all_tables cd__law_all_tables ct__law_all_tables), sl__law_all_tables⟩) (c__law_all_tables : PySem.W.codeIn K cd__law_all_tables "_law_all_tables" = true) (k__law_all_tables : PySem.W.keepIn K (.ref f__law_all_tables) = true)
    (a__law_round : PySem.W.nsIn K mainGlobals "_law_round" = some (some (.ref f__law_round))) (l__law_round : K.lookup f__law_round = some ⟨oc__law_round, od__law_round, .func (PySem.W.fnOf "_law_round" "_law_round" (defArgs s__law_round) (defBody s__law_round) (defScope s__law_round) .none kV__law_round dc__law_round pm__law_round an__law_round cd__law_round ct__law_round), sl__law_round⟩) (c__law_round : PySem.W.codeIn K cd__law_round "_law_round" = true) (k__law_round : PySem.W.keepIn K (.ref f__law_round) = true)
    (a__law_is_walk : PySem.W.nsIn K mainGlobals "_law_is_walk" = some (some (.ref f__law_is_walk))) (l__law_is_walk : K.lookup f__law_is_walk = some ⟨oc__law_is_walk, od__law_is_walk, .func (PySem.W.fnOf "_law_is_walk" "_law_is_walk" (defArgs s__law_is_walk) (defBody s__law_is_walk) (defScope s__law_is_walk) .none kV__law_is_walk dc__law_is_walk pm__law_is_walk an__law_is_walk cd__law_is_walk ct__law_is_walk), sl__law_is_walk⟩) (c__law_is_walk : PySem.W.codeIn K cd__law_is_walk "_law_is_walk" = true) (k__law_is_walk : PySem.W.keepIn K (.ref f__law_is_walk) = true)
    (a_has_web_form : PySem.W.nsIn K mainGlobals "has_web_form" = some (some (.ref f_has_web_form))) (l_has_web_form : K.lookup f_has_web_form = some ⟨oc_has_web_form, od_has_web_form, .func (PySem.W.fnOf "has_web_form" "has_web_form" (defArgs s_has_web_form) (defBody s_has_web_form) (defScope s_has_web_form) .none kV_has_web_form dc_has_web_form pm_has_web_form an_has_web_form cd_has_web_form ct_has_web_form), sl_has_web_form⟩) (c_has_web_form : PySem.W.codeIn K cd_has_web_form "has_web_form" = true) (k_has_web_form : PySem.W.keepIn K (.ref f_has_web_form) = true)
    (a_first_ways : PySem.W.nsIn K mainGlobals "first_ways" = some (some (.ref f_first_ways))) (l_first_ways : K.lookup f_first_ways = some ⟨oc_first_ways, od_first_ways, .func (PySem.W.fnOf "first_ways" "first_ways" (defArgs s_first_ways) (defBody s_first_ways) (defScope s_first_ways) .none kV_first_ways dc_first_ways pm_first_ways an_first_ways cd_first_ways ct_first_ways), sl_first_ways⟩) (c_first_ways : PySem.W.codeIn K cd_first_ways "first_ways" = true) (k_first_ways : PySem.W.keepIn K (.ref f_first_ways) = true)
    (a_most_in_circle : PySem.W.nsIn K mainGlobals "most_in_circle" = some (some (.ref f_most_in_circle))) (l_most_in_circle : K.lookup f_most_in_circle = some ⟨oc_most_in_circle, od_most_in_circle, .func (PySem.W.fnOf "most_in_circle" "most_in_circle" (defArgs s_most_in_circle) (defBody s_most_in_circle) (defScope s_most_in_circle) .none kV_most_in_circle dc_most_in_circle pm_most_in_circle an_most_in_circle cd_most_in_circle ct_most_in_circle), sl_most_in_circle⟩) (c_most_in_circle : PySem.W.codeIn K cd_most_in_circle "most_in_circle" = true) (k_most_in_circle : PySem.W.keepIn K (.ref f_most_in_circle) = true)
    (a__law_drawn : PySem.W.nsIn K mainGlobals "_law_drawn" = some (some (.ref f__law_drawn))) (l__law_drawn : K.lookup f__law_drawn = some ⟨oc__law_drawn, od__law_drawn, .func (PySem.W.fnOf "_law_drawn" "_law_drawn" (defArgs s__law_drawn) (defBody s__law_drawn) (defScope s__law_drawn) .none kV__law_drawn dc__law_drawn pm__law_drawn an__law_drawn cd__law_drawn ct__law_drawn), sl__law_drawn⟩) (c__law_drawn : PySem.W.codeIn K cd__law_drawn "_law_drawn" = true) (k__law_drawn : PySem.W.keepIn K (.ref f__law_drawn) = true)
    (a__law_walk_right : PySem.W.nsIn K mainGlobals "_law_walk_right" = some (some (.ref f__law_walk_right))) (l__law_walk_right : K.lookup f__law_walk_right = some ⟨oc__law_walk_right, od__law_walk_right, .func (PySem.W.fnOf "_law_walk_right" "_law_walk_right" (defArgs s__law_walk_right) (defBody s__law_walk_right) (defScope s__law_walk_right) .none kV__law_walk_right dc__law_walk_right pm__law_walk_right an__law_walk_right cd__law_walk_right ct__law_walk_right), sl__law_walk_right⟩) (c__law_walk_right : PySem.W.codeIn K cd__law_walk_right "_law_walk_right" = true) (k__law_walk_right : PySem.W.keepIn K (.ref f__law_walk_right) = true)
    (a_right_table : PySem.W.nsIn K mainGlobals "right_table" = some (some (.ref f_right_table))) (l_right_table : K.lookup f_right_table = some ⟨oc_right_table, od_right_table, .func (PySem.W.fnOf "right_table" "right_table" (defArgs s_right_table) (defBody s_right_table) (defScope s_right_table) .none kV_right_table dc_right_table pm_right_table an_right_table cd_right_table ct_right_table), sl_right_table⟩) (c_right_table : PySem.W.codeIn K cd_right_table "right_table" = true) (k_right_table : PySem.W.keepIn K (.ref f_right_table) = true)
    (a_checked_table : PySem.W.nsIn K mainGlobals "checked_table" = some (some (.ref f_checked_table))) (l_checked_table : K.lookup f_checked_table = some ⟨oc_checked_table, od_checked_table, .func (PySem.W.fnOf "checked_table" "checked_table" (defArgs s_checked_table) (defBody s_checked_table) (defScope s_checked_table) .none kV_checked_table dc_checked_table pm_checked_table an_checked_table cd_checked_table ct_checked_table), sl_checked_table⟩) (c_checked_table : PySem.W.codeIn K cd_checked_table "checked_table" = true) (k_checked_table : PySem.W.keepIn K (.ref f_checked_table) = true)
    (a_power_walk : PySem.W.nsIn K mainGlobals "power_walk" = some (some (.ref f_power_walk))) (l_power_walk : K.lookup f_power_walk = some ⟨oc_power_walk, od_power_walk, .func (PySem.W.fnOf "power_walk" "power_walk" (defArgs s_power_walk) (defBody s_power_walk) (defScope s_power_walk) .none kV_power_walk dc_power_walk pm_power_walk an_power_walk cd_power_walk ct_power_walk), sl_power_walk⟩) (c_power_walk : PySem.W.codeIn K cd_power_walk "power_walk" = true) (k_power_walk : PySem.W.keepIn K (.ref f_power_walk) = true)
    (a_greatest_power : PySem.W.nsIn K mainGlobals "greatest_power" = some (some (.ref f_greatest_power))) (l_greatest_power : K.lookup f_greatest_power = some ⟨oc_greatest_power, od_greatest_power, .func (PySem.W.fnOf "greatest_power" "greatest_power" (defArgs s_greatest_power) (defBody s_greatest_power) (defScope s_greatest_power) .none kV_greatest_power dc_greatest_power pm_greatest_power an_greatest_power cd_greatest_power ct_greatest_power), sl_greatest_power⟩) (c_greatest_power : PySem.W.codeIn K cd_greatest_power "greatest_power" = true) (k_greatest_power : PySem.W.keepIn K (.ref f_greatest_power) = true)
    (a_is_rooted : PySem.W.nsIn K mainGlobals "is_rooted" = some (some (.ref f_is_rooted))) (l_is_rooted : K.lookup f_is_rooted = some ⟨oc_is_rooted, od_is_rooted, .func (PySem.W.fnOf "is_rooted" "is_rooted" (defArgs s_is_rooted) (defBody s_is_rooted) (defScope s_is_rooted) .none kV_is_rooted dc_is_rooted pm_is_rooted an_is_rooted cd_is_rooted ct_is_rooted), sl_is_rooted⟩) (c_is_rooted : PySem.W.codeIn K cd_is_rooted "is_rooted" = true) (k_is_rooted : PySem.W.keepIn K (.ref f_is_rooted) = true)
    (a__law_right : PySem.W.nsIn K mainGlobals "_law_right" = some (some (.ref f__law_right))) (l__law_right : K.lookup f__law_right = some ⟨oc__law_right, od__law_right, .func (PySem.W.fnOf "_law_right" "_law_right" (defArgs s__law_right) (defBody s__law_right) (defScope s__law_right) .none kV__law_right dc__law_right pm__law_right an__law_right cd__law_right ct__law_right), sl__law_right⟩) (c__law_right : PySem.W.codeIn K cd__law_right "_law_right" = true) (k__law_right : PySem.W.keepIn K (.ref f__law_right) = true)
    (a_law : PySem.W.nsIn K mainGlobals "law" = some (some (.ref f_law))) (l_law : K.lookup f_law = some ⟨oc_law, od_law, .func (PySem.W.fnOf "law" "law" (defArgs s_law) (defBody s_law) (defScope s_law) .none kV_law dc_law pm_law an_law cd_law ct_law), sl_law⟩) (c_law : PySem.W.codeIn K cd_law "law" = true) (k_law : PySem.W.keepIn K (.ref f_law) = true)
    (z_abs : PySem.W.nsIn K mainGlobals "abs" = some none)
    (z_all : PySem.W.nsIn K mainGlobals "all" = some none)
    (z_any : PySem.W.nsIn K mainGlobals "any" = some none)
    (z_bool : PySem.W.nsIn K mainGlobals "bool" = some none)
    (z_dict : PySem.W.nsIn K mainGlobals "dict" = some none)
    (z_enumerate : PySem.W.nsIn K mainGlobals "enumerate" = some none)
    (z_int : PySem.W.nsIn K mainGlobals "int" = some none)
    (z_isinstance : PySem.W.nsIn K mainGlobals "isinstance" = some none)
    (z_len : PySem.W.nsIn K mainGlobals "len" = some none)
    (z_list : PySem.W.nsIn K mainGlobals "list" = some none)
    (z_max : PySem.W.nsIn K mainGlobals "max" = some none)
    (z_min : PySem.W.nsIn K mainGlobals "min" = some none)
    (z_range : PySem.W.nsIn K mainGlobals "range" = some none)
    (z_tuple : PySem.W.nsIn K mainGlobals "tuple" = some none)
    (z_permutations : PySem.W.nsIn K mainGlobals "permutations" = some (some (.type "itertools.permutations")))
    (v_MOST_LETTERS : PySem.W.nsIn K mainGlobals "MOST_LETTERS" = some (some (.int (4) tc_MOST_LETTERS)))
    : ∃ fd : FuncData, (∀ (s : Shared) (v : Value), BindsTo s fd ⟨[v], []⟩ [("_law_script", v)]) ∧ ∀ base : Heap, K.In base → base.Ns mainGlobals mg → FnOk l.prog w K mg base CX0 8 fa fd ["_law_script"] (sp_law K) := by
  refine Qt.drp ?_ ?_
  · have e := hfa.symm.trans (PySem.W.mg_of X G a_law)
    cases e
    have F_is_integer := fun_mk (st := s_is_integer) l_is_integer c_is_integer k_is_integer
    have F_steps_of := fun_mk (st := s_steps_of) l_steps_of c_steps_of k_steps_of
    have F_straightened := fun_mk (st := s_straightened) l_straightened c_straightened k_straightened
    have F_turned_back := fun_mk (st := s_turned_back) l_turned_back c_turned_back k_turned_back
    have F_step_table := fun_mk (st := s_step_table) l_step_table c_step_table k_step_table
    have F_ways_together := fun_mk (st := s_ways_together) l_ways_together c_ways_together k_ways_together
    have F__law_pot := fun_mk (st := s__law_pot) l__law_pot c__law_pot k__law_pot
    have F__law_draw := fun_mk (st := s__law_draw) l__law_draw c__law_draw k__law_draw
    have F__law_steps := fun_mk (st := s__law_steps) l__law_steps c__law_steps k__law_steps
    have F__law_doors := fun_mk (st := s__law_doors) l__law_doors c__law_doors k__law_doors
    have F__law_rings := fun_mk (st := s__law_rings) l__law_rings c__law_rings k__law_rings
    have F__law_short := fun_mk (st := s__law_short) l__law_short c__law_short k__law_short
    have F__law_is_integer := fun_mk (st := s__law_is_integer) l__law_is_integer c__law_is_integer k__law_is_integer
    have F__law_rounds := fun_mk (st := s__law_rounds) l__law_rounds c__law_rounds k__law_rounds
    have F__law_truth := fun_mk (st := s__law_truth) l__law_truth c__law_truth k__law_truth
    have F_is_letters := fun_mk (st := s_is_letters) l_is_letters c_is_letters k_is_letters
    have F_check_least := fun_mk (st := s_check_least) l_check_least c_check_least k_check_least
    have F_is_row := fun_mk (st := s_is_row) l_is_row c_is_row k_is_row
    have F_first_reached : FunD K "first_reached" "first_reached" (defArgs s_first_reached) (defBody s_first_reached) (defScope s_first_reached) [V.int 0] [] f_first_reached _ := ⟨⟨_, _, _, _, _, _, _, _, _, _, rfl, l_first_reached, c_first_reached, .inr ⟨by simp, _, _, _, _, rfl, lT_first_reached, rfl, (.cons ⟨_, rfl⟩ .nil)⟩, .inl rfl⟩, k_first_reached⟩
    have F_walk_in_circle := fun_mk (st := s_walk_in_circle) l_walk_in_circle c_walk_in_circle k_walk_in_circle
    have F__law_web := fun_mk (st := s__law_web) l__law_web c__law_web k__law_web
    have F__law_straight := fun_mk (st := s__law_straight) l__law_straight c__law_straight k__law_straight
    have F__law_tables := fun_mk (st := s__law_tables) l__law_tables c__law_tables k__law_tables
    have F__law_all_tables := fun_mk (st := s__law_all_tables) l__law_all_tables c__law_all_tables k__law_all_tables
    have F__law_round := fun_mk (st := s__law_round) l__law_round c__law_round k__law_round
    have F__law_is_walk := fun_mk (st := s__law_is_walk) l__law_is_walk c__law_is_walk k__law_is_walk
    have F_has_web_form := fun_mk (st := s_has_web_form) l_has_web_form c_has_web_form k_has_web_form
    have F_first_ways := fun_mk (st := s_first_ways) l_first_ways c_first_ways k_first_ways
    have F_most_in_circle := fun_mk (st := s_most_in_circle) l_most_in_circle c_most_in_circle k_most_in_circle
    have F__law_drawn := fun_mk (st := s__law_drawn) l__law_drawn c__law_drawn k__law_drawn
    have F__law_walk_right := fun_mk (st := s__law_walk_right) l__law_walk_right c__law_walk_right k__law_walk_right
    have F_right_table := fun_mk (st := s_right_table) l_right_table c_right_table k_right_table
    have F_checked_table := fun_mk (st := s_checked_table) l_checked_table c_checked_table k_checked_table
    have F_power_walk := fun_mk (st := s_power_walk) l_power_walk c_power_walk k_power_walk
    have F_greatest_power := fun_mk (st := s_greatest_power) l_greatest_power c_greatest_power k_greatest_power
    have F_is_rooted := fun_mk (st := s_is_rooted) l_is_rooted c_is_rooted k_is_rooted
    have F__law_right := fun_mk (st := s__law_right) l__law_right c__law_right k__law_right
    have F_law := fun_mk (st := s_law) l_law c_law k_law
    have b_is_integer := F_is_integer.binds (ps := P_is_integer) fun _ _ _ _ _ _ us hl => match us, hl with | [_], _ => rfl
    have b_steps_of := F_steps_of.binds (ps := P_steps_of) fun _ _ _ _ _ _ us hl => match us, hl with | [_], _ => rfl
    have b_straightened := F_straightened.binds (ps := P_straightened) fun _ _ _ _ _ _ us hl => match us, hl with | [_], _ => rfl
    have b_turned_back := F_turned_back.binds (ps := P_turned_back) fun _ _ _ _ _ _ us hl => match us, hl with | [_], _ => rfl
    have b_step_table := F_step_table.binds (ps := P_step_table) fun _ _ _ _ _ _ us hl => match us, hl with | [_], _ => rfl
    have b_ways_together := F_ways_together.binds (ps := P_ways_together) fun _ _ _ _ _ _ us hl => match us, hl with | [_, _], _ => rfl
    have b__law_pot := F__law_pot.binds (ps := P__law_pot) fun _ _ _ _ _ _ us hl => match us, hl with | [_, _], _ => rfl
    have b__law_draw := F__law_draw.binds (ps := P__law_draw) fun _ _ _ _ _ _ us hl => match us, hl with | [_, _], _ => rfl
    have b__law_steps := F__law_steps.binds (ps := P__law_steps) fun _ _ _ _ _ _ us hl => match us, hl with | [_], _ => rfl
    have b__law_doors := F__law_doors.binds (ps := P__law_doors) fun _ _ _ _ _ _ us hl => match us, hl with | [_], _ => rfl
    have b__law_rings := F__law_rings.binds (ps := P__law_rings) fun _ _ _ _ _ _ us hl => match us, hl with | [_], _ => rfl
    have b__law_short := F__law_short.binds (ps := P__law_short) fun _ _ _ _ _ _ us hl => match us, hl with | [_], _ => rfl
    have b__law_is_integer := F__law_is_integer.binds (ps := P__law_is_integer) fun _ _ _ _ _ _ us hl => match us, hl with | [_, _], _ => rfl
    have b__law_rounds := F__law_rounds.binds (ps := P__law_rounds) fun _ _ _ _ _ _ us hl => match us, hl with | [_, _], _ => rfl
    have b__law_truth := F__law_truth.binds (ps := P__law_truth) fun _ _ _ _ _ _ us hl => match us, hl with | [_, _], _ => rfl
    have b_is_letters := F_is_letters.binds (ps := P_is_letters) fun _ _ _ _ _ _ us hl => match us, hl with | [_], _ => rfl
    have b_check_least := F_check_least.binds (ps := P_check_least) fun _ _ _ _ _ _ us hl => match us, hl with | [_, _], _ => rfl
    have b_is_row := F_is_row.binds (ps := P_is_row) fun _ _ _ _ _ _ us hl => match us, hl with | [_, _, _], _ => rfl
    have b0_first_reached := F_first_reached.binds1 (ps := P_first_reached) 2 0 (by simp) (by decide) fun _ _ _ _ _ _ _ us its h1 h2 => match us, its, h1, h2 with | [_, _], [_], _, _ => ⟨_, rfl, rfl⟩
    have b1_first_reached := F_first_reached.binds1 (ps := P_first_reached) 3 1 (by simp) (by decide) fun _ _ _ _ _ _ _ us its h1 h2 => match us, its, h1, h2 with | [_, _, _], [_], _, _ => ⟨_, rfl, rfl⟩
    have b_walk_in_circle := F_walk_in_circle.binds (ps := P_walk_in_circle) fun _ _ _ _ _ _ us hl => match us, hl with | [_, _], _ => rfl
    have b__law_web := F__law_web.binds (ps := P__law_web) fun _ _ _ _ _ _ us hl => match us, hl with | [_, _], _ => rfl
    have b__law_straight := F__law_straight.binds (ps := P__law_straight) fun _ _ _ _ _ _ us hl => match us, hl with | [_, _, _], _ => rfl
    have b__law_tables := F__law_tables.binds (ps := P__law_tables) fun _ _ _ _ _ _ us hl => match us, hl with | [_, _, _, _], _ => rfl
    have b__law_all_tables := F__law_all_tables.binds (ps := P__law_all_tables) fun _ _ _ _ _ _ us hl => match us, hl with | [_, _], _ => rfl
    have b__law_round := F__law_round.binds (ps := P__law_round) fun _ _ _ _ _ _ us hl => match us, hl with | [_, _, _], _ => rfl
    have b__law_is_walk := F__law_is_walk.binds (ps := P__law_is_walk) fun _ _ _ _ _ _ us hl => match us, hl with | [_, _], _ => rfl
    have b_has_web_form := F_has_web_form.binds (ps := P_has_web_form) fun _ _ _ _ _ _ us hl => match us, hl with | [_], _ => rfl
    have b_first_ways := F_first_ways.binds (ps := P_first_ways) fun _ _ _ _ _ _ us hl => match us, hl with | [_, _], _ => rfl
    have b_most_in_circle := F_most_in_circle.binds (ps := P_most_in_circle) fun _ _ _ _ _ _ us hl => match us, hl with | [_], _ => rfl
    have b__law_drawn := F__law_drawn.binds (ps := P__law_drawn) fun _ _ _ _ _ _ us hl => match us, hl with | [_, _, _], _ => rfl
    have b__law_walk_right := F__law_walk_right.binds (ps := P__law_walk_right) fun _ _ _ _ _ _ us hl => match us, hl with | [_, _, _, _, _], _ => rfl
    have b_right_table := F_right_table.binds (ps := P_right_table) fun _ _ _ _ _ _ us hl => match us, hl with | [_], _ => rfl
    have b_checked_table := F_checked_table.binds (ps := P_checked_table) fun _ _ _ _ _ _ us hl => match us, hl with | [_], _ => rfl
    have b_power_walk := F_power_walk.binds (ps := P_power_walk) fun _ _ _ _ _ _ us hl => match us, hl with | [_, _], _ => rfl
    have b_greatest_power := F_greatest_power.binds (ps := P_greatest_power) fun _ _ _ _ _ _ us hl => match us, hl with | [_], _ => rfl
    have b_is_rooted := F_is_rooted.binds (ps := P_is_rooted) fun _ _ _ _ _ _ us hl => match us, hl with | [_], _ => rfl
    have b__law_right := F__law_right.binds (ps := P__law_right) fun _ _ _ _ _ _ us hl => match us, hl with | [_], _ => rfl
    have b_law := F_law.binds (ps := P_law) fun _ _ _ _ _ _ us hl => match us, hl with | [_], _ => rfl
    have T : Tx K mg ⟨f_is_integer, _, f_steps_of, _, f_straightened, _, f_turned_back, _, f_step_table, _, f_ways_together, _, f__law_pot, _, f__law_draw, _, f__law_steps, _, f__law_doors, _, f__law_rings, _, f__law_short, _, f__law_is_integer, _, f__law_rounds, _, f__law_truth, _, f_is_letters, _, f_check_least, _, f_is_row, _, f_first_reached, _, f_walk_in_circle, _, f__law_web, _, f__law_straight, _, f__law_tables, _, f__law_all_tables, _, f__law_round, _, f__law_is_walk, _, f_has_web_form, _, f_first_ways, _, f_most_in_circle, _, f__law_drawn, _, f__law_walk_right, _, f_right_table, _, f_checked_table, _, f_power_walk, _, f_greatest_power, _, f_is_rooted, _, f__law_right, _, fa, _⟩ := {
      g_is_integer := PySem.W.mg_of X G a_is_integer, F_is_integer := F_is_integer, b_is_integer := b_is_integer,
      g_steps_of := PySem.W.mg_of X G a_steps_of, F_steps_of := F_steps_of, b_steps_of := b_steps_of,
      g_straightened := PySem.W.mg_of X G a_straightened, F_straightened := F_straightened, b_straightened := b_straightened,
      g_turned_back := PySem.W.mg_of X G a_turned_back, F_turned_back := F_turned_back, b_turned_back := b_turned_back,
      g_step_table := PySem.W.mg_of X G a_step_table, F_step_table := F_step_table, b_step_table := b_step_table,
      g_ways_together := PySem.W.mg_of X G a_ways_together, F_ways_together := F_ways_together, b_ways_together := b_ways_together,
      g__law_pot := PySem.W.mg_of X G a__law_pot, F__law_pot := F__law_pot, b__law_pot := b__law_pot,
      g__law_draw := PySem.W.mg_of X G a__law_draw, F__law_draw := F__law_draw, b__law_draw := b__law_draw,
      g__law_steps := PySem.W.mg_of X G a__law_steps, F__law_steps := F__law_steps, b__law_steps := b__law_steps,
      g__law_doors := PySem.W.mg_of X G a__law_doors, F__law_doors := F__law_doors, b__law_doors := b__law_doors,
      g__law_rings := PySem.W.mg_of X G a__law_rings, F__law_rings := F__law_rings, b__law_rings := b__law_rings,
      g__law_short := PySem.W.mg_of X G a__law_short, F__law_short := F__law_short, b__law_short := b__law_short,
      g__law_is_integer := PySem.W.mg_of X G a__law_is_integer, F__law_is_integer := F__law_is_integer, b__law_is_integer := b__law_is_integer,
      g__law_rounds := PySem.W.mg_of X G a__law_rounds, F__law_rounds := F__law_rounds, b__law_rounds := b__law_rounds,
      g__law_truth := PySem.W.mg_of X G a__law_truth, F__law_truth := F__law_truth, b__law_truth := b__law_truth,
      g_is_letters := PySem.W.mg_of X G a_is_letters, F_is_letters := F_is_letters, b_is_letters := b_is_letters,
      g_check_least := PySem.W.mg_of X G a_check_least, F_check_least := F_check_least, b_check_least := b_check_least,
      g_is_row := PySem.W.mg_of X G a_is_row, F_is_row := F_is_row, b_is_row := b_is_row,
      g_first_reached := PySem.W.mg_of X G a_first_reached, F_first_reached := F_first_reached, b0_first_reached := b0_first_reached, b1_first_reached := b1_first_reached,
      g_walk_in_circle := PySem.W.mg_of X G a_walk_in_circle, F_walk_in_circle := F_walk_in_circle, b_walk_in_circle := b_walk_in_circle,
      g__law_web := PySem.W.mg_of X G a__law_web, F__law_web := F__law_web, b__law_web := b__law_web,
      g__law_straight := PySem.W.mg_of X G a__law_straight, F__law_straight := F__law_straight, b__law_straight := b__law_straight,
      g__law_tables := PySem.W.mg_of X G a__law_tables, F__law_tables := F__law_tables, b__law_tables := b__law_tables,
      g__law_all_tables := PySem.W.mg_of X G a__law_all_tables, F__law_all_tables := F__law_all_tables, b__law_all_tables := b__law_all_tables,
      g__law_round := PySem.W.mg_of X G a__law_round, F__law_round := F__law_round, b__law_round := b__law_round,
      g__law_is_walk := PySem.W.mg_of X G a__law_is_walk, F__law_is_walk := F__law_is_walk, b__law_is_walk := b__law_is_walk,
      g_has_web_form := PySem.W.mg_of X G a_has_web_form, F_has_web_form := F_has_web_form, b_has_web_form := b_has_web_form,
      g_first_ways := PySem.W.mg_of X G a_first_ways, F_first_ways := F_first_ways, b_first_ways := b_first_ways,
      g_most_in_circle := PySem.W.mg_of X G a_most_in_circle, F_most_in_circle := F_most_in_circle, b_most_in_circle := b_most_in_circle,
      g__law_drawn := PySem.W.mg_of X G a__law_drawn, F__law_drawn := F__law_drawn, b__law_drawn := b__law_drawn,
      g__law_walk_right := PySem.W.mg_of X G a__law_walk_right, F__law_walk_right := F__law_walk_right, b__law_walk_right := b__law_walk_right,
      g_right_table := PySem.W.mg_of X G a_right_table, F_right_table := F_right_table, b_right_table := b_right_table,
      g_checked_table := PySem.W.mg_of X G a_checked_table, F_checked_table := F_checked_table, b_checked_table := b_checked_table,
      g_power_walk := PySem.W.mg_of X G a_power_walk, F_power_walk := F_power_walk, b_power_walk := b_power_walk,
      g_greatest_power := PySem.W.mg_of X G a_greatest_power, F_greatest_power := F_greatest_power, b_greatest_power := b_greatest_power,
      g_is_rooted := PySem.W.mg_of X G a_is_rooted, F_is_rooted := F_is_rooted, b_is_rooted := b_is_rooted,
      g__law_right := PySem.W.mg_of X G a__law_right, F__law_right := F__law_right, b__law_right := b__law_right,
      g_law := PySem.W.mg_of X G a_law, F_law := F_law, b_law := b_law,
      n_abs := PySem.W.mg_none_of X G z_abs,
      n_all := PySem.W.mg_none_of X G z_all,
      n_any := PySem.W.mg_none_of X G z_any,
      n_bool := PySem.W.mg_none_of X G z_bool,
      n_dict := PySem.W.mg_none_of X G z_dict,
      n_enumerate := PySem.W.mg_none_of X G z_enumerate,
      n_int := PySem.W.mg_none_of X G z_int,
      n_isinstance := PySem.W.mg_none_of X G z_isinstance,
      n_len := PySem.W.mg_none_of X G z_len,
      n_list := PySem.W.mg_none_of X G z_list,
      n_max := PySem.W.mg_none_of X G z_max,
      n_min := PySem.W.mg_none_of X G z_min,
      n_range := PySem.W.mg_none_of X G z_range,
      n_tuple := PySem.W.mg_none_of X G z_tuple,
      n_permutations := PySem.W.mg_of X G z_permutations,
      c_MOST_LETTERS := ⟨_, PySem.W.mg_of X G v_MOST_LETTERS⟩ }
    exact ⟨PySem.W.fnOf "law" "law" (defArgs s_law) (defBody s_law) (defScope s_law) .none kV_law dc_law pm_law an_law cd_law ct_law, fun s v => .of_eq rfl, fun base _ _ => ok_law T⟩
  walk_at "end"
end Lw
open PySem PySem.W PyProof.Rows
set_option maxHeartbeats 0 in
theorem PySem.Challenge.cw_walkclubs_k25_walks_with_wanted_powers_holds : PySem.Challenge.rw_walkclubs_k25_walks_with_wanted_powers.Holds := by
  w_on; o_law; k_head; (case hw => w_witness2)
  k_fill
  refine L2.walk_of (l := PySem.Challenge.rw_walkclubs_k25_walks_with_wanted_powers) (n := 63) (k := 8) (x := "_law_script") (CX := fun _ => L2.CX0) (sp := fun w => Lw.sp_law _) rfl (by decide) rfl ⟨rfl, by decide, by decide⟩ (fun w h Y => PySem.W.kIn_of Y) ?F (fun _ _ a ns hl _ hS => ⟨a, ns, rfl, hS, hl, fun _ => rfl⟩) (fun _ _ _ _ _ h => h)
  case F =>
    intro w mg fa h KX G hmg
    refine' Lw.all_mk KX G hmg ?a_is_integer ?l_is_integer ?c_is_integer ?k_is_integer ?a_steps_of ?l_steps_of ?c_steps_of ?k_steps_of ?a_straightened ?l_straightened ?c_straightened ?k_straightened ?a_turned_back ?l_turned_back ?c_turned_back ?k_turned_back ?a_step_table ?l_step_table ?c_step_table ?k_step_table ?a_ways_together ?l_ways_together ?c_ways_together ?k_ways_together ?a__law_pot ?l__law_pot ?c__law_pot ?k__law_pot ?a__law_draw ?l__law_draw ?c__law_draw ?k__law_draw ?a__law_steps ?l__law_steps ?c__law_steps ?k__law_steps ?a__law_doors ?l__law_doors ?c__law_doors ?k__law_doors ?a__law_rings ?l__law_rings ?c__law_rings ?k__law_rings ?a__law_short ?l__law_short ?c__law_short ?k__law_short ?a__law_is_integer ?l__law_is_integer ?c__law_is_integer ?k__law_is_integer ?a__law_rounds ?l__law_rounds ?c__law_rounds ?k__law_rounds ?a__law_truth ?l__law_truth ?c__law_truth ?k__law_truth ?a_is_letters ?l_is_letters ?c_is_letters ?k_is_letters ?a_check_least ?l_check_least ?c_check_least ?k_check_least ?a_is_row ?l_is_row ?c_is_row ?k_is_row ?a_first_reached ?l_first_reached ?c_first_reached ?k_first_reached ?lT_first_reached ?a_walk_in_circle ?l_walk_in_circle ?c_walk_in_circle ?k_walk_in_circle ?a__law_web ?l__law_web ?c__law_web ?k__law_web ?a__law_straight ?l__law_straight ?c__law_straight ?k__law_straight ?a__law_tables ?l__law_tables ?c__law_tables ?k__law_tables ?a__law_all_tables ?l__law_all_tables ?c__law_all_tables ?k__law_all_tables ?a__law_round ?l__law_round ?c__law_round ?k__law_round ?a__law_is_walk ?l__law_is_walk ?c__law_is_walk ?k__law_is_walk ?a_has_web_form ?l_has_web_form ?c_has_web_form ?k_has_web_form ?a_first_ways ?l_first_ways ?c_first_ways ?k_first_ways ?a_most_in_circle ?l_most_in_circle ?c_most_in_circle ?k_most_in_circle ?a__law_drawn ?l__law_drawn ?c__law_drawn ?k__law_drawn ?a__law_walk_right ?l__law_walk_right ?c__law_walk_right ?k__law_walk_right ?a_right_table ?l_right_table ?c_right_table ?k_right_table ?a_checked_table ?l_checked_table ?c_checked_table ?k_checked_table ?a_power_walk ?l_power_walk ?c_power_walk ?k_power_walk ?a_greatest_power ?l_greatest_power ?c_greatest_power ?k_greatest_power ?a_is_rooted ?l_is_rooted ?c_is_rooted ?k_is_rooted ?a__law_right ?l__law_right ?c__law_right ?k__law_right ?a_law ?l_law ?c_law ?k_law ?z_abs ?z_all ?z_any ?z_bool ?z_dict ?z_enumerate ?z_int ?z_isinstance ?z_len ?z_list ?z_max ?z_min ?z_range ?z_tuple ?z_permutations ?v_MOST_LETTERS
    (case a_is_integer => k_is); (case l_is_integer => k_is); (case c_is_integer => k_is); (case k_is_integer => k_is); (case a_steps_of => k_is); (case l_steps_of => k_is); (case c_steps_of => k_is); (case k_steps_of => k_is); (case a_straightened => k_is); (case l_straightened => k_is); (case c_straightened => k_is); (case k_straightened => k_is); (case a_turned_back => k_is); (case l_turned_back => k_is); (case c_turned_back => k_is); (case k_turned_back => k_is); (case a_step_table => k_is); (case l_step_table => k_is); (case c_step_table => k_is); (case k_step_table => k_is); (case a_ways_together => k_is); (case l_ways_together => k_is); (case c_ways_together => k_is); (case k_ways_together => k_is); (case a__law_pot => k_is); (case l__law_pot => k_is); (case c__law_pot => k_is); (case k__law_pot => k_is); (case a__law_draw => k_is); (case l__law_draw => k_is); (case c__law_draw => k_is); (case k__law_draw => k_is); (case a__law_steps => k_is); (case l__law_steps => k_is); (case c__law_steps => k_is); (case k__law_steps => k_is); (case a__law_doors => k_is); (case l__law_doors => k_is); (case c__law_doors => k_is); (case k__law_doors => k_is); (case a__law_rings => k_is); (case l__law_rings => k_is); (case c__law_rings => k_is); (case k__law_rings => k_is); (case a__law_short => k_is); (case l__law_short => k_is); (case c__law_short => k_is); (case k__law_short => k_is); (case a__law_is_integer => k_is); (case l__law_is_integer => k_is); (case c__law_is_integer => k_is); (case k__law_is_integer => k_is); (case a__law_rounds => k_is); (case l__law_rounds => k_is); (case c__law_rounds => k_is); (case k__law_rounds => k_is); (case a__law_truth => k_is); (case l__law_truth => k_is); (case c__law_truth => k_is); (case k__law_truth => k_is); (case a_is_letters => k_is); (case l_is_letters => k_is); (case c_is_letters => k_is); (case k_is_letters => k_is); (case a_check_least => k_is); (case l_check_least => k_is); (case c_check_least => k_is); (case k_check_least => k_is); (case a_is_row => k_is); (case l_is_row => k_is); (case c_is_row => k_is); (case k_is_row => k_is); (case a_first_reached => k_is); (case l_first_reached => k_is); (case c_first_reached => k_is); (case k_first_reached => k_is); (case lT_first_reached => k_is); (case a_walk_in_circle => k_is); (case l_walk_in_circle => k_is); (case c_walk_in_circle => k_is); (case k_walk_in_circle => k_is); (case a__law_web => k_is); (case l__law_web => k_is); (case c__law_web => k_is); (case k__law_web => k_is); (case a__law_straight => k_is); (case l__law_straight => k_is); (case c__law_straight => k_is); (case k__law_straight => k_is); (case a__law_tables => k_is); (case l__law_tables => k_is); (case c__law_tables => k_is); (case k__law_tables => k_is); (case a__law_all_tables => k_is); (case l__law_all_tables => k_is); (case c__law_all_tables => k_is); (case k__law_all_tables => k_is); (case a__law_round => k_is); (case l__law_round => k_is); (case c__law_round => k_is); (case k__law_round => k_is); (case a__law_is_walk => k_is); (case l__law_is_walk => k_is); (case c__law_is_walk => k_is); (case k__law_is_walk => k_is); (case a_has_web_form => k_is); (case l_has_web_form => k_is); (case c_has_web_form => k_is); (case k_has_web_form => k_is); (case a_first_ways => k_is); (case l_first_ways => k_is); (case c_first_ways => k_is); (case k_first_ways => k_is); (case a_most_in_circle => k_is); (case l_most_in_circle => k_is); (case c_most_in_circle => k_is); (case k_most_in_circle => k_is); (case a__law_drawn => k_is); (case l__law_drawn => k_is); (case c__law_drawn => k_is); (case k__law_drawn => k_is); (case a__law_walk_right => k_is); (case l__law_walk_right => k_is); (case c__law_walk_right => k_is); (case k__law_walk_right => k_is); (case a_right_table => k_is); (case l_right_table => k_is); (case c_right_table => k_is); (case k_right_table => k_is); (case a_checked_table => k_is); (case l_checked_table => k_is); (case c_checked_table => k_is); (case k_checked_table => k_is); (case a_power_walk => k_is); (case l_power_walk => k_is); (case c_power_walk => k_is); (case k_power_walk => k_is); (case a_greatest_power => k_is); (case l_greatest_power => k_is); (case c_greatest_power => k_is); (case k_greatest_power => k_is); (case a_is_rooted => k_is); (case l_is_rooted => k_is); (case c_is_rooted => k_is); (case k_is_rooted => k_is); (case a__law_right => k_is); (case l__law_right => k_is); (case c__law_right => k_is); (case k__law_right => k_is); (case a_law => k_is); (case l_law => k_is); (case c_law => k_is); (case k_law => k_is); (case z_abs => k_is); (case z_all => k_is); (case z_any => k_is); (case z_bool => k_is); (case z_dict => k_is); (case z_enumerate => k_is); (case z_int => k_is); (case z_isinstance => k_is); (case z_len => k_is); (case z_list => k_is); (case z_max => k_is); (case z_min => k_is); (case z_range => k_is); (case z_tuple => k_is); (case z_permutations => k_is); (case v_MOST_LETTERS => k_is)
