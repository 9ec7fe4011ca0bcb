import PyProof.Rows.All
import Wide.All
import OpenK.AllK
import Wide.FinOn
import HandS.ForMost
import HandS.Flow
import HandS.IsInst
import HandS.Style
import HandS.TupAny
import HandS.TupMul
import HandS.Wide
import HandS.Evl
import HandS.SortKw
import PyProof.ReprReads
import HandS.Zip
import PyProof.ReprLen
import KE.GoesNew
import KE.GoesMore
import KE.GoesEnum
import PyProof.ReprRoads
import HandS.Conv
import PyProof.ReprBulk
import HandS.WideMore
import HandS.WideBits
import HandS.List
import HandS.RaiseMore
import HandS.Gcd
import KE.KMathGC
import PyProof.AutoIntOps
import HandS.DictComp
import HandS.ListItems
import HandS.Iter
import KE.KDictList
import HandS.TupLe
import PyProof.P3Eq
import KE.GoesEnumKw
import PyProof.Rows.CallKwBuiltin
import HandS.More
import HandS.WordsDict
import HandS.SetKeys
import HandS.DictTup
import HandS.TupLen
import HandS.Defaults
import KE.KDictDisplayH
import HandS.Finally
import PyProof.CallFns
import HandS.TupSets
import HandS.Deep
import HandS.TryOnly
import KE.DataCmp
import KE.KMinKey
import KE.DataMinKey
import PySem.Challenge.RW_walkclubs_k51_whole_powers_roots_and_tur
set_option Elab.async false
set_option linter.all false
set_option maxRecDepth 100000
set_option maxHeartbeats 4000000
/-! walks of steps: pairs left out -/
namespace Fg
abbrev Wk := List Int
/-- what is kept, the last one first -/
def stp (st : Wk) (x : Int) : Wk := match st with
  | [] => [x]
  | y :: r => if y = -x then r else x :: y :: r
def run (st : Wk) (u : Wk) : Wk := u.foldl stp st
def rd (u : Wk) : Wk := (run [] u).reverse
def bk (u : Wk) : Wk := (u.map fun x => -x).reverse
/-- no step beside its opposite one (of what is kept) -/
def Red : Wk → Prop
  | [] => True
  | [_] => True
  | x :: y :: r => y ≠ -x ∧ Red (y :: r)
theorem Red.tail {x : Int} {r : Wk} (h : Red (x :: r)) : Red r := by
  cases r with
  | nil => trivial
  | cons y r => exact h.2
theorem red_stp {st : Wk} (x : Int) (h : Red st) : Red (stp st x) := by
  cases st with
  | nil => trivial
  | cons y r =>
    show Red (if y = -x then r else x :: y :: r)
    by_cases e : y = -x
    · rw [if_pos e]
      exact h.tail
    · rw [if_neg e]
      exact ⟨e, h⟩
theorem red_run : ∀ (u : Wk) {st : Wk}, Red st → Red (run st u)
  | [], _, h => h
  | x :: u, _, h => red_run u (red_stp x h)
theorem run_append (st u v : Wk) : run st (u ++ v) = run (run st u) v := List.foldl_append
/-- a step and its opposite one are as nothing -/
theorem stp_pair {st : Wk} (x : Int) (h : Red st) : stp (stp st x) (-x) = st := by
  cases st with
  | nil =>
    show (if x = - -x then [] else [-x, x]) = []
    rw [if_pos (by omega)]
  | cons y r =>
    show stp (if y = -x then r else x :: y :: r) (-x) = y :: r
    by_cases e : y = -x
    · rw [if_pos e]
      cases r with
      | nil => rw [e]; rfl
      | cons z r =>
        show (if z = - -x then r else -x :: z :: r) = y :: z :: r
        have hz : z ≠ -y := h.1
        rw [if_neg (by rw [e] at hz; exact hz), e]
    · rw [if_neg e]
      show (if x = - -x then y :: r else -x :: x :: y :: r) = y :: r
      rw [if_pos (by omega)]
/-- the same from all -/
def Eqv (u v : Wk) : Prop := ∀ st, Red st → run st u = run st v
theorem Eqv.refl (u : Wk) : Eqv u u := fun _ _ => rfl
theorem Eqv.symm {u v : Wk} (h : Eqv u v) : Eqv v u := fun st r => (h st r).symm
theorem Eqv.trans {u v w : Wk} (h : Eqv u v) (k : Eqv v w) : Eqv u w := fun st r => (h st r).trans (k st r)
theorem Eqv.app {u v a b : Wk} (h : Eqv u v) (k : Eqv a b) : Eqv (u ++ a) (v ++ b) := fun st r => by
  rw [run_append, run_append, h st r]
  exact k _ (red_run v r)
theorem eqv_pair (x : Int) : Eqv [x, -x] [] := fun st r => stp_pair x r
theorem eqv_cut (u v : Wk) (x : Int) : Eqv (u ++ [x, -x] ++ v) (u ++ v) := by
  have h := ((Eqv.refl u).app (eqv_pair x)).app (Eqv.refl v)
  rw [List.append_nil] at h
  exact h
theorem rd_eq {u v : Wk} (h : Eqv u v) : rd u = rd v := by
  unfold rd
  rw [h [] trivial]
theorem rd_snoc (u : Wk) (x : Int) : rd (u ++ [x]) = (stp (rd u).reverse x).reverse := by
  unfold rd
  rw [run_append, List.reverse_reverse]
  rfl
theorem run_snoc (st u : Wk) (x : Int) : run st (u ++ [x]) = stp (run st u) x := by
  rw [run_append]
  rfl
/-- what is left is the same -/
theorem eqv_rd : ∀ (n : Nat) (u : Wk), u.length = n → Eqv (rd u) u
  | 0, u, h => by
    have e : u = [] := List.eq_nil_of_length_eq_zero h
    subst e
    exact .refl _
  | n + 1, u, h => by
    obtain ⟨m, x, rfl⟩ : ∃ m x, u = m ++ [x] := ⟨u.dropLast, u.getLast (by intro e; subst e; cases h), (List.dropLast_concat_getLast _).symm⟩
    have ih := eqv_rd n m (by rw [List.length_append] at h; simpa using h)
    have hr : Red (rd m).reverse := by
      unfold rd
      rw [List.reverse_reverse]
      exact red_run m trivial
    intro st r
    rw [rd_snoc, run_snoc, ← ih st r]
    generalize hq : (rd m).reverse = q at hr
    have hm : rd m = q.reverse := by rw [← hq, List.reverse_reverse]
    rw [hm]
    cases q with
    | nil => rfl
    | cons y q =>
      show run st (if y = -x then q else x :: y :: q).reverse = stp (run st (y :: q).reverse) x
      by_cases e : y = -x
      · rw [if_pos e, List.reverse_cons, run_snoc, e]
        have k := stp_pair (-x) (red_run q.reverse r)
        rw [Int.neg_neg] at k
        exact k.symm
      · rw [if_neg e, List.reverse_cons, run_snoc]
theorem eqv_of_rd {u v : Wk} (h : rd u = rd v) : Eqv u v := (eqv_rd _ u rfl).symm.trans (h ▸ eqv_rd _ v rfl)
theorem rd_rd (u : Wk) : rd (rd u) = rd u := rd_eq (eqv_rd _ u rfl)
theorem rd_app (u v : Wk) : rd (rd u ++ rd v) = rd (u ++ v) := rd_eq ((eqv_rd _ u rfl).app (eqv_rd _ v rfl))
theorem bk_app (u v : Wk) : bk (u ++ v) = bk v ++ bk u := by unfold bk; rw [List.map_append, List.reverse_append]
theorem bk_bk (u : Wk) : bk (bk u) = u := by
  unfold bk
  rw [List.map_reverse, List.reverse_reverse, List.map_map]
  have e : ((fun x : Int => -x) ∘ fun x => -x) = id := funext fun x => by show - -x = x; omega
  rw [e, List.map_id]
theorem bk_len (u : Wk) : (bk u).length = u.length := by unfold bk; rw [List.length_reverse, List.length_map]
theorem eqv_bk : ∀ u : Wk, Eqv (u ++ bk u) []
  | [] => .refl _
  | x :: u => by
    have e : bk (x :: u) = bk u ++ [-x] := by
      unfold bk
      rw [List.map_cons, List.reverse_cons]
    rw [e]
    have h := ((Eqv.refl [x]).app (eqv_bk u)).app (Eqv.refl [-x])
    rw [List.append_nil] at h
    refine Eqv.trans ?_ (eqv_pair x)
    have e2 : (x :: u) ++ (bk u ++ [-x]) = [x] ++ (u ++ bk u) ++ [-x] := by simp
    rw [e2]
    exact h
theorem eqv_kb (u : Wk) : Eqv (bk u ++ u) [] := by
  have h := eqv_bk (bk u)
  rw [bk_bk] at h
  exact h
theorem Eqv.bk {u v : Wk} (h : Eqv u v) : Eqv (Fg.bk u) (Fg.bk v) := by
  -- back u ~ back u, v, back v ~ back u, u, back v ~ back v
  have h1 : Eqv (Fg.bk u) (Fg.bk u ++ (v ++ Fg.bk v)) := by
    have k := (Eqv.refl (Fg.bk u)).app (eqv_bk v).symm
    rw [List.append_nil] at k
    exact k
  have h2 : Eqv (Fg.bk u ++ (v ++ Fg.bk v)) (Fg.bk u ++ (u ++ Fg.bk v)) := (Eqv.refl _).app (h.symm.app (.refl _))
  have h3 : Eqv (Fg.bk u ++ (u ++ Fg.bk v)) (Fg.bk v) := by
    rw [← List.append_assoc]
    have k := (eqv_kb u).app (Eqv.refl (Fg.bk v))
    exact k
  exact (h1.trans h2).trans h3
/-- straight: no pair side by side -/
def Str (u : Wk) : Prop := ∀ i x, u[i]? = some x → u[i + 1]? ≠ some (-x)
theorem str_nil : Str [] := fun i x h => by simp at h
theorem str_snoc {u : Wk} {x : Int} (h : Str u) (hl : u.getLast? ≠ some (-x)) : Str (u ++ [x]) := by
  intro i z hz e
  by_cases hi : i + 1 < u.length
  · rw [List.getElem?_append_left (by omega)] at hz
    rw [List.getElem?_append_left hi] at e
    exact h i z hz e
  · by_cases hi2 : i + 1 = u.length
    · rw [List.getElem?_append_left (by omega)] at hz
      rw [List.getElem?_append_right (by omega), hi2, Nat.sub_self] at e
      have e' : x = -z := Option.some.inj e
      apply hl
      rw [List.getLast?_eq_getElem?]
      have e3 : u.length - 1 = i := by omega
      rw [e3, hz, e']
      congr 1
      omega
    · rw [List.getElem?_eq_none (by rw [List.length_append]; simp; omega)] at e
      cases e
theorem str_init {u : Wk} {x : Int} (h : Str (u ++ [x])) : Str u ∧ u.getLast? ≠ some (-x) := by
  refine ⟨fun i z hz e => ?_, fun e => ?_⟩
  · have l2 : i + 1 < u.length := (List.getElem?_eq_some_iff.mp e).1
    refine h i z ?_ ?_
    · rw [List.getElem?_append_left (by omega)]
      exact hz
    · rw [List.getElem?_append_left l2]
      exact e
  · rw [List.getLast?_eq_getElem?] at e
    have l1 : u.length - 1 < u.length := (List.getElem?_eq_some_iff.mp e).1
    refine h (u.length - 1) (-x) ?_ ?_
    · rw [List.getElem?_append_left l1]
      exact e
    · rw [show u.length - 1 + 1 = u.length by omega, List.getElem?_append_right (Nat.le_refl _), Nat.sub_self, Int.neg_neg]
      rfl
/-- a straight one stays -/
theorem rd_of_str : ∀ (n : Nat) (u : Wk), u.length = n → Str u → rd u = u
  | 0, u, h, _ => by
    have e : u = [] := List.eq_nil_of_length_eq_zero h
    subst e
    rfl
  | n + 1, u, h, s => by
    obtain ⟨m, x, rfl⟩ : ∃ m x, u = m ++ [x] := ⟨u.dropLast, u.getLast (by intro e; subst e; cases h), (List.dropLast_concat_getLast _).symm⟩
    obtain ⟨s1, s2⟩ := str_init s
    have ih := rd_of_str n m (by rw [List.length_append] at h; simpa using h) s1
    rw [rd_snoc, ih]
    generalize hq : m.reverse = q
    have hm : m = q.reverse := by rw [← hq, List.reverse_reverse]
    cases q with
    | nil => rw [hm]; rfl
    | cons y q =>
      have hl : m.getLast? = some y := by rw [hm, List.reverse_cons, List.getLast?_append]; rfl
      have hy : y ≠ -x := fun e => s2 (by rw [hl, e])
      show (if y = -x then q else x :: y :: q).reverse = m ++ [x]
      rw [if_neg hy, List.reverse_cons, ← hm]
theorem str_of_red : ∀ {st : Wk}, Red st → Str st.reverse
  | [], _ => str_nil
  | [x], _ => str_snoc (u := []) (x := x) str_nil (by simp)
  | x :: y :: r, h => by
    rw [List.reverse_cons]
    refine str_snoc (str_of_red h.2) ?_
    rw [List.reverse_cons, List.getLast?_append]
    intro e
    exact h.1 (Option.some.inj e)
theorem str_rd (u : Wk) : Str (rd u) := str_of_red (red_run u trivial)
theorem rd_str {u : Wk} (h : Str u) : rd u = u := rd_of_str _ u rfl h
theorem str_bk {u : Wk} (h : Str u) : Str (bk u) := by
  intro i x hx e
  unfold bk at hx e
  have l1 : i + 1 < u.length := by
    have := (List.getElem?_eq_some_iff.mp e).1
    simpa using this
  rw [List.getElem?_reverse (by simpa using (by omega : i < u.length)), List.getElem?_map] at hx
  rw [List.getElem?_reverse (by simpa using l1), List.getElem?_map] at e
  simp only [List.length_map] at hx e
  cases h1 : u[u.length - 1 - i]? with
  | none => rw [h1] at hx; cases hx
  | some z =>
    rw [h1] at hx
    have ez : -z = x := Option.some.inj hx
    cases h2 : u[u.length - 1 - (i + 1)]? with
    | none => rw [h2] at e; cases e
    | some y =>
      rw [h2] at e
      have ey : -y = -x := Option.some.inj e
      refine h (u.length - 1 - (i + 1)) y h2 ?_
      rw [show u.length - 1 - (i + 1) + 1 = u.length - 1 - i by omega, h1]
      congr 1
      omega
theorem rd_bk (u : Wk) : rd (bk u) = bk (rd u) := by
  rw [← rd_str (str_bk (str_rd u))]
  exact rd_eq (eqv_rd _ u rfl).symm.bk
theorem rd_len_le : ∀ (n : Nat) (u : Wk), u.length = n → (rd u).length ≤ u.length
  | 0, u, h => by
    have e : u = [] := List.eq_nil_of_length_eq_zero h
    subst e
    exact Nat.le_refl _
  | n + 1, u, h => by
    obtain ⟨m, x, rfl⟩ : ∃ m x, u = m ++ [x] := ⟨u.dropLast, u.getLast (by intro e; subst e; cases h), (List.dropLast_concat_getLast _).symm⟩
    have ih := rd_len_le n m (by rw [List.length_append] at h; simpa using h)
    rw [rd_snoc]
    generalize hq : (rd m).reverse = q
    have hm : rd m = q.reverse := by rw [← hq, List.reverse_reverse]
    rw [hm] at ih
    rw [List.length_append]
    cases q with
    | nil =>
      show 1 ≤ m.length + 1
      omega
    | cons y q =>
      show (if y = -x then q else x :: y :: q).reverse.length ≤ m.length + 1
      rw [List.length_reverse] at ih ⊢
      rw [List.length_cons] at ih
      split
      · omega
      · simp only [List.length_cons]
        omega
theorem rd_len (u : Wk) : (rd u).length ≤ u.length := rd_len_le _ u rfl
/-- u so many times -/
def rep : Nat → Wk → Wk
  | 0, _ => []
  | k + 1, u => rep k u ++ u
theorem rep_flat (k : Nat) (u : Wk) : (List.replicate k u).flatten = rep k u := by
  induction k with
  | zero => rfl
  | succ k ih =>
    rw [List.replicate_succ', List.flatten_append, ih]
    show rep k u ++ (u ++ []) = rep k u ++ u
    rw [List.append_nil]
theorem rep_len (k : Nat) (u : Wk) : (rep k u).length = k * u.length := by
  induction k with
  | zero => simp [rep]
  | succ k ih =>
    show (rep k u ++ u).length = (k + 1) * u.length
    rw [List.length_append, ih, Nat.succ_mul]
theorem eqv_rep {u v : Wk} (h : Eqv u v) : ∀ k, Eqv (rep k u) (rep k v)
  | 0 => .refl _
  | k + 1 => (eqv_rep h k).app h
end Fg
/-! rules that the layer lacks: ** of wide ints, tuple * any int, t[::-1] of a tuple, a call of keywords alone -/
namespace HT
open PySem PySem.Spec PyProof.Rows
section
variable {prog : Program} {w : World} {A : Around} {E : Value → Shared → Prop} {s : Shared}
theorem wk_pick (xs : Array Value) : ((List.range xs.size).filterMap fun (k : Nat) => xs[((((xs.size : Nat) : Int) - 1) + (k : Int) * (-1)).toNat]?).toArray = xs.toList.reverse.toArray := by
  have e : (List.range xs.size).filterMap (fun (k : Nat) => xs[((((xs.size : Nat) : Int) - 1) + (k : Int) * (-1)).toNat]?) = ((List.range xs.size).map fun k => xs.size - 1 - k).filterMap (xs[·]?) := by
    rw [List.filterMap_map]
    have e0 : (fun (k : Nat) => xs[((((xs.size : Nat) : Int) - 1) + (k : Int) * (-1)).toNat]?) = ((xs[·]?) ∘ fun k => xs.size - 1 - k) := by
      funext k
      have e1 : ((((xs.size : Nat) : Int) - 1) + (k : Int) * (-1)).toNat = xs.size - 1 - k := by omega
      show xs[((((xs.size : Nat) : Int) - 1) + (k : Int) * (-1)).toNat]? = xs[xs.size - 1 - k]?
      rw [e1]
    rw [e0]
  rw [e, PySem.W.krv_range, List.filterMap_reverse, PySem.W.krv_all]
theorem wk_places (n : Nat) : Builtin.Slice.slicePlaces ((n : Int) - 1) (-1) (-1) = n := by
  unfold Builtin.Slice.slicePlaces
  rw [if_neg (by decide)]
  by_cases h : n = 0
  · subst h
    rfl
  · rw [if_pos (by omega), show (- -1 : Int) = 1 from rfl, Int.ediv_one]
    omega
theorem wk_applied {sl : Addr} {vs : Value} {n : Nat} {Q : Int × Int × Nat → Shared → Prop} (hs : s.heap.IsSliceOf sl .none .none vs) (ps : IsPart vs (some (-1)))
    (h : Q ((n : Int) - 1, -1, n) s) : wpAny (model prog w) A (Builtin.Slice.sliceApplied (.ref sl) (pure (n : Int))) Q E s := by
  obtain ⟨os, hos, hcs, hds⟩ := id hs
  unfold Builtin.Slice.sliceApplied Builtin.Slice.sliceFields
  refine wpAny_bind (wpAny_bind (wpAny_field hos hds (x := .none) rfl (wpAny_bind (wpAny_field hos hds (x := .none) rfl (wpAny_bind (wpAny_field hos hds (x := vs) rfl (wpAny_pure ?_)))))))
  refine wpAny_bind (slicePart_ ps ?_)
  show wpAny _ _ (if ((-1 : Int) == 0) = true then _ else _) _ _ s
  rw [if_neg (by decide)]
  refine wpAny_bind (slicePart_none (wpAny_bind (slicePart_none (wpAny_bind (wpAny_pure ?_)))))
  show wpAny _ _ (pure (((n : Int) - 1), (-1 : Int), Builtin.Slice.slicePlaces ((n : Int) - 1) (-1) (-1))) _ _ s
  rw [wk_places]
  exact wpAny_pure h
theorem wk_getItem_tuple_rev {t sl : Addr} {items : Array Value} {vs : Value} {Q : Value → Shared → Prop} (ht : IsTup s.heap t items) (hs : s.heap.IsSliceOf sl .none .none vs) (ps : IsPart vs (some (-1)))
    (h : Q (.ref s.heap.objs.size) { s with heap := s.heap.push { cls := .type "tuple", data := .seq items.toList.reverse.toArray } })
    (hsz : items.size ≤ sizeLine) : wpAny (model prog w) A (getItem (.ref t) (.ref sl)) Q E s := by
  have htake : sizeOk (.seq items.toList.reverse.toArray) := by
    show items.toList.reverse.toArray.size ≤ sizeLine
    rw [List.size_toArray, List.length_reverse, Array.length_toList]
    exact hsz
  obtain ⟨os, hos, hcs, hds⟩ := id hs
  have hTs : s.TypeIs (.ref sl) "slice" := ⟨os, hos, hcs⟩
  unfold getItem
  try with_reducible refine wpAny_holding ?_
  first | refine wpAny_bind (wpAny_pure ?_) | skip
  refine wpAny_bind (wpAny_sequenceKey ht.typeIs (by decide) ?_)
  refine wpAny_bind (wpAny_callSpecial?_slot (name := Str.ofString "__getitem__") ht.typeIs PyProof.Rows.slot_tuple_getitem
    (wpAny_call_entry PyProof.Rows.slot_tuple_getitem ht.typeIs entry_tuple_getitem ?_ (args_tuple_getitem _ _)))
  show wpAny _ _ (Builtin.Tuple.tupleItemsOf (.ref t) >>= _) _ _ s
  refine wpAny_bind (tupleItemsOf_ ht ?_)
  refine wpAny_bind (wpAny_typeOf hTs ?_)
  rw [if_pos (by decide)]
  refine wpAny_bind (wk_applied hs ps ?_)
  have hno : ¬ (((((items.size : Nat) : Int) - 1) == 0 && (-1 : Int) == 1 && items.size == items.size) = true) := by
    intro q
    rw [Bool.and_eq_true, Bool.and_eq_true] at q
    exact absurd q.1.2 (by decide)
  show wpAny _ _ (if ((((items.size : Nat) : Int) - 1) == 0 && (-1 : Int) == 1 && items.size == items.size) = true then _ else _) _ _ s
  rw [if_neg hno, wk_pick]
  first
    | exact wpAny_bind (m := Builtin.Tuple.tupleExact _) (wpAny_newObj_type (wpAny_pure ⟨_, rfl, wpAny_pure h⟩) htake)
    | exact wpAny_bind (m := Builtin.Tuple.tupleExact _) (wpAny_newObj_type (wpAny_bind (wpAny_pure (wpAny_pure ⟨_, rfl, wpAny_pure h⟩))) htake)
    | exact wpAny_bind (wpAny_bind (m := Builtin.Tuple.tupleExact _) (wpAny_newObj_type (wpAny_pure (wpAny_pure ⟨_, rfl, wpAny_pure h⟩)) htake))
    | exact wpAny_bind (wpAny_bind (m := Builtin.Tuple.tupleExact _) (wpAny_newObj_type (wpAny_pure ⟨_, rfl, wpAny_pure h⟩) htake))
end
end HT
namespace L2
open PySem PySem.Spec PyProof.Rows HT
/-! ### ** -/
def CPowW (i j : Int) : Prop := 0 ≤ j ∧ (Builtin.Int.intBits i : Int) * j ≤ 2 ^ 27
section
variable {X : Cx}
theorem op_powW : OpR X (binaryOp .Pow) (rI CPowW fun i j => .int (i ^ j.toNat)) := opI fun _ _ _ _ _ _ _ hc q => pow_int hc.1 hc.2 q
end
theorem wide_bits {i : Int} {a : Nat} (h0 : 0 < a) (ha : i.natAbs < 2 ^ a) : Builtin.Int.intBits i ≤ a := by
  have x := PySem.Flt.log2_lt_of h0 ha
  unfold Builtin.Int.intBits
  split <;> omega
theorem wide_pow {i : Int} {a k : Nat} (h0 : 0 < a) (ha : i.natAbs < 2 ^ a) (h : a * k ≤ 134217728) : CPowW i (k : Int) := by
  refine ⟨by omega, ?_⟩
  have x := wide_bits h0 ha
  have y : Builtin.Int.intBits i * k ≤ a * k := Nat.mul_le_mul_right k x
  have z : ((Builtin.Int.intBits i * k : Nat) : Int) ≤ 2 ^ 27 := by
    have : Builtin.Int.intBits i * k ≤ 134217728 := Nat.le_trans y h
    have e : (2 : Int) ^ 27 = 134217728 := by decide
    rw [e]
    omega
  rw [Int.natCast_mul] at z
  exact z
/-! ### tuple * int, any -/
theorem wk_tuple_same (l : Addr) (items : Array Value) (n : Nat) (dd : Option Addr) (sl : Array (Option Value)) (x : Int) (u : Tok) (c0 : (decide (x < -(2 ^ 63)) || decide (x ≥ 2 ^ 63)) = false) (c1 : (items.isEmpty || x == 1) = true) :
    Meets (Builtin.«tuple.__mul__» ⟨[.ref l, .int x u], []⟩) (fun _ R s => s.heap.get? l = some { cls := .type "tuple", dict := dd, data := .seq items n, slots := sl } ∧ R (.ok (.ret (Value.ref l))) s) :=
  .of_wp fun prog w A R s h => by
    obtain ⟨hp, g, d, tk, os⟩ := s
    obtain ⟨hl, h⟩ := h
    have f1 := AutoSeq1.idx_int
    wp_walk using wpAny_loadPart' hl
    repeat (first
      | (refine wpAny_ite_false (decide_eq_false (by rw [c0]; exact Bool.false_ne_true)) ?_; wp_walk using wpAny_loadPart' hl)
      | (refine wpAny_ite_true (decide_eq_true c1) ?_; wp_walk using wpAny_loadPart' hl))
    exact ⟨_, rfl, h⟩
theorem wk_tuple_none (l : Addr) (items : Array Value) (n : Nat) (dd : Option Addr) (sl : Array (Option Value)) (x : Int) (u : Tok) (c0 : (decide (x < -(2 ^ 63)) || decide (x ≥ 2 ^ 63)) = false) (c1 : (items.isEmpty || x == 1) = false) (c2 : (decide (x ≤ 0) || items.isEmpty) = true) :
    Meets (Builtin.«tuple.__mul__» ⟨[.ref l, .int x u], []⟩) (fun _ R s => s.heap.get? l = some { cls := .type "tuple", dict := dd, data := .seq items n, slots := sl } ∧
      R (.ok (.ret (Value.ref s.heap.objs.size))) { s with heap := s.heap.push { cls := Value.type "tuple", data := Data.seq #[] }, toks := s.toks }) :=
  .of_wp fun prog w A R s h => by
    obtain ⟨hp, g, d, tk, os⟩ := s
    obtain ⟨hl, h⟩ := h
    have f1 := AutoSeq1.idx_int
    wp_walk using wpAny_loadPart' hl
    repeat (first
      | (refine wpAny_ite_false (decide_eq_false (by rw [c0]; exact Bool.false_ne_true)) ?_; wp_walk using wpAny_loadPart' hl)
      | (refine wpAny_ite_false (decide_eq_false (by rw [c1]; exact Bool.false_ne_true)) ?_; wp_walk using wpAny_loadPart' hl)
      | (refine wpAny_ite_true (decide_eq_true c2) ?_; wp_walk using wpAny_loadPart' hl))
    exact ⟨_, rfl, h⟩
def rRepTA (K : PySem.W.Frag) : R2 := fun x y H Q => ∃ l k xs, x = .ref l ∧ y = .int k ∧ SqT K H l xs ∧ 0 ≤ k ∧ k ≤ 1000 ∧ xs.length ≤ 1000 ∧
  (xs = [] ∨ k = 1 → Q (.ref l) H) ∧ (¬ (xs = [] ∨ k = 1) → ∀ p, H p = none → Q (.ref p) (upd H p (.tup (List.replicate k.toNat xs).flatten)))
section
variable {X : Cx}
theorem op_repTA : OpR X (binaryOp .Mult) (rRepTA X.K) := by
  intro pins s σ H x y v u Q I rx ry h
  obtain ⟨l, k, xs, rfl, rfl, hT, h1, h2, hz, q1, q2⟩ := h
  by_cases h2k : 2 ≤ k ∧ xs ≠ []
  · exact op_repT pins s σ H _ _ v u Q I rx ry ⟨l, k, xs, rfl, rfl, hT, h2k.2, h2k.1, h2, hz, q2 (fun z => z.elim h2k.2 fun e => by have := h2k.1; omega)⟩
  · cases rx
    obtain ⟨t, rfl⟩ := ry
    obtain ⟨its, r, ⟨⟨cls, dd, data, sl⟩, ho, hc, n, hd⟩, hs⟩ := I.tuple hT
    simp only at hc hd
    subst hc hd
    have hle : its.length = xs.length := r.length.symm
    have c0 : (decide (k < -(2 ^ 63)) || decide (k ≥ 2 ^ 63)) = false := by
      rw [decide_eq_false (by omega), decide_eq_false (by omega)] <;> rfl
    have hi : its.toArray.isEmpty = decide (xs = []) := by
      cases its with
      | nil =>
        have e : xs = [] := List.eq_nil_of_length_eq_zero (by simpa using hle.symm)
        subst e
        rfl
      | cons a b =>
        have e : xs ≠ [] := fun z => by
          subst z
          simp at hle
        rw [decide_eq_false e]
        rfl
    by_cases hw : xs = [] ∨ k = 1
    · have c1 : (its.toArray.isEmpty || k == 1) = true := by
        rw [hi]
        rcases hw with e | e
        · simp [e]
        · simp [e]
      refine wpAny_binaryOp_repeat_ref (T := "tuple") (U := "int") (by decide) ⟨_, ho, rfl⟩ (fun s' => typeIs_int s' k t) noFill_tuple_mul F.fills_int_mul F.slot_int_rmul repeat_tuple F.slot_int_index.lookup
        (call_meets F.slot_int_rmul (typeIs_int s k t) F.entry_int_rmul (F.args_int_rmul_2 _ _) (int_rmul_tuple k t l its.toArray n dd sl)
          ⟨ho, rfl, ⟨_, ho, rfl⟩, call_meets F.slot_tuple_mul ⟨_, ho, rfl⟩ F.entry_tuple_mul (F.args_tuple_mul_2 _ _) (wk_tuple_same l its.toArray n dd sl k t c0 c1) ⟨ho, ?_⟩⟩)
      exact ⟨.ref l, H, I, rfl, q1 hw⟩
    · have hne : xs ≠ [] := fun e => hw (.inl e)
      have hk0 : k = 0 := by
        have h3 : ¬ 2 ≤ k := fun z => h2k ⟨z, hne⟩
        have h4 : k ≠ 1 := fun z => hw (.inr z)
        omega
      have c1 : (its.toArray.isEmpty || k == 1) = false := by
        rw [hi, decide_eq_false hne, hk0]
        rfl
      have c2 : (decide (k ≤ 0) || its.toArray.isEmpty) = true := by
        rw [hk0]
        rfl
      refine wpAny_binaryOp_repeat_ref (T := "tuple") (U := "int") (by decide) ⟨_, ho, rfl⟩ (fun s' => typeIs_int s' k t) noFill_tuple_mul F.fills_int_mul F.slot_int_rmul repeat_tuple F.slot_int_index.lookup
        (call_meets F.slot_int_rmul (typeIs_int s k t) F.entry_int_rmul (F.args_int_rmul_2 _ _) (int_rmul_tuple k t l its.toArray n dd sl)
          ⟨ho, rfl, ⟨_, ho, rfl⟩, call_meets F.slot_tuple_mul ⟨_, ho, rfl⟩ F.entry_tuple_mul (F.args_tuple_mul_2 _ _) (wk_tuple_none l its.toArray n dd sl k t c0 c1 c2) ⟨ho, ?_⟩⟩)
      refine ⟨.ref s.heap.objs.size, _, I.laid (t' := s.toks) (o := .tup (List.replicate k.toNat xs).flatten) (fun b ob q => Heap.get?_push_of_some _ q) (Nat.le_refl _) ?_, rfl, q2 hw _ (I.hok.fresh (Nat.le_refl _))⟩
      subst hk0
      exact ⟨Nat.zero_le _, [], .nil, IsTup.new _ _⟩
/-! ### t[::-1] -/
def tRevT (K : PySem.W.Frag) (te : TE) : TE := fun σ H Q => te σ H fun x H1 => ∃ a xs, x = .ref a ∧ SqT K H1 a xs ∧ ∀ p, H1 p = none → Q (.ref p) (upd H1 p (.tup xs.reverse))
theorem pe_revT {e : Expr} {te : TE} {k : Nat} {p1 p2 p3 pos : Pos} (he : PE X e te) : PE X (.Subscript e (.Slice none none (some (.UnaryOp .USub (.Constant (.int 1) k p1) p2)) p3) pos) (tRevT X.K te) := by
  refine ⟨fun pins s σ H Q I h => ?_⟩
  refine Subscript_ (thn (he.run pins s σ H _ I h) fun v s1 ⟨x, H1, I1, r1, q1⟩ => ?_)
  obtain ⟨a, xs, ex, hx, q⟩ := q1
  subst ex
  cases r1
  have hst : PO X (some (.UnaryOp .USub (.Constant (.int 1) k p1) p2)) (tPart (tUn (rU fun i => .int (-i)) (tC (.int 1)))) := po_some (pe_un un_neg pe_int)
  refine wpAny_Slice (thn (po_none.run pins s1 σ H1 (fun o H2 => o = none ∧ H2 = H1) I1 ⟨rfl, rfl⟩) fun vl s2 ⟨l, H2, I2, pl, el, e2⟩ => ?_)
  subst el e2
  cases pl
  refine thn (po_none.run pins s2 σ H2 (fun o H3 => o = none ∧ H3 = H2) I2 ⟨rfl, rfl⟩) fun vu s3 ⟨u, H3, I3, pu, eu, e3⟩ => ?_
  subst eu e3
  cases pu
  refine thn (hst.run pins s3 σ H3 (fun o H4 => o = some (-1) ∧ H4 = H3) I3 ⟨1, rfl, -1, rfl, rfl, rfl⟩) fun vs s4 ⟨o, H4, I4, ps, eo, e4⟩ => ?_
  subst eo e4
  have I5 : Inv X pins σ H4 { s4 with heap := s4.heap.push { cls := .type "slice", data := .fields #[.none, .none, vs] } } := I4.kept (t' := s4.toks) fun b ob q => Heap.get?_push_of_some _ q
  obtain ⟨its, r, ht, hz⟩ := I5.tuple hx
  have hlen := r.length
  show wpAny (model X.prog X.w) X.A (subscriptTail e (.Slice none none (some (.UnaryOp .USub (.Constant (.int 1) k p1) p2)) p3) (.ref a) (.ref s4.heap.objs.size)) (EP X pins σ Q) X.xe { s4 with heap := s4.heap.push { cls := .type "slice", data := .fields #[.none, .none, vs] } }
  refine tail_any (ops := [.ref a, .ref s4.heap.objs.size]) ht.typeIs (PyProof.Rows.slot_tuple_getitem.lookup) ?_ (by with_unfolding_all rfl)
  refine wk_getItem_tuple_rev ht (Heap.IsSliceOf.new _ .none .none vs) ps ?_ (by rw [List.size_toArray]; omega)
  refine ⟨.ref _, _, I5.laid (t' := s4.toks) (o := .tup xs.reverse) (fun b ob q => Heap.get?_push_of_some _ q) (Nat.le_refl _) ?_, rfl, q _ (I5.hok.fresh (Nat.le_refl _))⟩
  exact ⟨by rw [List.length_reverse]; exact hz, _, r.reverse, IsTup.new _ _⟩
end
/-! ### f(k = v, ..) -/
section
variable {X : Cx} {CX : CXT} {k : Nat} {f : Addr} {fd : FuncData} {ps ks : List Str} {sp : Sp} {E : XK} {x : Str} {p pos : Pos} {kws : List Keyword} {tk : TA} {g : List Value → List Value → List Value} {gV : List V → List V → List V}
theorem pe_callK0 (F : FnOk X.prog X.w X.K X.mg X.base CX k f fd ps sp) (hr : Room k X.A) (hg : Gl X x) (hm : X.mg x = some (.ref f)) (hk : PySem.W.keepIn X.K (.ref f) = true) (hb : KBinds X.K fd ps ks g gV) (hx : Passes CX X E)
    (hkw : PK X kws tk) (hall : (backToKw pos (keywordEach kws X.env)).all (·.1.isSome) = true := by rfl) (hks : (backToKw pos (keywordEach kws X.env)).filterMap (·.1) = ks := by rfl)
    (hdb : (x == ("__debug__" : Str)) = false := by decide)
    (hpl : ((backTo pos (starEach [] X.env)).any (·.1) || (backToKw pos (keywordEach kws X.env)).any (·.1.isNone)) = false := by rfl) :
    PE X (.Call (.Name x p) [] kws pos) (tCallK sp gV E tNil tk) := by
  refine ⟨fun pins s σ H Q I h => ?_⟩
  refine wpAny_Call_Name_kw (ld_glob I hg hm ?_ hdb)
  refine PySem.W.callWith_KW0 (h₀ := X.base) I.ok.mod.kin hk hall ?_ hpl
  refine thn (hkw.run pos pins s σ H _ I h) fun ws s2 ⟨zs, H2, I2, rz, q2⟩ => ⟨I2.kIn, ?_⟩
  rw [hks]
  exact run_fnk (us := []) (vs := []) F hr hb hx I2 .nil rz q2
end
end L2
/-! operators that go by what they meet: ints, lists, tuples -/
namespace L2
open PySem PySem.Spec PyProof.Rows Evl
def rAddI : R2 := rI0 fun i j => .int (i + j)
def rSubI : R2 := rI0 fun i j => .int (i - j)
def rMulI : R2 := rI CMul fun i j => .int (i * j)
def rMulJ : R2 := rI CMulW fun i j => .int (i * j)
def rModI : R2 := rI (fun _ j => 0 < j) fun i j => .int (i % j)
def rAddU (K : PySem.W.Frag) : R2 := fun x y H Q => rAddI x y H Q ∨ rCat x y H Q ∨ rCatA K x y H Q
def rMulU (K : PySem.W.Frag) : R2 := fun x y H Q => rMulI x y H Q ∨ rMulJ x y H Q ∨ rRep x y H Q ∨ rRepTA K x y H Q
def rEqU (K : PySem.W.Frag) : R2 := fun x y H Q => rEq x y H Q ∨ rEqD K x y H Q
def rNeU (K : PySem.W.Frag) : R2 := fun x y H Q => rNe x y H Q ∨ rNeD K x y H Q
def rSlU (K : PySem.W.Frag) : V → Option Int → Option Int → Hp → VK → Prop := fun x lo hi H Q => rSlL K x lo hi H Q ∨ rSlA K x lo hi H Q
section
variable {X : Cx}
theorem op_addU : OpR X (binaryOp .Add) (rAddU X.K) := op_add.or (op_cat.or op_catA)
theorem op_mulU : OpR X (binaryOp .Mult) (rMulU X.K) := op_mul.or (op_mulW.or (op_rep.or op_repTA))
theorem op_eqU (hu : X.A.units + 64 < cLine) : OpR X (compareOp .Eq) (rEqU X.K) := op_eq.or (op_eqD hu)
theorem op_neU (hu : X.A.units + 64 < cLine) : OpR X (compareOp .NotEq) (rNeU X.K) := op_ne.or (op_neD hu)
theorem sl_U : SlR X (rSlU X.K) := sl_list.or sl_tupA
def tRevU (K : PySem.W.Frag) (te : TE) : TE := fun σ H Q => te σ H fun x H1 => (∃ a xs, x = .ref a ∧ SqL K H1 a xs ∧ ∀ p, H1 p = none → Q (.ref p) (upd H1 p (.lst xs.reverse))) ∨ (∃ a xs, x = .ref a ∧ SqT K H1 a xs ∧ ∀ p, H1 p = none → Q (.ref p) (upd H1 p (.tup xs.reverse)))
/-- the reading of a part may be parted: what it gives is one of two -/
theorem pe_revU {e : Expr} {te : TE} {k : Nat} {p1 p2 p3 pos : Pos} (he : PE X e te) : PE X (.Subscript e (.Slice none none (some (.UnaryOp .USub (.Constant (.int 1) k p1) p2)) p3) pos) (tRevU X.K te) := by
  refine ⟨fun pins s σ H Q I h => ?_⟩
  refine Subscript_ (thn (he.run pins s σ H _ I h) fun v s1 ⟨x, H1, I1, r1, q1⟩ => ?_)
  have hst : PO X (some (.UnaryOp .USub (.Constant (.int 1) k p1) p2)) (tPart (tUn (rU fun i => .int (-i)) (tC (.int 1)))) := po_some (pe_un un_neg pe_int)
  refine wpAny_Slice (thn (po_none.run pins s1 σ H1 (fun o H2 => o = none ∧ H2 = H1) I1 ⟨rfl, rfl⟩) fun vl s2 ⟨l, H2, I2, pl, el, e2⟩ => ?_)
  subst el e2
  cases pl
  refine thn (po_none.run pins s2 σ H2 (fun o H3 => o = none ∧ H3 = H2) I2 ⟨rfl, rfl⟩) fun vu s3 ⟨u, H3, I3, pu, eu, e3⟩ => ?_
  subst eu e3
  cases pu
  refine thn (hst.run pins s3 σ H3 (fun o H4 => o = some (-1) ∧ H4 = H3) I3 ⟨1, rfl, -1, rfl, rfl, rfl⟩) fun vs s4 ⟨o, H4, I4, ps, eo, e4⟩ => ?_
  subst eo e4
  have I5 : Inv X pins σ H4 { s4 with heap := s4.heap.push { cls := .type "slice", data := .fields #[.none, .none, vs] } } := I4.kept (t' := s4.toks) fun b ob q => Heap.get?_push_of_some _ q
  rcases q1 with ⟨a, xs, ex, hx, q⟩ | ⟨a, xs, ex, hx, q⟩
  · subst ex
    cases r1
    obtain ⟨its, r, ht, hz⟩ := I5.list hx
    have hlen := r.length
    show wpAny (model X.prog X.w) X.A (subscriptTail e (.Slice none none (some (.UnaryOp .USub (.Constant (.int 1) k p1) p2)) p3) (.ref a) (.ref s4.heap.objs.size)) (EP X pins σ Q) X.xe { s4 with heap := s4.heap.push { cls := .type "slice", data := .fields #[.none, .none, vs] } }
    refine tail_any (ops := [.ref a, .ref s4.heap.objs.size]) ht.isList.typeIs (PySem.slot_list_getitem.lookup) ?_ (by with_unfolding_all rfl)
    refine wpAny_getItem_list_slice ht.isList (Heap.IsSliceOf.new _ .none .none vs) .none .none ps (by decide) ?_ (by rw [List.size_toArray]; omega)
    rw [PySem.W.krv_pick]
    refine ⟨.ref _, _, I5.laid (t' := s4.toks) (o := .lst xs.reverse) (fun b ob q => Heap.get?_push_of_some _ q) (Nat.le_refl _) ?_, rfl, q _ (I5.hok.fresh (Nat.le_refl _))⟩
    exact ⟨by rw [List.length_reverse]; exact hz, _, 0, r.reverse, Heap.get?_push_size _ rfl⟩
  · subst ex
    cases r1
    obtain ⟨its, r, ht, hz⟩ := I5.tuple hx
    have hlen := r.length
    show wpAny (model X.prog X.w) X.A (subscriptTail e (.Slice none none (some (.UnaryOp .USub (.Constant (.int 1) k p1) p2)) p3) (.ref a) (.ref s4.heap.objs.size)) (EP X pins σ Q) X.xe { s4 with heap := s4.heap.push { cls := .type "slice", data := .fields #[.none, .none, vs] } }
    refine tail_any (ops := [.ref a, .ref s4.heap.objs.size]) ht.typeIs (PyProof.Rows.slot_tuple_getitem.lookup) ?_ (by with_unfolding_all rfl)
    refine HT.wk_getItem_tuple_rev ht (Heap.IsSliceOf.new _ .none .none vs) ps ?_ (by rw [List.size_toArray]; omega)
    refine ⟨.ref _, _, I5.laid (t' := s4.toks) (o := .tup xs.reverse) (fun b ob q => Heap.get?_push_of_some _ q) (Nat.le_refl _) ?_, rfl, q _ (I5.hok.fresh (Nat.le_refl _))⟩
    exact ⟨by rw [List.length_reverse]; exact hz, _, r.reverse, IsTup.new _ _⟩
end

/-! ### heaps -/
abbrev IT (K : PySem.W.Frag) (H : Hp) (a : Addr) (ns : List Int) : Prop := SqT K H a (ns.map V.int)
abbrev IL (K : PySem.W.Frag) (H : Hp) (a : Addr) (ns : List Int) : Prop := SqL K H a (ns.map V.int)
/-- all but what stands at w is as it was -/
def ExW (w : Addr) (H H' : Hp) : Prop := ∀ a o, H a = some o → a ≠ w → H' a = some o
theorem ExW.refl {w : Addr} (H : Hp) : ExW w H H := fun _ _ h _ => h
theorem ExW.trans {w : Addr} {H H1 H2 : Hp} (a : ExW w H H1) (b : ExW w H1 H2) : ExW w H H2 := fun x o h n => b x o (a x o h n) n
theorem ExW.of {w : Addr} {H H' : Hp} (e : Ex H H') : ExW w H H' := fun a o h _ => e a o h
theorem ExW.upd {w : Addr} {H : Hp} {o : HO} : ExW w H (upd H w o) := fun a u h n => by
  rw [upd_ne n]
  exact h
theorem exw_t {K : PySem.W.Frag} {w : Addr} {H H' : Hp} {a : Addr} {xs ys : List V} (e : ExW w H H') (hw : H w = some (.lst ys)) (h : SqT K H a xs) : SqT K H' a xs := by
  rcases h with (h | ⟨o, h⟩) | h
  · exact .inl (.inl (e _ _ h (ne_of h hw (by intro z; cases z))))
  · exact .inl (.inr ⟨o, e _ _ h (ne_of h hw (by intro z; cases z))⟩)
  · exact .inr h
theorem exw_l {K : PySem.W.Frag} {w : Addr} {H H' : Hp} {a : Addr} {xs : List V} (e : ExW w H H') (hw : a ≠ w) (h : SqL K H a xs) : SqL K H' a xs := by
  rcases h with (h | ⟨o, h⟩) | h
  · exact .inl (.inl (e _ _ h hw))
  · exact .inl (.inr ⟨o, e _ _ h hw⟩)
  · exact .inr h
/-- a new object, the heap behind it unnamed -/
theorem alloc {H : Hp} {o : HO} {Q : VK} (h : ∀ p H1, H p = none → Ex H H1 → H1 p = some o → Q (.ref p) H1) : ∀ p, H p = none → Q (.ref p) (upd H p o) :=
  fun p hp => h p _ hp (Ex.new hp) upd_same
theorem t_of {K : PySem.W.Frag} {H : Hp} {a : Addr} {xs : List V} (h : H a = some (.tup xs)) : SqT K H a xs := .inl (.inl h)
theorem l_of {K : PySem.W.Frag} {H : Hp} {a : Addr} {xs : List V} (h : H a = some (.lst xs)) : SqL K H a xs := .inl (.inl h)
/-- a tuple of the heap is no list of it -/
theorem t_ne {K : PySem.W.Frag} {H : Hp} {a w : Addr} {xs ys : List V} (h : H a = some (.tup xs)) (hw : H w = some (.lst ys)) : a ≠ w := ne_of h hw (by intro z; cases z)
/-- data of ints -/
theorem dp_ints {K : PySem.W.Frag} {H : Hp} : ∀ ns : List Int, DpAll K H (ns.map V.int) (ns.map PyData.int)
  | [] => .nil
  | n :: r => .cons (.int n) (dp_ints r)
theorem dp_t {K : PySem.W.Frag} {H : Hp} {a : Addr} {ns : List Int} (h : IT K H a ns) : Dp K H (.ref a) (.tuple (ns.map .int)) := .tup h (dp_ints ns)
theorem dp_l {K : PySem.W.Frag} {H : Hp} {a : Addr} {ns : List Int} (h : IL K H a ns) : Dp K H (.ref a) (.list (ns.map .int)) := .lst h (dp_ints ns)
end L2
namespace L2
open PySem PySem.Spec PyProof.Rows Evl
/-! ### == of sequences of ints -/
theorem eqvAll_ints : ∀ ns ms : List Int, PyData.eqvAll (ns.map .int) (ms.map .int) = decide (ns = ms)
  | [], [] => by simp [PyData.eqvAll]
  | [], m :: ms => by simp [PyData.eqvAll]
  | n :: ns, [] => by simp [PyData.eqvAll]
  | n :: ns, m :: ms => by
    rw [List.map_cons, List.map_cons, PyData.eqvAll, eqvAll_ints ns ms, PyData.eqv]
    by_cases h : n = m
    · subst h
      simp
    · simp [h]
theorem eqv_tints (ns ms : List Int) : PyData.eqv (.tuple (ns.map .int)) (.tuple (ms.map .int)) = decide (ns = ms) := by rw [PyData.eqv, eqvAll_ints]
theorem eqv_lints (ns ms : List Int) : PyData.eqv (.list (ns.map .int)) (.list (ms.map .int)) = decide (ns = ms) := by rw [PyData.eqv, eqvAll_ints]
theorem canLay_ints : ∀ ns : List Int, PyData.canLayAll0 (ns.map .int) = true
  | [] => by simp [PyData.canLayAll0]
  | n :: ns => by
    rw [List.map_cons, PyData.canLayAll0, canLay_ints ns]
    simp [PyData.canLay0]
theorem depth_ints : ∀ ns : List Int, PyData.depthAll (ns.map .int) = 0
  | [] => by simp [PyData.depthAll]
  | n :: ns => by
    rw [List.map_cons, PyData.depthAll, depth_ints ns]
    simp [PyData.depth]
theorem shaped_t (ns : List Int) : SeqAt.shaped (.tuple (ns.map .int)) = true := by
  unfold SeqAt.shaped
  rw [PyData.canLay0, canLay_ints, PyData.depth, depth_ints]
  rfl
theorem shaped_l (ns : List Int) : SeqAt.shaped (.list (ns.map .int)) = true := by
  unfold SeqAt.shaped
  rw [PyData.canLay0, canLay_ints, PyData.depth, depth_ints]
  rfl
section
variable {K : PySem.W.Frag} {H : Hp} {Q : VK} {a b : Addr} {ns ms : List Int}
theorem r_eqT (ha : IT K H a ns) (hb : IT K H b ms) (q : Q (.bl (decide (ns = ms))) H) : rEqU K (.ref a) (.ref b) H Q :=
  .inr ⟨_, _, dp_t ha, dp_t hb, shaped_t ns, shaped_t ms, by rw [eqv_tints]; exact q⟩
theorem r_neT (ha : IT K H a ns) (hb : IT K H b ms) (q : Q (.bl (!decide (ns = ms))) H) : rNeU K (.ref a) (.ref b) H Q :=
  .inr ⟨_, _, dp_t ha, dp_t hb, shaped_t ns, shaped_t ms, by rw [eqv_tints]; exact q⟩
theorem r_eqL (ha : IL K H a ns) (hb : IL K H b ms) (q : Q (.bl (decide (ns = ms))) H) : rEqU K (.ref a) (.ref b) H Q :=
  .inr ⟨_, _, dp_l ha, dp_l hb, shaped_l ns, shaped_l ms, by rw [eqv_lints]; exact q⟩
theorem r_neL (ha : IL K H a ns) (hb : IL K H b ms) (q : Q (.bl (!decide (ns = ms))) H) : rNeU K (.ref a) (.ref b) H Q :=
  .inr ⟨_, _, dp_l ha, dp_l hb, shaped_l ns, shaped_l ms, by rw [eqv_lints]; exact q⟩
theorem r_eqI {i j : Int} (q : Q (.bl (decide (i = j))) H) : rEqU K (.int i) (.int j) H Q := .inl ⟨rfl, by
  have e : decide ((V.int i) = V.int j) = decide (i = j) := by simp
  rw [e]
  exact q⟩
theorem r_neI {i j : Int} (q : Q (.bl (!decide (i = j))) H) : rNeU K (.int i) (.int j) H Q := .inl ⟨rfl, by
  have e : decide ((V.int i) = V.int j) = decide (i = j) := by simp
  rw [e]
  exact q⟩
theorem r_add {i j : Int} (q : Q (.int (i + j)) H) : rAddU K (.int i) (.int j) H Q := .inl ⟨i, j, rfl, rfl, q⟩
theorem r_mul {i j : Int} (h : CMul i j) (q : Q (.int (i * j)) H) : rMulU K (.int i) (.int j) H Q := .inl ⟨i, j, rfl, rfl, h, q⟩
theorem r_mulW {i j : Int} (h : CMulW i j) (q : Q (.int (i * j)) H) : rMulU K (.int i) (.int j) H Q := .inr (.inl ⟨i, j, rfl, rfl, h, q⟩)
/-- the tuple of both -/
theorem r_catT {xs ys : List V} (ha : SqT K H a xs) (hb : SqT K H b ys) (hz : xs.length + ys.length ≤ 100000) (q : ∀ p H1, Ex H H1 → SqT K H1 p (xs ++ ys) → Q (.ref p) H1) : rAddU K (.ref a) (.ref b) H Q := by
  refine .inr (.inr ⟨a, b, xs, ys, rfl, rfl, ha, hb, sz_of hz, fun e => ?_, fun _ e => ?_, fun _ _ => alloc fun p H1 _ e h => q p H1 e (t_of h)⟩)
  · subst e
    exact q b H (Ex.refl H) hb
  · subst e
    refine q a H (Ex.refl H) ?_
    rw [List.append_nil]
    exact ha
theorem r_catL {xs ys : List V} (ha : H a = some (.lst xs)) (hb : H b = some (.lst ys)) (hz : xs.length + ys.length ≤ 100000) (q : ∀ p H1, H p = none → Ex H H1 → H1 p = some (.lst (xs ++ ys)) → Q (.ref p) H1) : rAddU K (.ref a) (.ref b) H Q :=
  .inr (.inl ⟨a, b, xs, ys, rfl, rfl, ha, hb, sz_of hz, alloc q⟩)
theorem r_repT {xs : List V} {k : Int} (ha : SqT K H a xs) (h0 : 0 ≤ k) (hk : k ≤ 1000) (hz : xs.length ≤ 1000) (q : ∀ p H1, Ex H H1 → SqT K H1 p (List.replicate k.toNat xs).flatten → Q (.ref p) H1) : rMulU K (.ref a) (.int k) H Q := by
  refine .inr (.inr (.inr ⟨a, k, xs, rfl, rfl, ha, h0, hk, hz, fun e => ?_, fun _ => alloc fun p H1 _ e h => q p H1 e (t_of h)⟩))
  refine q a H (Ex.refl H) ?_
  rcases e with e | e
  · subst e
    have e2 : (List.replicate k.toNat ([] : List V)).flatten = [] := by simp
    rw [e2]
    exact ha
  · subst e
    have e2 : (List.replicate (1 : Int).toNat xs).flatten = xs := by simp
    rw [e2]
    exact ha
/-- a tuple's part -/
theorem r_slT {xs : List V} {lo hi : Option Int} (ha : SqT K H a xs) (q : ∀ p H1, Ex H H1 → SqT K H1 p (cutV xs lo hi) → Q (.ref p) H1) : rSlU K (.ref a) lo hi H Q := by
  refine .inr ⟨a, xs, rfl, ha, fun e => ?_, fun _ => alloc fun p H1 _ e h => q p H1 e (t_of h)⟩
  refine q a H (Ex.refl H) ?_
  have e2 : cutV xs lo hi = xs := by
    unfold cutV
    rw [e.1, e.2, List.drop_zero, Nat.sub_zero, List.take_length]
  rw [e2]
  exact ha
theorem r_slL {xs : List V} {lo hi : Option Int} (ha : SqL K H a xs) (q : ∀ p H1, H p = none → Ex H H1 → H1 p = some (.lst (cutV xs lo hi)) → Q (.ref p) H1) : rSlU K (.ref a) lo hi H Q := .inl ⟨a, xs, rfl, ha, alloc q⟩
end
theorem cut_map {ns : List Int} {lo hi : Option Int} : cutV (ns.map V.int) lo hi = ((ns.drop (HT.sIx ns.length 0 lo)).take (HT.sIx ns.length ns.length hi - HT.sIx ns.length 0 lo)).map V.int := by
  unfold cutV
  rw [List.length_map, List.map_take, List.map_drop]
theorem sIx_int {n d : Nat} {v : Int} (h : 0 ≤ v) : HT.sIx n d (some v) = min v.toNat n := by
  obtain ⟨k, rfl⟩ := Int.eq_ofNat_of_zero_le h
  exact HT.sIx_nat n d k
/-- xs[:k] -/
theorem cut_to {ns : List Int} {k : Int} (h : 0 ≤ k) : cutV (ns.map V.int) none (some k) = (ns.take k.toNat).map V.int := by
  rw [cut_map, HT.sIx_none, sIx_int h, List.drop_zero, Nat.sub_zero]
  congr 1
  rw [Nat.min_def]
  split
  · rfl
  · rw [List.take_of_length_le (Nat.le_refl _), List.take_of_length_le (by omega)]
/-- xs[k:] -/
theorem cut_from {ns : List Int} {k : Int} (h : 0 ≤ k) : cutV (ns.map V.int) (some k) none = (ns.drop k.toNat).map V.int := by
  rw [cut_map, HT.sIx_none, sIx_int h]
  congr 1
  by_cases hk : k.toNat ≤ ns.length
  · rw [Nat.min_eq_left hk, List.take_of_length_le (by rw [List.length_drop]; exact Nat.le_refl _)]
  · rw [Nat.min_eq_right (by omega), List.drop_of_length_le (Nat.le_refl _), List.drop_of_length_le (by omega)]
    simp
/-- an item at a place from 0 on -/
theorem at_int {ns : List Int} {i : Int} {x : Int} (h0 : 0 ≤ i) (hx : ns[i.toNat]? = some x) : atI (ns.map V.int) i = some (.int x) := by
  have e : i = ((i.toNat : Nat) : Int) := by omega
  rw [e]
  exact atI_nat (by rw [List.getElem?_map, hx]; rfl)
theorem at_last {ns : List Int} {x : Int} (hx : ns.getLast? = some x) : atI (ns.map V.int) (-1) = some (.int x) := by
  obtain ⟨ys, rfl⟩ := List.getLast?_eq_some_iff.mp hx
  rw [List.map_append]
  exact atI_last _ _
/-! ### the draws' three ints -/
structure Well (H : Hp) (w : Addr) (n : Nat) : Prop where
  ex : ∃ a b c : Int, H w = some (.lst [.int a, .int b, .int c]) ∧ 0 ≤ a ∧ 0 ≤ b ∧ b.natAbs < 2 ^ 160 ∧ 0 ≤ c ∧ c ≤ n
theorem Well.mono {H H' : Hp} {w : Addr} {n : Nat} (h : Well H w n) (e : Ex H H') : Well H' w n := by
  obtain ⟨a, b, c, h1, h2⟩ := h.ex
  exact ⟨a, b, c, e _ _ h1, h2⟩
theorem Well.more {H : Hp} {w : Addr} {n m : Nat} (h : Well H w n) (e : n ≤ m) : Well H w m := by
  obtain ⟨a, b, c, h1, h2, h3, h4, h5, h6⟩ := h.ex
  exact ⟨a, b, c, h1, h2, h3, h4, h5, by omega⟩
theorem Well.t {K : PySem.W.Frag} {H H' : Hp} {w a : Addr} {n : Nat} {xs : List V} (h : Well H w n) (e : ExW w H H') (t : SqT K H a xs) : SqT K H' a xs := by
  obtain ⟨_, _, _, h1, _⟩ := h.ex
  exact exw_t e h1 t
theorem Well.ne {H : Hp} {w p : Addr} {n : Nat} (h : Well H w n) (hp : H p = none) : p ≠ w := by
  obtain ⟨_, _, _, h1, _⟩ := h.ex
  exact fun e => by
    subst e
    rw [hp] at h1
    cases h1
/-- from what is drawn on -/
def spTake : Sp := fun vs H Q _ => ∃ w n m, vs = [.ref w, .int m] ∧ 0 < m ∧ m < 2 ^ 60 ∧ Well H w n ∧ n < 2 ^ 30 ∧ ∀ r H', 0 ≤ r → r < m → ExW w H H' → Well H' w (n + 1) → Q (.int r) H'
theorem small_t {n : Nat} (h : n ≤ 100000) : n ≤ sizeLine := sz_of h
end L2
namespace L2
open PySem PySem.Spec PyProof.Rows Evl
theorem ty_t {K : PySem.W.Frag} {H : Hp} {a : Addr} {xs : List V} (h : SqT K H a xs) : TyX K H (.ref a) (.type "tuple") := by
  rcases h with (h | ⟨o, h⟩) | ⟨o, its, n, h, c, _⟩
  · exact .base (.tup h)
  · exact .fTuple h
  · exact .kTuple h c
theorem ty_l {K : PySem.W.Frag} {H : Hp} {a : Addr} {xs : List V} (h : SqL K H a xs) : TyX K H (.ref a) (.type "list") := by
  rcases h with (h | ⟨o, h⟩) | ⟨o, its, n, h, c, _⟩
  · exact .base (.lst h)
  · exact .base (.frz h)
  · exact .kList h c
/-! ### comprehensions whose turns change nothing -/
section
variable {K : PySem.W.Frag} {σ : L2.St} {H : Hp} {te tl : TE} {Q : VK} {j : Nat} {vs : List Nat} {a : Addr} {xs ys : List V}
theorem take_snoc {α : Type} {l : List α} {i : Nat} {y : α} (h : l[i]? = some y) : l.take (i + 1) = l.take i ++ [y] := by
  rw [List.take_add_one, h]
  rfl
/-- what one turn does -/
theorem cm_turn {H0 H' : Hp} {D : Addr} {i : Nat} {y : V} {σ2 : L2.St} (hy : ys[i]? = some y) (hz : ys.length ≤ 100000) (hD : H0 D = none) (p : Ex H0 H' ∧ H' D = some (.lst (ys.take i)))
    (he : ∀ Q' : VK, (∀ H2, Ex H' H2 → Q' y H2) → te σ2 H' Q') :
    te σ2 H' fun y H4 => ∃ acc, H4 D = some (.lst acc) ∧ acc.length < sizeLine ∧ (Ex H0 (upd H4 D (.lst (acc ++ [y]))) ∧ (upd H4 D (.lst (acc ++ [y]))) D = some (.lst (ys.take (i + 1)))) := by
  refine he _ fun H2 e2 => ⟨ys.take i, e2 _ _ p.2, ?_, Ex.mut (p.1.trans e2) hD, ?_⟩
  · have := (List.getElem?_eq_some_iff.mp hy).1
    rw [List.length_take]
    exact Nat.lt_of_le_of_lt (Nat.min_le_left _ _) (Nat.lt_of_lt_of_le this (sz_of hz))
  · rw [upd_same, take_snoc hy]
theorem cm_tup (hl : ∀ R : VK, (∀ a H1, Ex H H1 → SqT K H1 a xs → R (.ref a) H1) → tl σ H R) (hxy : ys.length = xs.length) (hz : ys.length ≤ 100000) (hw : ∀ x, wipe ((wipe σ vs).set j (some x)) vs = wipe σ vs)
    (he : ∀ (i : Nat) (x y : V) (H1 : Hp), xs[i]? = some x → ys[i]? = some y → Ex H H1 → ∀ Q' : VK, (∀ H2, Ex H1 H2 → Q' y H2) → te ((wipe σ vs).set j (some x)) H1 Q')
    (q : ∀ D H1, H D = none → Ex H H1 → H1 D = some (.lst ys) → Q (.ref D) H1) : tLc (iTup K tl) (gName j) tYes te vs σ H Q := by
  refine hl _ fun a H1 e1 ht => ⟨a, rfl, ⟨xs, ht⟩, fun D hD => ?_⟩
  refine lc_tup (K := K) (a := a) (xs := xs) (fun i H' => Ex H1 H' ∧ H' D = some (.lst (ys.take i))) ⟨Ex.new hD, by rw [upd_same]; rfl⟩ (fun i H' _ p => ex_t p.1 ht) (fun i x H' hx p => ⟨hw x, ?_⟩) (fun H' p => q D H' ?_ (e1.trans p.1) ?_)
  · have hi : i < ys.length := by rw [hxy]; exact (List.getElem?_eq_some_iff.mp hx).1
    exact cm_turn (List.getElem?_eq_getElem hi) hz hD p fun Q' k => he i x _ H' hx (List.getElem?_eq_getElem hi) (e1.trans p.1) Q' k
  · exact fresh_back e1 hD
  · rw [p.2, ← hxy, List.take_length]
theorem cm_list (hl : ∀ R : VK, (∀ a H1, Ex H H1 → SqL K H1 a xs → R (.ref a) H1) → tl σ H R) (hxy : ys.length = xs.length) (hz : ys.length ≤ 100000) (hw : ∀ x, wipe ((wipe σ vs).set j (some x)) vs = wipe σ vs)
    (he : ∀ (i : Nat) (x y : V) (H1 : Hp), xs[i]? = some x → ys[i]? = some y → Ex H H1 → ∀ Q' : VK, (∀ H2, Ex H1 H2 → Q' y H2) → te ((wipe σ vs).set j (some x)) H1 Q')
    (q : ∀ D H1, H D = none → Ex H H1 → H1 D = some (.lst ys) → Q (.ref D) H1) : tLc (iList K tl) (gName j) tYes te vs σ H Q := by
  refine hl _ fun a H1 e1 ht => ⟨a, rfl, ⟨xs, ht⟩, fun D hD => ?_⟩
  refine lc_list (K := K) (a := a) (xs := xs) (fun i H' => Ex H1 H' ∧ H' D = some (.lst (ys.take i))) ⟨Ex.new hD, by rw [upd_same]; rfl⟩ (fun i H' _ p => ex_l p.1 ht) (fun i x H' hx p => ⟨hw x, ?_⟩) (fun H' p => q D H' ?_ (e1.trans p.1) ?_)
  · have hi : i < ys.length := by rw [hxy]; exact (List.getElem?_eq_some_iff.mp hx).1
    exact cm_turn (List.getElem?_eq_getElem hi) hz hD p fun Q' k => he i x _ H' hx (List.getElem?_eq_getElem hi) (e1.trans p.1) Q' k
  · exact fresh_back e1 hD
  · rw [p.2, ← hxy, List.take_length]
/-- [e for i in range(n) if t] -/
theorem cm_rngF {ta : TA} {tt : TT} {n : Int} (f : Nat → Bool) (v : Nat → V) (hl : ∀ R : List V → Hp → Prop, (∀ H1, Ex H H1 → R [.int n] H1) → ta σ H R) (hn : n ≤ 50000) (hlo : -100000 ≤ n) (hw : ∀ x, wipe ((wipe σ vs).set j (some x)) vs = wipe σ vs)
    (ht : ∀ (i : Nat) H1, (i : Int) < n → Ex H H1 → ∀ Q' : Bool → Hp → Prop, (∀ H2, Ex H1 H2 → Q' (f i) H2) → tt ((wipe σ vs).set j (some (.int (i : Int)))) H1 Q')
    (he : ∀ (i : Nat) H1, (i : Int) < n → f i = true → Ex H H1 → ∀ Q' : VK, (∀ H2, Ex H1 H2 → Q' (v i) H2) → te ((wipe σ vs).set j (some (.int (i : Int)))) H1 Q')
    (q : ∀ D H1, H D = none → Ex H H1 → H1 D = some (.lst (given n.toNat f v)) → Q (.ref D) H1) : tLc (iRng1 ta) (gName j) tt te vs σ H Q := by
  refine hl _ fun H1 e1 => ⟨n, rfl, by omega, by omega, fun D hD => ?_⟩
  refine lc_range (lo := 0) (n := n.toNat) (fun i H' => Ex H1 H' ∧ H' D = some (.lst (given i f v))) ⟨Ex.new hD, by rw [upd_same]; rfl⟩ (fun i H' hi p => ?_) (fun H' p => q D H' ?_ (e1.trans p.1) p.2)
  · rw [show (0 : Int) + (i : Int) = (i : Int) by omega]
    refine ⟨hw _, ht i H' (by omega) (e1.trans p.1) _ fun H2 e2 => ?_⟩
    cases hf : f i with
    | false =>
      refine iteF ⟨p.1.trans e2, ?_⟩
      rw [given_no hf]
      exact e2 _ _ p.2
    | true =>
      refine iteT (he i H2 (by omega) hf ((e1.trans p.1).trans e2) _ fun H3 e3 => ⟨given i f v, e3 _ _ (e2 _ _ p.2), ?_, Ex.mut ((p.1.trans e2).trans e3) hD, ?_⟩)
      · have := given_len i f v
        exact sz_lt (by omega)
      · rw [upd_same, given_yes hf]
  · exact fresh_back e1 hD
/-- [e for i in range(n)], the turns change the heap: S is what stands between them, P what is said of an item -/
theorem cm_rngS {ta : TA} {n : Int} (S : Nat → Hp → Prop) (Pr : V → Prop) (hn : n ≤ 50000) (hlo : -100000 ≤ n) (hw : ∀ x, wipe ((wipe σ vs).set j (some x)) vs = wipe σ vs)
    (hl : ∀ R : List V → Hp → Prop, (∀ H1, S 0 H1 → R [.int n] H1) → ta σ H R)
    (hnew : ∀ i H1 D o, S i H1 → H1 D = none → S i (upd H1 D o))
    (he : ∀ (i : Nat) H1 D acc, (i : Int) < n → S i H1 → H1 D = some (.lst acc) → (∀ o, S i (upd H1 D o)) →
      ∀ Q' : VK, (∀ y H2, Pr y → H2 D = some (.lst acc) → (∀ o, S (i + 1) (upd H2 D o)) → Q' y H2) → te ((wipe σ vs).set j (some (.int (i : Int)))) H1 Q')
    (q : ∀ D H1 ys, ys.length = n.toNat → (∀ y ∈ ys, Pr y) → S n.toNat H1 → (∀ o, S n.toNat (upd H1 D o)) → H1 D = some (.lst ys) → Q (.ref D) H1) : tLc (iRng1 ta) (gName j) tYes te vs σ H Q := by
  refine hl _ fun H1 s1 => ⟨n, rfl, by omega, by omega, fun D hD => ?_⟩
  refine lc_range (lo := 0) (n := n.toNat) (fun i H' => ∃ ys : List V, ys.length = i ∧ (∀ y ∈ ys, Pr y) ∧ S i H' ∧ (∀ o, S i (upd H' D o)) ∧ H' D = some (.lst ys)) ⟨[], rfl, (fun _ h => by cases h), hnew 0 H1 D _ s1 hD, fun o => by rw [upd_upd]; exact hnew 0 H1 D o s1 hD, upd_same⟩ (fun i H' hi p => ?_) (fun H' p => ?_)
  · obtain ⟨ys, h1, h2, h3, h4, h5⟩ := p
    rw [show (0 : Int) + (i : Int) = (i : Int) by omega]
    refine ⟨hw _, ?_⟩
    refine he i H' D ys (by omega) h3 h5 h4 _ fun y H2 z1 z2 z3 => ?_
    refine ⟨ys, z2, sz_lt (by omega), ys ++ [y], by rw [List.length_append, h1]; rfl, fun x hx => ?_, z3 _, fun o => by rw [upd_upd]; exact z3 o, upd_same⟩
    rcases List.mem_append.mp hx with hx | hx
    · exact h2 x hx
    · rw [List.mem_singleton.mp hx]
      exact z1
  · obtain ⟨ys, h1, h2, h3, h4, h5⟩ := p
    exact q D H' ys h1 h2 h3 h4 h5
end
end L2
namespace L2
open PySem PySem.Spec PyProof.Rows Evl
section
variable {K : PySem.W.Frag} {σ : L2.St} {H : Hp} {te tl : TE} {t : TA} {Q : VK} {a : Addr} {xs ys : List V}
theorem st_lst (h : t σ H fun xs H1 => xs.length ≤ 100000 ∧ ∀ p H2, H1 p = none → Ex H1 H2 → H2 p = some (.lst xs) → Q (.ref p) H2) (mono : ∀ A B : List V → Hp → Prop, (∀ xs H, A xs H → B xs H) → t σ H A → t σ H B) : tLst t σ H Q :=
  mono _ _ (fun xs H1 z => ⟨sz_of z.1, alloc z.2⟩) h
theorem st_nil (h : ∀ p H2, H p = none → Ex H H2 → H2 p = some (.lst []) → Q (.ref p) H2) : tLst tNil σ H Q := ⟨Nat.zero_le _, alloc h⟩
/-- tuple(xs), xs a list | a tuple -/
theorem r_tuL {R : VK} (ha : SqL K H a xs) (q : ∀ p H1, H p = none → Ex H H1 → SqT K H1 p xs → R (.ref p) H1) :
    ∃ p ys, [V.ref a] = [.ref p] ∧ ((SqL K H p ys ∧ ∀ l, H l = none → R (.ref l) (upd H l (.tup ys))) ∨ (SqT K H p ys ∧ R (.ref p) H)) :=
  ⟨a, xs, rfl, .inl ⟨ha, alloc fun p H1 hp e h => q p H1 hp e (t_of h)⟩⟩
/-- list(xs) -/
theorem r_liL {R : VK} (ha : SqL K H a xs ∨ SqT K H a xs) (q : ∀ p H1, H p = none → Ex H H1 → H1 p = some (.lst xs) → R (.ref p) H1) :
    ∃ p ys, [V.ref a] = [.ref p] ∧ (SqL K H p ys ∨ SqT K H p ys) ∧ ∀ l, H l = none → R (.ref l) (upd H l (.lst ys)) := ⟨a, xs, rfl, ha, alloc q⟩
/-- xs[::-1] -/
theorem st_revL {te : TE} {a : Addr} {xs : List V} (he : ∀ R : VK, R (.ref a) H → te σ H R) (ha : SqL K H a xs) (q : ∀ p H1, H p = none → Ex H H1 → H1 p = some (.lst xs.reverse) → Q (.ref p) H1) : tRevU K te σ H Q := he _ (.inl ⟨a, xs, rfl, ha, alloc q⟩)
theorem st_revT {te : TE} {a : Addr} {xs : List V} (he : ∀ R : VK, R (.ref a) H → te σ H R) (ha : SqT K H a xs) (q : ∀ p H1, H p = none → Ex H H1 → H1 p = some (.tup xs.reverse) → Q (.ref p) H1) : tRevU K te σ H Q := he _ (.inr ⟨a, xs, rfl, ha, alloc q⟩)
theorem he_var {i : Nat} (h : σ[i]? = some (some (.ref a))) : ∀ R : VK, R (.ref a) H → tVar i σ H R := fun _ r => ⟨_, h, r⟩
end
end L2
namespace L2
open PySem PySem.Spec PyProof.Rows Evl
section
variable {K : PySem.W.Frag} {σ : L2.St} {H : Hp} {te tl ta tb : TE} {t tr : TA} {Q : VK} {D : Ends} {tu tw : TS} {g : TG} {tc : TT}
theorem st_seq (h : tu { D with nx := tw D } σ H) : tSeq tu tw D σ H := h
theorem st_asg (h : te σ H fun x H1 => g x σ H1 D.nx) : tAsg te g D σ H := h
theorem st_set {i : Nat} (h : te σ H fun x H1 => D.nx (σ.set i (some x)) H1) : tAsg te (gName i) D σ H := h
theorem st_ret (h : te σ H D.rt) : tRet te D σ H := h
theorem st_drop (h : te σ H fun _ H1 => D.nx σ H1) : tDrop te D σ H := h
theorem st_if (h : tc σ H fun b H1 => if b = true then tu D σ H1 else tw D σ H1) : tIfS tc tu tw D σ H := h
theorem st_cb {r : List V → Hp → VK → Prop} (h : t σ H fun vs H1 => r vs H1 Q) : tCB r t σ H Q := h
theorem st_cons {R : List V → Hp → Prop} (h : ta σ H fun x H1 => tr σ H1 fun xs H2 => R (x :: xs) H2) : tCons ta tr σ H R := h
theorem st_op {r : R2} (h : ta σ H fun x H1 => tb σ H1 fun y H2 => r x y H2 Q) : tOp r ta tb σ H Q := h
theorem st_un {r : V → Hp → VK → Prop} (h : ta σ H fun x H1 => r x H1 Q) : tUn r ta σ H Q := h
theorem st_test {R : Bool → Hp → Prop} (h : te σ H fun x H1 => ∃ k, x = .bl k ∧ R k H1) : tTest te σ H R := h
theorem st_call {sp : Sp} {dvs : List V} {E : XK} (h : t σ H fun vs H1 => sp (vs ++ dvs) H1 Q E) : tCall sp dvs E t σ H Q := h
theorem st_sl {r : V → Option Int → Option Int → Hp → VK → Prop} {lo hi : TO} (h : te σ H fun x H1 => lo σ H1 fun l H2 => hi σ H2 fun u H3 => r x l u H3 Q) : tSl r te lo hi σ H Q := h
theorem st_tup (h : t σ H fun xs H1 => xs.length ≤ sizeLine ∧ ∀ p, H1 p = none → Q (.ref p) (upd H1 p (.tup xs))) : tTup t σ H Q := h
theorem st_par {i j : Nat} (h : t σ H fun vs H1 => ∃ v w, vs = [v, w] ∧ D.nx ((σ.set i (some v)).set j (some w)) H1) : tPar i j t D σ H := h
end
end L2
namespace L2
open PySem PySem.Spec PyProof.Rows Evl
section
variable {K : PySem.W.Frag} {H : Hp} {Q : VK} {a : Addr} {xs : List V} {i j : Int} {v : V}
theorem r_ixL (h : SqL K H a xs) (e : atI xs i = some v) (q : Q v H) : rIx K (.ref a) (.int i) H Q := .inl ⟨a, xs, i, v, rfl, rfl, h, e, q⟩
theorem r_ixT (h : SqT K H a xs) (e : atI xs i = some v) (q : Q v H) : rIx K (.ref a) (.int i) H Q := .inr (.inl ⟨a, xs, i, v, rfl, rfl, h, e, q⟩)
theorem r_I {C : Int → Int → Prop} {g : Int → Int → V} (h : C i j) (q : Q (g i j) H) : rI C g (.int i) (.int j) H Q := ⟨i, j, rfl, rfl, h, q⟩
theorem r_0 {g : Int → Int → V} (q : Q (g i j) H) : rI0 g (.int i) (.int j) H Q := ⟨i, j, rfl, rfl, q⟩
theorem r_test {b : Bool} {R : Bool → Hp → Prop} (q : R b H) : ∃ k, V.bl b = .bl k ∧ R k H := ⟨b, rfl, q⟩
theorem r_set {R : Hp → Prop} {k : Nat} (h : H a = some (.lst xs)) (e : ixN xs.length i = some k) (q : R (upd H a (.lst (xs.set k v)))) : rSetL (.ref a) (.int i) v H R := ⟨a, xs, i, k, rfl, rfl, h, e, q⟩
end
/-- if by what is known of the answer -/
theorem if_t {c : Prop} [Decidable c] {A B : Prop} (hc : c) (h : A) : if decide c = true then A else B := by
  rw [decide_eq_true hc]
  exact h
theorem if_f {c : Prop} [Decidable c] {A B : Prop} (hc : ¬ c) (h : B) : if decide c = true then A else B := by
  rw [decide_eq_false hc]
  exact h
theorem if_2 {c : Prop} [Decidable c] {A B : Prop} (h1 : c → A) (h2 : ¬ c → B) : if decide c = true then A else B := by
  by_cases hc : c
  · exact if_t hc (h1 hc)
  · exact if_f hc (h2 hc)
/-- the same for a test not .. -/
theorem ifn_2 {c : Prop} [Decidable c] {A B : Prop} (h1 : ¬ c → A) (h2 : c → B) : if (!decide c) = true then A else B := by
  by_cases hc : c
  · rw [decide_eq_true hc]
    exact h2 hc
  · rw [decide_eq_false hc]
    exact h1 hc
end L2
namespace L2
open PySem PySem.Spec PyProof.Rows Evl
theorem st_c {v : V} {σ : L2.St} {H : Hp} {Q : VK} (q : Q v H) : tC v σ H Q := q
theorem st_v {i : Nat} {v : V} {σ : L2.St} {H : Hp} {Q : VK} (h : σ[i]? = some (some v)) (q : Q v H) : tVar i σ H Q := ⟨v, h, q⟩
theorem st_n {σ : L2.St} {H : Hp} {R : List V → Hp → Prop} (q : R [] H) : tNil σ H R := q
end L2
namespace L2
open PySem PySem.Spec PyProof.Rows Evl
theorem r_setG {H : Hp} {a : Addr} {xs : List V} {i : Int} {v : V} {R : Hp → Prop} {k : Nat} (h : H a = some (.lst xs)) (e : ixN xs.length i = some k) (q : ∀ H1, ExW a H H1 → H1 a = some (.lst (xs.set k v)) → R H1) : rSetL (.ref a) (.int i) v H R :=
  ⟨a, xs, i, k, rfl, rfl, h, e, q _ ExW.upd upd_same⟩
end L2
/-! the rules that lean on the written part, with that part named: so they fit within a comprehension's block, too -/
namespace L2
open PySem PySem.Spec PyProof.Rows Evl
section
variable {X : Cx} {K : PySem.W.Frag}
theorem op_addK (K : PySem.W.Frag) (h : X.K = K := by rfl) : OpR X (binaryOp .Add) (rAddU K) := h ▸ op_addU
theorem op_mulK (K : PySem.W.Frag) (h : X.K = K := by rfl) : OpR X (binaryOp .Mult) (rMulU K) := h ▸ op_mulU
theorem op_eqK (K : PySem.W.Frag) (hu : X.A.units + 64 < cLine) (h : X.K = K := by rfl) : OpR X (compareOp .Eq) (rEqU K) := h ▸ op_eqU hu
theorem op_neK (K : PySem.W.Frag) (hu : X.A.units + 64 < cLine) (h : X.K = K := by rfl) : OpR X (compareOp .NotEq) (rNeU K) := h ▸ op_neU hu
theorem op_inK (K : PySem.W.Frag) (h : X.K = K := by rfl) : OpR X (compareOp .In) (rIn K false) := h ▸ op_in_seq
theorem op_notInK (K : PySem.W.Frag) (h : X.K = K := by rfl) : OpR X (compareOp .NotIn) (rIn K true) := h ▸ op_notIn_seq
theorem ix_K (K : PySem.W.Frag) (h : X.K = K := by rfl) : IxR X (rIx K) := h ▸ ix_seq
theorem sl_K (K : PySem.W.Frag) (h : X.K = K := by rfl) : SlR X (rSlU K) := h ▸ sl_U
def rLenU (K : PySem.W.Frag) : List V → Hp → VK → Prop := fun xs H Q => ∃ p ys, xs = [.ref p] ∧ (SqL K H p ys ∨ SqT K H p ys) ∧ Q (.int ys.length) H
def rTupU (K : PySem.W.Frag) : List V → Hp → VK → Prop := fun xs H Q => ∃ p ys, xs = [.ref p] ∧ ((SqL K H p ys ∧ ∀ l, H l = none → Q (.ref l) (upd H l (.tup ys))) ∨ (SqT K H p ys ∧ Q (.ref p) H))
def rLstU (K : PySem.W.Frag) : List V → Hp → VK → Prop := fun xs H Q => ∃ p ys, xs = [.ref p] ∧ (SqL K H p ys ∨ SqT K H p ys) ∧ ∀ l, H l = none → Q (.ref l) (upd H l (.lst ys))
def rAbs : List V → Hp → VK → Prop := fun xs H Q => ∃ i, xs = [.int i] ∧ Q (.int (if i < 0 then -i else i)) H
def rMax2 : List V → Hp → VK → Prop := fun xs H Q => ∃ i j, xs = [.int i, .int j] ∧ Q (.int (if j > i then j else i)) H
def rMin2 : List V → Hp → VK → Prop := fun xs H Q => ∃ i j, xs = [.int i, .int j] ∧ Q (.int (if j < i then j else i)) H
def rInt1 : List V → Hp → VK → Prop := fun xs H Q => (∃ i, xs = [.int i] ∧ Q (.int i) H) ∨ ∃ k, xs = [.bl k] ∧ Q (.int (if k then 1 else 0)) H
theorem len_K (K : PySem.W.Frag) (h : X.K = K := by rfl) : CallR X (.builtin "len") (rLenU K) := h ▸ call_len_seq
theorem tuple_K (K : PySem.W.Frag) (h : X.K = K := by rfl) : CallR X (.type "tuple") (rTupU K) := h ▸ call_tuple_of
theorem list_K (K : PySem.W.Frag) (h : X.K = K := by rfl) : CallR X (.type "list") (rLstU K) := h ▸ call_list_of
theorem abs_K : CallR X (.builtin "abs") rAbs := call_abs
theorem max2_K (hc : X.calm = true) : CallR X (.builtin "max") rMax2 := call_max2 hc
theorem min2_K (hc : X.calm = true) : CallR X (.builtin "min") rMin2 := call_min2 hc
theorem int_K : CallR X (.type "int") rInt1 := call_int1
theorem all_K (K : PySem.W.Frag) (hc : X.calm = true) (h : X.K = K := by rfl) : CallR X (.builtin "all") (rAll K) := h ▸ cr_all hc
theorem any_K (K : PySem.W.Frag) (hc : X.calm = true) (h : X.K = K := by rfl) : CallR X (.builtin "any") (rAny K) := h ▸ cr_any hc
theorem sum_K (K : PySem.W.Frag) (hc : X.calm = true) (h : X.K = K := by rfl) : CallR X (.builtin "sum") (rSum K) := h ▸ cr_sum hc
theorem maxl_K (K : PySem.W.Frag) (hc : X.calm = true) (h : X.K = K := by rfl) : CallR X (.builtin "max") (rMax K) := h ▸ cr_max hc
theorem minl_K (K : PySem.W.Frag) (hc : X.calm = true) (h : X.K = K := by rfl) : CallR X (.builtin "min") (rMin K) := h ▸ cr_min hc
theorem isi_K (K : PySem.W.Frag) (h : X.K = K := by rfl) : CallR X (.builtin "isinstance") (rIsi K) := h ▸ call_isi
theorem pe_revK (K : PySem.W.Frag) {e : Expr} {te : TE} {k : Nat} {p1 p2 p3 pos : Pos} (he : PE X e te) (h : X.K = K := by rfl) : PE X (.Subscript e (.Slice none none (some (.UnaryOp .USub (.Constant (.int 1) k p1) p2)) p3) pos) (tRevU K te) := h ▸ pe_revU he
theorem pi_listK (K : PySem.W.Frag) {tg l : Expr} {tl : TE} (hl : PE X l tl) (h : X.K = K := by rfl) : PI X tg l (iList K tl) := h ▸ pi_list hl
theorem pi_tupK (K : PySem.W.Frag) {tg l : Expr} {tl : TE} (hl : PE X l tl) (h : X.K = K := by rfl) : PI X tg l (iTup K tl) := h ▸ pi_tup hl
def tTruU (K : PySem.W.Frag) (ta : TE) : TT := fun σ H Q => ta σ H fun x H' => ∃ k, TruV K x H' k ∧ Q k H'
theorem pt_truK (K : PySem.W.Frag) {a : Expr} {ta : TE} (ha : PE X a ta) (he : ∀ whole, isTrue a X.env whole = (do let v ← whole; standAt a.pos; holding [v] (truthy v)) := by intro _; rfl) (h : X.K = K := by rfl) : PT X a (tTruU K ta) := h ▸ pt_truth ha he
theorem pg_tupK (K : PySem.W.Frag) {es : List Expr} {k : Nat} {t : TGs} {n : Nat} {pos : Pos} (hc : X.calm = true) (h : PGs X es t) (hn : (assignEach es X.env).length = n := by rfl) (hst : (assignEach es X.env).findIdx? (·.1) = none := by rfl) (hK : X.K = K := by rfl) : PG X (.Tuple es k pos) (gTup K n t) := hK ▸ pg_tup hc h hn hst
theorem pe_bmU (K : PySem.W.Frag) {T : String} {name : Str} {id : String} {r : V → List V → Hp → VK → Prop} {o e : Expr} {es : List Expr} {to : TE} {t : TA} {apos cpos : Pos}
    (pa : PlainAttrs T) (slot : Slot T name id) (hty : typeOf (.builtin id) = pure (.type "method_descriptor")) (hm : MtR X id r) (ho : PE X o to) (ha : PA X (e :: es) t)
    (hbase : attributeBase o name X.env (eval o X.env) = eval o X.env := by rfl)
    (hfew : ((backTo cpos (starEach (e :: es) X.env)).all (fun x => !x.1) && (backToKw cpos (keywordEach [] X.env)).all (fun x => x.1.isSome) && decide ((e :: es).length + ([] : List Keyword).length + (if ([] : List Keyword).isEmpty then 0 else 1) < 30)) = true := by rfl)
    (hline : (apos.endLine == cpos.line) = true := by rfl) (hs : starEach (e :: es) X.env = (false, eval e X.env) :: starEach es X.env := by rfl) (hplain : (backTo cpos (starEach es X.env)).any (·.1) = false := by rfl) (h : X.K = K := by rfl) :
    PE X (.Call (.Attribute o name apos) (e :: es) [] cpos) (tBM K T r to t) := h ▸ pe_bm pa slot hty hm ho ha hbase hfew hline hs hplain
theorem pe_bm0U (K : PySem.W.Frag) {T : String} {name : Str} {id : String} {r : V → List V → Hp → VK → Prop} {o : Expr} {to : TE} {apos cpos : Pos}
    (pa : PlainAttrs T) (slot : Slot T name id) (hty : typeOf (.builtin id) = pure (.type "method_descriptor")) (hm : MtR X id r) (ho : PE X o to)
    (hbase : attributeBase o name X.env (eval o X.env) = eval o X.env := by rfl) (hline : (apos.endLine == cpos.line) = true := by rfl) (h : X.K = K := by rfl) : PE X (.Call (.Attribute o name apos) [] [] cpos) (tBM0 K T r to) := h ▸ pe_bm0 pa slot hty hm ho hbase hline
end
section
variable {K : PySem.W.Frag} {σ : L2.St} {H : Hp} {Q : VK} {a : Addr} {xs : List V}
theorem r_lenL (h : SqL K H a xs) (q : Q (.int (xs.length : Int)) H) : rLenU K [.ref a] H Q := ⟨a, xs, rfl, .inl h, q⟩
theorem r_lenT (h : SqT K H a xs) (q : Q (.int (xs.length : Int)) H) : rLenU K [.ref a] H Q := ⟨a, xs, rfl, .inr h, q⟩
theorem r_tupL (ha : SqL K H a xs) (q : ∀ p H1, H p = none → Ex H H1 → SqT K H1 p xs → Q (.ref p) H1) : rTupU K [.ref a] H Q := r_tuL ha q
theorem r_tupT (ha : SqT K H a xs) (q : Q (.ref a) H) : rTupU K [.ref a] H Q := ⟨a, xs, rfl, .inr ⟨ha, q⟩⟩
theorem r_lstL (ha : SqL K H a xs) (q : ∀ p H1, H p = none → Ex H H1 → H1 p = some (.lst xs) → Q (.ref p) H1) : rLstU K [.ref a] H Q := r_liL (.inl ha) q
theorem r_lstT (ha : SqT K H a xs) (q : ∀ p H1, H p = none → Ex H H1 → H1 p = some (.lst xs) → Q (.ref p) H1) : rLstU K [.ref a] H Q := r_liL (.inr ha) q
theorem r_abs {i : Int} (q : Q (.int ((i.natAbs : Nat) : Int)) H) : rAbs [.int i] H Q := ⟨i, rfl, by
  have e : (if i < 0 then -i else i) = ((i.natAbs : Nat) : Int) := by split <;> omega
  rw [e]
  exact q⟩
theorem r_max2 {i j : Int} (q : Q (.int (max i j)) H) : rMax2 [.int i, .int j] H Q := ⟨i, j, rfl, by
  have e : (if j > i then j else i) = max i j := by split <;> omega
  rw [e]
  exact q⟩
theorem r_min2 {i j : Int} (q : Q (.int (min i j)) H) : rMin2 [.int i, .int j] H Q := ⟨i, j, rfl, by
  have e : (if j < i then j else i) = min i j := by split <;> omega
  rw [e]
  exact q⟩
theorem r_intI {i : Int} (q : Q (.int i) H) : rInt1 [.int i] H Q := .inl ⟨i, rfl, q⟩
theorem r_intB {b : Bool} (q : Q (.int (if b then 1 else 0)) H) : rInt1 [.bl b] H Q := .inr ⟨b, rfl, q⟩
theorem r_sum {ns : List Int} (h : IL K H a ns) (q : Q (.int ns.sum) H) : rSum K [.ref a] H Q := ⟨a, ns, rfl, h, q⟩
theorem r_all {bs : List Bool} (h : SqL K H a (bs.map V.bl)) (q : Q (.bl (bs.all id)) H) : rAll K [.ref a] H Q := ⟨a, bs, rfl, h, q⟩
theorem r_isiI {i : Int} {n : String} {b : Bool} (hb : PySem.W.kitOne K (.type "int") (.type n) = some b) (q : Q (.bl b) H) : rIsi K [.int i, .ty n] H Q := ⟨_, _, _, _, b, rfl, .ty _, .base (.int i), hb, q⟩
theorem r_isiT {n : String} {b : Bool} (h : SqT K H a xs) (hb : PySem.W.kitOne K (.type "tuple") (.type n) = some b) (q : Q (.bl b) H) : rIsi K [.ref a, .ty n] H Q := ⟨_, _, _, _, b, rfl, .ty _, ty_t h, hb, q⟩
end
end L2
namespace L2
open PySem PySem.Spec PyProof.Rows Evl
section
variable {K : PySem.W.Frag} {σ : L2.St} {H : Hp} {Q : VK} {i j : Int} {D : Ends} {tc tc2 : TT}
theorem st_bl {b : Bool} {R : Bool → Prop} (q : R b) : ∃ k, V.bl b = V.bl k ∧ R k := ⟨b, rfl, q⟩
theorem st_in {R : Int → Prop} (q : R i) : ∃ k, V.int i = V.int k ∧ R k := ⟨i, rfl, q⟩
theorem r_neg {g : Int → V} (q : Q (g i) H) : rU g (.int i) H Q := ⟨i, rfl, q⟩
theorem r_mod (h : 0 < j) {g : Int → Int → V} (q : Q (g i j) H) : rI (fun _ j => 0 < j) g (.int i) (.int j) H Q := ⟨i, j, rfl, rfl, h, q⟩
theorem r_div {b : Nat} (h : 0 < j) (hb : j.natAbs < 2 ^ b) (h0 : 0 < b) (h9 : b ≤ 9000) {g : Int → Int → V} (q : Q (g i j) H) : rI CDivW g (.int i) (.int j) H Q := ⟨i, j, rfl, rfl, wide_div h hb h0 h9, q⟩
theorem r_pow {a k : Nat} (h0 : 0 < a) (ha : i.natAbs < 2 ^ a) (h : a * k ≤ 134217728) {g : Int → Int → V} (q : Q (g i (k : Int)) H) : rI CPowW g (.int i) (.int (k : Int)) H Q := ⟨i, _, rfl, rfl, wide_pow h0 ha h, q⟩
theorem st_tru {K : PySem.W.Frag} {ta : TE} {R : Bool → Hp → Prop} (h : ta σ H fun x H' => ∃ k, TruV K x H' k ∧ R k H') : tTruU K ta σ H R := h
theorem r_truB {b : Bool} {R : Bool → Prop} (q : R b) : ∃ k, TruV K (.bl b) H k ∧ R k := ⟨b, rfl, q⟩
theorem r_truL {a : Addr} {xs : List V} {R : Bool → Prop} (h : SqL K H a xs) (q : R (!xs.isEmpty)) : ∃ k, TruV K (.ref a) H k ∧ R k := ⟨_, .inl ⟨xs, h, rfl⟩, q⟩
theorem r_truT {a : Addr} {xs : List V} {R : Bool → Prop} (h : SqT K H a xs) (q : R (!xs.isEmpty)) : ∃ k, TruV K (.ref a) H k ∧ R k := ⟨_, .inr (.inl ⟨xs, h, rfl⟩), q⟩
theorem st_and {R : Bool → Hp → Prop} (h : tc σ H fun c H1 => if c = true then tc2 σ H1 R else R false H1) : tAnd tc tc2 σ H R := h
theorem st_or {R : Bool → Hp → Prop} (h : tc σ H fun c H1 => if c = true then R true H1 else tc2 σ H1 R) : tOr tc tc2 σ H R := h
theorem st_not {R : Bool → Hp → Prop} (h : tc σ H fun c H1 => R (!c) H1) : tNot tc σ H R := h
theorem st_B {te : TE} {R : Bool → Hp → Prop} (h : te σ H fun x H1 => ∃ c, x = .bl c ∧ R c H1) : tB te σ H R := h
theorem st_andV {ta tb : TE} (h : ta σ H fun x H1 => ∃ c, x = .bl c ∧ if c = true then tb σ H1 Q else Q (.bl false) H1) : tAndV ta tb σ H Q := h
theorem st_orV {ta tb : TE} (h : ta σ H fun x H1 => ∃ c, x = .bl c ∧ if c = true then Q (.bl true) H1 else tb σ H1 Q) : tOrV ta tb σ H Q := h
theorem st_notV {ta : TE} (h : ta σ H fun x H1 => ∃ c, x = .bl c ∧ Q (.bl (!c)) H1) : tNotV ta σ H Q := h
theorem st_ifE {ta tb : TE} (h : tc σ H fun c H1 => if c = true then ta σ H1 Q else tb σ H1 Q) : tIf tc ta tb σ H Q := h
theorem st_part {te : TE} {R : Option Int → Hp → Prop} (h : te σ H fun x H1 => ∃ i, x = .int i ∧ R (some i) H1) : tPart te σ H R := h
theorem st_nop {R : Option Int → Hp → Prop} (h : R none H) : tNoPart σ H R := h
theorem st_sub {to ti : TE} {t : TSet} {v : V} {R : St → Hp → Prop} (h : to σ H fun o H1 => ti σ H1 fun i H2 => t o i v H2 fun H3 => R σ H3) : gSub to ti t v σ H R := h
theorem st_callK {sp : Sp} {gV : List V → List V → List V} {E : XK} {t tk : TA} (h : t σ H fun vs H1 => tk σ H1 fun zs H2 => sp (gV vs zs) H2 Q E) : tCallK sp gV E t tk σ H Q := h
theorem if_T {A B : Prop} (h : A) : if true = true then A else B := h
theorem if_F {A B : Prop} (h : B) : if false = true then A else B := h
theorem if_nT {A B : Prop} (h : B) : if (!true) = true then A else B := h
theorem if_nF {A B : Prop} (h : A) : if (!false) = true then A else B := h
theorem st_nameG {i : Nat} {v : V} {R : St → Hp → Prop} (h : R (σ.set i (some v)) H) : gName i v σ H R := h
theorem st_chain {ta tb tc : TE} {r r' : R2} (h : ta σ H fun x H1 => tb σ H1 fun y H2 => r x y H2 fun z H3 => ∃ k, z = .bl k ∧ (if k = true then tc σ H3 fun w' H4 => r' y w' H4 Q else Q (.bl false) H3)) : tChain r r' ta tb tc σ H Q := h
end
end L2
namespace L2
section
variable {σ : L2.St} {H : Hp} {D : Ends}
theorem st_nxt (h : D.nx σ H) : tNext D σ H := h
theorem st_cnt (h : D.ct σ H) : tCont D σ H := h
theorem st_brk (h : D.bk σ H) : tBreak D σ H := h
theorem st_retn (h : D.rt .non H) : tRetN D σ H := h
end
end L2
namespace L2
open PySem PySem.Spec PyProof.Rows Evl
section
variable {σ : L2.St} {H : Hp} {t : TA} {Q : VK} {xs : List V}
def rNewL (xs : List V) (H : Hp) (Q : VK) : Prop := xs.length ≤ sizeLine ∧ ∀ p, H p = none → Q (.ref p) (upd H p (.lst xs))
def rNewT (xs : List V) (H : Hp) (Q : VK) : Prop := xs.length ≤ sizeLine ∧ ∀ p, H p = none → Q (.ref p) (upd H p (.tup xs))
theorem st_lstN (h : t σ H fun xs H1 => rNewL xs H1 Q) : tLst t σ H Q := h
theorem st_tupN (h : t σ H fun xs H1 => rNewT xs H1 Q) : tTup t σ H Q := h
theorem r_newL (hz : xs.length ≤ 100000) (q : ∀ p H1, H p = none → Ex H H1 → H1 p = some (.lst xs) → Q (.ref p) H1) : rNewL xs H Q := ⟨sz_of hz, alloc q⟩
theorem r_newT (hz : xs.length ≤ 100000) (q : ∀ p H1, H p = none → Ex H H1 → H1 p = some (.tup xs) → Q (.ref p) H1) : rNewT xs H Q := ⟨sz_of hz, alloc q⟩
end
end L2
namespace L2
open PySem PySem.Spec PyProof.Rows Evl
section
variable {σ : L2.St} {H : Hp} {D : Ends} {c : TT} {tb : TS}
theorem st_while (W : Nat → L2.St → Hp → Prop) (m0 : Nat) (h0 : W m0 σ H)
    (hs : ∀ m σ' H', W m σ' H' → c σ' H' fun b H1 => if b = true then ∃ N : L2.St → Hp → Prop, (∀ σ2 H2, N σ2 H2 → ∃ m', m' < m ∧ W m' σ2 H2) ∧ tb { D with nx := N, ct := N, bk := D.nx } σ' H1 else D.nx σ' H1) : tWhile c tb D σ H :=
  ⟨W, ⟨m0, h0⟩, hs⟩
theorem wh_in {W : Nat → L2.St → Hp → Prop} {m : Nat} (h : tb { D with nx := fun σ2 H2 => ∃ m', m' < m ∧ W m' σ2 H2, ct := fun σ2 H2 => ∃ m', m' < m ∧ W m' σ2 H2, bk := D.nx } σ H) :
    ∃ N : L2.St → Hp → Prop, (∀ σ2 H2, N σ2 H2 → ∃ m', m' < m ∧ W m' σ2 H2) ∧ tb { D with nx := N, ct := N, bk := D.nx } σ H := ⟨_, fun _ _ h => h, h⟩
end
end L2
/-! loops and comprehensions by what is walked -/
namespace L2
open PySem PySem.Spec PyProof.Rows Evl
def rFor (J : It) (g : TG) (tb : TS) (D : Ends) (σ : L2.St) (H1 : Hp) : Prop := ∃ W : Nat → Nat → L2.St → Hp → Prop, (∃ m, W 0 m σ H1) ∧ ∀ i m σ H, W i m σ H →
  (J.stop i H ∧ D.nx σ H) ∨ (J.go i H ∧ ∃ N : L2.St → Hp → Prop, (∀ σ' H', N σ' H' → ∃ m', m' < m ∧ W (i + 1) m' σ' H') ∧ ∀ x H', J.yld i H x H' → g x σ H' fun σ2 H2 => tb { D with nx := N, ct := N, bk := D.nx } σ2 H2)
def rLc (J : It) (g : TG) (tt : TT) (te : TE) (vs : List Nat) (σ : L2.St) (Q : VK) (H1 : Hp) : Prop := ∀ D, H1 D = none → ∃ W : Nat → Nat → Hp → Prop, (∃ m, W 0 m (upd H1 D (.lst []))) ∧ ∀ i m H, W i m H →
  (J.stop i H ∧ Q (.ref D) H) ∨ (J.go i H ∧ ∃ Nx : Hp → Prop, (∀ H', Nx H' → ∃ m', m' < m ∧ W (i + 1) m' H') ∧ ∀ x H', J.yld i H x H' → g x (wipe σ vs) H' fun σ2 H2 => wipe σ2 vs = wipe σ vs ∧ tt σ2 H2 fun b H3 =>
    if b = true then te σ2 H3 fun y H4 => ∃ acc, H4 D = some (.lst acc) ∧ acc.length < sizeLine ∧ Nx (upd H4 D (.lst (acc ++ [y]))) else Nx H3)
def rRng1 (vs : List V) (R : It → Hp → Prop) (H1 : Hp) : Prop := ∃ j : Int, vs = [.int j] ∧ -(2 ^ 62) ≤ j ∧ j < 2 ^ 62 ∧ R (Itr 0 j.toNat) H1
def rRng2 (vs : List V) (R : It → Hp → Prop) (H1 : Hp) : Prop := ∃ i j : Int, vs = [.int i, .int j] ∧ (-(2 ^ 62) ≤ i ∧ i < 2 ^ 62 ∧ -(2 ^ 62) ≤ j ∧ j < 2 ^ 62) ∧ R (Itr i (j - i).toNat) H1
def rItL (K : PySem.W.Frag) (x : V) (R : It → Hp → Prop) (H1 : Hp) : Prop := ∃ a, x = .ref a ∧ (∃ xs, SqL K H1 a xs) ∧ R (Itl K a) H1
def rItT (K : PySem.W.Frag) (x : V) (R : It → Hp → Prop) (H1 : Hp) : Prop := ∃ a, x = .ref a ∧ (∃ xs, SqT K H1 a xs) ∧ R (Itt K a) H1
def rRev (K : PySem.W.Frag) (x : V) (H1 : Hp) (Q : VK) : Prop := (∃ a xs, x = .ref a ∧ SqL K H1 a xs ∧ ∀ p, H1 p = none → Q (.ref p) (upd H1 p (.lst xs.reverse))) ∨ (∃ a xs, x = .ref a ∧ SqT K H1 a xs ∧ ∀ p, H1 p = none → Q (.ref p) (upd H1 p (.tup xs.reverse)))
def rApp (K : PySem.W.Frag) (T : String) (r : V → List V → Hp → VK → Prop) (t : TA) (σ : L2.St) (x : V) (H1 : Hp) (Q : VK) : Prop := tyV K T x H1 ∧ t σ H1 fun xs H2 => r x xs H2 Q
def rApp0 (K : PySem.W.Frag) (T : String) (r : V → List V → Hp → VK → Prop) (x : V) (H1 : Hp) (Q : VK) : Prop := tyV K T x H1 ∧ r x [] H1 Q
section
variable {K : PySem.W.Frag} {σ : L2.St} {H : Hp} {Q : VK} {D : Ends} {g : TG} {tb : TS} {wi : TI} {ta : TA} {te tl : TE} {tt : TT} {vs : List Nat} {R : It → Hp → Prop} {a : Addr} {xs ys : List V} {j : Nat} {n lo : Int}
theorem st_for (h : wi σ H fun J H1 => rFor J g tb D σ H1) : tFor wi g tb D σ H := h
theorem st_lc (h : wi σ H fun J H1 => rLc J g tt te vs σ Q H1) : tLc wi g tt te vs σ H Q := h
theorem st_rng1 (h : ta σ H fun us H1 => rRng1 us R H1) : iRng1 ta σ H R := h
theorem st_rng2 (h : ta σ H fun us H1 => rRng2 us R H1) : iRng2 ta σ H R := h
theorem st_itL (h : tl σ H fun x H1 => rItL K x R H1) : iList K tl σ H R := h
theorem st_itT (h : tl σ H fun x H1 => rItT K x R H1) : iTup K tl σ H R := h
theorem st_rev (h : te σ H fun x H1 => rRev K x H1 Q) : tRevU K te σ H Q := h
theorem st_bm {T : String} {r : V → List V → Hp → VK → Prop} {t : TA} (h : te σ H fun x H1 => rApp K T r t σ x H1 Q) : tBM K T r te t σ H Q := h
theorem st_bm0 {T : String} {r : V → List V → Hp → VK → Prop} (h : te σ H fun x H1 => rApp0 K T r x H1 Q) : tBM0 K T r te σ H Q := h
theorem r_rng1 (h1 : n < 2 ^ 62) (h0 : -(2 ^ 62) ≤ n) (q : R (Itr 0 n.toNat) H) : rRng1 [.int n] R H := ⟨n, rfl, h0, h1, q⟩
theorem r_rng2 (h : -(2 ^ 62) ≤ lo ∧ lo < 2 ^ 62 ∧ -(2 ^ 62) ≤ n ∧ n < 2 ^ 62) (q : R (Itr lo (n - lo).toNat) H) : rRng2 [.int lo, .int n] R H := ⟨lo, n, rfl, h, q⟩
theorem r_itL (h : SqL K H a xs) (q : R (Itl K a) H) : rItL K (.ref a) R H := ⟨a, rfl, ⟨xs, h⟩, q⟩
theorem r_itT (h : SqT K H a xs) (q : R (Itt K a) H) : rItT K (.ref a) R H := ⟨a, rfl, ⟨xs, h⟩, q⟩
theorem r_revL (h : SqL K H a xs) (q : ∀ p H1, H p = none → Ex H H1 → H1 p = some (.lst xs.reverse) → Q (.ref p) H1) : rRev K (.ref a) H Q := .inl ⟨a, xs, rfl, h, alloc q⟩
theorem r_revT (h : SqT K H a xs) (q : ∀ p H1, H p = none → Ex H H1 → H1 p = some (.tup xs.reverse) → Q (.ref p) H1) : rRev K (.ref a) H Q := .inr ⟨a, xs, rfl, h, alloc q⟩
/-- xs.append(v): the argument is read first -/
theorem r_app {t : TA} (h : SqL K H a xs) (q : t σ H fun us H2 => rAppend (.ref a) us H2 Q) : rApp K "list" rAppend t σ (.ref a) H Q := ⟨.inl ⟨rfl, xs, h⟩, q⟩
theorem r_appd {v : V} (h : H a = some (.lst xs)) (hz : xs.length < 100000) (q : ∀ H1, ExW a H H1 → H1 a = some (.lst (xs ++ [v])) → Q .non H1) : rAppend (.ref a) [v] H Q := ⟨a, xs, v, rfl, rfl, h, sz_lt hz, q _ ExW.upd upd_same⟩
theorem r_pop {v : V} (h : H a = some (.lst (xs ++ [v]))) (q : ∀ H1, ExW a H H1 → H1 a = some (.lst xs) → Q v H1) : rApp0 K "list" rPop (.ref a) H Q := by
  refine ⟨.inl ⟨rfl, _, l_of h⟩, a, _, v, rfl, rfl, h, by simp, ?_⟩
  refine q _ ExW.upd ?_
  rw [upd_same]
  simp
/-! ### for -/
theorem r_forR {m : Nat} (Pv : Nat → L2.St → Hp → Prop) (h0 : Pv 0 σ H) (hs : ∀ i σ' H', i < m → Pv i σ' H' → g (.int (lo + i)) σ' H' fun σ2 H2 => tb { D with nx := Pv (i + 1), ct := Pv (i + 1), bk := D.nx } σ2 H2)
    (hd : ∀ σ' H', Pv m σ' H' → D.nx σ' H') : rFor (Itr lo m) g tb D σ H := for_range (lo := lo) (n := m) Pv h0 hs hd
theorem r_forL (Pv : Nat → L2.St → Hp → Prop) (h0 : Pv 0 σ H) (hl : ∀ i σ' H', i ≤ xs.length → Pv i σ' H' → SqL K H' a xs)
    (hs : ∀ i x σ' H', xs[i]? = some x → Pv i σ' H' → g x σ' H' fun σ2 H2 => tb { D with nx := Pv (i + 1), ct := Pv (i + 1), bk := D.nx } σ2 H2) (hd : ∀ σ' H', Pv xs.length σ' H' → D.nx σ' H') : rFor (Itl K a) g tb D σ H := for_list Pv h0 hl hs hd
theorem r_forT (Pv : Nat → L2.St → Hp → Prop) (h0 : Pv 0 σ H) (hl : ∀ i σ' H', i ≤ xs.length → Pv i σ' H' → SqT K H' a xs)
    (hs : ∀ i x σ' H', xs[i]? = some x → Pv i σ' H' → g x σ' H' fun σ2 H2 => tb { D with nx := Pv (i + 1), ct := Pv (i + 1), bk := D.nx } σ2 H2) (hd : ∀ σ' H', Pv xs.length σ' H' → D.nx σ' H') : rFor (Itt K a) g tb D σ H := for_tup Pv h0 hl hs hd
/-! ### comprehensions whose turns change nothing -/
theorem r_cmT (ht : SqT K H a xs) (hxy : ys.length = xs.length) (hz : ys.length ≤ 100000) (hw : ∀ x, wipe ((wipe σ vs).set j (some x)) vs = wipe σ vs)
    (he : ∀ (i : Nat) (x y : V) (H1 : Hp), xs[i]? = some x → ys[i]? = some y → Ex H H1 → ∀ Q' : VK, (∀ H2, Ex H1 H2 → Q' y H2) → te ((wipe σ vs).set j (some x)) H1 Q')
    (q : ∀ p H1, H p = none → Ex H H1 → H1 p = some (.lst ys) → Q (.ref p) H1) : rLc (Itt K a) (gName j) tYes te vs σ Q H := fun D hD =>
  lc_tup (K := K) (a := a) (xs := xs) (fun i H' => Ex H H' ∧ H' D = some (.lst (ys.take i))) ⟨Ex.new hD, by rw [upd_same]; rfl⟩ (fun i H' _ p => ex_t p.1 ht) (fun i x H' hx p => ⟨hw x, by
    have hi : i < ys.length := by rw [hxy]; exact (List.getElem?_eq_some_iff.mp hx).1
    exact cm_turn (List.getElem?_eq_getElem hi) hz hD p fun Q' k => he i x _ H' hx (List.getElem?_eq_getElem hi) p.1 Q' k⟩) (fun H' p => q D H' hD p.1 (by rw [p.2, ← hxy, List.take_length]))
theorem r_cmL (ht : SqL K H a xs) (hxy : ys.length = xs.length) (hz : ys.length ≤ 100000) (hw : ∀ x, wipe ((wipe σ vs).set j (some x)) vs = wipe σ vs)
    (he : ∀ (i : Nat) (x y : V) (H1 : Hp), xs[i]? = some x → ys[i]? = some y → Ex H H1 → ∀ Q' : VK, (∀ H2, Ex H1 H2 → Q' y H2) → te ((wipe σ vs).set j (some x)) H1 Q')
    (q : ∀ p H1, H p = none → Ex H H1 → H1 p = some (.lst ys) → Q (.ref p) H1) : rLc (Itl K a) (gName j) tYes te vs σ Q H := fun D hD =>
  lc_list (K := K) (a := a) (xs := xs) (fun i H' => Ex H H' ∧ H' D = some (.lst (ys.take i))) ⟨Ex.new hD, by rw [upd_same]; rfl⟩ (fun i H' _ p => ex_l p.1 ht) (fun i x H' hx p => ⟨hw x, by
    have hi : i < ys.length := by rw [hxy]; exact (List.getElem?_eq_some_iff.mp hx).1
    exact cm_turn (List.getElem?_eq_getElem hi) hz hD p fun Q' k => he i x _ H' hx (List.getElem?_eq_getElem hi) p.1 Q' k⟩) (fun H' p => q D H' hD p.1 (by rw [p.2, ← hxy, List.take_length]))
theorem r_cmR {m : Nat} (hxy : ys.length = m) (hz : ys.length ≤ 100000) (hw : ∀ x, wipe ((wipe σ vs).set j (some x)) vs = wipe σ vs)
    (he : ∀ (i : Nat) (y : V) (H1 : Hp), i < m → ys[i]? = some y → Ex H H1 → ∀ Q' : VK, (∀ H2, Ex H1 H2 → Q' y H2) → te ((wipe σ vs).set j (some (.int (lo + (i : Int))))) H1 Q')
    (q : ∀ p H1, H p = none → Ex H H1 → H1 p = some (.lst ys) → Q (.ref p) H1) : rLc (Itr lo m) (gName j) tYes te vs σ Q H := fun D hD =>
  lc_range (lo := lo) (n := m) (fun i H' => Ex H H' ∧ H' D = some (.lst (ys.take i))) ⟨Ex.new hD, by rw [upd_same]; rfl⟩ (fun i H' hi' p => ⟨hw _, by
    have hi : i < ys.length := by rw [hxy]; exact hi'
    exact cm_turn (List.getElem?_eq_getElem hi) hz hD p fun Q' k => he i _ H' hi' (List.getElem?_eq_getElem hi) p.1 Q' k⟩) (fun H' p => q D H' hD p.1 (by rw [p.2, ← hxy, List.take_length]))
/-- [e for i in range(..) if t] -/
theorem r_cmRF {m : Nat} (f : Nat → Bool) (v : Nat → V) (hz : m ≤ 100000) (hw : ∀ x, wipe ((wipe σ vs).set j (some x)) vs = wipe σ vs)
    (ht : ∀ (i : Nat) H1, i < m → Ex H H1 → ∀ Q' : Bool → Hp → Prop, (∀ H2, Ex H1 H2 → Q' (f i) H2) → tt ((wipe σ vs).set j (some (.int (lo + (i : Int))))) H1 Q')
    (he : ∀ (i : Nat) H1, i < m → f i = true → Ex H H1 → ∀ Q' : VK, (∀ H2, Ex H1 H2 → Q' (v i) H2) → te ((wipe σ vs).set j (some (.int (lo + (i : Int))))) H1 Q')
    (q : ∀ p H1, H p = none → Ex H H1 → H1 p = some (.lst (given m f v)) → Q (.ref p) H1) : rLc (Itr lo m) (gName j) tt te vs σ Q H := fun D hD => by
  refine lc_range (lo := lo) (n := m) (fun i H' => Ex H H' ∧ H' D = some (.lst (given i f v))) ⟨Ex.new hD, by rw [upd_same]; rfl⟩ (fun i H' hi p => ⟨hw _, ?_⟩) (fun H' p => q D H' hD p.1 p.2)
  refine ht i H' hi p.1 _ fun H2 e2 => ?_
  cases hf : f i with
  | false =>
    refine if_F ⟨p.1.trans e2, ?_⟩
    rw [given_no hf]
    exact e2 _ _ p.2
  | true =>
    refine if_T (he i H2 hi hf (p.1.trans e2) _ fun H3 e3 => ⟨given i f v, e3 _ _ (e2 _ _ p.2), ?_, Ex.mut ((p.1.trans e2).trans e3) hD, ?_⟩)
    · have := given_len i f v
      exact Nat.lt_of_le_of_lt this (Nat.lt_of_lt_of_le hi (sz_of hz))
    · rw [upd_same, given_yes hf]
/-- [e for i in range(..)], a turn may change the heap: S is what stands between the turns, Pr what is said of an item -/
theorem r_cmRS {m : Nat} (S : Nat → Hp → Prop) (Pr : V → Prop) (hm : m ≤ 100000) (hw : ∀ x, wipe ((wipe σ vs).set j (some x)) vs = wipe σ vs) (h0 : S 0 H)
    (hnew : ∀ i H1 D o, S i H1 → H1 D = none → S i (upd H1 D o))
    (he : ∀ (i : Nat) H1 D acc, i < m → S i H1 → H1 D = some (.lst acc) → (∀ o, S i (upd H1 D o)) →
      ∀ Q' : VK, (∀ y H2, Pr y → H2 D = some (.lst acc) → (∀ o, S (i + 1) (upd H2 D o)) → Q' y H2) → te ((wipe σ vs).set j (some (.int (lo + (i : Int))))) H1 Q')
    (q : ∀ D H1 ys, H D = none → ys.length = m → (∀ y ∈ ys, Pr y) → S m H1 → H1 D = some (.lst ys) → Q (.ref D) H1) : rLc (Itr lo m) (gName j) tYes te vs σ Q H := fun D hD => by
  refine lc_range (lo := lo) (n := m) (fun i H' => ∃ ys : List V, ys.length = i ∧ (∀ y ∈ ys, Pr y) ∧ S i H' ∧ (∀ o, S i (upd H' D o)) ∧ H' D = some (.lst ys)) ⟨[], rfl, (fun _ h => by cases h), hnew 0 H D _ h0 hD, fun o => by rw [upd_upd]; exact hnew 0 H D o h0 hD, upd_same⟩ (fun i H' hi p => ?_) (fun H' p => ?_)
  · obtain ⟨ys, h1, h2, h3, h4, h5⟩ := p
    refine ⟨hw _, ?_⟩
    refine he i H' D ys hi h3 h5 h4 _ fun y H2 z1 z2 z3 => ?_
    refine ⟨ys, z2, sz_lt (by omega), ys ++ [y], by rw [List.length_append, h1]; rfl, fun x hx => ?_, z3 _, fun o => by rw [upd_upd]; exact z3 o, upd_same⟩
    rcases List.mem_append.mp hx with hx | hx
    · exact h2 x hx
    · rw [List.mem_singleton.mp hx]
      exact z1
  · obtain ⟨ys, h1, h2, h3, h4, h5⟩ := p
    exact q D H' ys hD h1 h2 h3 h5
end
end L2
namespace L2
open PySem PySem.Spec PyProof.Rows Evl
section
variable {K : PySem.W.Frag} {H : Hp} {Q : VK} {a : Addr} {xs : List V}
theorem r_repL {k : Int} (h : H a = some (.lst xs)) (h0 : 0 ≤ k) (hk : k ≤ 100000) (hz : xs.length * k.toNat ≤ 100000) (q : ∀ p H1, H p = none → Ex H H1 → H1 p = some (.lst (List.replicate k.toNat xs).flatten) → Q (.ref p) H1) : rMulU K (.ref a) (.int k) H Q :=
  .inr (.inr (.inl ⟨a, k, xs, rfl, rfl, h, by omega, by omega, sz_of hz, alloc q⟩))
/-! ### draws: what stands between -/
/-- all but the well is as it was; n draws are done -/
structure DrS (w : Addr) (H0 : Hp) (n : Nat) (H : Hp) : Prop where
  ex : ExW w H0 H
  well : Well H w n
theorem Well.upd {H : Hp} {w D : Addr} {n : Nat} {o : HO} (h : Well H w n) (hD : D ≠ w) : Well (upd H D o) w n := by
  obtain ⟨a, b, c, h1, h2⟩ := h.ex
  exact ⟨a, b, c, by rw [upd_ne hD.symm]; exact h1, h2⟩
theorem DrS.new {w D : Addr} {H0 H : Hp} {n : Nat} {o : HO} (h : DrS w H0 n H) (hD : H D = none) : DrS w H0 n (upd H D o) :=
  ⟨fun a u e ha => by rw [upd_ne (ne_of_none (h.ex a u e ha) hD)]; exact h.ex a u e ha, h.well.upd (h.well.ne hD)⟩
theorem DrS.at {w D : Addr} {H0 H : Hp} {n : Nat} (h : ∀ o, DrS w H0 n (L2.upd H D o)) : D ≠ w ∧ H0 D = none := by
  have hw : D ≠ w := fun e => by
    obtain ⟨a, b, c, h1, _⟩ := (h (.lst [])).well.ex
    rw [← e, upd_same] at h1
    cases h1
  refine ⟨hw, ?_⟩
  cases e : H0 D with
  | none => rfl
  | some u =>
    have h1 := (h (.lst [])).ex D u e hw
    have h2 := (h (.tup [])).ex D u e hw
    rw [upd_same] at h1 h2
    rw [← h1] at h2
    cases h2
theorem DrS.put {w D : Addr} {H0 H : Hp} {n : Nat} {o : HO} (h : DrS w H0 n H) (hD : D ≠ w) (h0 : H0 D = none) : DrS w H0 n (L2.upd H D o) :=
  ⟨fun a u e ha => by rw [upd_ne (ne_of_none e h0)]; exact h.ex a u e ha, h.well.upd hD⟩
theorem DrS.on {w : Addr} {H0 H H1 : Hp} {n m : Nat} (h : DrS w H0 n H) (e : ExW w H H1) (k : Well H1 w m) : DrS w H0 m H1 := ⟨h.ex.trans e, k⟩
theorem DrS.ext {w : Addr} {H0 H H1 : Hp} {n : Nat} (h : DrS w H0 n H) (e : Ex H H1) : DrS w H0 n H1 := ⟨h.ex.trans (.of e), h.well.mono e⟩
theorem DrS.more {w : Addr} {H0 H : Hp} {n m : Nat} (h : DrS w H0 n H) (e : n ≤ m) : DrS w H0 m H := ⟨h.ex, h.well.more e⟩
theorem DrS.t {w : Addr} {H0 H : Hp} {n : Nat} {a : Addr} {xs : List V} {k : Nat} (h : DrS w H0 n H) (h0 : Well H0 w k) (t : SqT K H0 a xs) : SqT K H a xs := h0.t h.ex t
end
/-- all items are ints of which so much is said -/
theorem intsOf {P : Int → Prop} : ∀ ys : List V, (∀ y ∈ ys, ∃ z, y = .int z ∧ P z) → ∃ ns : List Int, ys = ns.map V.int ∧ ∀ z ∈ ns, P z
  | [], _ => ⟨[], rfl, fun _ h => by cases h⟩
  | y :: ys, h => by
    obtain ⟨ns, e, k⟩ := intsOf ys fun x hx => h x (List.mem_cons_of_mem _ hx)
    obtain ⟨z, e2, k2⟩ := h y List.mem_cons_self
    refine ⟨z :: ns, by rw [e, e2]; rfl, fun x hx => ?_⟩
    rcases List.mem_cons.mp hx with rfl | hx
    · exact k2
    · exact k x hx
end L2
namespace Fg
/-- so many steps at the end of one are opposite to those ahead of the other -/
def Opp (u v : Wk) (s : Nat) : Prop := s ≤ u.length ∧ s ≤ v.length ∧ ∀ j, j < s → ∀ x y, u[u.length - 1 - j]? = some x → v[j]? = some y → x = -y
theorem opp_zero (u v : Wk) : Opp u v 0 := ⟨Nat.zero_le _, Nat.zero_le _, fun j h => absurd h (Nat.not_lt_zero j)⟩
theorem opp_succ {u v : Wk} {s : Nat} {x y : Int} (h : Opp u v s) (hu : s < u.length) (hv : s < v.length) (hx : u[u.length - 1 - s]? = some x) (hy : v[s]? = some y) (e : x = -y) : Opp u v (s + 1) := by
  refine ⟨hu, hv, fun j hj a b ha hb => ?_⟩
  by_cases hjs : j < s
  · exact h.2.2 j hjs a b ha hb
  · have : j = s := by omega
    subst this
    rw [hx] at ha
    rw [hy] at hb
    cases ha
    cases hb
    exact e
theorem eqv_opp {u v : Wk} : ∀ {s : Nat}, Opp u v s → Eqv (u ++ v) (u.take (u.length - s) ++ v.drop s)
  | 0, _ => by
    rw [Nat.sub_zero, List.take_length, List.drop_zero]
    exact .refl _
  | s + 1, h => by
    have h0 : Opp u v s := ⟨by have := h.1; omega, by have := h.2.1; omega, fun j hj => h.2.2 j (by omega)⟩
    refine (eqv_opp h0).trans ?_
    have hu : u.length - 1 - s < u.length := by have := h.1; omega
    have hv : s < v.length := h.2.1
    have e := h.2.2 s (by omega) u[u.length - 1 - s] v[s] (List.getElem?_eq_getElem hu) (List.getElem?_eq_getElem hv)
    have e1 : u.take (u.length - s) = u.take (u.length - (s + 1)) ++ [u[u.length - 1 - s]] := by
      have k : u.length - s = (u.length - 1 - s) + 1 := by have := h.1; omega
      have k2 : u.length - (s + 1) = u.length - 1 - s := by omega
      rw [k, k2, List.take_add_one, List.getElem?_eq_getElem hu]
      rfl
    have e2 : v.drop s = v[s] :: v.drop (s + 1) := List.drop_eq_getElem_cons hv
    rw [e1, e2, e]
    have e3 : u.take (u.length - (s + 1)) ++ [-v[s]] ++ (v[s] :: v.drop (s + 1)) = u.take (u.length - (s + 1)) ++ [-v[s], - -v[s]] ++ v.drop (s + 1) := by
      rw [Int.neg_neg]
      simp
    rw [e3]
    exact eqv_cut _ _ _
theorem str_take {u : Wk} (n : Nat) (h : Str u) : Str (u.take n) := by
  intro i x hx e
  have l2 : i + 1 < (u.take n).length := (List.getElem?_eq_some_iff.mp e).1
  rw [List.length_take] at l2
  rw [List.getElem?_take, if_pos (by omega)] at hx e
  exact h i x hx e
theorem str_drop {u : Wk} (n : Nat) (h : Str u) : Str (u.drop n) := by
  intro i x hx e
  rw [List.getElem?_drop] at hx e
  exact h (n + i) x hx (by rw [← e]; congr 1)
theorem str_app {u v : Wk} (hu : Str u) (hv : Str v) (h : ∀ x y, u.getLast? = some x → v.head? = some y → y ≠ -x) : Str (u ++ v) := by
  intro i x hx e
  by_cases h1 : i + 1 < u.length
  · rw [List.getElem?_append_left (by omega)] at hx
    rw [List.getElem?_append_left h1] at e
    exact hu i x hx e
  · by_cases h2 : i < u.length
    · rw [List.getElem?_append_left h2] at hx
      rw [List.getElem?_append_right (by omega)] at e
      have e0 : i + 1 - u.length = 0 := by omega
      rw [e0] at e
      refine h x (-x) ?_ ?_ rfl
      · rw [List.getLast?_eq_getElem?, show u.length - 1 = i by omega, hx]
      · rw [List.head?_eq_getElem?, e]
    · rw [List.getElem?_append_right (by omega)] at hx
      rw [List.getElem?_append_right (by omega)] at e
      have e0 : i + 1 - u.length = (i - u.length) + 1 := by omega
      rw [e0] at e
      exact hv _ x hx e
theorem join_ok {u v : Wk} {s : Nat} (hu : Str u) (hv : Str v) (h : Opp u v s) (hend : s < u.length → s < v.length → ∀ x y, u[u.length - 1 - s]? = some x → v[s]? = some y → x ≠ -y) :
    u.take (u.length - s) ++ v.drop s = rd (u ++ v) := by
  have hs : Str (u.take (u.length - s) ++ v.drop s) := by
    refine str_app (str_take _ hu) (str_drop _ hv) fun x y hx hy e => ?_
    rw [List.getLast?_eq_getElem?, List.length_take] at hx
    rw [List.head?_eq_getElem?, List.getElem?_drop] at hy
    have hx0 := (List.getElem?_eq_some_iff.mp hx).1
    rw [List.length_take] at hx0
    have hy0 := (List.getElem?_eq_some_iff.mp hy).1
    rw [List.getElem?_take, if_pos (by omega)] at hx
    have k1 : min (u.length - s) u.length - 1 = u.length - 1 - s := by omega
    rw [k1] at hx
    refine hend (by omega) (by omega) x y hx (by simpa using hy) (by omega)
  rw [rd_eq (eqv_opp h), rd_str hs]
theorem rd_rep_rd (u : Wk) (k : Nat) : rd (rep k (rd u)) = rd (rep k u) := rd_eq (eqv_rep (eqv_rd _ u rfl) k)
theorem rd_app_l (u v : Wk) : rd (rd u ++ v) = rd (u ++ v) := rd_eq ((eqv_rd _ u rfl).app (.refl v))
theorem rd_app_r (u v : Wk) : rd (u ++ rd v) = rd (u ++ v) := rd_eq ((Eqv.refl u).app (eqv_rd _ v rfl))
/-- one pair out -/
theorem rd_out {u : Wk} {i : Nat} {x y : Int} (hx : u[i]? = some x) (hy : u[i + 1]? = some y) (e : x = -y) : rd (u.take i ++ u.drop (i + 2)) = rd u := by
  have h1 := (List.getElem?_eq_some_iff.mp hx).1
  have h2 := (List.getElem?_eq_some_iff.mp hy).1
  have e1 : u = u.take i ++ [x, -x] ++ u.drop (i + 2) := by
    have k : u.drop i = x :: y :: u.drop (i + 2) := by
      rw [List.drop_eq_getElem_cons h1, List.drop_eq_getElem_cons h2]
      rw [List.getElem?_eq_getElem h1] at hx
      rw [List.getElem?_eq_getElem h2] at hy
      rw [Option.some.inj hx, Option.some.inj hy]
    have k2 : -x = y := by omega
    rw [k2]
    conv => lhs; rw [← List.take_append_drop i u, k]
    simp
  conv => rhs; rw [e1]
  exact (rd_eq (eqv_cut _ _ x)).symm
/-- no pair: straight -/
theorem str_of_none {u : Wk} (h : ∀ i x y, u[i]? = some x → u[i + 1]? = some y → x ≠ -y) : Str u := fun i x hx e => h i x (-x) hx e (by omega)
theorem mem_stp {st : Wk} {x y : Int} (h : y ∈ stp st x) : y ∈ st ∨ y = x := by
  cases st with
  | nil => exact .inr (List.mem_singleton.mp h)
  | cons z r =>
    have h' : y ∈ (if z = -x then r else x :: z :: r) := h
    split at h'
    · exact .inl (List.mem_cons_of_mem _ h')
    · rcases List.mem_cons.mp h' with e | e
      · exact .inr e
      · exact .inl e
theorem mem_run : ∀ (u : Wk) {st : Wk} {y : Int}, y ∈ run st u → y ∈ st ∨ y ∈ u
  | [], _, _, h => .inl h
  | x :: u, st, y, h => by
    rcases mem_run u (st := stp st x) h with k | k
    · rcases mem_stp k with k | k
      · exact .inl k
      · exact .inr (by rw [k]; exact List.mem_cons_self)
    · exact .inr (List.mem_cons_of_mem _ k)
theorem mem_rd {u : Wk} {y : Int} (h : y ∈ rd u) : y ∈ u := by
  rcases mem_run u (List.mem_reverse.mp h) with k | k
  · cases k
  · exact k
theorem mem_bk {u : Wk} {y : Int} (h : y ∈ bk u) : -y ∈ u := by
  unfold bk at h
  obtain ⟨x, hx, e⟩ := List.mem_map.mp (List.mem_reverse.mp h)
  rw [← e, Int.neg_neg]
  exact hx
theorem mem_rep : ∀ {k : Nat} {u : Wk} {y : Int}, y ∈ rep k u → y ∈ u
  | 0, _, _, h => by cases h
  | k + 1, _, _, h => by
    rcases List.mem_append.mp h with h | h
    · exact mem_rep h
    · exact h
theorem rep_nil : ∀ k : Nat, rep k [] = []
  | 0 => rfl
  | k + 1 => by
    show rep k [] ++ [] = []
    rw [rep_nil k]
    rfl
theorem rep_one (u : Wk) : rep 1 u = u := by
  show [] ++ u = u
  rfl
theorem rd_nil : rd [] = [] := rfl
theorem rd_app_bk (u : Wk) : rd (u ++ bk u) = [] := rd_eq (eqv_bk u)
theorem rd_bk_app (u : Wk) : rd (bk u ++ u) = [] := rd_eq (eqv_kb u)
end Fg
/-! what the words of several laws say -/
namespace L2
open PySem PySem.Spec PyProof.Rows Evl
/-- steps of so many letters -/
def Stp (l : Int) (ns : List Int) : Prop := ∀ x ∈ ns, x ≠ 0 ∧ -l ≤ x ∧ x ≤ l
theorem bk_rev (ns : List Int) : Fg.bk ns = ns.reverse.map fun x => -x := by unfold Fg.bk; rw [List.map_reverse]
theorem bk_get {ns : List Int} {k : Nat} {x y : V} (hx : ((ns.map V.int).reverse)[k]? = some x) (hy : ((Fg.bk ns).map V.int)[k]? = some y) : ∃ z, x = .int z ∧ y = .int (-z) := by
  rw [← List.map_reverse, List.getElem?_map] at hx
  rw [List.getElem?_map, bk_rev, List.getElem?_map] at hy
  cases hn : ns.reverse[k]? with
  | none => rw [hn] at hx; cases hx
  | some z =>
    rw [hn] at hx hy
    cases hx
    cases hy
    exact ⟨z, rfl, rfl⟩
/-- the walk so many times, back for a number below 0 -/
def pw (ns : List Int) (k : Int) : List Int := Fg.rd (Fg.rep k.natAbs (if 0 ≤ k then ns else Fg.bk ns))
theorem abs_if (k : Int) : (if k < 0 then -k else k) = ((k.natAbs : Nat) : Int) := by
  split <;> omega
theorem stp_of_mem {l : Int} {ns ms : List Int} (h : Stp l ns) (k : ∀ x ∈ ms, x ∈ ns) : Stp l ms := fun x hx => h x (k x hx)
theorem given_ints (m : Nat) (f : Nat → Bool) : given m f (fun i => V.int (0 + (i : Int))) = (((List.range m).filter f).map fun i => ((i : Nat) : Int)).map V.int := by
  unfold given
  rw [List.map_map]
  congr 1
  funext i
  show V.int (0 + (i : Int)) = V.int (i : Int)
  rw [Int.zero_add]
theorem pw_rd (ns : List Int) (k : Int) : pw (Fg.rd ns) k = pw ns k := by
  unfold pw
  split
  · exact Fg.rd_rep_rd ns _
  · rw [← Fg.rd_bk]
    exact Fg.rd_rep_rd _ _
theorem pw_zero (ns : List Int) : pw ns 0 = [] := rfl
theorem pw_one (ns : List Int) : pw ns 1 = Fg.rd ns := by
  show Fg.rd (Fg.rep 1 ns) = Fg.rd ns
  rw [Fg.rep_one]
theorem pw_nil (k : Int) : pw [] k = [] := by
  unfold pw
  have e : (if 0 ≤ k then ([] : List Int) else Fg.bk []) = [] := by split <;> rfl
  rw [e, Fg.rep_nil]
  rfl
theorem stp_rd {ns : List Int} (h : Stp 4 ns) : Stp 4 (Fg.rd ns) := fun x hx => h x (Fg.mem_rd hx)
theorem stp_bk {ns : List Int} (h : Stp 4 ns) : Stp 4 (Fg.bk ns) := fun x hx => by
  have := h _ (Fg.mem_bk hx)
  omega
theorem stp_pw {ns : List Int} {k : Int} (h : Stp 4 ns) : Stp 4 (pw ns k) := by
  unfold pw
  refine stp_rd fun x hx => ?_
  have := Fg.mem_rep hx
  split at this
  · exact h x this
  · exact stp_bk h x this
theorem str_pw (ns : List Int) (k : Int) : Fg.Str (pw ns k) := Fg.str_rd _
theorem pw_len {ns : List Int} {k : Int} (h : ns.length ≤ 60) (hlo : -20 ≤ k) (hhi : k ≤ 20) : (pw ns k).length ≤ 1200 := by
  unfold pw
  refine Nat.le_trans (Fg.rd_len _) ?_
  rw [Fg.rep_len]
  have e : (if 0 ≤ k then ns else Fg.bk ns).length ≤ 60 := by
    split
    · exact h
    · rw [Fg.bk_len]
      exact h
  exact Nat.le_trans (Nat.mul_le_mul (by omega : k.natAbs ≤ 20) e) (by decide)
theorem rd60 {ns : List Int} (h : ns.length ≤ 60) : (Fg.rd ns).length ≤ 60 := Nat.le_trans (Fg.rd_len ns) h
theorem stp_nil : Stp 4 [] := fun x hx => by cases hx
theorem stp_le {l : Int} {ns : List Int} (h : Stp l ns) (e : l ≤ 4) : Stp 4 ns := fun x hx => by
  have := h x hx
  omega
end L2
/-! leads, cores, roots -/
namespace Fg
theorem tw_len {p : Nat → Bool} : ∀ (m s : Nat), s ≤ m → (∀ j, j < s → p j = true) → (s < m → p s = false) → ((List.range m).takeWhile p).length = s := by
  intro m s hs h1 h2
  have e : List.range m = List.range s ++ (List.range (m - s)).map (s + ·) := by
    have k : m = s + (m - s) := by omega
    conv => lhs; rw [k]
    rw [List.range_add]
  rw [e, List.takeWhile_append_of_pos (fun a ha => h1 a (List.mem_range.mp ha)), List.length_append, List.length_range]
  by_cases h : s < m
  · have k : m - s = (m - s - 1) + 1 := by omega
    rw [k, List.range_succ_eq_map, List.map_cons, List.takeWhile_cons_of_neg (by rw [Nat.add_zero, h2 h]; exact Bool.false_ne_true)]
    rfl
  · have k : m - s = 0 := by omega
    rw [k]
    rfl
def mt (u : Wk) (j : Nat) : Bool := decide (u.getD j 0 = -(u.getD (u.length - 1 - j) 0))
/-- how many steps the lead has -/
def ld (u : Wk) : Nat := ((List.range (u.length / 2)).takeWhile (mt u)).length
theorem ld_eq {u : Wk} {s : Nat} (h : s ≤ u.length / 2) (h1 : ∀ j, j < s → mt u j = true) (h2 : s < u.length / 2 → mt u s = false) : ld u = s := tw_len _ s h h1 h2
theorem ld_le (u : Wk) : ld u ≤ u.length / 2 := by
  unfold ld
  have h := (List.takeWhile_sublist (mt u) (l := List.range (u.length / 2))).length_le
  rw [List.length_range] at h
  exact h
theorem ld_mt {u : Wk} {j : Nat} (h : j < ld u) : mt u j = true := by
  have hl := ld_le u
  have hs := List.takeWhile_prefix (mt u) (l := List.range (u.length / 2))
  have hm : ((List.range (u.length / 2)).takeWhile (mt u))[j]'h ∈ (List.range (u.length / 2)).takeWhile (mt u) := List.getElem_mem h
  have e : ((List.range (u.length / 2)).takeWhile (mt u))[j]'h = j := by
    rw [hs.getElem h, List.getElem_range]
  have hall := List.all_takeWhile (p := mt u) (l := List.range (u.length / 2))
  rw [List.all_eq_true] at hall
  have k := hall _ hm
  rw [e] at k
  exact k
theorem mt_of {u : Wk} {j : Nat} {x y : Int} (hx : u[j]? = some x) (hy : u[u.length - 1 - j]? = some y) : mt u j = decide (x = -y) := by
  unfold mt
  rw [List.getD_eq_getElem?_getD, List.getD_eq_getElem?_getD, hx, hy]
  rfl
/-- beyond the lead nothing fits -/
theorem ld_end {u : Wk} (h : ld u < u.length / 2) : mt u (ld u) = false := by
  cases e : mt u (ld u) with
  | false => rfl
  | true =>
    exfalso
    -- then the lead would be longer
    have hmono : ∀ j, j < ld u + 1 → mt u j = true := fun j hj => by
      rcases Nat.lt_or_ge j (ld u) with k | k
      · exact ld_mt k
      · have : j = ld u := by omega
        rw [this]
        exact e
    -- the first s that does not fit, or the half
    have : ∃ s, ld u + 1 ≤ s ∧ s ≤ u.length / 2 ∧ (∀ j, j < s → mt u j = true) ∧ (s < u.length / 2 → mt u s = false) := by
      have go : ∀ (d s : Nat), u.length / 2 - s = d → ld u + 1 ≤ s → s ≤ u.length / 2 → (∀ j, j < s → mt u j = true) → ∃ s, ld u + 1 ≤ s ∧ s ≤ u.length / 2 ∧ (∀ j, j < s → mt u j = true) ∧ (s < u.length / 2 → mt u s = false) := by
        intro d
        induction d with
        | zero => exact fun s hd h1 h2 h3 => ⟨s, h1, h2, h3, fun z => absurd z (by omega)⟩
        | succ d ih =>
          intro s hd h1 h2 h3
          cases k : mt u s with
          | false => exact ⟨s, h1, h2, h3, fun _ => k⟩
          | true =>
            refine ih (s + 1) (by omega) (by omega) (by omega) fun j hj => ?_
            rcases Nat.lt_or_ge j s with z | z
            · exact h3 j z
            · have : j = s := by omega
              rw [this]
              exact k
      exact go _ (ld u + 1) rfl (Nat.le_refl _) h hmono
    obtain ⟨s, s1, s2, s3, s4⟩ := this
    have := ld_eq s2 s3 s4
    omega
theorem ld_str {u : Wk} (h : Str u) (hn : u ≠ []) : ld u ≤ (u.length - 1) / 2 := by
  have hl := ld_le u
  have hp : 0 < u.length := List.length_pos_iff.mpr hn
  refine Nat.le_of_not_lt fun z => ?_
  -- then it is the half of an even number
  have e1 : ld u = u.length / 2 := by omega
  have e2 : u.length = 2 * (u.length / 2) := by omega
  have hj : u.length / 2 - 1 < ld u := by omega
  have k := ld_mt hj
  have l1 : u.length / 2 - 1 < u.length := by omega
  have l2 : u.length - 1 - (u.length / 2 - 1) < u.length := by omega
  rw [mt_of (List.getElem?_eq_getElem l1) (List.getElem?_eq_getElem l2)] at k
  have k2 := of_decide_eq_true k
  refine h (u.length / 2 - 1) _ (List.getElem?_eq_getElem l1) ?_
  have e3 : u.length / 2 - 1 + 1 = u.length - 1 - (u.length / 2 - 1) := by omega
  rw [e3, List.getElem?_eq_getElem l2, k2, Int.neg_neg]
def lead (u : Wk) : Wk := u.take (ld u)
def mid (u : Wk) : Wk := (u.drop (ld u)).take (u.length - ld u - ld u)
/-- so many steps ahead are those at the end turned back -/
theorem take_bk {u : Wk} {s : Nat} (hs : s ≤ u.length) : u.take s = bk (u.drop (u.length - s)) ↔ ∀ j, j < s → mt u j = true := by
  have len1 : (u.take s).length = s := by rw [List.length_take]; omega
  have len2 : (bk (u.drop (u.length - s))).length = s := by rw [bk_len, List.length_drop]; omega
  have at2 : ∀ j, j < s → (bk (u.drop (u.length - s)))[j]? = (u[u.length - 1 - j]?).map fun x => -x := fun j hj => by
    unfold bk
    rw [List.getElem?_reverse (by rw [List.length_map, List.length_drop]; omega), List.getElem?_map, List.length_map, List.length_drop, List.getElem?_drop]
    congr 2
    omega
  constructor
  · intro e j hj
    have l1 : j < u.length := by omega
    have l2 : u.length - 1 - j < u.length := by omega
    rw [mt_of (List.getElem?_eq_getElem l1) (List.getElem?_eq_getElem l2)]
    have k : (u.take s)[j]? = (bk (u.drop (u.length - s)))[j]? := by rw [e]
    rw [at2 j hj, List.getElem?_take, if_pos hj, List.getElem?_eq_getElem l1, List.getElem?_eq_getElem l2] at k
    exact decide_eq_true (Option.some.inj k)
  · intro h
    apply List.ext_getElem?
    intro j
    by_cases hj : j < s
    · have l1 : j < u.length := by omega
      have l2 : u.length - 1 - j < u.length := by omega
      have k := h j hj
      rw [mt_of (List.getElem?_eq_getElem l1) (List.getElem?_eq_getElem l2)] at k
      rw [at2 j hj, List.getElem?_take, if_pos hj, List.getElem?_eq_getElem l1, List.getElem?_eq_getElem l2, of_decide_eq_true k]
      rfl
    · rw [List.getElem?_eq_none (by omega), List.getElem?_eq_none (by omega)]
theorem take_bk_ld {u : Wk} {s : Nat} (hs : s ≤ u.length / 2) : (u.take s = bk (u.drop (u.length - s))) ↔ s ≤ ld u := by
  rw [take_bk (by omega)]
  constructor
  · intro h
    refine Nat.le_of_not_lt fun z => ?_
    have := ld_end (u := u) (by omega)
    rw [h (ld u) z] at this
    cases this
  · exact fun h j hj => ld_mt (by omega)
/-! ### once round -/
def Per (u : Wk) (l : Nat) : Prop := rep (u.length / l) (u.take l) = u
instance (u : Wk) (l : Nat) : Decidable (Per u l) := inferInstanceAs (Decidable (_ = _))
structure Om (u : Wk) (l : Nat) : Prop where
  pos : 1 ≤ l
  le : l ≤ u.length
  per : Per u l
  least : ∀ k, 1 ≤ k → k < l → ¬ Per u k
theorem per_full (u : Wk) (h : u ≠ []) : Per u u.length := by
  unfold Per
  rw [Nat.div_self (List.length_pos_iff.mpr h), List.take_length, rep_one]
theorem per_len {u : Wk} {l : Nat} (h : Per u l) (hl : l ≤ u.length) : u.length / l * l = u.length := by
  have e := congrArg List.length h
  rw [rep_len, List.length_take, Nat.min_eq_left hl] at e
  exact e
/-- so many times the part -/
def Tm (u : Wk) (t : Nat) : Prop := rep t (u.take (u.length / t)) = u
theorem tm_one (u : Wk) : Tm u 1 := by
  unfold Tm
  rw [Nat.div_one, List.take_length, rep_one]
theorem om_tm {u : Wk} {l : Nat} (h : Om u l) : Tm u (u.length / l) ∧ u.length / (u.length / l) = l ∧ 1 ≤ u.length / l ∧ u.length / l ≤ u.length := by
  have e := per_len h.per h.le
  have hp := h.pos
  have h1 : 1 ≤ u.length / l := Nat.div_pos h.le hp
  have e2 : u.length / (u.length / l) = l := by
    apply Nat.div_eq_of_eq_mul_right h1
    exact e.symm
  refine ⟨?_, e2, h1, Nat.div_le_self _ _⟩
  unfold Tm
  rw [e2]
  exact h.per
theorem tm_le {u : Wk} {l t : Nat} (h : Om u l) (ht : Tm u t) (h1 : 1 ≤ t) (h2 : t ≤ u.length) : t ≤ u.length / l := by
  have e : t * (u.length / t) = u.length := by
    have k := congrArg List.length ht
    rw [rep_len, List.length_take, Nat.min_eq_left (Nat.div_le_self _ _)] at k
    exact k
  have hl : 1 ≤ u.length / t := Nat.div_pos h2 h1
  have ht2 : u.length / (u.length / t) = t := by
    apply Nat.div_eq_of_eq_mul_right hl
    rw [Nat.mul_comm]
    exact e.symm
  have hp : Per u (u.length / t) := by
    unfold Per
    rw [ht2]
    exact ht
  have hge : l ≤ u.length / t := Nat.le_of_not_lt fun z => h.least _ hl z hp
  have hp2 := h.pos
  rw [← ht2]
  exact Nat.div_le_div_left hge hp2
end Fg
namespace L2
open PySem PySem.Spec PyProof.Rows Evl
section
variable {K : PySem.W.Frag} {σ : L2.St} {H H' : Hp} {Q : VK} {D : Ends} {te : TE} {a : Addr} {xs : List V}
def rAug (i : Nat) (x : V) (ti : TIp) (D : Ends) (σ : L2.St) (y : V) (H1 : Hp) : Prop := ti x y H1 fun z H2 => D.nx (σ.set i (some z)) H2
theorem st_aug {i : Nat} {x : V} {ti : TIp} (hx : σ[i]? = some (some x)) (h : te σ H fun y H1 => rAug i x ti D σ y H1) : tAug i te ti D σ H := ⟨x, hx, h⟩
theorem r_augI {i : Nat} {x y : Int} {f : Int → Int → Int} (h : D.nx (σ.set i (some (.int (f x y)))) H) : rAug i (.int x) (ipI f) D σ (.int y) H := ⟨x, y, rfl, rfl, h⟩
/-- a, b = t -/
theorem r_tup2 {i j : Nat} {x y : V} {R : L2.St → Hp → Prop} (h : SqT K H a [x, y]) (q : R ((σ.set i (some x)).set j (some y)) H) : gTup K 2 (gCons (gName i) (gCons (gName j) gNil)) (.ref a) σ H R := ⟨a, _, rfl, h, rfl, x, [y], rfl, y, [], rfl, rfl, q⟩
theorem at_negI {ns : List Int} {k : Nat} {x : Int} (hk : k < ns.length) (hx : ns[ns.length - 1 - k]? = some x) : atI (ns.map V.int) (-1 - (k : Int)) = some (.int x) := by
  have e : ixN (ns.map V.int).length (-1 - (k : Int)) = some (ns.length - 1 - k) := by
    unfold ixN
    rw [List.length_map, if_neg (by omega), if_pos (by omega)]
    congr 1
    omega
  unfold atI
  rw [e]
  show (ns.map V.int)[ns.length - 1 - k]? = _
  rw [List.getElem?_map, hx]
  rfl
theorem cut_mid {ns : List Int} {lo hi : Int} (h0 : 0 ≤ lo) (h1 : 0 ≤ hi) (h2 : hi ≤ ns.length) : cutV (ns.map V.int) (some lo) (some hi) = ((ns.drop lo.toNat).take (hi.toNat - lo.toNat)).map V.int := by
  rw [cut_map, sIx_int h0, sIx_int h1]
  congr 1
  rw [Nat.min_eq_left (by omega : hi.toNat ≤ ns.length)]
  by_cases h : lo.toNat ≤ ns.length
  · rw [Nat.min_eq_left h]
  · rw [Nat.min_eq_right (by omega), List.drop_of_length_le (Nat.le_refl _), List.drop_of_length_le (by omega)]
    simp
theorem r_eqB {x y : Bool} (q : Q (.bl (decide (x = y))) H) : rEqU K (.bl x) (.bl y) H Q := .inl ⟨rfl, by
  have e : decide ((V.bl x) = V.bl y) = decide (x = y) := by simp
  rw [e]
  exact q⟩
/-- a tuple of two walks -/
structure P2 (K : PySem.W.Frag) (H : Hp) (q : Addr) (u v : List Int) : Prop where
  ex : ∃ a b, SqT K H q [.ref a, .ref b] ∧ IT K H a u ∧ IT K H b v
theorem P2.mono {q : Addr} {u v : List Int} (h : P2 K H q u v) (e : Ex H H') : P2 K H' q u v := by
  obtain ⟨a, b, h1, h2, h3⟩ := h.ex
  exact ⟨a, b, ex_t e h1, ex_t e h2, ex_t e h3⟩
/-- a tuple of a walk and a number -/
structure P1N (K : PySem.W.Frag) (H : Hp) (q : Addr) (u : List Int) (t : Int) : Prop where
  ex : ∃ a, SqT K H q [.ref a, .int t] ∧ IT K H a u
theorem P1N.mono {q : Addr} {u : List Int} {t : Int} (h : P1N K H q u t) (e : Ex H H') : P1N K H' q u t := by
  obtain ⟨a, h1, h2⟩ := h.ex
  exact ⟨a, ex_t e h1, ex_t e h2⟩
/-- the tuples stay -/
def TX (H H' : Hp) : Prop := ∀ a xs, H a = some (.tup xs) ∨ (∃ o, H a = some (.frz o (.tup xs))) → H' a = H a
theorem TX.refl (H : Hp) : TX H H := fun _ _ _ => rfl
theorem TX.trans {H H1 H2 : Hp} (a : TX H H1) (b : TX H1 H2) : TX H H2 := fun x xs h => by
  have e := a x xs h
  rw [← e] at h
  rw [b x xs h, e]
theorem TX.of (e : Ex H H') : TX H H' := fun a xs h => by
  rcases h with h | ⟨o, h⟩
  · rw [h, e _ _ h]
  · rw [h, e _ _ h]
theorem TX.w {w : Addr} {n : Nat} (e : ExW w H H') (k : Well H w n) : TX H H' := fun a xs h => by
  obtain ⟨_, _, _, h1, _⟩ := k.ex
  rcases h with h | ⟨o, h⟩
  · rw [h, e _ _ h (ne_of h h1 (by intro z; cases z))]
  · rw [h, e _ _ h (ne_of h h1 (by intro z; cases z))]
theorem tx_t (e : TX H H') (h : SqT K H a xs) : SqT K H' a xs := by
  rcases h with (h | ⟨o, h⟩) | h
  · exact .inl (.inl (by rw [e _ _ (.inl h)]; exact h))
  · exact .inl (.inr ⟨o, by rw [e _ _ (.inr ⟨o, h⟩)]; exact h⟩)
  · exact .inr h
theorem DrS.tx {w : Addr} {n k : Nat} (h : DrS w H n H') (h0 : Well H w k) : TX H H' := .w h.ex h0
end
theorem str_one (x : Int) : Fg.Str [x] := Fg.str_snoc (u := []) Fg.str_nil (by simp)
theorem om_unique {u : List Int} {l k : Nat} (h1 : Fg.Om u l) (h2 : Fg.Om u k) : l = k := by
  rcases Nat.lt_trichotomy l k with h | h | h
  · exact absurd h1.per (h2.least l h1.pos h)
  · exact h
  · exact absurd h2.per (h1.least k h2.pos h)
/-- what the root of a straight walk is -/
def RootIs (ns u : List Int) (t : Int) : Prop := (Fg.mid ns = [] ∧ u = [] ∧ t = 0) ∨ (Fg.mid ns ≠ [] ∧ ∃ l, Fg.Om (Fg.mid ns) l ∧ u = Fg.lead ns ++ (Fg.mid ns).take l ++ Fg.bk (Fg.lead ns) ∧ t = (((Fg.mid ns).length / l : Nat) : Int))
theorem rootIs_unique {ns u v : List Int} {t s : Int} (h1 : RootIs ns u t) (h2 : RootIs ns v s) : u = v ∧ t = s := by
  rcases h1 with ⟨e1, rfl, rfl⟩ | ⟨n1, l, o1, rfl, rfl⟩
  · rcases h2 with ⟨_, rfl, rfl⟩ | ⟨n2, _⟩
    · exact ⟨rfl, rfl⟩
    · exact absurd e1 n2
  · rcases h2 with ⟨e2, _⟩ | ⟨n2, k, o2, rfl, rfl⟩
    · exact absurd e2 n1
    · have := om_unique o1 o2
      subst this
      exact ⟨rfl, rfl⟩
theorem lead_len (ns : List Int) : (Fg.lead ns).length ≤ ns.length := by
  unfold Fg.lead
  rw [List.length_take]
  exact Nat.min_le_right _ _
theorem mid_len (ns : List Int) : (Fg.mid ns).length ≤ ns.length := by
  unfold Fg.mid
  rw [List.length_take, List.length_drop]
  omega
theorem root_len {ns u : List Int} {t : Int} (h : RootIs ns u t) : u.length ≤ 3 * ns.length := by
  rcases h with ⟨_, rfl, _⟩ | ⟨_, l, _, rfl, _⟩
  · exact Nat.zero_le _
  · have h1 := lead_len ns
    have h2 := mid_len ns
    rw [List.length_append, List.length_append, Fg.bk_len, List.length_take]
    omega
end L2
/-! promises of defs that are entered where no text of an object is being written: repr of data can be told there -/
namespace L2
open PySem PySem.Spec PyProof.Rows
/-- no object's text is under way -/
def Quiet (A : Around) : Prop := A.guards = some []
structure FnG (P : Program) (w : World) (K : PySem.W.Frag) (mg : Str → Option Value) (base : Heap) (CX : CXT) (k : Nat) (f : Addr) (fd : FuncData) (ps : List Str) (sp : Sp) : Prop where
  len : ∀ xs H Q E, sp xs H Q E → xs.length = ps.length
  run : ∀ (A : Around), Quiet A → Room k A → ∀ (outer : List Env) (s : Shared) (H : Hp), Env0 P w K mg base A outer s H →
    ∀ (args : Args) (us : List Value) (xs : List V), BindsTo s fd args (ps.zip us) → Vals xs us → ∀ (Q : VK) (E : XK), sp xs H Q E →
    codeAny (model P w) A (.call (.ref f) args) (CR CX outer P w H s Q E) s
section
variable {P : Program} {w : World} {K : PySem.W.Frag} {mg : Str → Option Value} {base : Heap} {CX : CXT} {k : Nat} {f : Addr} {fd : FuncData} {ps : List Str} {sp : Sp}
theorem FnOk.quiet (F : FnOk P w K mg base CX k f fd ps sp) : FnG P w K mg base CX k f fd ps sp :=
  ⟨F.len, fun A _ hr outer s H e0 args us xs hb hv Q E h => F.run A outer s H args us xs Q E hr e0 hb hv h⟩
theorem FnG.room {j : Nat} (F : FnG P w K mg base CX j f fd ps sp) (h : j ≤ k) : FnG P w K mg base CX k f fd ps sp :=
  ⟨F.len, fun A g hr => F.run A g (hr.mono h)⟩
/-- a def of the text, by its body; nothing is being written where it is entered, so nothing is within -/
theorem fnG_of {name qual : Str} {params : Arguments} {body : List Stmt} {scope : Scope} {dV kV doc pm cdv ct oc : Value} {an od : Option Addr} {osl : Array (Option Value)} {N : List Str}
    (lk : K.lookup f = some ⟨oc, od, .func (PySem.W.fnOf name qual params body scope dV kV doc pm an cdv ct), osl⟩)
    (code : PySem.W.codeIn K cdv qual = true) (S : FnScope N ps scope) (len : ∀ xs H Q E, sp xs H Q E → xs.length = ps.length)
    (inner : ∀ (A : Around), Quiet (A.deeper (envOfC qual scope 0 f cdv)) → ∀ (outer : List Env) (s : Shared) (H : Hp) (xs : List V) (Q : VK) (E : XK),
      Room k (A.deeper (envOfC qual scope s.heap.objs.size f cdv)) → sp xs H Q E →
      ∃ t, PSs (cxOf CX P w K mg base N qual scope f cdv A outer s H E) body t ∧ t { nx := fun _ H' => Q .non H', rt := Q } (start N xs) H) :
    FnG P w K mg base CX (k + 1) f (PySem.W.fnOf name qual params body scope dV kV doc pm an cdv ct) ps sp := by
  refine ⟨len, fun A g hr outer s H e0 args us xs hb hv Q E hsp => ?_⟩
  have inK : K.In s.heap := e0.mod.kin.keeps fun c oc e => (e0.bs c oc e).1
  have nolim : s.heap.NoLimit := e0.mod.nolimit.keeps fun c oc e => (e0.bs c oc e).1
  refine codeAny_call_function hr.depth (inK _ _ lk) rfl S.co S.gen rfl (PySem.W.codeRec_of inK code) (hb _ _ _ _ ?_)
  refine wpAny_newFunctionEnv_cells S.kind ?kinds fun env he s1 x => ?_
  case kinds =>
    intro y hy
    cases S.par y.1 (List.of_mem_zip (show (y.1, y.2) ∈ ps.zip us from hy)).1 with
    | inl q => exact Or.inl q
    | inr q => exact Or.inr ⟨q, PySem.W.cellsFrom_some _ _ _ (Or.inl q)⟩
  cases he
  refine ⟨nolim.keeps x.toInCall.keep, codeAny_func ?_⟩
  have hd := inner A g outer s H xs Q E (hr.deeper _) hsp
  have I : Inv (cxOf CX P w K mg base N qual scope f cdv A outer s H E) [] (start N xs) H s1 :=
    inv_start S hr.hd e0 (len _ _ _ _ hsp) hv x
  have over : ∀ σ' H' v u s', Inv (cxOf CX P w K mg base N qual scope f cdv A outer s H E) [] σ' H' s' → RelV v u → Q v H' → CE outer P w H s Q u s' :=
    fun σ' H' v u s' J rv q => ⟨v, H', J.os, J.bare, J.base, J.hok, rv, q⟩
  obtain ⟨t, ht, hq⟩ := hd
  refine wpAny_mono (ht.run [] s1 (start N xs) H _ I hq) (fun fl s' hs => ?_) fun _ _ hs => hs
  match fl, hs with
  | .ret u, ⟨v, σ', H', J, rv, q⟩ => exact over σ' H' v u s' J rv q
  | .next, ⟨σ', H', J, q⟩ => exact over σ' H' .non .none s' J rfl q
  | .brk, ⟨_, _, _, q⟩ => exact False.elim q
  | .cont, ⟨_, _, _, q⟩ => exact False.elim q
end
section
variable {P : Program} {w : World} {K : PySem.W.Frag} {mg : Str → Option Value} {base : Heap}
theorem Fun.okG {x qual : Str} {st : Stmt} {f : Addr} {fd : FuncData} {N ps : List Str} {k : Nat} {sp : Sp} (F : Fun K x qual st f fd) (S : FnScope N ps (defScope st))
    (len : ∀ xs H Q E, sp xs H Q E → xs.length = ps.length)
    (inner : ∀ (cdv : Value) (A : Around) (outer : List Env) (s : Shared) (H : Hp) (xs : List V) (Q : VK) (E : XK),
      Quiet A → Room k (A.deeper (envOfC qual (defScope st) s.heap.objs.size f cdv)) → sp xs H Q E →
      ∃ t, PSs (cxOf CX0 P w K mg base N qual (defScope st) f cdv A outer s H E).nox (defBody st) t ∧ t { nx := fun _ H' => Q .non H', rt := Q } (start N xs) H) :
    FnG P w K mg base CX0 (k + 1) f fd ps sp := by
  obtain ⟨oc, od, kV, doc, pm, an, cdv, ct, osl, e, lk, code⟩ := F.ex
  subst e
  refine fnG_of lk code S len fun A g outer s H xs Q E hr hsp => ?_
  obtain ⟨t, body, q⟩ := inner cdv A outer s H xs Q E g hr hsp
  exact ⟨t, body.nox, q⟩
end
section
variable {X : Cx} {CX : CXT} {k : Nat} {f : Addr} {fd : FuncData} {ps : List Str} {sp : Sp} {dvs : List V} {ds : List Value} {E : XK} {x : Str} {p pos : Pos} {e : Expr} {es : List Expr} {t : TA}
/-- f(..) of such a def, from where nothing is being written -/
theorem pe_callG (F : FnG X.prog X.w X.K X.mg X.base CX k f fd ps sp) (g : Quiet X.A) (hr : Room k X.A) (hg : Gl X x) (hm : X.mg x = some (.ref f))
    (hk : PySem.W.keepIn X.K (.ref f) = true) (hb : Binds X.K fd ps ds) (hd : Vals dvs ds) (hx : Passes CX X E) (ha : PA X (e :: es) t)
    (hdb : (x == ("__debug__" : Str)) = false := by decide) (he : starEach (e :: es) X.env = (false, eval e X.env) :: starEach es X.env := by rfl)
    (hpl : (backTo pos (starEach es X.env)).any (·.1) = false := by rfl) :
    PE X (.Call (.Name x p) (e :: es) [] pos) (tCall sp dvs E t) := by
  constructor
  intro pins s σ H Q I h
  refine wpAny_Call_Name_kw (ld_glob I hg hm ?_ hdb)
  refine PySem.W.callWith_K (h₀ := X.base) I.ok.mod.kin hk (thn (ha.run pos pins s σ H _ I h) fun us s1 got => ?_) he hpl
  obtain ⟨xs, H1, J, r, q⟩ := got
  have r2 : Vals (xs ++ dvs) (us ++ ds) := r.append hd
  have hl : (us ++ ds).length = ps.length := r2.length.symm.trans (F.len _ _ _ _ q)
  refine ⟨J.kIn, wpAny_call (codeAny_mono (F.run X.A g hr X.stack s1 H1 J.env0 ⟨us, []⟩ (us ++ ds) (xs ++ dvs) (hb s1 us J.kIn hl) r2 Q E q) fun res s' hq => ?_)⟩
  match res, hq with
  | .error v, hq => exact hx pins σ H1 s1 v s' J hq
  | .ok (.ret u), hq => exact J.after hq
  | .ok .next, hq => exact False.elim hq
  | .ok .brk, hq => exact False.elim hq
  | .ok .cont, hq => exact False.elim hq
end
/-! ### the end -/
section
variable {P : Program} {w : World} {K : PySem.W.Frag} {mg mb : Str → Option Value} {CX : CXT} {k : Nat} {fa a : Addr} {fd : FuncData} {x : Str} {sp : Sp} {s₁ : Shared} {us : List Value} {ns : List Int}
/-- from a heap in which nothing but the script is tracked -/
theorem quiet_call (KX : K.In s₁.heap) (hns : s₁.heap.Ns mainGlobals mg) (hb : s₁.heap.Ns builtinsNs mb) (hbb : ∀ y : Str, y ≠ "__name__" → mb y = bootBuiltins y)
    (hlim : s₁.heap.NoLimit) (hg : s₁.gens = #[]) (hr : Room k callerA) (F : ∀ base : Heap, K.In base → base.Ns mainGlobals mg → FnG P w K mg base CX k fa fd [x] sp)
    (hbind : ∀ (s : Shared) (u : Value), BindsTo s fd ⟨[u], []⟩ [(x, u)]) (hCX : ∀ H e s', CX [] H s₁ (fun _ _ _ => False) e s' → False)
    (H : Hp) (hO : Only H) (hS : sp [.ref a] H (fun v _ => v = .bl true) fun _ _ _ => False) (hok : HOk P w H s₁.heap)
    (noA : ∀ c (o : Obj) es ep, s₁.heap.get? c = some o → o.data = .dict es ep → H c = none) (noK : ∀ c o, K.lookup c = some o → H c = none) :
    codeAny (model P w) callerA (.call (.ref fa) ⟨[.ref a], []⟩) (fun r s' => r = .ok (.ret (.bool true)) ∧ OldK s₁.heap s'.heap ∧ s'.os = s₁.os ∧ AllBare s'.gens) s₁ := by
  have shown : ∀ {c : Addr} {m : Str → Option Value}, s₁.heap.Ns c m → (hidT s₁.heap H).Ns c m := by
    rintro c m ⟨o, es, ep, e, d, r⟩
    exact ⟨o, es, ep, hidT_get e (noA c o es ep e d), d, r⟩
  have inK : K.In (hidT s₁.heap H) := fun c o e => hidT_get (KX c o e) (noK c o e)
  have lim : (hidT s₁.heap H).NoLimit := by
    obtain ⟨mc, q1, q2⟩ := hlim
    exact ⟨mc, shown q1, q2⟩
  have e0 : Env0 P w K mg (hidT s₁.heap H) callerA [] s₁ H :=
    { frames := rfl, mod := ⟨inK, shown hns, ⟨mb, shown hb, hbb⟩, lim⟩, bs := fun c o e => of_hidT e, bsz := Nat.le_of_eq (hidT_size _ _), funs := trivial,
      frf := fun c hc => (nomatch (show c ∈ ([] : List Addr) from hc)), hok := hok, bare := .of_eq hg }
  have go := (F _ inK (shown hns)).run callerA rfl hr [] s₁ H e0 ⟨[.ref a], []⟩ [.ref a] [.ref a] (hbind s₁ (.ref a)) (.cons rfl .nil) _ _ hS
  refine codeAny_mono go fun res s' h => ?_
  match res, h with
  | .error e, h => exact (hCX H e s' h).elim
  | .ok .next, h => exact False.elim h
  | .ok .brk, h => exact False.elim h
  | .ok .cont, h => exact False.elim h
  | .ok (.ret u), ⟨v, H', os, bare, un, hok', r', q⟩ =>
    cases (show v = .bl true from q)
    cases (show u = Value.bool true from r')
    refine ⟨rfl, OldK.of_keep fun c o e => ?_, os, bare⟩
    match q : H c with
    | none => exact un.keep c o e q (fun z => nomatch (show c ∈ ([] : List Addr) from z)) (by simp)
    | some u =>
      rcases hO c with z | ⟨ob, ys, z⟩
      · exact nomatch q.symm.trans z
      · obtain ⟨e2, _⟩ := hok' c _ (un.frzs c ob _ z)
        obtain ⟨e1, _⟩ := hok c _ z
        cases e.symm.trans e1
        exact e2
theorem law_quiet (KX : K.In s₁.heap) (hns : s₁.heap.Ns mainGlobals mg) (hb : s₁.heap.Ns builtinsNs mb) (hbb : ∀ y : Str, y ≠ "__name__" → mb y = bootBuiltins y)
    (hlim : s₁.heap.NoLimit) (hg : s₁.gens = #[]) (ha : s₁.heap.get? a = some { cls := .type "list", data := .seq us.toArray }) (hi : IntsAre us ns) (hl : ns.length ≤ sizeLine)
    (hr : Room k callerA) (F : ∀ base : Heap, K.In base → base.Ns mainGlobals mg → FnG P w K mg base CX k fa fd [x] sp)
    (hbind : ∀ (s : Shared) (u : Value), BindsTo s fd ⟨[u], []⟩ [(x, u)]) (hCX : ∀ H e s', CX [] H s₁ (fun _ _ _ => False) e s' → False)
    (hsp : ∀ H : Hp, Only H → SqL K H a (ns.map V.int) → sp [.ref a] H (fun v _ => v = .bl true) fun _ _ _ => False) :
    codeAny (model P w) callerA (.call (.ref fa) ⟨[.ref a], []⟩) (fun r s' => r = .ok (.ret (.bool true)) ∧ OldK s₁.heap s'.heap ∧ s'.os = s₁.os ∧ AllBare s'.gens) s₁ := by
  have rv := vals_ints hi
  have lz := hi.length
  have lz2 : (ns.map V.int).length ≤ sizeLine := by rw [List.length_map]; exact hl
  match hk : K.lookup a with
  | some o =>
    cases ha.symm.trans (KX a o hk)
    refine quiet_call KX hns hb hbb hlim hg hr F hbind hCX (fun _ => none) (fun _ => .inl rfl) (hsp _ (fun _ => .inl rfl) ?_) (fun c u z => nomatch z) (fun _ _ _ _ _ _ => rfl) fun _ _ _ => rfl
    exact .inr ⟨_, us.toArray, _, hk, rfl, rfl, rfl, by rw [List.size_toArray, lz]; exact hl, by simpa using rv⟩
  | none =>
    let o₁ : Obj := { cls := .type "list", data := .seq us.toArray }
    let H₁ : Hp := fun c => if c = a then some (.frz o₁ (.lst (ns.map V.int))) else none
    have at_a : H₁ a = some (.frz o₁ (.lst (ns.map V.int))) := if_pos rfl
    have off : ∀ c, c ≠ a → H₁ c = none := fun c h => if_neg h
    have only : Only H₁ := fun c => by
      by_cases h : c = a
      · cases h; exact .inr ⟨_, _, at_a⟩
      · exact .inl (off c h)
    refine quiet_call KX hns hb hbb hlim hg hr F hbind hCX H₁ only (hsp _ only (.inl (.inr ⟨o₁, at_a⟩))) (fun c u z => ?_) (fun c o es ep e d => ?_) fun c o e => ?_
    · by_cases h : c = a
      · cases h
        cases at_a.symm.trans z
        exact ⟨ha, lz2, us, _, rv, ha⟩
      · exact nomatch (off c h).symm.trans z
    · refine off c fun h => ?_
      cases h
      cases ha.symm.trans e
      exact nomatch (show Data.seq us.toArray _ = Data.dict es ep from d)
    · refine off c fun h => ?_
      cases h
      exact nomatch hk.symm.trans e
end
theorem walk_quiet {l : PySem.W.OpenLaw} {n k : Nat} {q : Program} {loose : List Str} {XP : (Str → Option Value) → Heap → Prop} {YP : World → Heap → Prop} {d : DefRec} {K : Params → PySem.W.Frag} {CX : World → CXT} {sp : World → Sp} {x : Str}
    (hn : l.most = some n) (hn2 : n ≤ sizeLine) (hdf : d.params.defaults = []) (hr : Room k callerA) (hY : ∀ (w : World) (h : Heap), YP w h → (K w.params).In h)
    (F : ∀ (w : World) (mg : Str → Option Value) (fa : Addr) (h : Heap), (K w.params).In h → h.Ns mainGlobals mg → mg d.name = some (.ref fa) → ∃ fd : FuncData,
      (∀ (s : Shared) (u : Value), BindsTo s fd ⟨[u], []⟩ [(x, u)]) ∧ ∀ base : Heap, (K w.params).In base → base.Ns mainGlobals mg → FnG l.prog w (K w.params) mg base (CX w) k fa fd [x] (sp w))
    (hsp : ∀ (w : World) (H : Hp) (a : Addr) (ns : List Int), ns.length ≤ n → Only H → SqL (K w.params) H a (ns.map V.int) → sp w [.ref a] H (fun v _ => v = .bl true) fun _ _ _ => False)
    (hCX : ∀ (w : World) (H : Hp) (s : Shared) (e : Value) (s' : Shared), CX w [] H s (fun _ _ _ => False) e s' → False) :
    PySem.W.WalkO q loose XP YP l.row.toRowW d [] (fun f vs => PySem.call f vs) := by
  refine Att.attach_call hn hdf fun w s₀ s₁ mg mb fa o pm cd doc a vs ns G Y ho hd hcd hmg hobj hints hlen hg => ?_
  have inK := hY w _ Y
  obtain ⟨fd, hb, hF⟩ := F w mg fa _ inK G.T.g hmg
  exact law_quiet inK G.T.g G.T.b G.T.builtins G.T.nolimit hg hobj hints (Nat.le_trans hlen hn2) hr hF hb (fun H e s' => hCX w H s₁ e s') fun H hO hS => hsp w H a ns hlen hO hS
/-! ### an expression cut off from what follows: both ways of a conditional expression come to one word -/
def tCutE (t : TE) : TE := fun σ H Q => ∃ M : VK, t σ H M ∧ ∀ x H1, M x H1 → Q x H1
theorem pe_cutE {X : Cx} {e : Expr} {t : TE} (h : PE X e t) : PE X e (tCutE t) := by
  constructor
  rintro pins s σ H Q I ⟨M, h1, h2⟩
  refine thn (h.run pins s σ H M I h1) fun v s1 got => ?_
  obtain ⟨x, H1, J, r, q⟩ := got
  exact ⟨x, H1, J, r, h2 x H1 q⟩
theorem st_cutE {t : TE} {σ : L2.St} {H : Hp} {Q : VK} (M : VK) (h : t σ H M) (k : ∀ x H1, M x H1 → Q x H1) : tCutE t σ H Q := ⟨M, h, k⟩
end L2
/-! what is walked in pairs and in threes: lists and tuples, mixed -/
namespace L2
open PySem PySem.Spec PyProof.Rows Evl
/-- a kind of sequence: how it stands in the abstract heap and in the heap, and its iterator -/
structure SK where
  Sq : PySem.W.Frag → Hp → Addr → List V → Prop
  Is : Heap → Addr → Array Value → Prop
  It : Heap → Addr → Addr → Nat → Prop
  o : Addr → Obj
  seen : ∀ {X : Cx} {pins : List (Addr × Obj)} {σ : L2.St} {H : Hp} {s : Shared} {a : Addr} {xs : List V}, Inv X pins σ H s → Sq X.K H a xs → ∃ its : List Value, Vals xs its ∧ Is s.heap a its.toArray
  one : ∀ {X : Cx} {pins : List (Addr × Obj)} {σ : L2.St} {H : Hp} {s : Shared} {a : Addr} {xs ys : List V}, Inv X pins σ H s → Sq X.K H a xs → Sq X.K H a ys → xs = ys
  lt : ∀ {h : Heap} {a : Addr} {its : Array Value}, Is h a its → a < h.objs.size
  draws : ∀ {P : Program} {w : World} {A : Around} (_ : A.handled = none) (it a : Addr) (_ : a ≠ it) (its : Array Value), Draws P w A it [it, a] its.size (fun i v => its[i]? = some v) (fun i h => It h it a i ∧ Is h a its)
  begins : ∀ (a : Addr) (its : Array Value), Begins (.ref a) (o a) fun h => Is h a its
  it0 : ∀ {h : Heap} {it a : Addr}, h.get? it = some (o a) → It h it a 0
  live : ∀ {h : Heap} {it a : Addr} {i : Nat}, It h it a i → ∃ ob, h.get? it = some ob ∧ ∀ v, ob.data ≠ .cell v
  keep : ∀ {h h' : Heap} {it a : Addr} {i : Nat}, It h it a i → (∀ ob, h.get? it = some ob → h'.get? it = some ob) → It h' it a i
def skL : SK where
  Sq := SqL
  Is := fun h a its => h.IsList a its
  It := fun h it a i => h.IsListIter it a i
  o := fun a => { cls := .type "list_iterator", data := .fields #[.ref a, .int 0 0] }
  seen := fun I q => let ⟨its, rv, p, _⟩ := I.list q; ⟨its, rv, p.isList⟩
  one := fun I q r => I.list_inj q r
  lt := fun h => let ⟨_, e, _⟩ := h; Heap.lt_size e
  draws := fun hh it a hne its => Draws.list hh it a hne its
  begins := fun a its => begins_list a its
  it0 := fun e => ⟨_, e, rfl, rfl⟩
  live := fun h => let ⟨ob, e, _, d⟩ := h; ⟨ob, e, fun v q => nomatch d.symm.trans q⟩
  keep := fun h k => h.at k
def skT : SK where
  Sq := SqT
  Is := fun h a its => h.IsTuple a its
  It := fun h it a i => h.IsTupleIter it a i
  o := fun a => { cls := .type "tuple_iterator", data := .fields #[.ref a, .int 0 0] }
  seen := fun I q => let ⟨its, rv, p, _⟩ := I.tuple q; ⟨its, rv, p⟩
  one := fun I q r => I.tuple_inj q r
  lt := fun h => let ⟨_, e, _⟩ := h; Heap.lt_size e
  draws := fun hh it a hne its => Draws.tuple hh it a hne its
  begins := fun a its => begins_tuple a its
  it0 := fun e => ⟨_, e, rfl, rfl⟩
  live := fun h => let ⟨ob, e, _, d⟩ := h; ⟨ob, e, fun v q => nomatch d.symm.trans q⟩
  keep := fun h k => h.at k
/-- the items, counted from k0, in new pairs -/
def ItE (k : SK) (K : PySem.W.Frag) (k0 : Int) (a : Addr) : It where
  go := fun i H => ∃ (xs : List V) (x : V), k.Sq K H a xs ∧ xs[i]? = some x
  yld := fun i H v H' => ∃ T x, v = .ref T ∧ H T = none ∧ H' = upd H T (.tup [.int (k0 + (i : Int)), x]) ∧ ∀ xs, k.Sq K H a xs → xs[i]? = some x
  stop := fun i H => ∃ xs : List V, k.Sq K H a xs ∧ xs.length = i
/-- a new tuple, the iterators' cells turned -/
theorem Inv.pairNew {X : Cx} {pins : List (Addr × Obj)} {σ : L2.St} {H : Hp} {s : Shared} {h' : Heap} {tk : Nat} {ch : List Addr} {T : Addr} {xs : List V} {us : List Value} (I : Inv X pins σ H s)
    (hk : ∀ b o, b ∉ ch → s.heap.get? b = some o → h'.get? b = some o) (hf : ∀ b ∈ ch, FpOk X pins H b) (hT : s.heap.objs.size ≤ T) (hz : xs.length ≤ 100) (rv : Vals xs us) (ht : h'.IsTuple T us.toArray) :
    Inv X pins σ (upd H T (.tup xs)) { s with heap := h', toks := tk } :=
  I.turnedNew (t' := tk) (ch := ch) hk hf hT ⟨Nat.le_trans hz (by decide), us, rv, ht⟩
theorem turn_enumE {P : Program} {w : World} {K : PySem.W.Frag} {elts : List Expr} {kk : Nat} {tpos : Pos} (k : SK) (k0 : Int) (a e it : Addr) :
    Turn P w K (.Tuple elts kk tpos) (ItE k K k0 a) [e, it] e (fun i h => (∃ old, IsEnum h e it (k0 + (i : Int)) old) ∧ k.It h it a i ∧ e ≠ it ∧ a ≠ it ∧ e ≠ a) where
  mem := List.mem_cons_self ..
  obj := by
    rintro i h ⟨⟨old, he⟩, hi, _⟩ b hb
    rcases List.mem_cons.mp hb with z | hb
    · subst z; exact ⟨_, he, fun v q => nomatch q⟩
    · cases List.mem_singleton.mp hb
      exact k.live hi
  keep := by
    rintro i h h' ⟨⟨old, he⟩, hi, hne⟩ q
    exact ⟨⟨old, q e (List.mem_cons_self ..) _ he⟩, k.keep hi fun o z => q it (List.mem_cons_of_mem _ (List.mem_cons_self ..)) o z, hne⟩
  item := by
    intro X hP hw hK hc i pins s σ H E I hf st hg
    cases hP; cases hw; cases hK
    obtain ⟨⟨old, he⟩, hi, n1, n2, n3⟩ := st
    obtain ⟨xs, x, hq, hx⟩ := hg
    obtain ⟨its, rv, p⟩ := k.seen I hq
    obtain ⟨u, hu, ru⟩ := rv.get hx
    have hlt : i < its.toArray.size := by
      obtain ⟨z, _⟩ := List.getElem?_eq_some_iff.mp hu
      simpa using z
    have D := k.draws (P := X.prog) (w := X.w) (A := X.A.in1) (I.ok.hd hc) it a n2 its.toArray
    have W := GoesN.enumFrom (elts := elts) (x1 := kk) (pos := tpos) k0 D e n1 (by simp [n1, n3]) (List.mem_cons_self ..)
    refine W.goes i s _ E hlt ⟨⟨old, he⟩, hi, p⟩ fun v h' tk hY hS hk _ => ?_
    obtain ⟨T, t, y, rfl, hT, hy, ht⟩ := hY
    have hy' : its[i]? = some y := by simpa using hy
    cases hu.symm.trans hy'
    have el : e < s.heap.objs.size := Heap.lt_size he
    have il : it < s.heap.objs.size := by obtain ⟨ob, z, _⟩ := k.live hi; exact Heap.lt_size z
    refine ⟨.ref T, _, I.pairNew (ch := [e, it]) (xs := [.int (k0 + (i : Int)), x]) hk hf hT (show 2 ≤ 100 by decide) (.cons ⟨t, rfl⟩ (.cons ru .nil)) ht, rfl, ⟨T, x, rfl, I.hok.fresh hT, rfl, fun ys hys => by rw [k.one I hys hq]; exact hx⟩, ⟨?_, hS.2.1, n1, n2, n3⟩, fun b hb => ?_⟩
    · exact hS.1
    · have bl : b < s.heap.objs.size := by
        rcases List.mem_cons.mp hb with z | hb
        · exact z ▸ el
        · exact (List.mem_singleton.mp hb) ▸ il
      rw [upd_ne (Nat.ne_of_lt (Nat.lt_of_lt_of_le bl hT))]
      exact (hf b hb).1
  done := by
    intro X hP hw hK hc i pins s σ H E I hf st hg
    cases hP; cases hw; cases hK
    obtain ⟨⟨old, he⟩, hi, n1, n2, n3⟩ := st
    obtain ⟨xs, hq, rfl⟩ := hg
    obtain ⟨its, rv, p⟩ := k.seen I hq
    have D := k.draws (P := X.prog) (w := X.w) (A := X.A.in1) (I.ok.hd hc) it a n2 its.toArray
    have W := GoesN.enumFrom (elts := elts) (x1 := kk) (pos := tpos) k0 D e n1 (by simp [n1, n3]) (List.mem_cons_self ..)
    have hl : its.toArray.size = xs.length := by rw [List.size_toArray, rv.length]
    exact W.stops s (fun s1 => Inv X pins σ H s1) E (by rw [hl]; exact ⟨⟨old, he⟩, hi, p⟩) fun h' tk hk _ => I.turnedL (t' := tk) hk hf
  self := fun A i s Q E st h => let ⟨⟨_, he⟩, _⟩ := st; wpAny_pyIter_enum he h

/-! ### the call of enumerate -/
theorem enum1_typeCall (v : Value) : checkTypeCall "enumerate" ⟨[v], []⟩ = pure () := F.typeCall_enumerate_1 v
set_option maxHeartbeats 1000000 in
theorem enum1_meets {v : Value} {o : Obj} {G : Heap → Prop} (B : Begins v o G) :
    Meets (Builtin.«enumerate.__new__» ⟨[.type "enumerate", v], []⟩) (fun _ R s => G s.heap ∧
      R (.ok (.ret (.ref (s.heap.push o).objs.size)))
        { s with heap := (s.heap.push o).push { cls := .type "enumerate", data := .fields #[.none, .bool false, .ref s.heap.objs.size, rawInt 0, .none, .none] } }) := by
  refine .of_wp fun prog w A R s hs => ?_
  obtain ⟨hp, gens, drawn, tk, os⟩ := s
  obtain ⟨hG, hR⟩ := hs
  have hsub := sub_enumerate
  have q1 : ∀ {A' : Around} {E' : Value → Shared → Prop} {R' : Value → Shared → Prop}, R' (.ref hp.objs.size) ⟨hp.push o, gens, drawn, tk, os⟩ → wpAny (model prog w) A' (pyIter v) R' E' ⟨hp, gens, drawn, tk, os⟩ :=
    fun q => B.iter prog w _ _ ⟨hp, gens, drawn, tk, os⟩ _ hG q
  wp_walk using q1
  refine wpAny_stack_any fun st => wpAny_pure ?_
  split
  · rename_i c _ _ _ _ _
    cases (c == Value.type "enumerate")
    all_goals
      wp_walk using q1
      exact ⟨_, rfl, hR⟩
  · wp_walk using q1
    exact ⟨_, rfl, hR⟩
section
variable {prog : Program} {w : World} {A : Around} {E : Value → Shared → Prop} {s : Shared}
theorem enum1_call {v : Value} {o : Obj} {G : Heap → Prop} {Q : Value → Shared → Prop} (B : Begins v o G) (hG : G s.heap)
    (h : ∀ h', IsEnum h' (s.heap.objs.size + 1) s.heap.objs.size 0 .none → h'.get? s.heap.objs.size = some o →
      (∀ b ob, s.heap.get? b = some ob → h'.get? b = some ob) → Q (.ref (s.heap.objs.size + 1)) { s with heap := h' }) :
    wpAny (model prog w) A (call (.type "enumerate") [v]) Q E s := by
  refine callType_new F.called_enumerate (by decide) (enum1_typeCall _) (F.newCall_enumerate_1 _) (fun ob => F.args_object_init_2 ob _) F.entry_enumerate_new (enum1_meets B) ⟨hG, ?_⟩
  have z1 : (s.heap.push o).objs.size = s.heap.objs.size + 1 := Heap.size_push ..
  let oe : Obj := { cls := .type "enumerate", data := .fields #[.none, .bool false, .ref s.heap.objs.size, rawInt 0, .none, .none] }
  have he : ((s.heap.push o).push oe).get? (s.heap.push o).objs.size = some oe := Heap.get?_push_size (s.heap.push o) rfl
  rw [z1] at he
  show _ ∧ _
  rw [z1]
  exact ⟨⟨oe, he, rfl⟩, h _ he (Heap.get?_push_of_some _ (Heap.get?_push_size _ B.free)) fun b ob e => Heap.get?_push_of_some _ (Heap.get?_push_of_some _ e)⟩
end
def iEnumE (k : SK) (K : PySem.W.Frag) (ta : TA) : TI := fun σ H R => ta σ H fun vs H1 => ∃ a xs, vs = [.ref a] ∧ k.Sq K H1 a xs ∧ R (ItE k K 0 a) H1
theorem pi_enumE {X : Cx} (K : PySem.W.Frag) (k : SK) {e : Expr} {ta : TA} {p pos tpos : Pos} {elts : List Expr} {kk : Nat} (hg : Gl X "enumerate") (hm : X.mg "enumerate" = none) (ha : PA X [e] ta)
    (hs : starEach [e] X.env = [(false, eval e X.env)] := by rfl) (h : X.K = K := by rfl) :
    PI X (.Tuple elts kk tpos) (.Call (.Name "enumerate" p) [e] [] pos) (iEnumE k K ta) := by
  cases h
  constructor
  intro pins s σ H R I h
  refine Call_ (ld_blt I hg hm boot_enumerate (PyProof.Rows.callWith_type1 (thn (ha.run pos pins s σ H _ I h) fun us s1 got => ?_) hs rfl))
  obtain ⟨vs, H1, J, r, a, xs, ex, hq, q⟩ := got
  subst ex
  obtain ⟨u, rfl, ru⟩ : ∃ u, us = [u] ∧ u = Value.ref a := by
    cases r with
    | cons r0 rr =>
      cases rr
      exact ⟨_, rfl, r0⟩
  subst ru
  obtain ⟨its, rv, p'⟩ := k.seen J hq
  have al := k.lt p'
  refine enum1_call (k.begins a its.toArray) p' fun h' he hi hk => wpAny_pyIter_enum he ?_
  refine ⟨s1.heap.objs.size + 1, [s1.heap.objs.size + 1, s1.heap.objs.size], _, _, H1, rfl, J.kept (t' := s1.toks) hk, turn_enumE k 0 a (s1.heap.objs.size + 1) s1.heap.objs.size,
    ⟨⟨.none, he⟩, k.it0 hi, Nat.succ_ne_self _, Nat.ne_of_lt al, Nat.ne_of_gt (Nat.lt_succ_of_lt al)⟩, fun b hb => ?_, q⟩
  have hle : s1.heap.objs.size ≤ b := by
    rcases List.mem_cons.mp hb with z | hb
    · exact z ▸ Nat.le_succ _
    · exact (List.mem_singleton.mp hb) ▸ Nat.le_refl _
  exact J.fpOk hle (J.hok.fresh hle)

/-! ### three beside one another -/
def ItZ3 (k1 k2 k3 : SK) (K : PySem.W.Frag) (a b c : Addr) : It where
  go := fun i H => ∃ (xs ys zs : List V) (x y z : V), (k1.Sq K H a xs ∧ k2.Sq K H b ys ∧ k3.Sq K H c zs) ∧ xs[i]? = some x ∧ ys[i]? = some y ∧ zs[i]? = some z
  yld := fun i H v H' => ∃ T x y z, v = .ref T ∧ H T = none ∧ H' = upd H T (.tup [x, y, z]) ∧ (∀ xs, k1.Sq K H a xs → xs[i]? = some x) ∧ (∀ ys, k2.Sq K H b ys → ys[i]? = some y) ∧ ∀ zs, k3.Sq K H c zs → zs[i]? = some z
  stop := fun i H => ∃ xs ys zs : List V, (k1.Sq K H a xs ∧ k2.Sq K H b ys ∧ k3.Sq K H c zs) ∧ min (min xs.length ys.length) zs.length = i
structure Z3 (k1 k2 k3 : SK) (z TI TO i1 i2 i3 a b c : Addr) (i : Nat) (h : Heap) : Prop where
  zp : IsZip h z TI TO .none
  its : IsTupOf3 h TI (.ref i1) (.ref i2) (.ref i3)
  outs : ∃ v1 v2 v3, IsTupOf3 h TO v1 v2 v3
  one : k1.It h i1 a i
  two : k2.It h i2 b i
  three : k3.It h i3 c i
theorem mem6 {b z t o x y u : Addr} (h : b ∈ [z, t, o, x, y, u]) : b = z ∨ b = t ∨ b = o ∨ b = x ∨ b = y ∨ b = u := by simpa using h
theorem Z3.lt {k1 k2 k3 : SK} {z TI TO i1 i2 i3 a b c : Addr} {i : Nat} {h : Heap} (t : Z3 k1 k2 k3 z TI TO i1 i2 i3 a b c i h) : ∀ q ∈ [z, TI, TO, i1, i2, i3], q < h.objs.size := fun q hq => by
  obtain ⟨v1, v2, v3, ho⟩ := t.outs
  rcases mem6 hq with e | e | e | e | e | e
  · exact e ▸ Heap.lt_size t.zp
  · exact e ▸ Heap.lt_size t.its
  · exact e ▸ Heap.lt_size ho
  · obtain ⟨o, g, _⟩ := k1.live t.one
    exact e ▸ Heap.lt_size g
  · obtain ⟨o, g, _⟩ := k2.live t.two
    exact e ▸ Heap.lt_size g
  · obtain ⟨o, g, _⟩ := k3.live t.three
    exact e ▸ Heap.lt_size g
theorem turn_zip3 {P : Program} {w : World} {K : PySem.W.Frag} {elts : List Expr} {kk : Nat} {tpos : Pos} (k1 k2 k3 : SK) {z TI TO i1 i2 i3 a b c : Addr} (S : ZipSep3 z TI TO i1 i2 i3 [i1, a] [i2, b] [i3, c])
    (n1 : a ≠ i1) (n2 : b ≠ i2) (n3 : c ≠ i3) :
    Turn P w K (.Tuple elts kk tpos) (ItZ3 k1 k2 k3 K a b c) [z, TI, TO, i1, i2, i3] z (Z3 k1 k2 k3 z TI TO i1 i2 i3 a b c) where
  mem := List.mem_cons_self ..
  obj := fun i h t q hq => by
    obtain ⟨v1, v2, v3, ho⟩ := t.outs
    rcases mem6 hq with e | e | e | e | e | e
    · exact e ▸ ⟨_, t.zp, fun v q => nomatch q⟩
    · exact e ▸ ⟨_, t.its, fun v q => nomatch q⟩
    · exact e ▸ ⟨_, ho, fun v q => nomatch q⟩
    · exact e ▸ k1.live t.one
    · exact e ▸ k2.live t.two
    · exact e ▸ k3.live t.three
  keep := fun i h h' t q => by
    obtain ⟨v1, v2, v3, ho⟩ := t.outs
    have m : ∀ d, d ∈ [z, TI, TO, i1, i2, i3] → ∀ o, h.get? d = some o → h'.get? d = some o := q
    exact ⟨m z (by simp) _ t.zp, m TI (by simp) _ t.its, ⟨v1, v2, v3, m TO (by simp) _ ho⟩, k1.keep t.one (m i1 (by simp)), k2.keep t.two (m i2 (by simp)), k3.keep t.three (m i3 (by simp))⟩
  item := by
    intro X hP hw hK hc i pins s σ H E I hf t hg
    cases hP; cases hw; cases hK
    obtain ⟨xs, ys, zs, x, y, u, ⟨qa, qb, qc⟩, hx, hy, hu⟩ := hg
    obtain ⟨as, ra, pa⟩ := k1.seen I qa
    obtain ⟨bs, rb, pb⟩ := k2.seen I qb
    obtain ⟨cs, rc, pc⟩ := k3.seen I qc
    obtain ⟨u1, g1, r1⟩ := ra.get hx
    obtain ⟨u2, g2, r2⟩ := rb.get hy
    obtain ⟨u3, g3, r3⟩ := rc.get hu
    have W := GoesN.zip3 (elts := elts) (x1 := kk) (pos := tpos) S (k1.draws (P := X.prog) (w := X.w) (A := X.A.in1) (I.ok.hd hc) i1 a n1 as.toArray) (k2.draws (A := X.A.in1) (I.ok.hd hc) i2 b n2 bs.toArray) (k3.draws (A := X.A.in1) (I.ok.hd hc) i3 c n3 cs.toArray)
    have l1 := (List.getElem?_eq_some_iff.mp g1).1
    have l2 := (List.getElem?_eq_some_iff.mp g2).1
    have l3 := (List.getElem?_eq_some_iff.mp g3).1
    have hlt : i < min (min as.toArray.size bs.toArray.size) cs.toArray.size := by
      rw [List.size_toArray, List.size_toArray, List.size_toArray]
      omega
    have sub : ∀ q ∈ [z, TO, i1, i2, i3], q ∈ [z, TI, TO, i1, i2, i3] := fun q hq => by
      have e : q = z ∨ q = TO ∨ q = i1 ∨ q = i2 ∨ q = i3 := by simpa using hq
      rcases e with e | e | e | e | e <;> (rw [e]; simp)
    refine W.goes i s _ E hlt ⟨t.zp, t.its, t.outs, ⟨t.one, pa⟩, ⟨t.two, pb⟩, ⟨t.three, pc⟩⟩ fun v h' tk hY hS hk _ => ?_
    obtain ⟨T, w1, w2, w3, rfl, hT, e1, e2, e3, ht⟩ := hY
    have e1' : as[i]? = some w1 := by simpa using e1
    have e2' : bs[i]? = some w2 := by simpa using e2
    have e3' : cs[i]? = some w3 := by simpa using e3
    cases g1.symm.trans e1'
    cases g2.symm.trans e2'
    cases g3.symm.trans e3'
    refine ⟨.ref T, _, I.pairNew (ch := [z, TO, i1, i2, i3]) (xs := [x, y, u]) hk (fun q hq => hf q (sub q hq)) hT (show 3 ≤ 100 by decide) (.cons r1 (.cons r2 (.cons r3 .nil))) ht, rfl,
      ⟨T, x, y, u, rfl, I.hok.fresh hT, rfl, fun l hl => by rw [k1.one I hl qa]; exact hx, fun l hl => by rw [k2.one I hl qb]; exact hy, fun l hl => by rw [k3.one I hl qc]; exact hu⟩, ?_, fun q hq => ?_⟩
    · exact ⟨hS.1, hS.2.1, hS.2.2.1, hS.2.2.2.1.1, hS.2.2.2.2.1.1, hS.2.2.2.2.2.1⟩
    · rw [upd_ne (Nat.ne_of_lt (Nat.lt_of_lt_of_le (t.lt q hq) hT))]
      exact (hf q hq).1
  done := by
    intro X hP hw hK hc i pins s σ H E I hf t hg
    cases hP; cases hw; cases hK
    obtain ⟨xs, ys, zs, ⟨qa, qb, qc⟩, rfl⟩ := hg
    obtain ⟨as, ra, pa⟩ := k1.seen I qa
    obtain ⟨bs, rb, pb⟩ := k2.seen I qb
    obtain ⟨cs, rc, pc⟩ := k3.seen I qc
    have W := GoesN.zip3 (elts := elts) (x1 := kk) (pos := tpos) S (k1.draws (P := X.prog) (w := X.w) (A := X.A.in1) (I.ok.hd hc) i1 a n1 as.toArray) (k2.draws (A := X.A.in1) (I.ok.hd hc) i2 b n2 bs.toArray) (k3.draws (A := X.A.in1) (I.ok.hd hc) i3 c n3 cs.toArray)
    have hl : min (min as.toArray.size bs.toArray.size) cs.toArray.size = min (min xs.length ys.length) zs.length := by
      rw [List.size_toArray, List.size_toArray, List.size_toArray, ra.length, rb.length, rc.length]
    have sub : ∀ q ∈ [z, TO, i1, i2, i3], q ∈ [z, TI, TO, i1, i2, i3] := fun q hq => by
      have e : q = z ∨ q = TO ∨ q = i1 ∨ q = i2 ∨ q = i3 := by simpa using hq
      rcases e with e | e | e | e | e <;> (rw [e]; simp)
    exact W.stops s (fun s1 => Inv X pins σ H s1) E (by rw [hl]; exact ⟨t.zp, t.its, t.outs, ⟨t.one, pa⟩, ⟨t.two, pb⟩, ⟨t.three, pc⟩⟩) fun h' tk hk _ => I.turnedL (t' := tk) hk fun q hq => hf q (sub q hq)
  self := fun A i s Q E t h => wpAny_pyIter_zip t.zp h
def iZip3 (k1 k2 k3 : SK) (K : PySem.W.Frag) (ta : TA) : TI := fun σ H R => ta σ H fun vs H1 => ∃ a b c xs ys zs, vs = [.ref a, .ref b, .ref c] ∧ (k1.Sq K H1 a xs ∧ k2.Sq K H1 b ys ∧ k3.Sq K H1 c zs) ∧ R (ItZ3 k1 k2 k3 K a b c) H1
theorem pi_zip3 {X : Cx} (K : PySem.W.Frag) (k1 k2 k3 : SK) {e e2 e3 : Expr} {ta : TA} {p pos tpos : Pos} {elts : List Expr} {kk : Nat} (hg : Gl X "zip") (hm : X.mg "zip" = none) (ha : PA X [e, e2, e3] ta)
    (hs : starEach [e, e2, e3] X.env = (false, eval e X.env) :: starEach [e2, e3] X.env := by rfl) (hpl : (backTo pos (starEach [e2, e3] X.env)).any (·.1) = false := by rfl) (h : X.K = K := by rfl) :
    PI X (.Tuple elts kk tpos) (.Call (.Name "zip" p) [e, e2, e3] [] pos) (iZip3 k1 k2 k3 K ta) := by
  cases h
  constructor
  intro pins s σ H R I h
  refine Call_ (ld_blt I hg hm PyProof.Rows.boot_zip (PyProof.Rows.callWith_type1 (thn (ha.run pos pins s σ H _ I h) fun us s1 got => ?_) hs hpl))
  obtain ⟨vs, H1, J, r, a, b, c, xs, ys, zs, ex, ⟨qa, qb, qc⟩, q⟩ := got
  subst ex
  obtain rfl : us = [Value.ref a, Value.ref b, Value.ref c] := by
    cases r with
    | cons r0 r => cases r with
      | cons r1 r => cases r with
        | cons r2 r =>
          cases r
          rw [show _ = Value.ref a from r0, show _ = Value.ref b from r1, show _ = Value.ref c from r2]
  obtain ⟨as, ra, pa⟩ := k1.seen J qa
  obtain ⟨bs, rb, pb⟩ := k2.seen J qb
  obtain ⟨cs, rc, pc⟩ := k3.seen J qc
  have la := k1.lt pa
  have lb := k2.lt pb
  have lc := k3.lt pc
  have one : ∀ {d : Addr}, d < s1.heap.objs.size → ∀ b ∈ [d], b < s1.heap.objs.size := fun hd b hb => (List.mem_singleton.mp hb) ▸ hd
  refine zip_begins3 (k1.begins a as.toArray) (k2.begins b bs.toArray) (k3.begins c cs.toArray) pa pb pc fun h' hz hTI hTO o1 o2 o3 _ hk => wpAny_pyIter_zip hz ?_
  refine ⟨s1.heap.objs.size + 5, [s1.heap.objs.size + 5, s1.heap.objs.size + 3, s1.heap.objs.size + 4, s1.heap.objs.size, s1.heap.objs.size + 1, s1.heap.objs.size + 2], _, _, H1, rfl, J.kept (t' := s1.toks) hk,
    turn_zip3 k1 k2 k3 (zip_sep3 (one la) (one lb) (one lc)) (Nat.ne_of_lt la) (Nat.ne_of_lt (Nat.lt_of_lt_of_le lb (Nat.le_add_right _ _))) (Nat.ne_of_lt (Nat.lt_of_lt_of_le lc (Nat.le_add_right _ _))),
    ⟨hz, hTI, ⟨_, _, _, hTO⟩, k1.it0 o1, k2.it0 o2, k3.it0 o3⟩, fun d hd => ?_, q⟩
  have hle : s1.heap.objs.size ≤ d := by
    rcases mem6 hd with e | e | e | e | e | e
    · exact e ▸ Nat.le_add_right _ _
    · exact e ▸ Nat.le_add_right _ _
    · exact e ▸ Nat.le_add_right _ _
    · exact e ▸ Nat.le_refl _
    · exact e ▸ Nat.le_add_right _ _
    · exact e ▸ Nat.le_add_right _ _
  exact J.fpOk hle (J.hok.fresh hle)

section
variable {K : PySem.W.Frag} {σ : L2.St} {H : Hp} {Q : VK} {D : Ends} {tb : TS} {ta : TA} {R : It → Hp → Prop} {k k1 k2 k3 : SK} {a b c : Addr} {xs ys zs : List V} {k0 : Int} {m n o : Nat}
def rItE (k : SK) (K : PySem.W.Frag) (vs : List V) (R : It → Hp → Prop) (H1 : Hp) : Prop := ∃ a xs, vs = [.ref a] ∧ k.Sq K H1 a xs ∧ R (ItE k K 0 a) H1
def rItZ3 (k1 k2 k3 : SK) (K : PySem.W.Frag) (vs : List V) (R : It → Hp → Prop) (H1 : Hp) : Prop := ∃ a b c xs ys zs, vs = [.ref a, .ref b, .ref c] ∧ (k1.Sq K H1 a xs ∧ k2.Sq K H1 b ys ∧ k3.Sq K H1 c zs) ∧ R (ItZ3 k1 k2 k3 K a b c) H1
theorem st_enumE (h : ta σ H fun us H1 => rItE k K us R H1) : iEnumE k K ta σ H R := h
theorem st_zip3 (h : ta σ H fun us H1 => rItZ3 k1 k2 k3 K us R H1) : iZip3 k1 k2 k3 K ta σ H R := h
theorem r_enumE (h : k.Sq K H a xs) (q : R (ItE k K 0 a) H) : rItE k K [.ref a] R H := ⟨a, xs, rfl, h, q⟩
theorem r_zip3 (h1 : k1.Sq K H a xs) (h2 : k2.Sq K H b ys) (h3 : k3.Sq K H c zs) (q : R (ItZ3 k1 k2 k3 K a b c) H) : rItZ3 k1 k2 k3 K [.ref a, .ref b, .ref c] R H := ⟨a, b, c, xs, ys, zs, rfl, ⟨h1, h2, h3⟩, q⟩
theorem r_tup3 {i j l : Nat} {x y z : V} {R : L2.St → Hp → Prop} (h : SqT K H a [x, y, z]) (q : R (((σ.set i (some x)).set j (some y)).set l (some z)) H) : gTup K 3 (gCons (gName i) (gCons (gName j) (gCons (gName l) gNil))) (.ref a) σ H R :=
  ⟨a, _, rfl, h, rfl, x, [y, z], rfl, y, [z], rfl, z, [], rfl, rfl, q⟩
/-- for i, x in enumerate(xs) -/
theorem r_forE (Pv : Nat → L2.St → Hp → Prop) (h0 : Pv 0 σ H) (hl : ∀ i σ' H', i ≤ xs.length → Pv i σ' H' → k.Sq K H' a xs)
    (hs : ∀ i x σ' H' H1, xs[i]? = some x → Pv i σ' H' → Ex H' H1 → tb { D with nx := Pv (i + 1), ct := Pv (i + 1), bk := D.nx } ((σ'.set m (some (.int (k0 + (i : Int))))).set n (some x)) H1)
    (hd : ∀ σ' H', Pv xs.length σ' H' → D.nx σ' H') : rFor (ItE k K k0 a) (gTup K 2 (gCons (gName m) (gCons (gName n) gNil))) tb D σ H := by
  refine ⟨fun i d σ H => d = xs.length - i ∧ i ≤ xs.length ∧ Pv i σ H, ⟨_, rfl, Nat.zero_le _, h0⟩, ?_⟩
  rintro i d σ H ⟨rfl, hi, p⟩
  have hq := hl i σ H hi p
  rcases Nat.lt_or_ge i xs.length with lt | ge
  · have hx := List.getElem?_eq_getElem lt
    refine .inr ⟨⟨xs, _, hq, hx⟩, Pv (i + 1), fun σ' H' q => ⟨xs.length - (i + 1), by omega, rfl, lt, q⟩, ?_⟩
    rintro v H' ⟨T, x, rfl, hT, rfl, e⟩
    exact r_tup2 (t_of upd_same) (hs i x σ H _ (e xs hq) p (Ex.new hT))
  · have e : xs.length = i := by omega
    refine .inl ⟨⟨xs, hq, e⟩, hd σ H (by rw [e]; exact p)⟩
/-- for x, y, z in zip(xs, ys, zs) -/
theorem r_forZ3 {N : Nat} (hN : min (min xs.length ys.length) zs.length = N) (Pv : Nat → L2.St → Hp → Prop) (h0 : Pv 0 σ H)
    (hl : ∀ i σ' H', i ≤ N → Pv i σ' H' → k1.Sq K H' a xs ∧ k2.Sq K H' b ys ∧ k3.Sq K H' c zs)
    (hs : ∀ i x y z σ' H' H1, xs[i]? = some x → ys[i]? = some y → zs[i]? = some z → Pv i σ' H' → Ex H' H1 →
      tb { D with nx := Pv (i + 1), ct := Pv (i + 1), bk := D.nx } (((σ'.set m (some x)).set n (some y)).set o (some z)) H1)
    (hd : ∀ σ' H', Pv N σ' H' → D.nx σ' H') : rFor (ItZ3 k1 k2 k3 K a b c) (gTup K 3 (gCons (gName m) (gCons (gName n) (gCons (gName o) gNil)))) tb D σ H := by
  refine ⟨fun i d σ H => d = N - i ∧ i ≤ N ∧ Pv i σ H, ⟨_, rfl, Nat.zero_le _, h0⟩, ?_⟩
  rintro i d σ H ⟨rfl, hi, p⟩
  have hq := hl i σ H hi p
  rcases Nat.lt_or_ge i N with lt | ge
  · have hx := List.getElem?_eq_getElem (show i < xs.length by omega)
    have hy := List.getElem?_eq_getElem (show i < ys.length by omega)
    have hz := List.getElem?_eq_getElem (show i < zs.length by omega)
    refine .inr ⟨⟨xs, ys, zs, _, _, _, hq, hx, hy, hz⟩, Pv (i + 1), fun σ' H' q => ⟨N - (i + 1), by omega, rfl, lt, q⟩, ?_⟩
    rintro v H' ⟨T, x, y, z, rfl, hT, rfl, e1, e2, e3⟩
    exact r_tup3 (t_of upd_same) (hs i x y z σ H _ (e1 xs hq.1) (e2 ys hq.2.1) (e3 zs hq.2.2) p (Ex.new hT))
  · have e : i = N := by omega
    exact .inl ⟨⟨xs, ys, zs, hq, by rw [hN, e]⟩, hd σ H (by rw [← e]; exact p)⟩
end
/-! ### repr of data -/
/-- the text of data that fits -/
structure Shows (d : PyData) : Prop where
  can : PyData.showable d = true
  plain : PyData.hasDict d = false
  depth : PyData.depth d ≤ 50
  fits : d.shown.length ≤ sizeLine
def rRepr (K : PySem.W.Frag) : List V → Hp → VK → Prop := fun xs H Q => ∃ a d, xs = [.ref a] ∧ Dp K H (.ref a) d ∧ Shows d ∧ Q (.str d.shown) H
theorem repr_K {X : Cx} (K : PySem.W.Frag) (g : Quiet X.A) {k : Nat} (hr : Room k X.A) (h : X.K = K := by rfl) : CallR X (.builtin "repr") (rRepr K) := by
  cases h
  intro pins s σ H xs us Q I r h
  obtain ⟨a, d, rfl, hd, sd, q⟩ := h
  obtain ⟨u, rfl, ru⟩ : ∃ u, us = [u] ∧ RelV (.ref a) u := by
    cases r with
    | cons r0 rr =>
      cases rr
      exact ⟨_, rfl, r0⟩
  cases (show u = Value.ref a from ru)
  obtain ⟨as, rd⟩ := Dp.reads I d _ _ hd ru
  have hu : X.A.units + (d.depth + 1) < cLine := by
    have h1 := sd.depth
    have h2 := hr.units
    omega
  exact repr_of_reads' rd sd.can (fun e => nomatch (sd.plain.symm.trans e)) g hu (fun _ _ e => e) (fun h' u tk hk => ⟨.str d.shown, H, I.kept (t' := tk) hk, ⟨u, rfl⟩, q⟩) sd.fits
section
variable {K : PySem.W.Frag} {H : Hp} {Q : VK} {a b : Addr} {d : PyData}
theorem r_repr (h : Dp K H (.ref a) d) (sd : Shows d) (q : Q (.str d.shown) H) : rRepr K [.ref a] H Q := ⟨a, d, rfl, h, sd, q⟩
theorem r_eqS {x y : Str} (q : Q (.bl (decide (x = y))) H) : rEqU K (.str x) (.str y) H Q := .inl ⟨rfl, by
  have e : decide ((V.str x) = V.str y) = decide (x = y) := by simp
  rw [e]
  exact q⟩
theorem r_neS {x y : Str} (q : Q (.bl (!decide (x = y))) H) : rNeU K (.str x) (.str y) H Q := .inl ⟨rfl, by
  have e : decide ((V.str x) = V.str y) = decide (x = y) := by simp
  rw [e]
  exact q⟩
/-- two things that read alike -/
theorem r_eqD {e : PyData} (ha : Dp K H (.ref a) d) (hb : Dp K H (.ref b) e) (s1 : SeqAt.shaped d = true) (s2 : SeqAt.shaped e = true) (q : Q (.bl (PyData.eqv d e)) H) : rEqU K (.ref a) (.ref b) H Q := .inr ⟨d, e, ha, hb, s1, s2, q⟩
theorem r_neD {e : PyData} (ha : Dp K H (.ref a) d) (hb : Dp K H (.ref b) e) (s1 : SeqAt.shaped d = true) (s2 : SeqAt.shaped e = true) (q : Q (.bl (!PyData.eqv d e)) H) : rNeU K (.ref a) (.ref b) H Q := .inr ⟨d, e, ha, hb, s1, s2, q⟩
end
/-! ### data of ints, in sequences -/
/-- a list of sequences -/
def dWs (ws : List (List Int)) : List PyData := ws.map fun w => .tuple (w.map .int)
theorem dWs_lay : ∀ ws, PyData.canLayAll0 (dWs ws) = true
  | [] => rfl
  | w :: ws => by
    show (PyData.canLayAll0 (w.map .int) && PyData.canLayAll0 (dWs ws)) = true
    rw [canLay_ints, dWs_lay ws]
    rfl
theorem dWs_depth : ∀ ws, PyData.depthAll (dWs ws) ≤ 1
  | [] => Nat.zero_le _
  | w :: ws => by
    have h := dWs_depth ws
    show max (PyData.depth (.tuple (w.map .int))) (PyData.depthAll (dWs ws)) ≤ 1
    rw [PyData.depth, depth_ints]
    omega
theorem dWs_eqv : ∀ us ws, PyData.eqvAll (dWs us) (dWs ws) = decide (us = ws)
  | [], [] => by simp [dWs, PyData.eqvAll]
  | [], _ :: _ => by simp [dWs, PyData.eqvAll]
  | _ :: _, [] => by simp [dWs, PyData.eqvAll]
  | u :: us, w :: ws => by
    show (PyData.eqv (.tuple (u.map .int)) (.tuple (w.map .int)) && PyData.eqvAll (dWs us) (dWs ws)) = _
    rw [eqv_tints, dWs_eqv us ws]
    by_cases h : u = w
    · subst h; simp
    · simp [h]
theorem shaped_dWs (ws : List (List Int)) : SeqAt.shaped (.list (dWs ws)) = true := by
  unfold SeqAt.shaped
  have h := dWs_depth ws
  rw [PyData.canLay0, dWs_lay, PyData.depth]
  simp
  omega
theorem shaped_dWsT (ws : List (List Int)) : SeqAt.shaped (.tuple (dWs ws)) = true := by
  unfold SeqAt.shaped
  have h := dWs_depth ws
  rw [PyData.canLay0, dWs_lay, PyData.depth]
  simp
  omega

/-! ### list(range(..)) -/
section
variable {K : PySem.W.Frag} {σ : L2.St} {H : Hp} {Q : VK} {ta tb : TE} {te : L2.St → Hp → (Int → Int → Hp → Prop) → Prop} {R : Int → Int → Hp → Prop} {i j : Int}
def rLstRg (a b : Int) (H1 : Hp) (Q : VK) : Prop := RgOk a b ∧ ∀ q, H1 q = none → Q (.ref q) (upd H1 q (.lst (rgV a b)))
def rTwoI (x y : V) (H2 : Hp) (R : Int → Int → Hp → Prop) : Prop := ∃ i j, x = .int i ∧ y = .int j ∧ R i j H2
theorem st_lstRg (h : te σ H fun a b H1 => rLstRg a b H1 Q) : tLstRg te σ H Q := h
theorem st_rg2 (h : ta σ H fun x H1 => tb σ H1 fun y H2 => rTwoI x y H2 R) : tRg2 ta tb σ H R := h
theorem r_twoI (q : R i j H) : rTwoI (.int i) (.int j) H R := ⟨i, j, rfl, rfl, q⟩
/-- the ints from a on, below b -/
def rgI (a b : Int) : List Int := (List.range (b - a).toNat).map fun i => a + (i : Nat)
theorem rgI_len (a b : Int) : (rgI a b).length = (b - a).toNat := by
  unfold rgI
  rw [List.length_map, List.length_range]
theorem r_lstRg (h0 : 0 ≤ i) (h1 : j ≤ 16777216) (h2 : i ≤ 16777216) (h3 : 0 ≤ j) (q : ∀ p H1, H p = none → Ex H H1 → H1 p = some (.lst ((rgI i j).map V.int)) → Q (.ref p) H1) : rLstRg i j H Q := by
  refine ⟨RgOk.of_le h0 h1 h2 h3, fun p hp => ?_⟩
  refine q p _ hp (Ex.new hp) ?_
  rw [upd_same]
  unfold rgV rgI
  rw [List.map_map]
  rfl
end
end L2
/-! lists of sequences of ints, and data of them that can be written out -/
namespace L2
open PySem PySem.Spec PyProof.Rows Evl
section
variable {K : PySem.W.Frag} {σ : L2.St} {H H' : Hp} {Q : VK} {a : Addr} {xs ys : List V} {ws us : List (List Int)} {x : V} {u : List Int}
/-- a tuple of ints -/
def WkV (K : PySem.W.Frag) (H : Hp) (x : V) (w : List Int) : Prop := ∃ a, x = .ref a ∧ IT K H a w
/-- such tuples, one behind the other -/
structure WkA (K : PySem.W.Frag) (H : Hp) (xs : List V) (ws : List (List Int)) : Prop where
  len : xs.length = ws.length
  at' : ∀ (i : Nat) x w, xs[i]? = some x → ws[i]? = some w → WkV K H x w
theorem WkV.tx (h : WkV K H x u) (e : TX H H') : WkV K H' x u := by
  obtain ⟨a, rfl, h1⟩ := h
  exact ⟨a, rfl, tx_t e h1⟩
theorem WkA.tx (h : WkA K H xs ws) (e : TX H H') : WkA K H' xs ws := ⟨h.len, fun i x w h1 h2 => (h.at' i x w h1 h2).tx e⟩
theorem WkA.ex (h : WkA K H xs ws) (e : Ex H H') : WkA K H' xs ws := h.tx (.of e)
theorem WkA.nil : WkA K H [] [] := ⟨rfl, fun i x w h => by simp at h⟩
theorem WkA.get (h : WkA K H xs ws) {i : Nat} (hx : xs[i]? = some x) : ∃ w, ws[i]? = some w ∧ WkV K H x w := by
  have hi := (List.getElem?_eq_some_iff.mp hx).1
  rw [h.len] at hi
  exact ⟨_, List.getElem?_eq_getElem hi, h.at' i _ _ hx (List.getElem?_eq_getElem hi)⟩
theorem WkA.snoc (h : WkA K H xs ws) (hx : WkV K H x u) : WkA K H (xs ++ [x]) (ws ++ [u]) := by
  refine ⟨by rw [List.length_append, List.length_append, h.len]; rfl, fun i y w h1 h2 => ?_⟩
  rcases Nat.lt_or_ge i xs.length with lt | ge
  · rw [List.getElem?_append_left lt] at h1
    rw [List.getElem?_append_left (h.len ▸ lt)] at h2
    exact h.at' i y w h1 h2
  · rw [List.getElem?_append_right ge] at h1
    rw [List.getElem?_append_right (h.len ▸ ge)] at h2
    have e : i - xs.length = 0 := by
      have := (List.getElem?_eq_some_iff.mp h1).1
      simp at this
      omega
    rw [e] at h1
    rw [← h.len, e] at h2
    cases h1
    cases h2
    exact hx
theorem WkA.set (h : WkA K H xs ws) (hx : WkV K H x u) (k : Nat) : WkA K H (xs.set k x) (ws.set k u) := by
  refine ⟨by rw [List.length_set, List.length_set, h.len], fun i y w h1 h2 => ?_⟩
  rw [List.getElem?_set] at h1 h2
  by_cases e : k = i
  · rw [if_pos e] at h1 h2
    split at h1
    · cases h1
      split at h2
      · cases h2
        exact hx
      · cases h2
    · cases h1
  · rw [if_neg e] at h1 h2
    exact h.at' i y w h1 h2
theorem WkA.app {us : List (List Int)} (h : WkA K H xs ws) (k : WkA K H ys us) : WkA K H (xs ++ ys) (ws ++ us) := by
  refine ⟨by rw [List.length_append, List.length_append, h.len, k.len], fun i y w h1 h2 => ?_⟩
  rcases Nat.lt_or_ge i xs.length with lt | ge
  · rw [List.getElem?_append_left lt] at h1
    rw [List.getElem?_append_left (h.len ▸ lt)] at h2
    exact h.at' i y w h1 h2
  · rw [List.getElem?_append_right ge] at h1
    rw [List.getElem?_append_right (h.len ▸ ge), ← h.len] at h2
    exact k.at' _ y w h1 h2
theorem dp_wks : ∀ {xs : List V} {ws : List (List Int)}, WkA K H xs ws → DpAll K H xs (dWs ws)
  | [], [], _ => .nil
  | [], _ :: _, h => by have := h.len; simp at this
  | _ :: _, [], h => by have := h.len; simp at this
  | x :: xs, w :: ws, h => by
    obtain ⟨a, rfl, h1⟩ := h.at' 0 x w rfl rfl
    exact .cons (dp_t h1) (dp_wks ⟨by have := h.len; simpa using this, fun i y u e1 e2 => h.at' (i + 1) y u (by simpa using e1) (by simpa using e2)⟩)
theorem dp_wl (hl : SqL K H a xs) (h : WkA K H xs ws) : Dp K H (.ref a) (.list (dWs ws)) := .lst hl (dp_wks h)
theorem dp_wt (hl : SqT K H a xs) (h : WkA K H xs ws) : Dp K H (.ref a) (.tuple (dWs ws)) := .tup hl (dp_wks h)
theorem eqv_dWs : PyData.eqv (.list (dWs us)) (.list (dWs ws)) = decide (us = ws) := by rw [PyData.eqv, dWs_eqv]
theorem eqv_dWsT : PyData.eqv (.tuple (dWs us)) (.tuple (dWs ws)) = decide (us = ws) := by rw [PyData.eqv, dWs_eqv]
/-- == of lists of sequences -/
theorem r_eqW {b : Addr} (ha : SqL K H a xs) (wa : WkA K H xs ws) (hb : SqL K H b ys) (wb : WkA K H ys us) (q : Q (.bl (decide (ws = us))) H) : rEqU K (.ref a) (.ref b) H Q :=
  r_eqD (dp_wl ha wa) (dp_wl hb wb) (shaped_dWs _) (shaped_dWs _) (by rw [eqv_dWs]; exact q)
theorem r_neW {b : Addr} (ha : SqL K H a xs) (wa : WkA K H xs ws) (hb : SqL K H b ys) (wb : WkA K H ys us) (q : Q (.bl (!decide (ws = us))) H) : rNeU K (.ref a) (.ref b) H Q :=
  r_neD (dp_wl ha wa) (dp_wl hb wb) (shaped_dWs _) (shaped_dWs _) (by rw [eqv_dWs]; exact q)
/-- what stood at a list is written anew: the tuples stay -/
theorem TX.upd {D : Addr} {o : HO} (h : H D = some (.lst xs)) : TX H (upd H D o) := fun a ys q => by
  rw [upd_ne (fun e => by subst e; rcases q with q | ⟨o', q⟩ <;> (rw [h] at q; cases q))]
theorem TX.w2 {D : Addr} (h : H D = some (.lst xs)) (e : ExW D H H') : TX H H' := fun a ys q => by
  have hne : a ≠ D := fun e => by subst e; rcases q with q | ⟨o', q⟩ <;> (rw [h] at q; cases q)
  rcases q with q | ⟨o', q⟩
  · rw [q, e a _ q hne]
  · rw [q, e a _ q hne]
/-- [e for i in range(..)], a turn may change the heap: S tells of the items so far -/
theorem r_cmRA {vs : List Nat} {j : Nat} {te : TE} {lo : Int} {m : Nat} (S : Nat → List V → Hp → Prop) (hm : m ≤ 100000) (hw : ∀ x, wipe ((wipe σ vs).set j (some x)) vs = wipe σ vs)
    (h0 : ∀ D, H D = none → ∀ o, S 0 [] (L2.upd H D o))
    (he : ∀ i H1 D acc, i < m → acc.length = i → H1 D = some (.lst acc) → (∀ o, S i acc (L2.upd H1 D o)) →
      ∀ Q' : VK, (∀ y H2, H2 D = some (.lst acc) → (∀ o, S (i + 1) (acc ++ [y]) (L2.upd H2 D o)) → Q' y H2) → te ((wipe σ vs).set j (some (.int (lo + (i : Int))))) H1 Q')
    (q : ∀ D H1 ys, H D = none → ys.length = m → H1 D = some (.lst ys) → (∀ o, S m ys (L2.upd H1 D o)) → Q (.ref D) H1) : rLc (Itr lo m) (gName j) tYes te vs σ Q H := fun D hD => by
  refine lc_range (lo := lo) (n := m) (fun i H' => ∃ ys : List V, ys.length = i ∧ (∀ o, S i ys (L2.upd H' D o)) ∧ H' D = some (.lst ys)) ⟨[], rfl, fun o => by rw [upd_upd]; exact h0 D hD o, upd_same⟩ (fun i H' hi p => ?_) (fun H' p => ?_)
  · obtain ⟨ys, h1, h4, h5⟩ := p
    refine ⟨hw _, ?_⟩
    refine he i H' D ys hi h1 h5 h4 _ fun y H2 z2 z3 => ?_
    exact ⟨ys, z2, sz_lt (by omega), ys ++ [y], by rw [List.length_append, h1]; rfl, fun o => by rw [upd_upd]; exact z3 o, upd_same⟩
  · obtain ⟨ys, h1, h4, h5⟩ := p
    exact q D H' ys hD h1 h5 h4
end
theorem upd_id {H : Hp} {D : Addr} {o : HO} (h : H D = some o) : upd H D o = H := by
  funext a
  by_cases e : a = D
  · subst e
    rw [upd_same, h]
  · rw [upd_ne e]
/-! ### texts that fit -/
theorem int_short {i : Int} (h : i.natAbs < 10 ^ 12) : PyData.leavesShort 13 (.int i) = true := by
  rw [PyData.leavesShort, decide_eq_true_eq]
  have e := int_text_length_le10 (k := 12) (by decide) h
  show (Str.ofString (toString i)).length ≤ 13
  rw [PySem.ofString_length]
  exact e
theorem int_can {i : Int} (h : i.natAbs < 10 ^ 12) : PyData.showable (.int i) = true := by
  rw [PyData.showable, decide_eq_true_eq]
  by_cases h0 : i.natAbs = 0
  · rw [h0]; decide
  · have := (Nat.log2_lt h0 (k := 40)).mpr (Nat.lt_of_lt_of_le h (by decide))
    omega
/-- all ints small -/
def Sml (ns : List Int) : Prop := ∀ x ∈ ns, x.natAbs < 10 ^ 12
theorem sml_short : ∀ {ns : List Int}, Sml ns → PyData.leavesShortAll 13 (ns.map .int) = true
  | [], _ => rfl
  | n :: ns, h => by
    rw [List.map_cons, PyData.leavesShortAll, int_short (h n List.mem_cons_self), sml_short fun x hx => h x (List.mem_cons_of_mem _ hx)]
    rfl
theorem sml_can : ∀ {ns : List Int}, Sml ns → PyData.showableAll (ns.map .int) = true
  | [], _ => rfl
  | n :: ns, h => by
    rw [List.map_cons, PyData.showableAll, int_can (h n List.mem_cons_self), sml_can fun x hx => h x (List.mem_cons_of_mem _ hx)]
    rfl
theorem ints_plain : ∀ ns : List Int, PyData.hasDictAll (ns.map .int) = false
  | [] => rfl
  | n :: ns => by
    rw [List.map_cons, PyData.hasDictAll, ints_plain ns]
    rfl
theorem ints_bulk : ∀ ns : List Int, PyData.bulkAll (ns.map .int) = ns.length
  | [] => rfl
  | n :: ns => by
    rw [List.map_cons, PyData.bulkAll, ints_bulk ns, PyData.bulk, List.length_cons]
    omega
theorem wks_short : ∀ {ws : List (List Int)}, (∀ w ∈ ws, Sml w) → PyData.leavesShortAll 13 (dWs ws) = true
  | [], _ => rfl
  | w :: ws, h => by
    show (PyData.leavesShortAll 13 (w.map .int) && PyData.leavesShortAll 13 (dWs ws)) = true
    rw [sml_short (h w List.mem_cons_self), wks_short fun x hx => h x (List.mem_cons_of_mem _ hx)]
    rfl
theorem wks_can : ∀ {ws : List (List Int)}, (∀ w ∈ ws, Sml w) → PyData.showableAll (dWs ws) = true
  | [], _ => rfl
  | w :: ws, h => by
    show (PyData.showableAll (w.map .int) && PyData.showableAll (dWs ws)) = true
    rw [sml_can (h w List.mem_cons_self), wks_can fun x hx => h x (List.mem_cons_of_mem _ hx)]
    rfl
theorem wks_plain : ∀ ws : List (List Int), PyData.hasDictAll (dWs ws) = false
  | [] => rfl
  | w :: ws => by
    show (PyData.hasDictAll (w.map .int) || PyData.hasDictAll (dWs ws)) = false
    rw [ints_plain, wks_plain ws]
    rfl
theorem wks_bulk {n : Nat} : ∀ {ws : List (List Int)}, (∀ w ∈ ws, w.length ≤ n) → PyData.bulkAll (dWs ws) ≤ ws.length * (n + 1)
  | [], _ => Nat.zero_le _
  | w :: ws, h => by
    have h1 := wks_bulk (n := n) (ws := ws) fun x hx => h x (List.mem_cons_of_mem _ hx)
    have h2 := h w List.mem_cons_self
    have e : PyData.bulkAll (dWs (w :: ws)) = PyData.bulkAll (w.map .int) + 1 + PyData.bulkAll (dWs ws) := rfl
    rw [e, ints_bulk, List.length_cons, Nat.add_mul]
    omega
theorem Shows.of {d : PyData} (h1 : PyData.showable d = true) (h2 : PyData.hasDict d = false) (h3 : PyData.depth d ≤ 50) (h4 : PyData.leavesShort 13 d = true) (h5 : PyData.bulk d ≤ 2 ^ 20) : Shows d :=
  ⟨h1, h2, h3, by
    have h := PyData.shown_le_bulk 13 (by decide) d h4
    have e : sizeLine = 16777216 := by decide
    omega⟩
/-! ### more of draws -/
theorem DrS.refl {w : Addr} {H : Hp} {n : Nat} (h : Well H w n) : DrS w H n H := ⟨ExW.refl H, h⟩
/-- something of our own is changed between the draws -/
theorem DrS.mut {w f : Addr} {H0 H H1 : Hp} {n : Nat} (h : DrS w H0 n H) (e : ExW f H H1) (h0 : H0 f = none) (hf : f ≠ w) : DrS w H0 n H1 := by
  refine ⟨fun a o ha hw => e a o (h.ex a o ha hw) (ne_of_none ha h0), ?_⟩
  obtain ⟨a, b, c, h1, h2⟩ := h.well.ex
  exact ⟨a, b, c, e w _ h1 (Ne.symm hf), h2⟩
theorem fresh_w {w p : Addr} {H H1 : Hp} (e : ExW w H H1) (hw : p ≠ w) (hp : H1 p = none) : H p = none := by
  cases h : H p with
  | none => rfl
  | some o =>
    rw [e p o h hw] at hp
    cases hp
theorem DrS.fresh {w p : Addr} {H0 H : Hp} {n : Nat} (h : DrS w H0 n H) (hp : H p = none) : H0 p = none := fresh_w h.ex (h.well.ne hp) hp
theorem ixN_in {n : Nat} {i : Int} (h0 : 0 ≤ i) (h : i.toNat < n) : ixN n i = some i.toNat := by
  unfold ixN
  rw [if_pos h0, if_pos (by omega)]
theorem atI_at {xs : List V} {i : Int} {x : V} (h0 : 0 ≤ i) (hx : xs[i.toNat]? = some x) : atI xs i = some x := by
  have e : i = ((i.toNat : Nat) : Int) := by omega
  rw [e]
  exact atI_nat hx
/-! ### [e for x in xs if t], each turn told by S -/
def CmP (S : Nat → List V → Hp → Prop) (D : Addr) (i : Nat) (H' : Hp) : Prop := ∃ ys : List V, ys.length ≤ i ∧ (∀ o, S i ys (upd H' D o)) ∧ H' D = some (.lst ys)
def CmY (S : Nat → List V → Hp → Prop) (D : Addr) (i : Nat) (y : V) (H' : Hp) : Prop := ∃ acc, H' D = some (.lst acc) ∧ acc.length < sizeLine ∧ CmP S D (i + 1) (upd H' D (.lst (acc ++ [y])))
theorem cm_yes {S : Nat → List V → Hp → Prop} {D : Addr} {i : Nat} {y : V} {H' : Hp} {acc : List V} (h : H' D = some (.lst acc)) (hz : acc.length ≤ i) (hi : i < 100000) (s : ∀ o, S (i + 1) (acc ++ [y]) (upd H' D o)) : CmY S D i y H' :=
  ⟨acc, h, sz_lt (by omega), acc ++ [y], by rw [List.length_append]; simpa using hz, fun o => by rw [upd_upd]; exact s o, upd_same⟩
theorem cm_no {S : Nat → List V → Hp → Prop} {D : Addr} {i : Nat} {H' : Hp} {acc : List V} (h : H' D = some (.lst acc)) (hz : acc.length ≤ i) (s : ∀ o, S (i + 1) acc (upd H' D o)) : CmP S D (i + 1) H' := ⟨acc, by omega, s, h⟩
section
variable {K : PySem.W.Frag} {σ : L2.St} {H : Hp} {Q : VK} {a : Addr} {xs : List V} {vs : List Nat} {j : Nat} {tt : TT} {te : TE}
theorem r_cmLA (S : Nat → List V → Hp → Prop) (hz : xs.length ≤ 100000) (hw : ∀ x, wipe ((wipe σ vs).set j (some x)) vs = wipe σ vs) (hl : ∀ i ys H', S i ys H' → SqL K H' a xs)
    (h0 : ∀ D, H D = none → ∀ o, S 0 [] (upd H D o))
    (he : ∀ i x H1 D acc, xs[i]? = some x → acc.length ≤ i → H1 D = some (.lst acc) → S i acc H1 → (∀ o, S i acc (upd H1 D o)) →
      tt ((wipe σ vs).set j (some x)) H1 fun b H2 => if b = true then te ((wipe σ vs).set j (some x)) H2 (fun y H3 => CmY S D i y H3) else CmP S D (i + 1) H2)
    (q : ∀ D H1 ys, H D = none → H1 D = some (.lst ys) → S xs.length ys H1 → (∀ o, S xs.length ys (upd H1 D o)) → Q (.ref D) H1) : rLc (Itl K a) (gName j) tt te vs σ Q H := fun D hD => by
  have at1 : ∀ {i : Nat} {ys : List V} {H' : Hp}, (∀ o, S i ys (upd H' D o)) → H' D = some (.lst ys) → S i ys H' := fun {i ys H'} h e => by
    have z := h (.lst ys)
    rw [upd_id e] at z
    exact z
  refine lc_list (K := K) (a := a) (xs := xs) (fun i H' => CmP S D i H') ⟨[], Nat.le_refl _, fun o => by rw [upd_upd]; exact h0 D hD o, upd_same⟩ (fun i H' _ p => ?_) (fun i x H' hx p => ⟨hw x, ?_⟩) (fun H' p => ?_)
  · obtain ⟨ys, h1, h2, h3⟩ := p
    exact hl i ys H' (at1 h2 h3)
  · obtain ⟨ys, h1, h2, h3⟩ := p
    exact he i x H' D ys hx h1 h3 (at1 h2 h3) h2
  · obtain ⟨ys, h1, h2, h3⟩ := p
    exact q D H' ys hD h3 (at1 h2 h3) h2
end
/-- xs[:-1] -/
theorem cut_init (xs : List V) (x : V) : cutV (xs ++ [x]) none (some (-1)) = xs := by
  unfold cutV
  rw [HT.sIx_none, List.drop_zero, Nat.sub_zero]
  have e : HT.sIx (xs ++ [x]).length (xs ++ [x]).length (some (-1)) = xs.length := by
    rw [List.length_append]
    show (if (-1 : Int) < 0 then ((-1 : Int) + ((xs.length + 1 : Nat) : Int)).toNat else min (-1 : Int).toNat (xs.length + 1)) = xs.length
    rw [if_pos (by decide)]
    omega
  rw [e, List.take_left']
  rfl
section
variable {K : PySem.W.Frag} {H : Hp} {Q : VK} {a b : Addr} {xs ys : List V} {ws : List (List Int)} {x : Str}
theorem same_neS (q : Q (.bl false) H) : rNeU K (.str x) (.str x) H Q := r_neS (by rw [decide_eq_true (rfl : x = x)]; exact q)
theorem same_eqS (q : Q (.bl true) H) : rEqU K (.str x) (.str x) H Q := r_eqS (by rw [decide_eq_true (rfl : x = x)]; exact q)
theorem same_neW (ha : SqL K H a xs) (wa : WkA K H xs ws) (hb : SqL K H b ys) (wb : WkA K H ys ws) (q : Q (.bl false) H) : rNeU K (.ref a) (.ref b) H Q :=
  r_neW ha wa hb wb (by rw [decide_eq_true (rfl : ws = ws)]; exact q)
theorem same_eqW (ha : SqL K H a xs) (wa : WkA K H xs ws) (hb : SqL K H b ys) (wb : WkA K H ys ws) (q : Q (.bl true) H) : rEqU K (.ref a) (.ref b) H Q :=
  r_eqW ha wa hb wb (by rw [decide_eq_true (rfl : ws = ws)]; exact q)
end
theorem ex_none {H H1 : Hp} {D : Addr} (h : ∀ o, Ex H (upd H1 D o)) : H D = none := by
  cases e : H D with
  | none => rfl
  | some u =>
    have h1 := h (.lst []) D u e
    have h2 := h (.tup []) D u e
    rw [upd_same] at h1 h2
    rw [← h1] at h2
    cases h2
theorem ex_put {H H1 : Hp} {D : Addr} {o : HO} (e : Ex H H1) (h : H D = none) : Ex H (upd H1 D o) := fun a u q => by
  rw [upd_ne (ne_of_none q h)]
  exact e a u q
theorem WkA.init {K : PySem.W.Frag} {H : Hp} {xs : List V} {ws : List (List Int)} {x : V} {w : List Int} (h : WkA K H (xs ++ [x]) (ws ++ [w])) : WkA K H xs ws := by
  have e : xs.length = ws.length := by
    have := h.len
    rw [List.length_append, List.length_append] at this
    simpa using this
  refine ⟨e, fun i y u h1 h2 => h.at' i y u ?_ ?_⟩
  · rw [List.getElem?_append_left (List.getElem?_eq_some_iff.mp h1).1]
    exact h1
  · rw [List.getElem?_append_left (List.getElem?_eq_some_iff.mp h2).1]
    exact h2
theorem WkA.split {K : PySem.W.Frag} {H : Hp} {xs : List V} {ws : List (List Int)} {w : List Int} (h : WkA K H xs (ws ++ [w])) : ∃ ys y, xs = ys ++ [y] ∧ WkA K H ys ws := by
  rcases List.eq_nil_or_concat xs with e | ⟨ys, y, e⟩
  · have := h.len
    rw [e, List.length_append] at this
    simp at this
  · rw [List.concat_eq_append] at e
    subst e
    exact ⟨ys, y, rfl, h.init⟩
end L2
/-! more rules: x *= y, x //= y, x -= y, divmod, list.index, two clauses, in -/
namespace L2
open PySem PySem.Spec PyProof.Rows Evl
section
variable {X : Cx}
theorem ip_mul : PIp X .Mult (rI CMul fun i j => .int (i * j)) := fun pins s σ H x y v u Q I r1 r2 h => iop_mul pins s σ H x y v u Q I r1 r2 h
theorem ip_fdiv : PIp X .FloorDiv (rI CDivW fun i j => .int (i / j)) := fun pins s σ H x y v u Q I r1 r2 h => iop_fdivW pins s σ H x y v u Q I r1 r2 h
def rDivm : List V → Hp → VK → Prop := fun xs H Q => ∃ i j, xs = [.int i, .int j] ∧ CDivW i j ∧ ∀ p, H p = none → Q (.ref p) (upd H p (.tup [.int (i / j), .int (i % j)]))
theorem divmod_K : CallR X (.builtin "divmod") rDivm := by
  intro pins s σ H xs us Q I r h
  obtain ⟨i, j, e, ⟨h1, h2⟩, q⟩ := h
  exact call_divmodW pins s σ H xs us Q I r ⟨i, j, e, ⟨h1, PyProof.noPylong_of_log2 h2⟩, q⟩
theorem mt_indexK (K : PySem.W.Frag) (h : X.K = K := by rfl) : MtR X "list.index" (rIndex K) := h ▸ mt_index
end
theorem idxOf_le : ∀ {ns : List Int} {m : Nat} {x : Int}, ns[m]? = some x → ns.idxOf x ≤ m
  | [], _, _, h => by simp at h
  | n :: ns, 0, x, h => by
    cases h
    rw [List.idxOf_cons_self]
    exact Nat.le_refl 0
  | n :: ns, m + 1, x, h => by
    have ih := idxOf_le (ns := ns) (m := m) (x := x) (by simpa using h)
    rw [List.idxOf_cons]
    cases n == x with
    | true => exact Nat.zero_le _
    | false => exact Nat.succ_le_succ ih
section
variable {K : PySem.W.Frag} {σ : L2.St} {H : Hp} {Q : VK} {D : Ends} {a : Addr} {ns : List Int} {x y : Int}
theorem r_augM {i : Nat} {f : Int → Int → V} {C : Int → Int → Prop} (hc : C x y) (h : D.nx (σ.set i (some (f x y))) H) : rAug i (.int x) (rI C f) D σ (.int y) H := ⟨x, y, rfl, rfl, hc, h⟩
theorem r_divm {b : Nat} (h : 0 < y) (hb : y.natAbs < 2 ^ b) (h0 : 0 < b) (h9 : b ≤ 9000) (q : ∀ p H1, H p = none → Ex H H1 → H1 p = some (.tup [.int (x / y), .int (x % y)]) → Q (.ref p) H1) : rDivm [.int x, .int y] H Q :=
  ⟨x, y, rfl, wide_div h hb h0 h9, alloc q⟩
/-- xs.index(x), a list of ints -/
theorem r_index (h : IL K H a ns) (hx : x ∈ ns) (q : Q (.int ((ns.idxOf x : Nat) : Int)) H) : rIndex K (.ref a) [.int x] H Q := by
  have hi := List.idxOf_lt_length_of_mem hx
  refine ⟨a, _, .int x, ns.idxOf x, .int x, rfl, rfl, h, rfl, ?_, ?_, ?_, fun m z' hm hz => ?_, q⟩
  · rw [List.all_eq_true]
    intro v hv
    obtain ⟨n, _, rfl⟩ := List.mem_map.mp hv
    rfl
  · rw [List.getElem?_map, List.getElem?_eq_getElem hi, List.getElem_idxOf]
    rfl
  · show decide (x = x) = true
    exact decide_eq_true rfl
  · rw [List.getElem?_map] at hz
    cases e : ns[m]? with
    | none => rw [e] at hz; cases hz
    | some n =>
      rw [e] at hz
      cases hz
      show decide (n = x) = false
      refine decide_eq_false fun e2 => ?_
      subst e2
      exact absurd (idxOf_le e) (by omega)
/-- x in xs, a list of ints -/
theorem inV_int (x : Int) (ns : List Int) : inV (.int x) (ns.map V.int) = decide (x ∈ ns) := by
  unfold inV
  induction ns with
  | nil => rfl
  | cons n ns ih =>
    rw [List.map_cons, List.any_cons, ih]
    show ((n == x) || decide (x ∈ ns)) = _
    by_cases e : n = x
    · subst e; simp
    · have e2 : ¬ x = n := fun z => e z.symm
      simp [e, e2]
theorem flat_ints (ns : List Int) : (ns.map V.int).all flatV = true := by
  rw [List.all_eq_true]
  intro v hv
  obtain ⟨n, _, rfl⟩ := List.mem_map.mp hv
  rfl
theorem r_inL (h : IL K H a ns) (q : Q (.bl (decide (x ∈ ns))) H) : rIn K false (.int x) (.ref a) H Q :=
  ⟨a, _, rfl, .inl h, rfl, flat_ints ns, by rw [if_neg (by decide), inV_int]; exact q⟩
theorem r_ninL (h : IL K H a ns) (q : Q (.bl (!decide (x ∈ ns))) H) : rIn K true (.int x) (.ref a) H Q :=
  ⟨a, _, rfl, .inl h, rfl, flat_ints ns, by rw [if_pos rfl, inV_int]; exact q⟩
end
/-! ### two clauses -/
def rLc2 (J : It) (g : TG) (tt : TT) (wi1 : TI) (g1 : TG) (tt1 : TT) (te : TE) (vs vs1 : List Nat) (σ : L2.St) (Q : VK) (H1 : Hp) : Prop := ∀ D, H1 D = none → ∃ W : Nat → Nat → Hp → Prop, (∃ m, W 0 m (upd H1 D (.lst []))) ∧ ∀ i m H, W i m H →
  (J.stop i H ∧ Q (.ref D) H) ∨ (J.go i H ∧ ∃ Nx : Hp → Prop, (∀ H', Nx H' → ∃ m', m' < m ∧ W (i + 1) m' H') ∧ ∀ x H', J.yld i H x H' → g x (wipe σ vs) H' fun σ2 H2 => wipe σ2 vs = wipe σ vs ∧ tt σ2 H2 fun b H3 =>
    if b = true then wi1 σ2 H3 fun J1 H4 => ∃ W1 : Nat → Nat → Hp → Prop, (∃ m, W1 0 m H4) ∧ ∀ j k H, W1 j k H →
      (J1.stop j H ∧ Nx H) ∨ (J1.go j H ∧ ∃ Nx1 : Hp → Prop, (∀ H', Nx1 H' → ∃ k', k' < k ∧ W1 (j + 1) k' H') ∧ ∀ x H', J1.yld j H x H' → g1 x (wipe σ2 vs1) H' fun σ3 H5 => wipe σ3 vs1 = wipe σ2 vs1 ∧ tt1 σ3 H5 fun b H6 =>
        if b = true then te σ3 H6 fun y H7 => ∃ acc, H7 D = some (.lst acc) ∧ acc.length < sizeLine ∧ Nx1 (upd H7 D (.lst (acc ++ [y]))) else Nx1 H6)
    else Nx H3)
theorem st_lc2 {wi : TI} {g : TG} {tt : TT} {wi1 : TI} {g1 : TG} {tt1 : TT} {te : TE} {vs vs1 : List Nat} {σ : L2.St} {H : Hp} {Q : VK} (h : wi σ H fun J H1 => rLc2 J g tt wi1 g1 tt1 te vs vs1 σ Q H1) : tLc2 wi g tt wi1 g1 tt1 te vs vs1 σ H Q := h
section
variable {K : PySem.W.Frag} {σ : L2.St} {H : Hp} {Q : VK} {vs vs1 : List Nat} {j j1 m : Nat} {lo : Int} {wi1 : TI} {te : TE}
theorem t_yes {R : Bool → Hp → Prop} (h : R true H) : tYes σ H R := h
def flat (f : Nat → List V) (i : Nat) : List V := (List.range i).flatMap f
theorem flat_succ (f : Nat → List V) (i : Nat) : flat f (i + 1) = flat f i ++ f i := by
  unfold flat
  rw [List.range_succ, List.flatMap_append]
  simp
/-- [e for i in range(..) for x in (.., ..)], the turns change nothing; f i: what is told at the turn i -/
theorem r_lc2R (f : Nat → List V) (hf : ∀ i, i ≤ m → (flat f i).length ≤ 10000) (hk : ∀ i, i < m → (f i).length ≤ 10000) (hw : ∀ x, wipe ((wipe σ vs).set j (some x)) vs = wipe σ vs) (hw1 : ∀ x y, wipe ((wipe ((wipe σ vs).set j (some x)) vs1).set j1 (some y)) vs1 = wipe ((wipe σ vs).set j (some x)) vs1)
    (h1 : ∀ (i : Nat) (H1 : Hp) (R : It → Hp → Prop), i < m → Ex H H1 → (∀ a H2, Ex H1 H2 → SqT K H2 a (f i) → R (Itt K a) H2) → wi1 ((wipe σ vs).set j (some (.int (lo + (i : Int))))) H1 R)
    (he : ∀ (i : Nat) (y : V) (H1 : Hp) (Q' : VK), i < m → y ∈ f i → Ex H H1 → (∀ H2, Ex H1 H2 → Q' y H2) → te ((wipe ((wipe σ vs).set j (some (.int (lo + (i : Int))))) vs1).set j1 (some y)) H1 Q')
    (q : ∀ p H1, H p = none → Ex H H1 → H1 p = some (.lst (flat f m)) → Q (.ref p) H1) : rLc2 (Itr lo m) (gName j) tYes wi1 (gName j1) tYes te vs vs1 σ Q H := fun D hD => by
  refine ⟨fun i d H' => d = m - i ∧ i ≤ m ∧ Ex H H' ∧ H' D = some (.lst (flat f i)), ⟨m, by simp, Nat.zero_le _, Ex.new hD, upd_same⟩, ?_⟩
  rintro i d H' ⟨rfl, hi, e, h⟩
  rcases Nat.lt_or_ge i m with lt | ge
  · refine .inr ⟨lt, fun H'' => Ex H H'' ∧ H'' D = some (.lst (flat f (i + 1))), fun H'' p => ⟨m - (i + 1), by omega, rfl, lt, p⟩, ?_⟩
    rintro x H'' ⟨rfl, rfl⟩
    refine ⟨hw _, t_yes ?_⟩
    dsimp only
    rw [if_pos rfl]
    refine h1 i _ _ lt e fun a H4 e4 ha => ?_
    refine ⟨fun k d H' => d = (f i).length - k ∧ k ≤ (f i).length ∧ Ex H H' ∧ SqT K H' a (f i) ∧ H' D = some (.lst (flat f i ++ (f i).take k)), ⟨(f i).length, by simp, Nat.zero_le _, e.trans e4, ha, by rw [List.take_zero, List.append_nil]; exact e4 _ _ h⟩, ?_⟩
    rintro k d H5 ⟨rfl, hk', e5, ha5, h5⟩
    rcases Nat.lt_or_ge k (f i).length with lt2 | ge2
    · have hx := List.getElem?_eq_getElem lt2
      refine .inr ⟨⟨_, _, ha5, hx⟩, fun H'' => Ex H H'' ∧ SqT K H'' a (f i) ∧ H'' D = some (.lst (flat f i ++ (f i).take (k + 1))), fun H'' p => ⟨(f i).length - (k + 1), by omega, rfl, lt2, p⟩, ?_⟩
      rintro y H6 ⟨rfl, hy⟩
      have hy' := hy _ ha5
      refine ⟨hw1 _ _, t_yes ?_⟩
      dsimp only
      rw [if_pos rfl]
      refine he i y H6 _ lt (List.mem_of_getElem? hy') e5 fun H7 e7 => ?_
      have h7 := e7 _ _ h5
      have z1 := hf i hi
      have z2 := hk i lt
      refine ⟨_, h7, sz_lt (by rw [List.length_append, List.length_take]; omega), Ex.mut (e5.trans e7) hD, ?_, ?_⟩
      · exact tx_t (TX.upd h7) (ex_t e7 ha5)
      · rw [upd_same, take_snoc hy', List.append_assoc]
    · have e2 : k = (f i).length := by omega
      subst e2
      refine .inl ⟨⟨_, ha5, Nat.le_refl _⟩, e5, ?_⟩
      rw [h5, List.take_length, flat_succ]
  · have e2 : i = m := by omega
    subst e2
    exact .inl ⟨Nat.le_refl _, q D H' hD e h⟩
end
/-! ### [e for x in ints if t], the turns change nothing -/
section
variable {K : PySem.W.Frag} {σ : L2.St} {H : Hp} {Q : VK} {a : Addr} {ns : List Int} {vs : List Nat} {j : Nat} {tt : TT} {te : TE}
theorem r_cmIF (hl : IL K H a ns) (f : Int → Bool) (v : Int → V) (hz : ns.length ≤ 10000) (hw : ∀ x, wipe ((wipe σ vs).set j (some x)) vs = wipe σ vs)
    (ht : ∀ x, x ∈ ns → ∀ (H1 : Hp) (R : Bool → Hp → Prop), Ex H H1 → (∀ H2, Ex H1 H2 → R (f x) H2) → tt ((wipe σ vs).set j (some (.int x))) H1 R)
    (he : ∀ x, x ∈ ns → f x = true → ∀ (H1 : Hp) (Q' : VK), Ex H H1 → (∀ H2, Ex H1 H2 → Q' (v x) H2) → te ((wipe σ vs).set j (some (.int x))) H1 Q')
    (q : ∀ p H1, H p = none → Ex H H1 → H1 p = some (.lst ((ns.filter f).map v)) → Q (.ref p) H1) : rLc (Itl K a) (gName j) tt te vs σ Q H := by
  refine r_cmLA (xs := ns.map V.int) (fun i acc H' => Ex H H' ∧ acc = ((ns.take i).filter f).map v) (by rw [List.length_map]; omega) hw (fun i ys H' p => ex_l p.1 hl) (fun D hD o => ⟨Ex.new hD, rfl⟩) (fun i x H1 D acc hx hz' hacc p hall => ?_) fun D H1 ys hD h p _ => ?_
  · obtain ⟨e, rfl⟩ := p
    have hD : H D = none := ex_none fun o => (hall o).1
    rw [List.getElem?_map] at hx
    cases hn : ns[i]? with
    | none => rw [hn] at hx; cases hx
    | some n =>
      rw [hn] at hx
      cases hx
      have hi := (List.getElem?_eq_some_iff.mp hn).1
      have hm := List.mem_of_getElem? hn
      have tk := take_snoc hn
      refine ht n hm H1 _ e fun H2 e2 => ?_
      cases hf : f n with
      | true =>
        refine if_T (he n hm hf H2 _ (e.trans e2) fun H3 e3 => ?_)
        refine cm_yes ((e2.trans e3) _ _ hacc) hz' (by omega) fun o => ⟨ex_put ((e.trans e2).trans e3) hD, ?_⟩
        rw [tk, List.filter_append, List.map_append, List.filter_cons_of_pos hf, List.filter_nil]
        rfl
      | false =>
        refine if_F (cm_no (e2 _ _ hacc) hz' fun o => ⟨ex_put (e.trans e2) hD, ?_⟩)
        rw [tk, List.filter_append, List.map_append, List.filter_cons_of_neg (by rw [hf]; decide), List.filter_nil, List.map_nil, List.append_nil]
  · obtain ⟨e, rfl⟩ := p
    rw [List.length_map, List.take_length] at h
    exact q D H1 hD e h
end
/-- a method of a list -/
theorem r_met {K : PySem.W.Frag} {r : V → List V → Hp → VK → Prop} {t : TA} {σ : L2.St} {a : Addr} {xs : List V} {H : Hp} {Q : VK} (h : SqL K H a xs) (q : t σ H fun us H2 => r (.ref a) us H2 Q) : rApp K "list" r t σ (.ref a) H Q := ⟨.inl ⟨rfl, xs, h⟩, q⟩
/-- draws from up to 2 ^ 220 -/
def spTakeW : Sp := fun vs H Q _ => ∃ w n m, vs = [.ref w, .int m] ∧ 0 < m ∧ m < 2 ^ 220 ∧ Well H w n ∧ n < 2 ^ 30 ∧ ∀ r H', 0 ≤ r → r < m → ExW w H H' → Well H' w (n + 1) → Q (.int r) H'
/-- the last of a sequence, as a sequence -/
theorem cut_last {ns : List Int} : cutV (ns.map V.int) (some (-1)) none = (ns.drop (ns.length - 1)).map V.int := by
  rw [cut_map, HT.sIx_none]
  have e : HT.sIx ns.length 0 (some (-1)) = ns.length - 1 := by
    show (if (-1 : Int) < 0 then ((-1 : Int) + (ns.length : Int)).toNat else min (-1 : Int).toNat ns.length) = ns.length - 1
    rw [if_pos (by decide)]
    omega
  rw [e, List.take_of_length_le (by rw [List.length_drop]; exact Nat.le_refl _)]
/-! ### ranges downward -/
section
variable {σ : L2.St} {H : Hp} {D : Ends} {g : TG} {tb : TS} {ta : TA} {R : It → Hp → Prop} {i j lo c : Int} {m : Nat}
def rRng3 (vs : List V) (R : It → Hp → Prop) (H1 : Hp) : Prop := ∃ (i j c : Int) (n : Nat), vs = [.int i, .int j, .int c] ∧ RgC i j c n ∧ R (Itc i c n) H1
theorem st_rng3 (h : ta σ H fun us H1 => rRng3 us R H1) : iRng3 ta σ H R := h
theorem r_rngD (h : -(2 ^ 62) ≤ i ∧ i < 2 ^ 62 ∧ -(2 ^ 62) ≤ j ∧ j < 2 ^ 62) (q : R (Itc i (-1) (i - j).toNat) H) : rRng3 [.int i, .int j, .int (-1)] R H := ⟨i, j, -1, _, rfl, RgC.neg h.1 h.2.1 h.2.2.1 h.2.2.2, q⟩
theorem r_forC (Pv : Nat → L2.St → Hp → Prop) (h0 : Pv 0 σ H) (hs : ∀ i σ' H', i < m → Pv i σ' H' → g (.int (lo + (i : Nat) * c)) σ' H' fun σ2 H2 => tb { D with nx := Pv (i + 1), ct := Pv (i + 1), bk := D.nx } σ2 H2)
    (hd : ∀ σ' H', Pv m σ' H' → D.nx σ' H') : rFor (Itc lo c m) g tb D σ H := for_rangeC (lo := lo) (c := c) (n := m) Pv h0 hs hd
end
/-! ### the same over a tuple -/
section
variable {K : PySem.W.Frag} {σ : L2.St} {H : Hp} {Q : VK} {a : Addr} {xs : List V} {ns : List Int} {vs : List Nat} {j : Nat} {tt : TT} {te : TE}
theorem r_cmTA (S : Nat → List V → Hp → Prop) (hz : xs.length ≤ 100000) (hw : ∀ x, wipe ((wipe σ vs).set j (some x)) vs = wipe σ vs) (hl : ∀ i ys H', S i ys H' → SqT K H' a xs)
    (h0 : ∀ D, H D = none → ∀ o, S 0 [] (upd H D o))
    (he : ∀ i x H1 D acc, xs[i]? = some x → acc.length ≤ i → H1 D = some (.lst acc) → S i acc H1 → (∀ o, S i acc (upd H1 D o)) →
      tt ((wipe σ vs).set j (some x)) H1 fun b H2 => if b = true then te ((wipe σ vs).set j (some x)) H2 (fun y H3 => CmY S D i y H3) else CmP S D (i + 1) H2)
    (q : ∀ D H1 ys, H D = none → H1 D = some (.lst ys) → S xs.length ys H1 → (∀ o, S xs.length ys (upd H1 D o)) → Q (.ref D) H1) : rLc (Itt K a) (gName j) tt te vs σ Q H := fun D hD => by
  have at1 : ∀ {i : Nat} {ys : List V} {H' : Hp}, (∀ o, S i ys (upd H' D o)) → H' D = some (.lst ys) → S i ys H' := fun {i ys H'} h e => by
    have z := h (.lst ys)
    rw [upd_id e] at z
    exact z
  refine lc_tup (K := K) (a := a) (xs := xs) (fun i H' => CmP S D i H') ⟨[], Nat.le_refl _, fun o => by rw [upd_upd]; exact h0 D hD o, upd_same⟩ (fun i H' _ p => ?_) (fun i x H' hx p => ⟨hw x, ?_⟩) (fun H' p => ?_)
  · obtain ⟨ys, h1, h2, h3⟩ := p
    exact hl i ys H' (at1 h2 h3)
  · obtain ⟨ys, h1, h2, h3⟩ := p
    exact he i x H' D ys hx h1 h3 (at1 h2 h3) h2
  · obtain ⟨ys, h1, h2, h3⟩ := p
    exact q D H' ys hD h3 (at1 h2 h3) h2
theorem r_cmIFt (hl : IT K H a ns) (f : Int → Bool) (v : Int → V) (hz : ns.length ≤ 10000) (hw : ∀ x, wipe ((wipe σ vs).set j (some x)) vs = wipe σ vs)
    (ht : ∀ x, x ∈ ns → ∀ (H1 : Hp) (R : Bool → Hp → Prop), Ex H H1 → (∀ H2, Ex H1 H2 → R (f x) H2) → tt ((wipe σ vs).set j (some (.int x))) H1 R)
    (he : ∀ x, x ∈ ns → f x = true → ∀ (H1 : Hp) (Q' : VK), Ex H H1 → (∀ H2, Ex H1 H2 → Q' (v x) H2) → te ((wipe σ vs).set j (some (.int x))) H1 Q')
    (q : ∀ p H1, H p = none → Ex H H1 → H1 p = some (.lst ((ns.filter f).map v)) → Q (.ref p) H1) : rLc (Itt K a) (gName j) tt te vs σ Q H := by
  refine r_cmTA (xs := ns.map V.int) (fun i acc H' => Ex H H' ∧ acc = ((ns.take i).filter f).map v) (by rw [List.length_map]; omega) hw (fun i ys H' p => ex_t p.1 hl) (fun D hD o => ⟨Ex.new hD, rfl⟩) (fun i x H1 D acc hx hz' hacc p hall => ?_) fun D H1 ys hD h p _ => ?_
  · obtain ⟨e, rfl⟩ := p
    have hD : H D = none := ex_none fun o => (hall o).1
    rw [List.getElem?_map] at hx
    cases hn : ns[i]? with
    | none => rw [hn] at hx; cases hx
    | some n =>
      rw [hn] at hx
      cases hx
      have hi := (List.getElem?_eq_some_iff.mp hn).1
      have hm := List.mem_of_getElem? hn
      have tk := take_snoc hn
      refine ht n hm H1 _ e fun H2 e2 => ?_
      cases hf : f n with
      | true =>
        refine if_T (he n hm hf H2 _ (e.trans e2) fun H3 e3 => ?_)
        refine cm_yes ((e2.trans e3) _ _ hacc) hz' (by omega) fun o => ⟨ex_put ((e.trans e2).trans e3) hD, ?_⟩
        rw [tk, List.filter_append, List.map_append, List.filter_cons_of_pos hf, List.filter_nil]
        rfl
      | false =>
        refine if_F (cm_no (e2 _ _ hacc) hz' fun o => ⟨ex_put (e.trans e2) hD, ?_⟩)
        rw [tk, List.filter_append, List.map_append, List.filter_cons_of_neg (by rw [hf]; decide), List.filter_nil, List.map_nil, List.append_nil]
  · obtain ⟨e, rfl⟩ := p
    rw [List.length_map, List.take_length] at h
    exact q D H1 hD e h
end
theorem at_lastV {xs : List V} {x : V} (h : 0 < xs.length) (hx : xs[xs.length - 1]? = some x) : atI xs (-1) = some x := by
  have e : ixN xs.length (-1) = some (xs.length - 1) := by
    unfold ixN
    rw [if_neg (by decide), if_pos (by omega)]
    congr 1
    omega
  unfold atI
  rw [e]
  exact hx
end L2
/-! straight walks in their order -/
namespace Od
open L2
/-- the steps of so many letters, in their order -/
def steps (L : Nat) : List Int := (List.range L).flatMap fun (i : Nat) => [(i : Int) + 1, -((i : Int) + 1)]
theorem mem_steps {L : Nat} {x : Int} : x ∈ steps L ↔ (x ≠ 0 ∧ -(L : Int) ≤ x ∧ x ≤ L) := by
  unfold steps
  rw [List.mem_flatMap]
  constructor
  · rintro ⟨i, hi, hx⟩
    have := List.mem_range.mp hi
    have e : x = (i : Int) + 1 ∨ x = -((i : Int) + 1) := by simpa using hx
    omega
  · rintro ⟨h0, h1, h2⟩
    refine ⟨x.natAbs - 1, List.mem_range.mpr (by omega), ?_⟩
    have e : x = ((x.natAbs - 1 : Nat) : Int) + 1 ∨ x = -(((x.natAbs - 1 : Nat) : Int) + 1) := by omega
    simpa using e
theorem steps_succ (L : Nat) : steps (L + 1) = steps L ++ [(L : Int) + 1, -((L : Int) + 1)] := by
  unfold steps
  rw [List.range_succ, List.flatMap_append]
  rfl
theorem steps_len : ∀ L : Nat, (steps L).length = 2 * L
  | 0 => rfl
  | L + 1 => by
    rw [steps_succ, List.length_append, steps_len L]
    rfl
theorem steps_nodup : ∀ L : Nat, (steps L).Nodup
  | 0 => List.nodup_nil
  | L + 1 => by
    rw [steps_succ, List.nodup_append]
    refine ⟨steps_nodup L, by simp; omega, fun a ha b hb => ?_⟩
    have h1 := mem_steps.mp ha
    have e : b = (L : Int) + 1 ∨ b = -((L : Int) + 1) := by simpa using hb
    omega
/-- the steps that may stand behind -/
def bh (L : Nat) (p : Option Int) : List Int := (steps L).filter fun s => decide (p ≠ some (-s))
theorem mem_bh {L : Nat} {p : Option Int} {x : Int} : x ∈ bh L p ↔ (x ∈ steps L ∧ p ≠ some (-x)) := by
  unfold bh
  rw [List.mem_filter, decide_eq_true_eq]
theorem bh_none (L : Nat) : bh L none = steps L := by
  unfold bh
  rw [List.filter_eq_self]
  intro a _
  simp
theorem bh_nodup (L : Nat) (p : Option Int) : (bh L p).Nodup := (steps_nodup L).filter _
theorem filter_one {l : List Int} (h : l.Nodup) {y : Int} (hy : y ∈ l) : (l.filter fun s => decide (s ≠ y)).length + 1 = l.length := by
  induction l with
  | nil => cases hy
  | cons a l ih =>
    rw [List.nodup_cons] at h
    by_cases e : a = y
    · subst e
      rw [List.filter_cons_of_neg (by simp), List.length_cons]
      congr 1
      rw [List.filter_eq_self.mpr]
      intro b hb
      have : b ≠ a := fun e => h.1 (e ▸ hb)
      simpa using this
    · have hy' : y ∈ l := by
        rcases List.mem_cons.mp hy with z | z
        · exact absurd z.symm e
        · exact z
      rw [List.filter_cons_of_pos (by simpa using e), List.length_cons, List.length_cons, ih h.2 hy']
theorem bh_some_len {L : Nat} {x : Int} (hx : x ∈ steps L) : (bh L (some x)).length = 2 * L - 1 := by
  have h1 := mem_steps.mp hx
  have hm : -x ∈ steps L := mem_steps.mpr (by omega)
  have h2 := filter_one (steps_nodup L) hm
  rw [steps_len] at h2
  have e : bh L (some x) = (steps L).filter fun s => decide (s ≠ -x) := by
    unfold bh
    congr 1
    funext s
    congr 1
    rw [Ne, Ne, Option.some.injEq]
    exact propext ⟨fun h e => h (by omega), fun h e => h (by omega)⟩
  rw [e]
  omega
theorem at_idx {l : List Int} {x : Int} (h : x ∈ l) : l[l.idxOf x]? = some x := by
  have hi := List.idxOf_lt_length_of_mem h
  rw [List.getElem?_eq_getElem hi, List.getElem_idxOf]
/-- straight walks of the letters that may stand behind p -/
def G (L : Nat) : Option Int → List Int → Prop
  | _, [] => True
  | p, s :: w => s ∈ bh L p ∧ G L (some s) w
/-- the number of such of a length -/
def tot (L : Nat) (p : Option Int) : Nat → Nat
  | 0 => 1
  | z + 1 => (bh L p).length * (2 * L - 1) ^ z
theorem tot_some {L : Nat} {x : Int} (hx : x ∈ steps L) : ∀ z, tot L (some x) z = (2 * L - 1) ^ z
  | 0 => rfl
  | z + 1 => by
    rw [tot, bh_some_len hx, Nat.pow_succ, Nat.mul_comm]
theorem tot_none (L z : Nat) : tot L none (z + 1) = 2 * L * (2 * L - 1) ^ z := by rw [tot, bh_none, steps_len]
/-- its number among those of its length -/
def V (L : Nat) : Option Int → List Int → Nat
  | _, [] => 0
  | p, s :: w => (bh L p).idxOf s * (2 * L - 1) ^ w.length + V L (some s) w
theorem bh_steps {L : Nat} {p : Option Int} {x : Int} (h : x ∈ bh L p) : x ∈ steps L := (mem_bh.mp h).1
theorem V_lt {L : Nat} : ∀ {w : List Int} {p : Option Int}, G L p w → V L p w < tot L p w.length
  | [], _, _ => Nat.one_pos
  | s :: w, p, h => by
    have ih := V_lt h.2
    rw [tot_some (bh_steps h.1)] at ih
    have hi := List.idxOf_lt_length_of_mem h.1
    rw [V, List.length_cons, tot]
    calc (bh L p).idxOf s * (2 * L - 1) ^ w.length + V L (some s) w
        < (bh L p).idxOf s * (2 * L - 1) ^ w.length + (2 * L - 1) ^ w.length := by omega
      _ = ((bh L p).idxOf s + 1) * (2 * L - 1) ^ w.length := by rw [Nat.add_mul, Nat.one_mul]
      _ ≤ (bh L p).length * (2 * L - 1) ^ w.length := Nat.mul_le_mul_right _ hi
theorem V_inj {L : Nat} : ∀ {w u : List Int} {p : Option Int}, G L p w → G L p u → w.length = u.length → V L p w = V L p u → w = u
  | [], [], _, _, _, _, _ => rfl
  | [], _ :: _, _, _, _, h, _ => by cases h
  | _ :: _, [], _, _, _, h, _ => by cases h
  | s :: w, t :: u, p, h1, h2, hl, hv => by
    have hl' : w.length = u.length := by simpa using hl
    have a := V_lt h1.2
    have b := V_lt h2.2
    rw [tot_some (bh_steps h1.1)] at a
    rw [tot_some (bh_steps h2.1), ← hl'] at b
    rw [V, V, ← hl'] at hv
    have e1 : (bh L p).idxOf s = (bh L p).idxOf t := by
      rcases Nat.lt_trichotomy ((bh L p).idxOf s) ((bh L p).idxOf t) with h | h | h
      · have := Nat.mul_le_mul_right ((2 * L - 1) ^ w.length) (Nat.succ_le_of_lt h)
        rw [Nat.succ_mul] at this
        omega
      · exact h
      · have := Nat.mul_le_mul_right ((2 * L - 1) ^ w.length) (Nat.succ_le_of_lt h)
        rw [Nat.succ_mul] at this
        omega
    rw [e1] at hv
    have e2 : s = t := by
      have q1 := at_idx h1.1
      have q2 := at_idx h2.1
      rw [e1] at q1
      rw [q1] at q2
      exact Option.some.inj q2
    subst e2
    rw [V_inj h1.2 h2.2 hl' (by omega)]
/-- the last step, or what stands ahead -/
def lst (p : Option Int) (w : List Int) : Option Int := match w.getLast? with | some x => some x | none => p
theorem lst_nil (p : Option Int) : lst p [] = p := rfl
theorem lst_snoc (p : Option Int) (w : List Int) (s : Int) : lst p (w ++ [s]) = some s := by
  unfold lst
  rw [List.getLast?_concat]
theorem lst_cons (p : Option Int) (s : Int) (w : List Int) : lst p (s :: w) = lst (some s) w := by
  unfold lst
  cases w with
  | nil => rfl
  | cons t w => rw [List.getLast?_cons_cons]; rw [List.getLast?_eq_some_getLast (List.cons_ne_nil t w)]
theorem G_snoc {L : Nat} : ∀ {w : List Int} {p : Option Int} {s : Int}, G L p (w ++ [s]) ↔ (G L p w ∧ s ∈ bh L (lst p w))
  | [], p, s => by simp [G, lst_nil]
  | t :: w, p, s => by
    rw [List.cons_append, G, G, G_snoc, lst_cons, and_assoc]
theorem G_mem {L : Nat} : ∀ {w : List Int} {p : Option Int}, G L p w → ∀ x ∈ w, x ∈ steps L
  | [], _, _, _, h => by cases h
  | s :: w, p, h, x, hx => by
    rcases List.mem_cons.mp hx with e | hx
    · rw [e]; exact bh_steps h.1
    · exact G_mem h.2 x hx
theorem lst_mem {L : Nat} {w : List Int} {x : Int} (h : G L none w) (hx : lst none w = some x) : x ∈ steps L := by
  unfold lst at hx
  cases e : w.getLast? with
  | none => rw [e] at hx; cases hx
  | some y =>
    rw [e] at hx
    cases hx
    exact G_mem h _ (List.mem_of_getLast? e)
theorem bh_len {L : Nat} {w : List Int} (h : G L none w) : (bh L (lst none w)).length = if w = [] then 2 * L else 2 * L - 1 := by
  rcases List.eq_nil_or_concat w with e | ⟨u, x, e⟩
  · subst e
    rw [lst_nil, bh_none, steps_len, if_pos rfl]
  · rw [List.concat_eq_append] at e
    subst e
    rw [if_neg (by simp), lst_snoc, bh_some_len (G_mem h x (by simp))]
/-- by the last step -/
theorem V_snoc {L : Nat} : ∀ {w : List Int} {p : Option Int} {s : Int}, G L p (w ++ [s]) → V L p (w ++ [s]) = V L p w * (bh L (lst p w)).length + (bh L (lst p w)).idxOf s
  | [], p, s, _ => by simp [V, lst_nil]
  | t :: w, p, s, h => by
    have h' : t ∈ bh L p ∧ G L (some t) (w ++ [s]) := h
    have ih := V_snoc h'.2
    have g := (G_snoc.mp h'.2).1
    have c : (bh L (lst (some t) w)).length = 2 * L - 1 := by
      rcases List.eq_nil_or_concat w with e | ⟨u, x, e⟩
      · subst e
        rw [lst_nil, bh_some_len (bh_steps h'.1)]
      · rw [List.concat_eq_append] at e
        subst e
        rw [lst_snoc, bh_some_len (G_mem g x (by simp))]
    rw [List.cons_append, V, V, ih, lst_cons, c, List.length_append, List.length_singleton, Nat.pow_succ, Nat.add_mul, Nat.mul_assoc, Nat.add_assoc]
/-- all shorter ones -/
def S (L : Nat) : Nat → Nat
  | 0 => 0
  | z + 1 => S L z + tot L none z
def place (L : Nat) (w : List Int) : Nat := S L w.length + V L none w
theorem tot_pos {L : Nat} (hL : 0 < L) : ∀ z, 0 < tot L none z
  | 0 => Nat.one_pos
  | z + 1 => by
    rw [tot_none]
    exact Nat.mul_pos (by omega) (Nat.pow_pos (by omega))
theorem S_mono {L : Nat} {a b : Nat} (h : a ≤ b) : S L a ≤ S L b := by
  induction h with
  | refl => exact Nat.le_refl _
  | step _ ih => exact Nat.le_trans ih (Nat.le_add_right _ _)
theorem S_ge {L : Nat} (hL : 0 < L) : ∀ z, z ≤ S L z
  | 0 => Nat.le_refl _
  | z + 1 => by
    have := S_ge hL z
    have := tot_pos hL z
    rw [S]
    omega
theorem S_pow {L : Nat} : ∀ z, (2 * L - 1) ^ z ≤ S L (z + 1)
  | 0 => by simp [S, tot]
  | z + 1 => by
    rw [S, tot_none, Nat.pow_succ, Nat.mul_comm]
    have : (2 * L - 1) * (2 * L - 1) ^ z ≤ 2 * L * (2 * L - 1) ^ z := Nat.mul_le_mul_right _ (by omega)
    omega
theorem place_lt {L : Nat} {w : List Int} (h : G L none w) : place L w < S L (w.length + 1) := by
  have := V_lt h
  unfold place
  rw [S]
  omega
theorem place_ge (L : Nat) (w : List Int) : S L w.length ≤ place L w := Nat.le_add_right _ _
theorem place_len {L : Nat} {w u : List Int} (h1 : G L none w) (h2 : G L none u) (h : place L w ≤ place L u) : w.length ≤ u.length := by
  rcases Nat.lt_or_ge u.length w.length with lt | ge
  · have a := place_lt h2
    have b := place_ge L w
    have c := S_mono (L := L) (a := u.length + 1) (b := w.length) lt
    omega
  · exact ge
theorem place_inj {L : Nat} {w u : List Int} (h1 : G L none w) (h2 : G L none u) (h : place L w = place L u) : w = u := by
  have e : w.length = u.length := Nat.le_antisymm (place_len h1 h2 (Nat.le_of_eq h)) (place_len h2 h1 (Nat.le_of_eq h.symm))
  refine V_inj h1 h2 e ?_
  unfold place at h
  rw [e] at h
  omega
theorem snoc_ind {α : Type} {C : List α → Prop} (h0 : C []) (h1 : ∀ u x, C u → C (u ++ [x])) (w : List α) : C w := by
  have h : ∀ (n : Nat) (w : List α), w.length = n → C w := by
    intro n
    induction n with
    | zero =>
      intro w h
      rw [List.eq_nil_of_length_eq_zero h]
      exact h0
    | succ n ih =>
      intro w h
      rcases List.eq_nil_or_concat w with e | ⟨u, x, e⟩
      · rw [e]; exact h0
      · rw [List.concat_eq_append] at e
        subst e
        exact h1 u x (ih u (by simpa using h))
  exact h _ w rfl
/-- such walks are the straight ones -/
theorem G_of {L : Nat} : ∀ {w : List Int} , Stp L w → Fg.Str w → G L none w := by
  intro w
  refine snoc_ind (C := fun w => Stp L w → Fg.Str w → G L none w) (fun _ _ => trivial) (fun u x ih => ?_) w
  · intro h1 h2
    obtain ⟨s1, s2⟩ := Fg.str_init h2
    refine G_snoc.mpr ⟨ih (fun y hy => h1 y (List.mem_append_left _ hy)) s1, mem_bh.mpr ⟨mem_steps.mpr (h1 x (by simp)), ?_⟩⟩
    unfold lst
    cases e : u.getLast? with
    | none => simp
    | some y => rw [e] at s2; exact s2
theorem of_G {L : Nat} : ∀ {w : List Int}, G L none w → Stp L w ∧ Fg.Str w := by
  intro w
  refine snoc_ind (C := fun w => G L none w → Stp L w ∧ Fg.Str w) (fun _ => ⟨fun x hx => (nomatch hx), Fg.str_nil⟩) (fun u x ih => ?_) w
  · intro h
    obtain ⟨g, hx⟩ := G_snoc.mp h
    obtain ⟨a, b⟩ := ih g
    obtain ⟨h3, h4⟩ := mem_bh.mp hx
    refine ⟨fun y hy => ?_, Fg.str_snoc b ?_⟩
    · rcases List.mem_append.mp hy with hy | hy
      · exact a y hy
      · rw [List.mem_singleton.mp hy]
        exact mem_steps.mp h3
    · intro e
      unfold lst at h4
      rw [e] at h4
      exact h4 rfl
theorem G_take {L : Nat} {w : List Int} (h : G L none w) (i : Nat) : G L none (w.take i) := by
  obtain ⟨a, b⟩ := of_G h
  refine G_of (fun x hx => a x (List.mem_of_mem_take hx)) fun j x hj hj2 => ?_
  rw [List.getElem?_take] at hj hj2
  split at hj
  · split at hj2
    · exact b j x hj hj2
    · cases hj2
  · cases hj
theorem S_sum (L : Nat) : ∀ z : Nat, ((List.range z).map fun i => ((tot L none i : Nat) : Int)).sum = ((S L z : Nat) : Int)
  | 0 => rfl
  | z + 1 => by
    rw [List.range_succ, List.map_append, List.sum_append, S_sum L z, S, Int.natCast_add]
    simp
theorem tot_next {L : Nat} (z : Nat) : tot L none (z + 1) = tot L none z * (if z = 0 then 2 * L else 2 * L - 1) := by
  cases z with
  | zero => rw [tot_none, tot]; simp
  | succ z => rw [tot_none, tot_none, if_neg (by omega), Nat.pow_succ]; simp only [Nat.mul_assoc]
theorem tot_S {L : Nat} (h4 : L ≤ 4) (z : Nat) : tot L none z ≤ 8 * S L z + 1 := by
  cases z with
  | zero => exact Nat.le_add_left _ _
  | succ z =>
    have h1 : tot L none (z + 1) ≤ tot L none z * 8 := by
      rw [tot_next]
      exact Nat.mul_le_mul_left _ (by split <;> omega)
    have h2 : tot L none z ≤ S L (z + 1) := Nat.le_add_left _ _
    omega
/-- what is left to choose behind i of z steps -/
def left (L z i : Nat) : Nat := if i = 0 then tot L none z else (2 * L - 1) ^ (z - i)
theorem left_next {L z i : Nat} {w : List Int} (h : i < z) (g : G L none w) (hw : w.length = i) : left L z i = (bh L (lst none w)).length * left L z (i + 1) := by
  rw [bh_len g]
  unfold left
  rw [if_neg (by omega : ¬ i + 1 = 0)]
  by_cases h0 : i = 0
  · subst h0
    rw [if_pos rfl, if_pos (List.eq_nil_of_length_eq_zero hw)]
    obtain ⟨y, rfl⟩ : ∃ y, z = y + 1 := ⟨z - 1, by omega⟩
    rw [tot_none]
    rfl
  · rw [if_neg h0, if_neg (by intro e; rw [e] at hw; exact h0 hw.symm), show z - i = (z - (i + 1)) + 1 by omega, Nat.pow_succ, Nat.mul_comm]
theorem left_end (L z : Nat) : left L z z = 1 := by
  unfold left
  split
  · next h => rw [h]; rfl
  · rw [Nat.sub_self, Nat.pow_zero]
theorem left_pos {L : Nat} (hL : 0 < L) (z i : Nat) : 0 < left L z i := by
  unfold left
  split
  · exact tot_pos hL z
  · exact Nat.pow_pos (by omega)
theorem left_le {L z i : Nat} (hL : 0 < L) : left L z i ≤ tot L none z := by
  unfold left
  split
  · exact Nat.le_refl _
  · cases z with
    | zero => rw [Nat.zero_sub, Nat.pow_zero]; exact Nat.le_refl 1
    | succ z =>
      rw [tot_none]
      refine Nat.le_trans (Nat.pow_le_pow_right (by omega) (by omega : z + 1 - i ≤ z)) ?_
      exact Nat.le_mul_of_pos_left _ (by omega)
theorem bh_small {L : Nat} (h4 : L ≤ 4) (p : Option Int) : (bh L p).length ≤ 8 := by
  have h1 : (bh L p).length ≤ (steps L).length := List.length_filter_le _ _
  rw [steps_len] at h1
  omega
theorem G_at {L : Nat} {w : List Int} {i : Nat} {x : Int} (g : G L none w) (hx : w[i]? = some x) : x ∈ bh L (lst none (w.take i)) := by
  have h := G_take g (i + 1)
  rw [take_snoc hx] at h
  exact (G_snoc.mp h).2
theorem V_at {L : Nat} {w : List Int} {i : Nat} {x : Int} (g : G L none w) (hx : w[i]? = some x) : V L none (w.take (i + 1)) = V L none (w.take i) * (bh L (lst none (w.take i))).length + (bh L (lst none (w.take i))).idxOf x := by
  have h := G_take g (i + 1)
  rw [take_snoc hx] at h ⊢
  exact V_snoc h
theorem idx_filter {f : Int → Bool} : ∀ {l : List Int} {x : Int}, x ∈ l → f x = true → (l.filter f).idxOf x = ((l.take (l.idxOf x)).filter f).length
  | [], _, h, _ => by cases h
  | a :: l, x, h, hf => by
    by_cases e : a = x
    · subst e
      rw [List.filter_cons_of_pos hf, List.idxOf_cons_self, List.idxOf_cons_self]
      rfl
    · have hx : x ∈ l := by
        rcases List.mem_cons.mp h with z | z
        · exact absurd z.symm e
        · exact z
      have e2 : (a == x) = false := beq_false_of_ne e
      have ih := idx_filter hx hf
      rw [show (a :: l).idxOf x = l.idxOf x + 1 by rw [List.idxOf_cons, e2]; rfl]
      show _ = ((List.take (l.idxOf x + 1) (a :: l)).filter f).length
      rw [List.take_succ_cons]
      cases hfa : f a with
      | true =>
        rw [List.filter_cons_of_pos hfa, List.filter_cons_of_pos hfa, List.idxOf_cons, e2, List.length_cons, ← ih]
        rfl
      | false =>
        rw [List.filter_cons_of_neg (by rw [hfa]; decide), List.filter_cons_of_neg (by rw [hfa]; decide), ← ih]
theorem take_ne {w : List Int} {i : Nat} (h0 : ¬ i = 0) (hl : i < w.length) : w.take i ≠ [] := fun e => by
  have h := congrArg List.length e
  rw [List.length_take, Nat.min_eq_left (Nat.le_of_lt hl)] at h
  exact h0 h
theorem bh_pos {L : Nat} (h1 : 1 ≤ L) {w : List Int} (g : G L none w) : 0 < (bh L (lst none w)).length := by
  rw [bh_len g]
  split <;> omega
/-- the least step behind -/
theorem V_head {L : Nat} {w : List Int} {s : Int} (g : G L none w) (h : (bh L (lst none w))[0]? = some s) : G L none (w ++ [s]) ∧ V L none (w ++ [s]) = V L none w * (2 * L - 1) := by
  have hm := List.mem_of_getElem? h
  have g' : G L none (w ++ [s]) := G_snoc.mpr ⟨g, hm⟩
  refine ⟨g', ?_⟩
  have h0 : (bh L (lst none w)).idxOf s = 0 := Nat.le_zero.mp (L2.idxOf_le h)
  rw [V_snoc g', h0, Nat.add_zero, bh_len g]
  by_cases e : w = []
  · subst e
    rw [V, Nat.zero_mul, Nat.zero_mul]
  · rw [if_neg e]
/-- what is told of the end of a walk: all its digits behind are the greatest -/
def Top (L : Nat) (w : List Int) (j : Nat) : Prop := if j = 0 then V L none w + 1 = tot L none w.length else V L none w + 1 = (V L none (w.take j) + 1) * (2 * L - 1) ^ (w.length - j)
theorem top_end (L : Nat) (w : List Int) : Top L w w.length := by
  unfold Top
  split
  · next h =>
    rw [List.eq_nil_of_length_eq_zero h]
    rfl
  · rw [List.take_length, Nat.sub_self, Nat.pow_zero, Nat.mul_one]
theorem top_next {L : Nat} {w : List Int} {i : Nat} {x : Int} (g : G L none w) (hx : w[i]? = some x) (h : Top L w (i + 1)) (hi : (bh L (lst none (w.take i))).idxOf x + 1 = (bh L (lst none (w.take i))).length) : Top L w i := by
  have hl := (List.getElem?_eq_some_iff.mp hx).1
  unfold Top at h ⊢
  rw [if_neg (by omega), V_at g hx] at h
  have c := bh_len (G_take g i)
  have e1 : V L none (w.take i) * (bh L (lst none (w.take i))).length + (bh L (lst none (w.take i))).idxOf x + 1 = (V L none (w.take i) + 1) * (bh L (lst none (w.take i))).length := by
    rw [Nat.add_mul, Nat.one_mul]
    omega
  rw [e1] at h
  by_cases h0 : i = 0
  · subst h0
    rw [if_pos rfl, h]
    have c0 : (bh L (lst none (w.take 0))).length = 2 * L := by rw [c, List.take_zero, if_pos rfl]
    rw [c0, List.take_zero, V, Nat.zero_add, Nat.one_mul]
    have e2 : w.length = (w.length - (0 + 1)) + 1 := by omega
    rw [e2, tot_none]
    rfl
  · rw [if_neg h0, h]
    have c1 : (bh L (lst none (w.take i))).length = 2 * L - 1 := by
      rw [c, if_neg (take_ne h0 hl)]
    rw [c1, show w.length - i = (w.length - (i + 1)) + 1 by omega, Nat.pow_succ, Nat.mul_assoc, Nat.mul_comm (2 * L - 1)]
/-- with the next step in its place -/
theorem top_more {L : Nat} {w : List Int} {i : Nat} {x y : Int} (g : G L none w) (hx : w[i]? = some x) (h : Top L w (i + 1)) (hy : (bh L (lst none (w.take i)))[(bh L (lst none (w.take i))).idxOf x + 1]? = some y) :
    G L none (w.take i ++ [y]) ∧ V L none (w.take i ++ [y]) * (2 * L - 1) ^ (w.length - (i + 1)) = V L none w + 1 := by
  have g' : G L none (w.take i ++ [y]) := G_snoc.mpr ⟨G_take g i, List.mem_of_getElem? hy⟩
  refine ⟨g', ?_⟩
  unfold Top at h
  rw [if_neg (by omega), V_at g hx] at h
  have hlt := (List.getElem?_eq_some_iff.mp hy).1
  have hid : (bh L (lst none (w.take i))).idxOf y = (bh L (lst none (w.take i))).idxOf x + 1 := by
    have := (bh_nodup L (lst none (w.take i))).idxOf_getElem _ hlt
    rw [(List.getElem?_eq_some_iff.mp hy).2] at this
    exact this
  rw [V_snoc g', hid, h, Nat.add_assoc]
/-- the sum of what is ahead, as far as it is told -/
theorem ahead_step {L : Nat} {w : List Int} {i : Nat} {x : Int} (g : G L none w) (hx : w[i]? = some x) :
    V L none (w.take (i + 1)) * (2 * L - 1) ^ (w.length - (i + 1)) = V L none (w.take i) * (2 * L - 1) ^ (w.length - i) + (bh L (lst none (w.take i))).idxOf x * (2 * L - 1) ^ (w.length - (i + 1)) := by
  have hl := (List.getElem?_eq_some_iff.mp hx).1
  rw [V_at g hx, Nat.add_mul]
  congr 1
  by_cases h0 : i = 0
  · subst h0
    rw [List.take_zero, V, Nat.zero_mul, Nat.zero_mul, Nat.zero_mul]
  · have c1 : (bh L (lst none (w.take i))).length = 2 * L - 1 := by
      rw [bh_len (G_take g i), if_neg (take_ne h0 hl)]
    rw [c1, show w.length - i = (w.length - (i + 1)) + 1 by omega, Nat.pow_succ, Nat.mul_assoc, Nat.mul_comm (2 * L - 1)]
theorem S_le8 {L : Nat} (h4 : L ≤ 4) : ∀ z, S L z ≤ 8 ^ z ∧ tot L none z ≤ 8 ^ z
  | 0 => ⟨Nat.zero_le _, Nat.le_refl _⟩
  | z + 1 => by
    obtain ⟨a, b⟩ := S_le8 h4 z
    refine ⟨?_, ?_⟩
    · rw [S, Nat.pow_succ]
      omega
    · rw [tot_next, Nat.pow_succ]
      exact Nat.mul_le_mul b (by split <;> omega)
theorem S_lt {L : Nat} (h1 : 1 ≤ L) {a b : Nat} (h : S L a < S L b) : a < b := by
  rcases Nat.lt_or_ge a b with l | g
  · exact l
  · have := S_mono (L := L) g
    omega
theorem near {L : Nat} (h1 : 1 ≤ L) {u : List Int} (g : G L none u) {z : Nat} (h : S L z ≤ place L u + 1) : z ≤ u.length + 1 := by
  have a := place_lt g
  have b := tot_pos h1 (u.length + 1)
  have c : S L (u.length + 2) = S L (u.length + 1) + tot L none (u.length + 1) := rfl
  have := S_lt h1 (a := z) (b := u.length + 2) (by omega)
  omega
theorem place_le8 {L : Nat} (h4 : L ≤ 4) {u : List Int} (g : G L none u) : place L u + 1 ≤ 8 ^ (u.length + 1) := by
  have a := place_lt g
  have b := (S_le8 h4 (u.length + 1)).1
  omega
theorem lst_ne (u : List Int) (x : Int) : decide (lst none u ≠ some (-x)) = !decide (u.drop (u.length - 1) = [-x]) := by
  have e : lst none u = some (-x) ↔ u.drop (u.length - 1) = [-x] := by
    rcases List.eq_nil_or_concat u with e | ⟨v, y, e⟩
    · subst e
      simp [lst]
    · rw [List.concat_eq_append] at e
      subst e
      rw [lst_snoc, List.length_append]
      show some y = some (-x) ↔ List.drop (v.length + 1 - 1) (v ++ [y]) = [-x]
      rw [Nat.add_sub_cancel, List.drop_left']
      · simp
      · rfl
  by_cases h : lst none u = some (-x)
  · have h2 : ¬ (lst none u ≠ some (-x)) := fun z => z h
    rw [decide_eq_false h2, decide_eq_true (e.mp h)]
    rfl
  · have h2 : lst none u ≠ some (-x) := h
    have h3 : ¬ (u.drop (u.length - 1) = [-x]) := fun z => h (e.mpr z)
    rw [decide_eq_true h2, decide_eq_false h3]
    rfl
theorem lst_take {w : List Int} {i : Nat} {y : Int} (hy : w[i]? = some y) : lst none (w.take (i + 1)) = some y := by
  rw [take_snoc hy, lst_snoc]
/-- all of a length, as far as t * c of them -/
structure En (L z : Nat) (n : Nat) (ws : List (List Int)) : Prop where
  len : ws.length = n
  at' : ∀ q w, ws[q]? = some w → G L none w ∧ w.length = z ∧ V L none w = q
theorem en_step {L z t : Nat} {ws : List (List Int)} {w : List Int} (h : En L (z + 1) (t * (bh L (lst none w)).length) ws) (g : G L none w) (hz : w.length = z) (hv : V L none w = t) :
    En L (z + 1) ((t + 1) * (bh L (lst none w)).length) (ws ++ (bh L (lst none w)).map fun s => w ++ [s]) := by
  refine ⟨by rw [List.length_append, List.length_map, h.len, Nat.succ_mul], fun q u hq => ?_⟩
  rcases Nat.lt_or_ge q ws.length with lt | ge
  · rw [List.getElem?_append_left lt] at hq
    exact h.at' q u hq
  · rw [List.getElem?_append_right ge, List.getElem?_map] at hq
    cases hb : (bh L (lst none w))[q - ws.length]? with
    | none => rw [hb] at hq; cases hq
    | some s =>
      rw [hb] at hq
      cases hq
      have hlt := (List.getElem?_eq_some_iff.mp hb).1
      have hid := (bh_nodup L (lst none w)).idxOf_getElem _ hlt
      rw [(List.getElem?_eq_some_iff.mp hb).2] at hid
      have g' : G L none (w ++ [s]) := G_snoc.mpr ⟨g, List.mem_of_getElem? hb⟩
      refine ⟨g', by rw [List.length_append, hz]; rfl, ?_⟩
      rw [V_snoc g', hid, hv]
      have := h.len
      omega
/-- all to a length -/
structure Fd (L z : Nat) (ws : List (List Int)) : Prop where
  len : ws.length = S L (z + 1)
  at' : ∀ q w, ws[q]? = some w → G L none w ∧ w.length ≤ z ∧ place L w = q
theorem fd_step {L z : Nat} {ws us : List (List Int)} (h : Fd L z ws) (k : En L (z + 1) (tot L none (z + 1)) us) : Fd L (z + 1) (ws ++ us) := by
  refine ⟨by rw [List.length_append, h.len, k.len]; rfl, fun q w hq => ?_⟩
  rcases Nat.lt_or_ge q ws.length with lt | ge
  · rw [List.getElem?_append_left lt] at hq
    obtain ⟨a, b, c⟩ := h.at' q w hq
    exact ⟨a, by omega, c⟩
  · rw [List.getElem?_append_right ge] at hq
    obtain ⟨a, b, c⟩ := k.at' _ w hq
    refine ⟨a, by omega, ?_⟩
    unfold place
    rw [b, c, ← h.len]
    omega
theorem en_zero (L : Nat) : En L 0 1 [[]] := ⟨rfl, fun q w h => by
  cases q with
  | zero => cases h; exact ⟨trivial, rfl, rfl⟩
  | succ q => simp at h⟩
theorem fd_zero (L : Nat) : Fd L 0 [[]] := ⟨rfl, fun q w h => by
  cases q with
  | zero => cases h; exact ⟨trivial, Nat.le_refl _, rfl⟩
  | succ q => simp at h⟩
theorem fd_count {L z l : Nat} {ws : List (List Int)} (h : Fd L z ws) : ∀ t, t ≤ ws.length → ((ws.take t).filter fun w => decide (w.length = l)).length = min t (S L (l + 1)) - min t (S L l)
  | 0, _ => by simp
  | t + 1, ht => by
    have ih := fd_count (l := l) h t (by omega)
    have hq := List.getElem?_eq_getElem (show t < ws.length by omega)
    generalize ws[t] = w at hq
    obtain ⟨g, _, pl⟩ := h.at' t w hq
    have a := place_ge L w
    have b := place_lt g
    have s1 : S L (l + 1) = S L l + tot L none l := rfl
    rw [take_snoc hq, List.filter_append, List.length_append, ih]
    by_cases e : w.length = l
    · rw [List.filter_cons_of_pos (by simpa using e), List.filter_nil, List.length_singleton]
      subst e
      omega
    · rw [List.filter_cons_of_neg (by simpa using e), List.filter_nil, List.length_nil]
      rcases Nat.lt_or_ge w.length l with lt | ge
      · have := S_mono (L := L) (a := w.length + 1) (b := l) lt
        omega
      · have := S_mono (L := L) (a := l + 1) (b := w.length) (by omega)
        omega
theorem fd_many {L z l : Nat} {ws : List (List Int)} (h : Fd L z ws) (hl : l ≤ z) : (ws.filter fun w => decide (w.length = l)).length = tot L none l := by
  have := fd_count (l := l) h ws.length (Nat.le_refl _)
  rw [List.take_length, h.len] at this
  rw [this]
  have a := S_mono (L := L) (a := l + 1) (b := z + 1) (by omega)
  have s1 : S L (l + 1) = S L l + tot L none l := rfl
  omega
end Od
/-! walks in their order: keys, ends, shares by first and last steps -/
namespace Od
open L2
/-! ### the sequence of steps -/
def cd (x : Int) : Int := 2 * (x.natAbs : Int) + (if x < 0 then 1 else 0)
theorem cd_inj {x y : Int} (h : cd x = cd y) : x = y := by
  unfold cd at h
  split at h <;> split at h <;> omega
theorem steps_sorted : ∀ L : Nat, (steps L).Pairwise fun a b => cd a < cd b
  | 0 => List.Pairwise.nil
  | L + 1 => by
    rw [steps_succ, List.pairwise_append]
    refine ⟨steps_sorted L, ?_, fun a ha b hb => ?_⟩
    · refine List.Pairwise.cons (fun b hb => ?_) (List.pairwise_singleton _ _)
      rw [List.mem_singleton.mp hb]
      unfold cd
      rw [if_neg (by omega), if_pos (by omega)]
      omega
    · have h := mem_steps.mp ha
      have h2 : cd a ≤ 2 * (L : Int) + 1 := by
        unfold cd
        split <;> omega
      simp only [List.mem_cons, List.not_mem_nil, or_false] at hb
      rcases hb with rfl | rfl <;> (unfold cd at h2 ⊢; split <;> omega)
theorem bh_sorted (L : Nat) (p : Option Int) : (bh L p).Pairwise fun a b => cd a < cd b := (steps_sorted L).filter _
theorem idx_lt {l : List Int} (hs : l.Pairwise fun a b => cd a < cd b) {x y : Int} (hx : x ∈ l) (hy : y ∈ l) (h : cd x < cd y) : l.idxOf x < l.idxOf y := by
  have h1 := List.idxOf_lt_length_of_mem hx
  have h2 := List.idxOf_lt_length_of_mem hy
  have e1 : l[l.idxOf x] = x := List.getElem_idxOf h1
  have e2 : l[l.idxOf y] = y := List.getElem_idxOf h2
  rcases Nat.lt_trichotomy (l.idxOf x) (l.idxOf y) with k | k | k
  · exact k
  · have e3 : l[l.idxOf x] = l[l.idxOf y] := by congr 1
    rw [e1, e2] at e3
    subst e3
    omega
  · have := List.pairwise_iff_getElem.mp hs _ _ h2 h1 k
    rw [e1, e2] at this
    omega
theorem V_lex {L : Nat} : ∀ {w u : List Int} {p : Option Int}, G L p w → G L p u → w.length = u.length → HT.lexLt (w.map cd) (u.map cd) = decide (V L p w < V L p u)
  | [], [], _, _, _, _ => rfl
  | [], _ :: _, _, _, _, h => by cases h
  | _ :: _, [], _, _, _, h => by cases h
  | s :: w, t :: u, p, h1, h2, hl => by
    have hl' : w.length = u.length := by simpa using hl
    have a := V_lt h1.2
    have b := V_lt h2.2
    rw [tot_some (bh_steps h1.1)] at a
    rw [tot_some (bh_steps h2.1), ← hl'] at b
    rw [List.map_cons, List.map_cons, HT.lexLt_cons, V, V, ← hl']
    by_cases e : cd s = cd t
    · have e' := cd_inj e
      subst e'
      rw [if_pos rfl, V_lex h1.2 h2.2 hl']
      congr 1
      exact propext ⟨fun h => by omega, fun h => by omega⟩
    · rw [if_neg e]
      congr 1
      refine propext ⟨fun h => ?_, fun h => ?_⟩
      · have k := idx_lt (bh_sorted L p) h1.1 h2.1 h
        have := Nat.mul_le_mul_right ((2 * L - 1) ^ w.length) (Nat.succ_le_of_lt k)
        rw [Nat.succ_mul] at this
        omega
      · rcases Int.lt_trichotomy (cd s) (cd t) with z | z | z
        · exact z
        · exact absurd z e
        · have k := idx_lt (bh_sorted L p) h2.1 h1.1 z
          have := Nat.mul_le_mul_right ((2 * L - 1) ^ w.length) (Nat.succ_le_of_lt k)
          rw [Nat.succ_mul] at this
          omega
/-- what the keys of two walks say -/
theorem key_place {L : Nat} {w u : List Int} (h1 : G L none w) (h2 : G L none u) :
    (if (w.length : Int) = (u.length : Int) then (if w.map cd = u.map cd then false else HT.lexLt (w.map cd) (u.map cd)) else decide ((w.length : Int) < (u.length : Int))) = decide (place L w < place L u) := by
  by_cases e : w.length = u.length
  · rw [if_pos (by omega), V_lex h1 h2 e]
    unfold place
    rw [e]
    by_cases e2 : w.map cd = u.map cd
    · rw [if_pos e2]
      have e3 := V_lex h1 h2 e
      rw [e2] at e3
      have e4 : HT.lexLt (u.map cd) (u.map cd) = false := by
        rw [V_lex h2 h2 rfl]
        exact decide_eq_false (Nat.lt_irrefl _)
      rw [e4] at e3
      have := of_decide_eq_false e3.symm
      exact (decide_eq_false (by omega)).symm
    · rw [if_neg e2]
      congr 1
      exact propext ⟨fun h => by omega, fun h => by omega⟩
  · rw [if_neg (by omega)]
    congr 1
    refine propext ⟨fun h => ?_, fun h => ?_⟩
    · rcases Nat.lt_or_ge (place L w) (place L u) with k | k
      · exact k
      · have := place_len h2 h1 k
        omega
    · have := place_len h1 h2 (Nat.le_of_lt h)
      omega
/-! ### the length and the first step of a walk by its number -/
theorem len_of {L : Nat} {u : List Int} {n : Nat} (g : G L none u) (h1 : S L n ≤ place L u) (h2 : place L u < S L (n + 1)) : u.length = n := by
  have a := place_lt g
  have b := place_ge L u
  rcases Nat.lt_trichotomy u.length n with h | h | h
  · have := S_mono (L := L) (a := u.length + 1) (b := n) h
    omega
  · exact h
  · have := S_mono (L := L) (a := n + 1) (b := u.length) h
    omega
theorem head_of {L : Nat} {s : Int} {u : List Int} {k r : Nat} (g : G L none (s :: u)) (h : V L none (s :: u) = k * (2 * L - 1) ^ u.length + r) (hr : r < (2 * L - 1) ^ u.length) : (steps L)[k]? = some s := by
  have a := V_lt g.2
  rw [tot_some (bh_steps g.1)] at a
  rw [V] at h
  have e : (bh L none).idxOf s = k := by
    rcases Nat.lt_trichotomy ((bh L none).idxOf s) k with q | q | q
    · have := Nat.mul_le_mul_right ((2 * L - 1) ^ u.length) (Nat.succ_le_of_lt q)
      rw [Nat.succ_mul] at this
      omega
    · exact q
    · have := Nat.mul_le_mul_right ((2 * L - 1) ^ u.length) (Nat.succ_le_of_lt q)
      rw [Nat.succ_mul] at this
      omega
  have z := at_idx g.1
  rw [e, bh_none] at z
  exact z
/-! ### the first and the last walk of a length -/
theorem one_in {L : Nat} (h : 1 ≤ L) : (1 : Int) ∈ steps L := mem_steps.mpr ⟨by decide, by omega, by omega⟩
theorem low_in {L : Nat} (h : 1 ≤ L) : (-(L : Int)) ∈ steps L := mem_steps.mpr ⟨by omega, by omega, by omega⟩
theorem idx_zero {l : List Int} {x : Int} (hs : l.Pairwise fun a b => cd a < cd b) (hx : x ∈ l) (h : ∀ y ∈ l, cd x ≤ cd y) : l.idxOf x = 0 := by
  cases l with
  | nil => cases hx
  | cons y l =>
    by_cases e : y = x
    · subst e
      simp
    · have h1 := h y List.mem_cons_self
      rcases List.mem_cons.mp hx with hx | hx
      · exact absurd hx.symm e
      · have := (List.pairwise_cons.mp hs).1 x hx
        omega
theorem idx_last {l : List Int} {x : Int} (hs : l.Pairwise fun a b => cd a < cd b) (hx : x ∈ l) (h : ∀ y ∈ l, cd y ≤ cd x) : l.idxOf x + 1 = l.length := by
  have h1 := List.idxOf_lt_length_of_mem hx
  have e1 : l[l.idxOf x] = x := List.getElem_idxOf h1
  rcases Nat.lt_or_ge (l.idxOf x + 1) l.length with k | k
  · have := List.pairwise_iff_getElem.mp hs _ _ h1 k (Nat.lt_succ_self _)
    have h2 := h _ (List.getElem_mem k)
    rw [e1] at this
    omega
  · omega
theorem cd_one {L : Nat} {y : Int} (h : y ∈ steps L) : cd 1 ≤ cd y := by
  have := mem_steps.mp h
  unfold cd
  split <;> split <;> omega
theorem cd_low {L : Nat} (hL : 1 ≤ L) {y : Int} (h : y ∈ steps L) : cd y ≤ cd (-(L : Int)) := by
  have := mem_steps.mp h
  unfold cd
  split <;> split <;> omega
theorem ones {L : Nat} (hL : 1 ≤ L) : ∀ (n : Nat) (p : Option Int), p ≠ some (-1) → G L p (List.replicate n 1) ∧ V L p (List.replicate n 1) = 0
  | 0, p, _ => ⟨trivial, rfl⟩
  | n + 1, p, hp => by
    have ih := ones hL n (some 1) (by decide)
    have hm : (1 : Int) ∈ bh L p := mem_bh.mpr ⟨one_in hL, hp⟩
    rw [List.replicate_succ]
    refine ⟨⟨hm, ih.1⟩, ?_⟩
    rw [V, ih.2, idx_zero (bh_sorted L p) hm fun y hy => cd_one (bh_steps hy), Nat.zero_mul]
theorem lows {L : Nat} (hL : 1 ≤ L) : ∀ (n : Nat) (p : Option Int), p ≠ some (L : Int) → G L p (List.replicate n (-(L : Int))) ∧ V L p (List.replicate n (-(L : Int))) + 1 = tot L p n
  | 0, p, _ => ⟨trivial, rfl⟩
  | n + 1, p, hp => by
    have ih := lows hL n (some (-(L : Int))) (by
      intro e
      have := Option.some.inj e
      omega)
    have hm : (-(L : Int)) ∈ bh L p := mem_bh.mpr ⟨low_in hL, by rw [Int.neg_neg]; exact hp⟩
    have hi := idx_last (bh_sorted L p) hm fun y hy => cd_low hL (bh_steps hy)
    rw [List.replicate_succ]
    refine ⟨⟨hm, ih.1⟩, ?_⟩
    have e := ih.2
    rw [tot_some (low_in hL)] at e
    rw [V, Nat.add_assoc, e, List.length_replicate, tot, ← hi]
    exact (Nat.succ_mul ((bh L p).idxOf (-(L : Int))) ((2 * L - 1) ^ n)).symm
theorem place_ones {L : Nat} (hL : 1 ≤ L) (n : Nat) : G L none (List.replicate n 1) ∧ place L (List.replicate n 1) = S L n := by
  have h := ones hL n none (by simp)
  refine ⟨h.1, ?_⟩
  unfold place
  rw [h.2, List.length_replicate, Nat.add_zero]
theorem place_lows {L : Nat} (hL : 1 ≤ L) (n : Nat) : G L none (List.replicate n (-(L : Int))) ∧ place L (List.replicate n (-(L : Int))) + 1 = S L (n + 1) := by
  have h := lows hL n none (by simp)
  refine ⟨h.1, ?_⟩
  unfold place
  rw [List.length_replicate, Nat.add_assoc, h.2, S]
/-! ### with a first and a last step -/
/-- how many of n + 1 steps have the first one f and the last one s -/
def bt (L : Nat) (f : Int) : Nat → Int → Int
  | 0, s => if s = f then 1 else 0
  | n + 1, s => (((2 * L - 1) ^ n : Nat) : Int) - bt L f n (-s)
theorem bt_neg (L : Nat) (f : Int) : ∀ (n : Nat) (s : Int), bt L (-f) n (-s) = bt L f n s
  | 0, s => by
    unfold bt
    by_cases h : s = f
    · rw [if_pos h, if_pos (by omega)]
    · rw [if_neg h, if_neg (by omega)]
  | n + 1, s => by rw [bt, bt, bt_neg L f n (-s)]
theorem bt_symm (L : Nat) : ∀ (n : Nat) (f s : Int), bt L f n s = bt L s n f
  | 0, f, s => by
    unfold bt
    by_cases h : s = f
    · rw [if_pos h, if_pos h.symm]
    · rw [if_neg h, if_neg fun z => h z.symm]
  | n + 1, f, s => by
    rw [bt, bt, bt_symm L n f (-s)]
    have e := bt_neg L s n (-f)
    rw [Int.neg_neg] at e
    rw [e]
theorem bt_range {L : Nat} (hL : 1 ≤ L) (f : Int) : ∀ (n : Nat) (s : Int), 0 ≤ bt L f n s ∧ bt L f n s ≤ (((2 * L - 1) ^ n : Nat) : Int)
  | 0, s => by
    unfold bt
    split <;> simp
  | n + 1, s => by
    have ih := bt_range hL f n (-s)
    have e : (((2 * L - 1) ^ n : Nat) : Int) ≤ (((2 * L - 1) ^ (n + 1) : Nat) : Int) := by
      rw [Nat.pow_succ]
      have := Nat.le_mul_of_pos_right ((2 * L - 1) ^ n) (by omega : 0 < 2 * L - 1)
      omega
    rw [bt]
    omega
theorem sum_neg (g : Int → Int) : ∀ L : Nat, ((steps L).map fun s => g (-s)).sum = ((steps L).map g).sum
  | 0 => rfl
  | L + 1 => by
    rw [steps_succ, List.map_append, List.map_append, List.sum_append, List.sum_append, sum_neg g L]
    simp only [List.map_cons, List.map_nil, List.sum_cons, List.sum_nil, Int.neg_neg]
    omega
theorem sum_sub (g h : Int → Int) : ∀ l : List Int, (l.map fun s => g s - h s).sum = (l.map g).sum - (l.map h).sum
  | [] => rfl
  | x :: l => by
    simp only [List.map_cons, List.sum_cons]
    rw [sum_sub g h l]
    omega
theorem sum_const (c : Int) : ∀ l : List Int, (l.map fun _ => c).sum = (l.length : Int) * c
  | [] => by simp
  | x :: l => by
    simp only [List.map_cons, List.sum_cons, List.length_cons]
    rw [sum_const c l, show (((l.length + 1 : Nat)) : Int) = (l.length : Int) + 1 by omega, Int.add_mul, Int.one_mul, Int.add_comm]
theorem sum_mul (c : Int) (g : Int → Int) : ∀ l : List Int, (l.map fun s => g s * c).sum = (l.map g).sum * c
  | [] => by simp
  | x :: l => by
    simp only [List.map_cons, List.sum_cons]
    rw [sum_mul c g l, Int.add_mul]
theorem sum_pick (g : Int → Int) {x : Int} : ∀ {l : List Int}, l.Nodup → x ∈ l → (l.map fun s => g s * (if x = s then 1 else 0)).sum = g x
  | y :: l, hn, h => by
    simp only [List.map_cons, List.sum_cons]
    have hn' := List.nodup_cons.mp hn
    by_cases e : x = y
    · subst e
      have z : (l.map fun s => g s * (if x = s then 1 else 0)).sum = 0 := by
        rw [List.map_congr_left (g := fun _ => 0) fun s hs => by rw [if_neg (fun q => hn'.1 (by rw [q]; exact hs)), Int.mul_zero], sum_const, Int.mul_zero]
      rw [z, if_pos rfl]
      omega
    · rw [if_neg e, sum_pick g hn'.2 ((List.mem_cons.mp h).resolve_left e)]
      omega
theorem sum_bt {L : Nat} {f : Int} (hf : f ∈ steps L) : ∀ n, ((steps L).map (bt L f n)).sum = (((2 * L - 1) ^ n : Nat) : Int)
  | 0 => by
    have e := sum_pick (fun _ => 1) (steps_nodup L) hf
    have e2 : ((steps L).map (bt L f 0)) = ((steps L).map fun s => (fun _ => (1 : Int)) s * (if f = s then 1 else 0)) := by
      refine List.map_congr_left fun s _ => ?_
      show (if s = f then (1 : Int) else 0) = 1 * (if f = s then 1 else 0)
      by_cases q : s = f
      · rw [if_pos q, if_pos q.symm]; rfl
      · rw [if_neg q, if_neg fun z => q z.symm]; rfl
    rw [e2, e]
    rfl
  | n + 1 => by
    have hL : 1 ≤ L := by
      have := mem_steps.mp hf
      omega
    have e : ((steps L).map (bt L f (n + 1))) = (steps L).map fun s => (fun _ => (((2 * L - 1) ^ n : Nat) : Int)) s - (fun s => bt L f n (-s)) s := rfl
    rw [e, sum_sub, sum_const, sum_neg (bt L f n), sum_bt hf n, steps_len, Nat.pow_succ, Int.natCast_mul ((2 * L - 1) ^ n), show ((2 * L : Nat) : Int) = ((2 * L - 1 : Nat) : Int) + 1 by omega, Int.add_mul, Int.one_mul, Int.mul_comm (((2 * L - 1 : Nat)) : Int)]
    omega
theorem bt_join {L : Nat} {f l : Int} (hf : f ∈ steps L) (a : Nat) : ∀ (b : Nat) (l : Int), l ∈ steps L → ((steps L).map fun s => bt L f a s * bt L s b l).sum = bt L f (a + b) l
  | 0, l, hl => sum_pick (bt L f a) (steps_nodup L) hl
  | b + 1, l, hl => by
    have hl' : -l ∈ steps L := by
      have := mem_steps.mp hl
      exact mem_steps.mpr (by omega)
    have ih := bt_join (l := l) hf a b (-l) hl'
    have e : ((steps L).map fun s => bt L f a s * bt L s (b + 1) l) = (steps L).map fun s => (fun s => bt L f a s * (((2 * L - 1) ^ b : Nat) : Int)) s - (fun s => bt L f a s * bt L s b (-l)) s := by
      refine List.map_congr_left fun s _ => ?_
      show bt L f a s * ((((2 * L - 1) ^ b : Nat) : Int) - bt L s b (-l)) = _
      rw [Int.mul_sub]
    rw [e, sum_sub, ih, sum_mul, sum_bt hf a, ← Int.natCast_mul, ← Nat.pow_add]
    rfl
end Od
/-! walks turned: words that commute, cores and their rotations, all that turns one walk into another -/
namespace Fg
theorem rep_comm (u : Wk) : ∀ k, rep k u ++ u = u ++ rep k u
  | 0 => (List.append_nil u).symm
  | k + 1 => (congrArg (· ++ u) (rep_comm u k)).trans (List.append_assoc _ _ _)
theorem rep_add (u : Wk) (i : Nat) : ∀ j, rep (i + j) u = rep i u ++ rep j u
  | 0 => (List.append_nil _).symm
  | j + 1 => by
    show rep (i + j) u ++ u = rep i u ++ (rep j u ++ u)
    rw [rep_add u i j, List.append_assoc]
theorem rep_mul (u : Wk) (j : Nat) : ∀ i, rep i (rep j u) = rep (j * i) u
  | 0 => rfl
  | i + 1 => by
    show rep i (rep j u) ++ rep j u = rep (j * i + j) u
    rw [rep_mul u j i, rep_add]
theorem rep_take (u : Wk) {k : Nat} (h : 0 < k) : (rep k u).take u.length = u := by
  obtain ⟨j, rfl⟩ : ∃ j, k = j + 1 := ⟨k - 1, by omega⟩
  show (rep j u ++ u).take _ = _
  rw [rep_comm, List.take_left']
  rfl
theorem comm_words : ∀ (n : Nat) (x y : Wk), x.length + y.length ≤ n → x ++ y = y ++ x → ∃ e i j, x = rep i e ∧ y = rep j e := by
  intro n
  induction n with
  | zero =>
    intro x y h _
    exact ⟨[], 0, 0, List.length_eq_zero_iff.mp (by omega), List.length_eq_zero_iff.mp (by omega)⟩
  | succ n ih =>
    intro x y hl h
    by_cases hx : x = []
    · exact ⟨y, 0, 1, hx, (rep_one y).symm⟩
    by_cases hy : y = []
    · exact ⟨x, 1, 0, (rep_one x).symm, hy⟩
    have px := List.length_pos_iff.mpr hx
    have py := List.length_pos_iff.mpr hy
    rcases Nat.le_total x.length y.length with le | le
    · have e : x = y.take x.length := by
        have := congrArg (List.take x.length) h
        rwa [List.take_left' rfl, List.take_append_of_le_length le] at this
      obtain ⟨y2, hy2⟩ : ∃ y2, y = x ++ y2 := ⟨y.drop x.length, by conv => lhs; rw [← List.take_append_drop x.length y, ← e]⟩
      subst hy2
      rw [List.append_assoc, List.append_cancel_left_eq] at h
      obtain ⟨z, i, j, h1, h2⟩ := ih x y2 (by rw [List.length_append] at hl; omega) h
      exact ⟨z, i, i + j, h1, by rw [rep_add, ← h1, ← h2]⟩
    · have e : y = x.take y.length := by
        have := congrArg (List.take y.length) h
        rw [List.take_append_of_le_length le, List.take_left' rfl] at this
        exact this.symm
      obtain ⟨x2, hx2⟩ : ∃ x2, x = y ++ x2 := ⟨x.drop y.length, by conv => lhs; rw [← List.take_append_drop y.length x, ← e]⟩
      subst hx2
      have h := h.symm
      rw [List.append_assoc, List.append_cancel_left_eq] at h
      obtain ⟨z, i, j, h1, h2⟩ := ih x2 y (by rw [List.length_append] at hl; omega) h.symm
      exact ⟨z, j + i, j, by rw [rep_add, ← h1, ← h2], h2⟩
theorem comm_rep {y m : Wk} (h : y ++ m = m ++ y) : ∀ N, y ++ rep N m = rep N m ++ y
  | 0 => List.append_nil y
  | N + 1 => by
    show y ++ (rep N m ++ m) = rep N m ++ m ++ y
    rw [← List.append_assoc, comm_rep h N, List.append_assoc, h, List.append_assoc]
theorem pre_of_comm {y m : Wk} (h : y ++ m = m ++ y) {N : Nat} (hN : y.length ≤ N * m.length) : y = (rep N m).take y.length := by
  have := congrArg (List.take y.length) (comm_rep h N)
  rwa [List.take_left' rfl, List.take_append_of_le_length (by rw [rep_len]; exact hN)] at this
theorem om_ne {m : Wk} {l : Nat} (h : Om m l) : m ≠ [] := fun z => by
  have := h.pos
  have := h.le
  rw [z] at this
  simp at this
  omega
theorem om_len {m : Wk} {l : Nat} (h : Om m l) : (m.take l).length = l := by rw [List.length_take]; exact Nat.min_eq_left h.le
theorem om_rep {m : Wk} {l : Nat} (h : Om m l) : ∃ t, 0 < t ∧ m = rep t (m.take l) := by
  have := h.le
  have := h.pos
  exact ⟨m.length / l, Nat.div_pos (by omega) (by omega), h.per.symm⟩
theorem comm_root {z m : Wk} {l : Nat} (hO : Om m l) (h : z ++ m = m ++ z) : ∃ s, z = rep s (m.take l) := by
  obtain ⟨t, t0, ht⟩ := om_rep hO
  obtain ⟨c, hc⟩ : ∃ c, m.take l = c := ⟨_, rfl⟩
  have lc : c.length = l := hc ▸ om_len hO
  rw [hc] at ht ⊢
  have l1 := hO.pos
  have cm : c ++ m = m ++ c := by rw [ht, rep_comm]
  have pm := List.length_pos_iff.mpr (om_ne hO)
  have h1 : (c ++ z) ++ m = m ++ (c ++ z) := by rw [List.append_assoc, h, ← List.append_assoc, cm, List.append_assoc]
  have h2 : (z ++ c) ++ m = m ++ (z ++ c) := by rw [List.append_assoc, cm, ← List.append_assoc, h, List.append_assoc]
  have e1 := pre_of_comm h1 (N := (c ++ z).length) (Nat.le_mul_of_pos_right _ pm)
  have e2 := pre_of_comm h2 (N := (c ++ z).length) (by rw [show (z ++ c).length = (c ++ z).length by simp; omega]; exact Nat.le_mul_of_pos_right _ pm)
  rw [show (z ++ c).length = (c ++ z).length by simp; omega] at e2
  obtain ⟨e, i, j, q1, q2⟩ := comm_words _ c z (Nat.le_refl _) (e1.trans e2.symm)
  have li : i * e.length = l := by rw [← rep_len, ← q1, lc]
  have i0 : 0 < i := Nat.pos_of_ne_zero fun z => by rw [z] at li; omega
  have pe : 0 < e.length := Nat.pos_of_ne_zero fun z => by rw [z] at li; omega
  have me : m = rep (i * t) e := by rw [ht, q1, rep_mul]
  have le : l ≤ e.length := by
    refine Nat.le_of_not_lt fun lt => hO.least _ pe lt ?_
    unfold Per
    rw [me, rep_len, Nat.mul_div_cancel _ pe, rep_take _ (Nat.mul_pos i0 t0)]
  have i1 : i = 1 := by
    refine Nat.le_antisymm (Nat.le_of_not_lt fun z => ?_) i0
    have : 2 * e.length ≤ i * e.length := Nat.mul_le_mul_right _ z
    omega
  rw [i1, rep_one] at q1
  exact ⟨j, by rw [q1]; exact q2⟩
/-! ### cores -/
structure Cyc (m : Wk) : Prop where
  str : Str m
  ends : ∀ x y, m.getLast? = some x → m.head? = some y → y ≠ -x
theorem head_bk (z : Wk) : (bk z).head? = z.getLast?.map fun x => -x := by
  unfold bk
  rw [List.head?_reverse, List.getLast?_map]
theorem last_bk (z : Wk) : (bk z).getLast? = z.head?.map fun x => -x := by
  unfold bk
  rw [List.getLast?_reverse, List.head?_map]
theorem str_len {u : Wk} (h : (rd u).length = u.length) : Str u := fun i x hx e => by
  have r := rd_out hx e (by omega)
  have := rd_len (u.take i ++ u.drop (i + 2))
  rw [r, h, List.length_append, List.length_take, List.length_drop] at this
  have := (List.getElem?_eq_some_iff.mp e).1
  omega
theorem str_not {u v : Wk} (hu : Str u) (hv : Str v) (h : ¬ Str (u ++ v)) : ∃ x y, u.getLast? = some x ∧ v.head? = some y ∧ y = -x := by
  refine Classical.byContradiction fun z => h (str_app hu hv fun x y hx hy e => z ⟨x, y, hx, hy, e⟩)
theorem str_l {u v : Wk} (h : Str (u ++ v)) : Str u := by
  have := str_take u.length h
  rwa [List.take_left' rfl] at this
theorem str_r {u v : Wk} (h : Str (u ++ v)) : Str v := by
  have := str_drop u.length h
  rwa [List.drop_left' rfl] at this
/-- where two words meet -/
theorem str_meet {u v : Wk} (h : Str (u ++ v)) : ∀ x y, u.getLast? = some x → v.head? = some y → y ≠ -x := fun x y hx hy e => by
  have pu : 0 < u.length := by
    cases u with
    | nil => cases hx
    | cons => exact Nat.succ_pos _
  rw [List.getLast?_eq_getElem?] at hx
  rw [List.head?_eq_getElem?] at hy
  refine h (u.length - 1) x (by rw [List.getElem?_append_left (by omega)]; exact hx) ?_
  rw [show u.length - 1 + 1 = u.length by omega, List.getElem?_append_right (Nat.le_refl _), Nat.sub_self, hy, e]
theorem comm_cyc {z m : Wk} (hz : Str z) (cm : Cyc m) (hm : m ≠ []) (h : rd (z ++ m) = rd (m ++ z)) : z ++ m = m ++ z ∨ bk z ++ m = m ++ bk z := by
  have two : ∀ {p q : Wk}, Str (p ++ q) → rd (p ++ q) = rd (q ++ p) → p ++ q = q ++ p := fun {p q} s e => by
    have s2 : Str (q ++ p) := str_len (by rw [← e, rd_str s, List.length_append, List.length_append, Nat.add_comm])
    rw [rd_str s, rd_str s2] at e
    exact e
  by_cases s1 : Str (z ++ m)
  · exact .inl (two s1 h)
  · obtain ⟨x, y, h1, h2, h3⟩ := str_not hz cm.str s1
    have s2 : ¬ Str (m ++ z) := fun s => s1 (by rw [← two s h.symm]; exact s)
    obtain ⟨x', y', k1, k2, k3⟩ := str_not cm.str hz s2
    refine .inr (two (str_app (str_bk hz) cm.str fun p q hp hq => ?_) ?_)
    · rw [last_bk, k2] at hp
      cases hp
      have := cm.ends x' q k1 hq
      show q ≠ -(-y')
      omega
    · have e := eqv_of_rd h
      refine rd_eq ?_
      have a := ((Eqv.refl (bk z ++ m)).app (eqv_bk z)).symm
      rw [List.append_nil] at a
      refine a.trans ?_
      have b := ((Eqv.refl (bk z)).app e.symm).app (Eqv.refl (bk z))
      rw [show bk z ++ m ++ (z ++ bk z) = bk z ++ (m ++ z) ++ bk z by simp]
      refine b.trans ?_
      have c := ((eqv_kb z).app (Eqv.refl (m ++ bk z)))
      rw [List.nil_append] at c
      rw [show bk z ++ (z ++ m) ++ bk z = bk z ++ z ++ (m ++ bk z) by simp]
      exact c
/-- a walk's parts -/
theorem core_parts {u : Wk} (h : Str u) (hn : u ≠ []) (nz : ∀ x ∈ u, x ≠ 0) : u = lead u ++ mid u ++ bk (lead u) ∧ mid u ≠ [] ∧ Cyc (mid u) := by
  have l1 := ld_le u
  have l2 := ld_str h hn
  have pu := List.length_pos_iff.mpr hn
  have tb := (take_bk_ld (u := u) (s := ld u) l1).mpr (Nat.le_refl _)
  have e : u = lead u ++ mid u ++ bk (lead u) := by
    have b : bk (lead u) = u.drop (u.length - ld u) := by
      unfold lead
      rw [tb, bk_bk]
    rw [b]
    unfold lead mid
    rw [List.append_assoc]
    conv => lhs; rw [← List.take_append_drop (ld u) u, ← List.take_append_drop (u.length - ld u - ld u) (u.drop (ld u)), List.drop_drop]
    congr 3
    omega
  have zm : (mid u).length = u.length - ld u - ld u := by
    unfold mid
    rw [List.length_take, List.length_drop]
    omega
  refine ⟨e, fun z => by rw [z] at zm; simp at zm; omega, ⟨str_take _ (str_drop _ h), fun x y hx hy => ?_⟩⟩
  have hx' : u[u.length - 1 - ld u]? = some x := by
    rw [List.getLast?_eq_getElem?, zm] at hx
    unfold mid at hx
    rw [List.getElem?_take_of_lt (by omega), List.getElem?_drop] at hx
    rw [← hx]
    congr 1
    omega
  have hy' : u[ld u]? = some y := by
    rw [List.head?_eq_getElem?] at hy
    unfold mid at hy
    rw [List.getElem?_take_of_lt (by omega), List.getElem?_drop] at hy
    exact hy
  intro e
  by_cases lt : ld u < u.length / 2
  · have := ld_end lt
    rw [mt_of hy' hx', decide_eq_true e] at this
    cases this
  · have : u.length - 1 - ld u = ld u := by omega
    rw [this, hy'] at hx'
    cases hx'
    exact nz x (List.mem_of_getElem? hy') (by omega)
theorem lead_mid_of {w a m : Wk} (hw : w = a ++ m ++ bk a) (cm : Cyc m) (hm : m ≠ []) : lead w = a ∧ mid w = m := by
  have zw : w.length = a.length + m.length + a.length := by rw [hw, List.length_append, List.length_append, bk_len]
  have pm := List.length_pos_iff.mpr hm
  have ld_a : ld w = a.length := by
    refine ld_eq (by omega) (fun j hj => ?_) fun hlt => ?_
    · obtain ⟨x, hx⟩ : ∃ x, a[j]? = some x := ⟨_, List.getElem?_eq_getElem hj⟩
      have h1 : w[j]? = some x := by rw [hw, List.append_assoc, List.getElem?_append_left hj]; exact hx
      have h2 : w[w.length - 1 - j]? = some (-x) := by
        rw [show w.length - 1 - j = (a ++ m).length + (a.length - 1 - j) by rw [List.length_append]; omega, hw, List.getElem?_append_right (Nat.le_add_right _ _), Nat.add_sub_cancel_left]
        unfold bk
        rw [List.getElem?_reverse (by rw [List.length_map]; omega), List.length_map, List.getElem?_map, show a.length - 1 - (a.length - 1 - j) = j by omega, hx]
        rfl
      rw [mt_of h1 h2]
      exact decide_eq_true (by omega)
    · have h1 : w[a.length]? = m.head? := by rw [hw, List.append_assoc, List.getElem?_append_right (Nat.le_refl _), Nat.sub_self, List.getElem?_append_left pm, List.head?_eq_getElem?]
      have h2 : w[w.length - 1 - a.length]? = m.getLast? := by
        rw [show w.length - 1 - a.length = a.length + (m.length - 1) by omega, hw, List.getElem?_append_left (by rw [List.length_append]; omega), List.getElem?_append_right (Nat.le_add_right _ _), Nat.add_sub_cancel_left, List.getLast?_eq_getElem?]
      obtain ⟨y, hy⟩ : ∃ y, m.head? = some y := by
        cases m with
        | nil => exact absurd rfl hm
        | cons y _ => exact ⟨y, rfl⟩
      obtain ⟨x, hx⟩ : ∃ x, m.getLast? = some x := ⟨_, List.getLast?_eq_some_getLast hm⟩
      rw [mt_of (h1.trans hy) (h2.trans hx)]
      exact decide_eq_false (cm.ends x y hx hy)
  unfold lead mid
  rw [ld_a]
  refine ⟨by rw [hw, List.append_assoc, List.take_left' rfl], ?_⟩
  rw [hw, List.append_assoc, List.drop_left' rfl, List.take_left' (by rw [← List.append_assoc, ← hw]; omega)]
/-! ### rotations -/
def rotn (m : Wk) (k : Nat) : Wk := m.drop k ++ m.take k
theorem rotn_len (m : Wk) (k : Nat) : (rotn m k).length = m.length := by
  unfold rotn
  rw [List.length_append, List.length_drop, List.length_take]
  omega
theorem rotn_zero (m : Wk) : rotn m 0 = m := by simp [rotn]
theorem rotn_full (m : Wk) : rotn m m.length = m := by simp [rotn]
theorem mem_rotn {m : Wk} {k : Nat} {x : Int} : x ∈ rotn m k ↔ x ∈ m := by
  unfold rotn
  rw [List.mem_append]
  conv => rhs; rw [← List.take_append_drop k m, List.mem_append]
  exact Or.comm
theorem rotn_split (p q : Wk) : rotn (p ++ q) p.length = q ++ p := by
  unfold rotn
  rw [List.drop_left' rfl, List.take_left' rfl]
theorem rotn_rotn {m : Wk} {i j : Nat} (hi : i ≤ m.length) (hj : j ≤ m.length) : ∃ k, k ≤ m.length ∧ rotn (rotn m i) j = rotn m k := by
  rcases Nat.le_total (i + j) m.length with le | ge
  · refine ⟨i + j, le, ?_⟩
    unfold rotn
    rw [List.drop_append_of_le_length (by rw [List.length_drop]; omega), List.take_append_of_le_length (by rw [List.length_drop]; omega), List.drop_drop, List.append_assoc, ← List.take_add]
  · refine ⟨i + j - m.length, by omega, ?_⟩
    have hd : (m.drop i).length = m.length - i := List.length_drop ..
    unfold rotn
    rw [List.drop_append, List.take_append, hd, List.drop_of_length_le (by omega : (m.drop i).length ≤ j), List.take_of_length_le (by omega : (m.drop i).length ≤ j), List.nil_append]
    rw [show j - (m.length - i) = i + j - m.length by omega, List.take_take, Nat.min_eq_left (by omega), ← List.append_assoc]
    congr 1
    rw [List.drop_take]
    conv => rhs; rw [← List.take_append_drop (i - (i + j - m.length)) (m.drop (i + j - m.length)), List.drop_drop]
    congr 2
    omega
theorem cyc_rotn {m : Wk} (cm : Cyc m) (k : Nat) : Cyc (rotn m k) := by
  rcases Nat.lt_or_ge k m.length with lt | ge
  · have hm : m = m.take k ++ m.drop k := (List.take_append_drop k m).symm
    have hd : m.drop k ≠ [] := fun z => by
      have := congrArg List.length z
      rw [List.length_drop] at this
      simp at this
      omega
    by_cases h0 : m.take k = []
    · unfold rotn
      rw [h0, List.append_nil]
      rw [h0, List.nil_append] at hm
      rw [← hm]
      exact cm
    · refine ⟨str_app (str_drop _ cm.str) (str_take _ cm.str) fun x y hx hy => cm.ends x y ?_ ?_, fun x y hx hy => ?_⟩
      · rw [hm, List.getLast?_append, hx]; rfl
      · rw [hm, List.head?_append, hy]; rfl
      · unfold rotn at hx hy
        rw [List.getLast?_append] at hx
        rw [List.head?_append] at hy
        refine str_meet (hm ▸ cm.str) x y ?_ ?_
        · cases hl : (m.take k).getLast? with
          | none => exact absurd (List.getLast?_eq_none_iff.mp hl) h0
          | some z => rw [hl] at hx; exact hx
        · cases hl : (m.drop k).head? with
          | none => exact absurd (List.head?_eq_none_iff.mp hl) hd
          | some z => rw [hl] at hy; exact hy
  · unfold rotn
    rw [List.drop_of_length_le ge, List.take_of_length_le ge, List.nil_append]
    exact cm
end Fg
namespace L2
open PySem PySem.Spec PyProof.Rows Evl
section
variable {X : Cx} {K : PySem.W.Frag} {σ : L2.St} {H : Hp} {Q : VK} {D : Ends}
/-- str(i), repr(i) -/
def rTxtI : List V → Hp → VK → Prop := fun xs H Q => ∃ i, xs = [.int i] ∧ i.natAbs.log2 < 1920 ∧ Q (.str (toString i)) H
theorem str_I : CallR X (.type "str") rTxtI := call_str_int
theorem repr_I : CallR X (.builtin "repr") rTxtI := SkE.call_repr_int
theorem r_txtI {i : Int} (h : i.natAbs < 2 ^ 1900) (q : Q (.str (toString i)) H) : rTxtI [.int i] H Q := ⟨i, rfl, Nat.lt_of_lt_of_le (PySem.Flt.log2_lt_of (by decide) h) (by decide), q⟩
/-- factorial(i) -/
def rFact : List V → Hp → VK → Prop := fun vs H Q => ∃ a : Int, vs = [.int a] ∧ 0 ≤ a ∧ a ≤ 20000 ∧ Q (.int ((Builtin.Math.factorialNat a.toNat : Nat) : Int)) H
theorem cr_fact : CallR X (.builtin "math.factorial") rFact := by
  intro pins s σ H vs us Q I r h
  obtain ⟨a, rfl, h0, h1, q⟩ := h
  obtain ⟨u, rfl, t, rfl⟩ := vals1 r
  exact PySem.W.mc_factorial h0 h1 fun _ => ⟨.int _, H, I.tok _, ⟨_, rfl⟩, q⟩
/-- x *= i -/
def ipMulW : TIp := fun x y H Q => ∃ i j, x = .int i ∧ y = .int j ∧ CMulW i j ∧ Q (.int (i * j)) H
theorem ip_mulW : PIp X .Mult ipMulW := by
  intro pins s σ H x y v u Q I r1 r2 h
  obtain ⟨i, j, e1, e2, hc, q⟩ := h
  subst e1; subst e2
  obtain ⟨t, rfl⟩ := r1
  obtain ⟨t', rfl⟩ := r2
  exact PySem.AutoIntOps.imul_0 ⟨.int _, H, I.tok _, ⟨_, rfl⟩, q⟩ hc.ok
theorem r_augMul {i : Nat} {x y : Int} (hc : CMulW x y) (h : D.nx (σ.set i (some (.int (x * y)))) H) : rAug i (.int x) ipMulW D σ (.int y) H := ⟨x, y, rfl, rfl, hc, h⟩
theorem st_par3 {i j l : Nat} {t : TA} (h : t σ H fun vs H1 => ∃ u v w, vs = [u, v, w] ∧ D.nx (((σ.set i (some u)).set j (some v)).set l (some w)) H1) : tPar3 i j l t D σ H := h
end
end L2
/-! dicts: what their keys are, and the rules by what is walked -/
namespace L2
open PySem PySem.Spec PyProof.Rows Evl
/-! ### list(d.values()) -/
theorem kv_vals : ∀ {kvs : List (Key × V)} {vs : List (Key × Value)}, KV kvs vs → Paired (fun (x : V) (u : Value) => RelV x u) (kvs.map (·.2)) (vs.map (·.2))
  | _, _, .nil => .nil
  | _, _, .cons h t => .cons h.2 (kv_vals t)
def rValsL : V → Hp → VK → Prop := fun x H Q => ∃ (d : Addr) (kvs : List (Key × V)), x = .ref d ∧ H d = some (.dK kvs) ∧ ∀ p, H p = none → Q (.ref p) (upd H p (.lst (kvs.map (·.2))))
def tListVals (te : TE) : TE := fun σ H Q => te σ H fun x H1 => rValsL x H1 Q
section
variable {X : Cx} {e : Expr} {te : TE} {p apos cpos pos : Pos}
theorem pe_listVals (hc : X.calm = true) (he : PE X e te) (hg : Gl X "list") (hm : X.mg "list" = none) (hv : bootBuiltins "list" = some (.type "list")) (hbase : attributeBase e "values" X.env (eval e X.env) = eval e X.env := by rfl) (hline : (apos.endLine == cpos.line) = true := by rfl)
    (hs : starEach [.Call (.Attribute e "values" apos) [] [] cpos] X.env = (false, eval (.Call (.Attribute e "values" apos) [] [] cpos) X.env) :: starEach [] X.env := by rfl) :
    PE X (.Call (.Name "list" p) [.Call (.Attribute e "values" apos) [] [] cpos] [] pos) (tListVals te) := by
  refine ⟨fun pins s σ H Q I hq => ?_⟩
  refine wpAny_Call_Name_kw (ld_blt I hg hm hv ?_)
  refine PyProof.Rows.callWith_type1 ?_ hs rfl
  rw [hs]
  show wpAny _ _ (spliced ((false, eval (.Call (.Attribute e "values" apos) [] [] cpos) X.env) :: backTo pos (starEach [] X.env))) _ _ s
  refine Calls.spliced_cons ?_
  refine wpAny_Call_method (T := "dict") (id := "dict.values") hbase rfl hline F.plainAttrs_dict F.slot_dict_values F.type_dict_values (thn (he.run pins s σ H _ I hq) fun u s1 ⟨x, H1, I1, rx, d, kvs, ex, hd, q⟩ => ?_)
  subst ex
  obtain rfl : u = Value.ref d := rx
  obtain ⟨hz, hs0, vs, kv, hdo⟩ := I1.hok d _ hd
  obtain ⟨ep, hat⟩ := hdo.dictAt
  have lk : kvs.length = vs.length := Paired.length kv
  have I2 : Inv X pins σ H1 { s1 with heap := s1.heap.push { cls := .type "dict_values", data := .fields #[.ref d] } } := I1.kept (t' := s1.toks) fun b ob q => Heap.get?_push_of_some _ q
  refine ⟨hdo.typeIs, hdo.mapOf.noDict, ?_⟩
  show wpAny _ _ (callWith cpos (.builtin "dict.values") [.ref d] [] []) _ X.xe s1
  refine method_meetsIn F.slot_dict_values F.entry_dict_values rfl (PySem.evalArgs_none ⟨rfl, hdo.typeIs, F.args_dict_values_1 _, _, meets_dict_values (mixKind X.prog X.w) d hs0, ⟨vs, hdo⟩, ?_⟩)
  refine Calls.spliced_nil ?_
  refine PySem.W.kdl_call (PySem.W.kdl_values (knd := mixKind X.prog X.w) (kvs := vs) (ep := ep) (d := d)) (I1.ok.hd hc) ⟨⟨_, Heap.get?_push_size _ rfl, rfl, rfl⟩, hat.push _⟩ (by rw [← lk]; exact hz) fun h' tk acc c hk hS hacc => ?_
  refine ⟨.ref _, _, I2.laid hk (Nat.le_refl _) (show ObjOk X.prog X.w _ _ _ (.lst (kvs.map (·.2))) from ⟨?_, acc.toList, c, ?_, ?_⟩), rfl, q _ (I2.hok.fresh (Nat.le_refl _))⟩
  · rw [List.length_map]; exact hz
  · have el : acc.toList.length = acc.size := by simp
    have kp := kv_vals kv
    refine vals_of_at (by rw [List.length_map, el, hacc.1, lk]) fun j x w h1 h2 => ?_
    obtain ⟨k, hi⟩ := hacc.2 j w (by rw [← Array.getElem?_toList]; exact h2)
    obtain ⟨y, hy, ry⟩ := LiI.paired_get kp h1
    rw [List.getElem?_map, hi] at hy
    cases hy
    exact ry
  · rw [Array.toArray_toList]; exact hS
end
/-! ### dicts with numbers for keys, in their sequence -/
def dm (l : List Int) (f : Int → V) : List (Key × V) := l.map fun s => (Sum.inl s, f s)
theorem dm_len (l : List Int) (f : Int → V) : (dm l f).length = l.length := by unfold dm; rw [List.length_map]
theorem dm_vals (l : List Int) (f : Int → V) : (dm l f).map (·.2) = l.map f := by unfold dm; rw [List.map_map]; rfl
theorem valV_dm {f : Int → V} : ∀ {l : List Int} {x : Int}, x ∈ l → valV (dm l f) (Sum.inl x) = some (f x)
  | y :: l, x, h => by
    show valV ((Sum.inl y, f y) :: dm l f) (Sum.inl x) = _
    by_cases e : y = x
    · subst e
      exact valV_pos rfl
    · rw [valV_neg (fun z => e (Sum.inl.inj z))]
      rcases List.mem_cons.mp h with h | h
      · exact absurd h.symm e
      · exact valV_dm h
theorem valV_dm_no {f : Int → V} : ∀ {l : List Int} {x : Int}, x ∉ l → valV (dm l f) (Sum.inl x) = none
  | [], _, _ => rfl
  | y :: l, x, h => by
    show valV ((Sum.inl y, f y) :: dm l f) (Sum.inl x) = _
    rw [valV_neg (fun z => h (by rw [Sum.inl.inj z]; exact List.mem_cons_self))]
    exact valV_dm_no fun z => h (List.mem_cons_of_mem _ z)
theorem putK_dm {f : Int → V} {l : List Int} {x : Int} (h : x ∈ l) (y : V) : putK (dm l f) (Sum.inl x) y = dm l fun s => if s = x then y else f s := by
  have e : ((dm l f).any fun kv => decide (kv.1 = Sum.inl x)) = true := by rw [valV_any, valV_dm h]; rfl
  unfold putK
  rw [if_pos e]
  unfold dm
  rw [List.map_map]
  refine List.map_congr_left fun s _ => ?_
  show (if (Sum.inl s : Key) = Sum.inl x then ((Sum.inl s : Key), y) else (Sum.inl s, f s)) = _
  by_cases e2 : s = x
  · rw [if_pos (by rw [e2])]
    show _ = (Sum.inl s, if s = x then y else f s)
    rw [if_pos e2]
  · rw [if_neg (fun z => e2 (Sum.inl.inj z))]
    show _ = (Sum.inl s, if s = x then y else f s)
    rw [if_neg e2]
theorem putK_dm_new {f : Int → V} {l : List Int} {x : Int} (h : x ∉ l) (y : V) : putK (dm l f) (Sum.inl x) y = dm l f ++ [(Sum.inl x, y)] := putK_new y (valV_dm_no h)
theorem dm_snoc (f : Int → V) (l : List Int) (x : Int) : dm (l ++ [x]) f = dm l f ++ [(Sum.inl x, f x)] := by unfold dm; rw [List.map_append]; rfl
def rDc (J : It) (g : TG) (tt : TT) (tk tv : TE) (vs : List Nat) (σ : L2.St) (Q : VK) (H1 : Hp) : Prop := ∀ D, H1 D = none → ∃ W : Nat → Nat → Hp → Prop, (∃ m, W 0 m (upd H1 D (.dK []))) ∧ ∀ i m H, W i m H →
  (J.stop i H ∧ Q (.ref D) H) ∨ (J.go i H ∧ ∃ Nx : Hp → Prop, (∀ H', Nx H' → ∃ m', m' < m ∧ W (i + 1) m' H') ∧ ∀ x H', J.yld i H x H' → g x (wipe σ vs) H' fun σ2 H2 => wipe σ2 vs = wipe σ vs ∧ tt σ2 H2 fun b H3 =>
    if b = true then tk σ2 H3 fun y H4 => tv σ2 H4 fun z H5 => ∃ kvs k, y = kV k ∧ H5 D = some (.dK kvs) ∧ kvs.length < sizeLine ∧ Nx (upd H5 D (.dK (putK kvs k z))) else Nx H3)
def rKeys (x : V) (R : It → Hp → Prop) (H1 : Hp) : Prop := ∃ d o, x = .ref d ∧ ((∃ kvs, H1 d = some (.frz o (.dK kvs)) ∧ R (Itk d o kvs) H1) ∨ ∃ kvs, H1 d = some (.frz o (.dT kvs)) ∧ R (Itkt d o kvs) H1)
def rLockE (t : TE) (σ : L2.St) (H : Hp) (Q : VK) : Prop := tLockE t σ H Q
def rDGet (x y : V) (H2 : Hp) (Q : VK) : Prop := ∃ a v, x = .ref a ∧ DGet H2 a y (some v) ∧ Q v H2
def rDIn (neg : Bool) (x y : V) (H2 : Hp) (Q : VK) : Prop := ∃ a o, x = .ref a ∧ DGet H2 a y o ∧ Q (.bl (if neg then !o.isSome else o.isSome)) H2
def rDPut (x y v : V) (H3 : Hp) (R : Hp → Prop) : Prop := ∃ a H4, x = .ref a ∧ DPut H3 a y v H4 ∧ R H4
def rNewD (H : Hp) (Q : VK) : Prop := ∀ p, H p = none → Q (.ref p) (upd H p (.dK []))
section
variable {K : PySem.W.Frag} {σ : L2.St} {H : Hp} {Q : VK} {D : Ends} {g : TG} {tt : TT} {wi : TI} {td ty tv tk : TE} {vs : List Nat} {a d : Addr} {j : Nat} {R : It → Hp → Prop} {ns l : List Int} {f : Int → V} {x : Int} {kvs : List (Key × V)}
theorem st_lvals (h : td σ H fun x H1 => rValsL x H1 Q) : tListVals td σ H Q := h
theorem r_lvals (h : H d = some (.dK kvs)) (q : ∀ p H1, H p = none → Ex H H1 → H1 p = some (.lst (kvs.map (·.2))) → Q (.ref p) H1) : rValsL (.ref d) H Q := ⟨d, kvs, rfl, h, alloc q⟩
theorem st_dc (h : wi σ H fun J H1 => rDc J g tt tk tv vs σ Q H1) : tDc wi g tt tk tv vs σ H Q := h
theorem st_keys (h : td σ H fun x H1 => rKeys x R H1) : iKeys td σ H R := h
theorem st_dget (h : td σ H fun x H1 => ty σ H1 fun y H2 => rDGet x y H2 Q) : tDGet td ty σ H Q := h
theorem st_din (h : ty σ H fun y H1 => td σ H1 fun x H2 => rDIn false x y H2 Q) : tDIn ty td σ H Q := h
theorem st_dnin (h : ty σ H fun y H1 => td σ H1 fun x H2 => rDIn true x y H2 Q) : tDNotIn ty td σ H Q := h
theorem st_dput (h : tv σ H fun v H1 => td σ H1 fun x H2 => ty σ H2 fun y H3 => rDPut x y v H3 fun H4 => D.nx σ H4) : sDPut td ty tv D σ H := h
theorem st_dnew (h : rNewD H Q) : tDNewK σ H Q := h
theorem r_dnew (q : ∀ p H1, H p = none → Ex H H1 → H1 p = some (.dK []) → Q (.ref p) H1) : rNewD H Q := alloc q
theorem r_dget {v : V} (h : Rd H d (.dK kvs)) (e : valV kvs (Sum.inl x) = some v) (q : Q v H) : rDGet (.ref d) (.int x) H Q := ⟨d, v, rfl, .inl ⟨kvs, Sum.inl x, h, rfl, e.symm⟩, q⟩
theorem r_dput {v : V} {R : Hp → Prop} (h : H d = some (.dK kvs)) (hz : kvs.length < 100000) (q : ∀ H1, ExW d H H1 → H1 d = some (.dK (putK kvs (Sum.inl x) v)) → R H1) : rDPut (.ref d) (.int x) v H R :=
  ⟨d, _, rfl, DPut.k (k := Sum.inl x) h (sz_lt hz), q _ ExW.upd upd_same⟩
/-- {x: e for x in ints} -/
theorem r_dcL (hl : IL K H a ns) (hn : ns.Nodup) (f : Int → V) (hz : ns.length ≤ 10000) (hw : ∀ x, wipe ((wipe σ vs).set j (some x)) vs = wipe σ vs) (hj : ∀ x, ((wipe σ vs).set j (some x))[j]? = some (some x))
    (he : ∀ x, x ∈ ns → ∀ (H1 : Hp) (Q' : VK), Ex H H1 → (∀ H2, Ex H1 H2 → Q' (f x) H2) → tv ((wipe σ vs).set j (some (.int x))) H1 Q')
    (q : ∀ p H1, H p = none → Ex H H1 → H1 p = some (.dK (dm ns f)) → Q (.ref p) H1) : rDc (Itl K a) (gName j) tYes (tVar j) tv vs σ Q H := fun D hD => by
  refine ⟨fun i d H' => d = ns.length - i ∧ i ≤ ns.length ∧ Ex H H' ∧ H' D = some (.dK (dm (ns.take i) f)), ⟨ns.length, by simp, Nat.zero_le _, Ex.new hD, upd_same⟩, ?_⟩
  rintro i d H' ⟨rfl, hi, e, h⟩
  rcases Nat.lt_or_ge i ns.length with lt | ge
  · have hx := List.getElem?_eq_getElem lt
    have hl' := ex_l e hl
    refine .inr ⟨⟨_, _, hl', by rw [List.getElem?_map, hx]; rfl⟩, fun H'' => Ex H H'' ∧ H'' D = some (.dK (dm (ns.take (i + 1)) f)), fun H'' p => ⟨ns.length - (i + 1), by omega, rfl, lt, p⟩, ?_⟩
    rintro y H6 ⟨rfl, hy⟩
    have hy' := hy _ hl'
    rw [List.getElem?_map, hx] at hy'
    cases hy'
    refine ⟨hw _, t_yes ?_⟩
    dsimp only
    rw [if_pos rfl]
    refine ⟨_, hj _, ?_⟩
    refine he _ (List.mem_of_getElem? hx) H6 _ e fun H7 e7 => ?_
    have h7 := e7 _ _ h
    refine ⟨_, Sum.inl ns[i], rfl, h7, sz_lt (by rw [dm_len, List.length_take]; omega), Ex.mut (e.trans e7) hD, ?_⟩
    have nin : ns[i] ∉ ns.take i := fun hm => by
      obtain ⟨k, hk⟩ := List.mem_iff_getElem?.mp hm
      have hki := (List.getElem?_eq_some_iff.mp hk).1
      rw [List.length_take] at hki
      rw [List.getElem?_take_of_lt (by omega)] at hk
      have := (List.getElem?_inj (by omega) hn).mp (hk.trans hx.symm)
      omega
    rw [upd_same, putK_dm_new nin, take_snoc hx, dm_snoc]
  · have e2 : i = ns.length := by omega
    subst e2
    refine .inl ⟨⟨_, ex_l e hl, by rw [List.length_map]; exact Nat.le_refl _⟩, ?_⟩
    rw [List.take_length] at h
    exact q D H' hD e h
/-- {x: e for x in d}, d a dict -/
theorem r_dcD {i0 : Nat} {f0 : Int → V} (hv : σ[i0]? = some (some (.ref d))) (hd : H d = some (.dK (dm ns f0))) (hn : ns.Nodup) (f : Int → V) (hz : ns.length ≤ 10000) (hw : ∀ x, wipe ((wipe σ vs).set j (some x)) vs = wipe σ vs) (hj : ∀ x, ((wipe σ vs).set j (some x))[j]? = some (some x))
    (he : ∀ x, x ∈ ns → ∀ (H1 : Hp) (Q' : VK), ExW d H H1 → Rd H1 d (.dK (dm ns f0)) → (∀ H2, Ex H1 H2 → Q' (f x) H2) → tv ((wipe σ vs).set j (some (.int x))) H1 Q')
    (q : ∀ p H1, H p = none → Ex H H1 → H1 p = some (.dK (dm ns f)) → Q (.ref p) H1) : tLockE (tDc (iKeys (tVar i0)) (gName j) tYes (tVar j) tv vs) σ H Q := by
  refine ⟨d, _, hd, trivial, fun od => ?_⟩
  refine ⟨_, hv, d, od, rfl, .inl ⟨dm ns f0, upd_same, fun D hD => ?_⟩⟩
  have hDd : D ≠ d := fun e => by rw [e, upd_same] at hD; cases hD
  have hD0 : H D = none := by rw [upd_ne hDd] at hD; exact hD
  have fr : (upd H d (.frz od (.dK (dm ns f0)))) d = some (.frz od (.dK (dm ns f0))) := upd_same
  have wx : ExW d H (upd H d (.frz od (.dK (dm ns f0)))) := ExW.upd
  generalize upd H d (.frz od (.dK (dm ns f0))) = H0 at hD fr wx
  refine ⟨fun i m H' => m = ns.length - i ∧ i ≤ ns.length ∧ Ex H0 H' ∧ H' D = some (.dK (dm (ns.take i) f)), ⟨ns.length, by simp, Nat.zero_le _, Ex.new hD, upd_same⟩, ?_⟩
  rintro i m H' ⟨rfl, hi, e, h⟩
  have fr' := e _ _ fr
  rcases Nat.lt_or_ge i ns.length with lt | ge
  · have hx := List.getElem?_eq_getElem lt
    refine .inr ⟨⟨fr', by rw [dm_len]; exact lt⟩, fun H'' => Ex H0 H'' ∧ H'' D = some (.dK (dm (ns.take (i + 1)) f)), fun H'' p => ⟨ns.length - (i + 1), by omega, rfl, lt, p⟩, ?_⟩
    rintro y H6 ⟨rfl, k, v, hy, rfl⟩
    unfold dm at hy
    rw [List.getElem?_map, hx] at hy
    cases hy
    refine ⟨hw _, t_yes ?_⟩
    dsimp only
    rw [if_pos rfl]
    refine ⟨_, hj _, ?_⟩
    refine he _ (List.mem_of_getElem? hx) H6 _ (wx.trans (.of e)) (.inr ⟨od, fr'⟩) fun H7 e7 => ?_
    have h7 := e7 _ _ h
    refine ⟨_, Sum.inl ns[i], rfl, h7, sz_lt (by rw [dm_len, List.length_take]; omega), Ex.mut (e.trans e7) hD, ?_⟩
    have nin : ns[i] ∉ ns.take i := fun hm => by
      obtain ⟨k, hk⟩ := List.mem_iff_getElem?.mp hm
      have hki := (List.getElem?_eq_some_iff.mp hk).1
      rw [List.length_take] at hki
      rw [List.getElem?_take_of_lt (by omega)] at hk
      have := (List.getElem?_inj (by omega) hn).mp (hk.trans hx.symm)
      omega
    rw [upd_same, putK_dm_new nin, take_snoc hx, dm_snoc]
  · have e2 : i = ns.length := by omega
    subst e2
    refine .inl ⟨⟨fr', by rw [dm_len]; exact Nat.le_refl _⟩, fr', ?_⟩
    rw [List.take_length] at h
    refine q D _ hD0 (fun b o hb => ?_) (by rw [upd_ne hDd]; exact h)
    by_cases eb : b = d
    · subst eb
      rw [upd_same, ← hb, hd]
    · rw [upd_ne eb]
      exact e _ _ (wx b o hb eb)
end
/-! ### < of tuples (number, tuple of ints) -/
def rLtP (K : PySem.W.Frag) : R2 := fun x y H Q => ∃ (a b p q : Addr) (i j : Int) (ns ms : List Int), x = .ref a ∧ y = .ref b ∧ SqT K H a [.int i, .ref p] ∧ SqT K H b [.int j, .ref q] ∧ IT K H p ns ∧ IT K H q ms ∧ Q (.bl (if i = j then (if ns = ms then false else HT.lexLt ns ms) else decide (i < j))) H
theorem op_ltP {X : Cx} (K : PySem.W.Frag) (hu : X.A.units + 64 < cLine) (hK : X.K = K := by rfl) : OpR X (compareOp .Lt) (rLtP K) := by
  cases hK
  intro pins s σ H x y v u Q I rx ry h
  obtain ⟨a, b, p, q, i, j, ns, ms, rfl, rfl, ha, hb, hp, hq, hQ⟩ := h
  cases rx
  cases ry
  obtain ⟨its, r1, p1, _⟩ := I.tuple ha
  obtain ⟨its2, r2, p2, _⟩ := I.tuple hb
  obtain ⟨t, rfl⟩ : ∃ t, its = [.int i t, .ref p] := by
    cases r1 with
    | cons h1 r1 =>
      cases r1 with
      | cons h2 r1 =>
        cases r1
        obtain ⟨t, rfl⟩ := h1
        cases h2
        exact ⟨t, rfl⟩
  obtain ⟨t2, rfl⟩ : ∃ t, its2 = [.int j t, .ref q] := by
    cases r2 with
    | cons h1 r2 =>
      cases r2 with
      | cons h2 r2 =>
        cases r2
        obtain ⟨t, rfl⟩ := h1
        cases h2
        exact ⟨t, rfl⟩
  obtain ⟨us, s1, q1, _⟩ := I.tuple hp
  obtain ⟨us2, s2, q2, _⟩ := I.tuple hq
  have i1 : IntsAre us.toArray.toList ns := intsAre_of s1
  have i2 : IntsAre us2.toArray.toList ms := intsAre_of s2
  obtain ⟨as, d1⟩ := Dp.reads I _ _ _ (dp_t hp) (rfl : RelV (.ref p) (.ref p))
  obtain ⟨bs, d2⟩ := Dp.reads I _ _ _ (dp_t hq) (rfl : RelV (.ref q) (.ref q))
  have hu0 : X.A.units < cLine := Nat.lt_of_le_of_lt (Nat.le_add_right _ _) hu
  have hin : X.A.in1.units + 60 < cLine := by
    have e : X.A.in1.units ≤ X.A.units + 4 := by show X.A.units + _ ≤ _; simp
    omega
  have beq : (i == j) = decide (i = j) := by
    by_cases z : i = j
    · rw [decide_eq_true z]; exact beq_iff_eq.mpr z
    · rw [decide_eq_false z]; exact beq_eq_false_iff_ne.mpr z
  have R := Ob.RcOp.tuples_lt (A := X.A) (s := s) (e := fun k => if k = 0 then decide (i = j) else decide (ns = ms)) (r := fun k => if k = 0 then decide (i < j) else HT.lexLt ns ms) p1 p2 hu0 (fun k h1 h2 => by
    match k, h1, h2 with
    | 0, _, _ =>
      show SeqAt.EqAt _ _ (.int i t) (.int j t2) (decide (i = j))
      rw [← beq]
      exact SeqAt.EqAt.int_int _ _ _ _
    | 1, _, _ =>
      show SeqAt.EqAt _ _ (.ref p) (.ref q) (decide (ns = ms))
      rw [← eqv_tints]
      exact SeqAt.eqAt_reads _ _ _ _ _ _ _ _ d1 d2 (by rw [PyData.canLay0, canLay_ints]) (by rw [PyData.canLay0, canLay_ints]) (by rw [PyData.depth, depth_ints, PyData.depth, depth_ints]; simp; omega)
    | k + 2, h1, _ => exact absurd h1 (by simp)) (fun k h1 h2 _ => by
    match k, h1, h2 with
    | 0, _, _ => exact Ob.RcOp.lt_int _ _ _ _
    | 1, _, _ => exact fun prog w E Q h => HT.lt_tupInts q1 q2 i1 i2 (by omega) h
    | k + 2, h1, _ => exact absurd h1 (by simp))
  have z : wpAny (model X.prog X.w) X.A (compareOp .Lt (.ref a) (.ref b)) (EP X pins σ Q) X.xe s := by
    refine R X.prog X.w X.xe (EP X pins σ Q) ⟨.bl _, H, I, rfl, ?_⟩
    have e : Ob.lexAt (fun k => if k = 0 then decide (i = j) else decide (ns = ms)) (fun k => if k = 0 then decide (i < j) else HT.lexLt ns ms) (decide (([Value.int i t, Value.ref p] : List Value).toArray.size < ([Value.int j t2, Value.ref q] : List Value).toArray.size)) 0 (min ([Value.int i t, Value.ref p] : List Value).toArray.size ([Value.int j t2, Value.ref q] : List Value).toArray.size) = (if i = j then (if ns = ms then false else HT.lexLt ns ms) else decide (i < j)) := by
      show Ob.lexAt _ _ _ 0 2 = _
      rw [Ob.lexAt_succ, Ob.lexAt_succ, Ob.lexAt_zero]
      by_cases z1 : i = j <;> by_cases z2 : ns = ms <;> simp [z1, z2]
    rw [e]
    exact hQ
  exact z
theorem r_ltP {K : PySem.W.Frag} {H : Hp} {Q : VK} {a b p q : Addr} {i j : Int} {ns ms : List Int} (ha : SqT K H a [.int i, .ref p]) (hb : SqT K H b [.int j, .ref q]) (hp : IT K H p ns) (hq : IT K H q ms)
    (k : Q (.bl (if i = j then (if ns = ms then false else HT.lexLt ns ms) else decide (i < j))) H) : rLtP K (.ref a) (.ref b) H Q := ⟨a, b, p, q, i, j, ns, ms, rfl, rfl, ha, hb, hp, hq, k⟩
theorem r_neB {K : PySem.W.Frag} {H : Hp} {Q : VK} {x y : Bool} (q : Q (.bl (!decide (x = y))) H) : rNeU K (.bl x) (.bl y) H Q := .inl ⟨rfl, by
  have e : decide ((V.bl x) = V.bl y) = decide (x = y) := by simp
  rw [e]
  exact q⟩
end L2
namespace L2
open PySem PySem.Spec PyProof.Rows Evl
/-! ### enumerate(xs, start=k) -/
section
variable {M : Model} {A : Around} {E : Value → Shared → Prop} {s : Shared} {env : Env}
theorem callWith_type_kwB {pos : Pos} {T : String} {first : List Value} {args : List (Bool × Sem Value)} {keywords : List (Option Str × Sem Value)} {Q : Value → Shared → Prop}
    (hplain : args.any (·.1) = false) (hkw : keywords.any (·.1.isNone) = false)
    (h : wpAny M A (evalArgs (.type T) true args keywords) (fun a s₁ => wpAny M A (call (.type T) (first ++ a.pos) a.kw) Q E s₁) E s) :
    wpAny M A (callWith pos (.type T) first args keywords) Q E s := by
  unfold callWith
  refine wpAny_bind (wpAny_holding (wpAny_mono h (fun a s₁ h₁ => wpAny_bind (wpAny_standAt ?_)) fun _ _ x => x))
  simp only [hplain, hkw, Bool.or_false]
  refine wpAny_bind (wpAny_pure ?_)
  exact wpAny_bind (wpAny_mono h₁ (fun r s₂ hr => wpAny_bind (wpAny_holding (wpAny_point (wpAny_pure hr)))) fun _ _ x => x)
theorem callWith_typeKw {pos : Pos} {T : String} {e : Expr} {rest : List Expr} {kws : List Keyword} {Q : Value → Shared → Prop}
    (h : wpAny M A (spliced (backTo pos (starEach (e :: rest) env))) (fun vs s₁ => wpAny M A (evalAll ((backToKw pos (keywordEach kws env)).map (·.2)))
      (fun kvs s₂ => wpAny M A (call (.type T) vs (((backToKw pos (keywordEach kws env)).filterMap (·.1)).zip kvs)) Q E s₂) E s₁) E s)
    (he : backTo pos (starEach (e :: rest) env) = (false, eval e env) :: backTo pos (starEach rest env) := by rfl)
    (hplain : (backTo pos (starEach (e :: rest) env)).any (·.1) = false := by rfl)
    (hall : (backToKw pos (keywordEach kws env)).all (·.1.isSome) = true := by rfl)
    (hkw : (backToKw pos (keywordEach kws env)).any (·.1.isNone) = false := by rfl) :
    wpAny M A (callWith pos (.type T) [] (backTo pos (starEach (e :: rest) env)) (backToKw pos (keywordEach kws env))) Q E s := by
  refine callWith_type_kwB hplain hkw ?_
  rw [he] at h ⊢
  exact evalArgs_kwB hall h
end
def iEnumS (k : SK) (K : PySem.W.Frag) (ta : TA) (te : TE) : TI := fun σ H R => ta σ H fun vs H1 => te σ H1 fun y H2 => ∃ a xs k0, vs = [.ref a] ∧ y = .int k0 ∧ -(2 ^ 62) ≤ k0 ∧ k0 < 2 ^ 62 ∧ k.Sq K H2 a xs ∧ R (ItE k K k0 a) H2
theorem pi_enumS {X : Cx} (K : PySem.W.Frag) (k : SK) {e e2 : Expr} {ta : TA} {te : TE} {p pos tpos kp : Pos} {elts : List Expr} {kk : Nat} (hg : Gl X "enumerate") (hm : X.mg "enumerate" = none) (ha : PA X [e] ta) (he2 : PE X e2 te)
    (he : backTo pos (starEach [e] X.env) = (false, eval e X.env) :: backTo pos (starEach [] X.env) := by rfl)
    (hplain : (backTo pos (starEach [e] X.env)).any (·.1) = false := by rfl)
    (hall : (backToKw pos (keywordEach [⟨some "start", e2, kp⟩] X.env)).all (·.1.isSome) = true := by rfl)
    (hkw : (backToKw pos (keywordEach [⟨some "start", e2, kp⟩] X.env)).any (·.1.isNone) = false := by rfl)
    (hnm : (backToKw pos (keywordEach [⟨some "start", e2, kp⟩] X.env)).filterMap (·.1) = [Str.ofString "start"] := by rfl)
    (h : X.K = K := by rfl) :
    PI X (.Tuple elts kk tpos) (.Call (.Name "enumerate" p) [e] [⟨some "start", e2, kp⟩] pos) (iEnumS k K ta te) := by
  cases h
  constructor
  intro pins s σ H R I h
  refine wpAny_Call_Name_kw (ld_blt I hg hm boot_enumerate ?_)
  refine callWith_typeKw (thn (ha.run pos pins s σ H _ I h) fun us s1 got => ?_) he hplain hall hkw
  obtain ⟨vs, H1, J, r, q1⟩ := got
  refine kws_cons (thn (he2.run pins s1 σ H1 _ J q1) fun v2 s2 got2 => ?_)
  obtain ⟨y, H2, J2, ry, a, xs, k0, ex, ey, hk0, hk1, hq, q⟩ := got2
  subst ex ey
  obtain ⟨u, rfl, ru⟩ : ∃ u, us = [u] ∧ u = Value.ref a := by
    cases r with
    | cons r0 rr =>
      cases rr
      exact ⟨_, rfl, r0⟩
  subst ru
  obtain ⟨t0, rfl⟩ := ry
  refine kws_nil ?_
  rw [hnm]
  obtain ⟨its, rv, p'⟩ := k.seen J2 hq
  have al := k.lt p'
  refine enum_begins_start (k.begins a its.toArray) p' (by omega) (by omega) fun h' he hi _ hk => wpAny_pyIter_enum he ?_
  refine ⟨s2.heap.objs.size + 1, [s2.heap.objs.size + 1, s2.heap.objs.size], _, _, H2, rfl, J2.kept (t' := s2.toks) hk, turn_enumE k k0 a (s2.heap.objs.size + 1) s2.heap.objs.size,
    ⟨⟨.none, by rw [show k0 + ((0 : Nat) : Int) = k0 by omega]; exact he⟩, k.it0 hi, Nat.succ_ne_self _, Nat.ne_of_lt al, Nat.ne_of_gt (Nat.lt_succ_of_lt al)⟩, fun b hb => ?_, q⟩
  have hle : s2.heap.objs.size ≤ b := by
    rcases List.mem_cons.mp hb with z | hb
    · exact z ▸ Nat.le_succ _
    · exact (List.mem_singleton.mp hb) ▸ Nat.le_refl _
  exact J2.fpOk hle (J2.hok.fresh hle)
def rEnumS (k : SK) (K : PySem.W.Frag) (te : TE) (σ : L2.St) (vs : List V) (R : It → Hp → Prop) (H1 : Hp) : Prop := te σ H1 fun y H2 => ∃ a xs k0, vs = [.ref a] ∧ y = .int k0 ∧ -(2 ^ 62) ≤ k0 ∧ k0 < 2 ^ 62 ∧ k.Sq K H2 a xs ∧ R (ItE k K k0 a) H2
theorem st_enumS {k : SK} {K : PySem.W.Frag} {ta : TA} {te : TE} {σ : L2.St} {H : Hp} {R : It → Hp → Prop} (h : ta σ H fun vs H1 => rEnumS k K te σ vs R H1) : iEnumS k K ta te σ H R := h
theorem r_enumS {k : SK} {K : PySem.W.Frag} {σ : L2.St} {H : Hp} {R : It → Hp → Prop} {a : Addr} {xs : List V} {i : Int} (h0 : -(2 ^ 62) ≤ i) (h1 : i < 2 ^ 62) (h : k.Sq K H a xs) (q : R (ItE k K i a) H) : rEnumS k K (tC (.int i)) σ [.ref a] R H :=
  ⟨a, xs, i, rfl, rfl, h0, h1, h, q⟩
/-! ### dicts as functions of numbers -/
def DI (kvs : List (Key × V)) (f : Int → Option V) : Prop := ∃ l : List Int, l.Nodup ∧ (∀ x, x ∈ l ↔ (f x).isSome = true) ∧ kvs = dm l fun x => (f x).getD .non
theorem DI.nil : DI [] fun _ => none := ⟨[], List.nodup_nil, fun x => by simp, rfl⟩
theorem DI.get {kvs : List (Key × V)} {f : Int → Option V} (h : DI kvs f) (x : Int) : valV kvs (Sum.inl x) = f x := by
  obtain ⟨l, hn, hm, rfl⟩ := h
  by_cases e : x ∈ l
  · rw [valV_dm e]
    have := (hm x).mp e
    cases hf : f x with
    | none => rw [hf] at this; cases this
    | some v => rfl
  · rw [valV_dm_no e]
    cases hf : f x with
    | none => rfl
    | some v => exact absurd ((hm x).mpr (by rw [hf]; rfl)) e
theorem dm_congr {l : List Int} {f g : Int → V} (h : ∀ x ∈ l, f x = g x) : dm l f = dm l g := List.map_congr_left fun x hx => by rw [h x hx]
theorem DI.put {kvs : List (Key × V)} {f : Int → Option V} (h : DI kvs f) (x : Int) (v : V) : DI (putK kvs (Sum.inl x) v) fun t => if t = x then some v else f t := by
  obtain ⟨l, hn, hm, rfl⟩ := h
  by_cases e : x ∈ l
  · refine ⟨l, hn, fun t => ?_, ?_⟩
    · by_cases et : t = x
      · subst et
        simp [e]
      · simp only [if_neg et]
        exact hm t
    · rw [putK_dm e]
      refine dm_congr fun t _ => ?_
      show (if t = x then v else (f t).getD .non) = (if t = x then some v else f t).getD .non
      split <;> rfl
  · refine ⟨l ++ [x], ?_, fun t => ?_, ?_⟩
    · rw [List.nodup_append]
      refine ⟨hn, by simp, fun a ha b hb => ?_⟩
      rw [List.mem_singleton.mp hb]
      exact fun z => e (by rw [← z]; exact ha)
    · rw [List.mem_append, List.mem_singleton]
      by_cases et : t = x
      · subst et
        simp
      · simp only [if_neg et]
        exact ⟨fun z => (hm t).mp (z.resolve_right et), fun z => .inl ((hm t).mpr z)⟩
    · rw [putK_dm_new e, dm_snoc]
      congr 1
      · refine dm_congr fun t ht => ?_
        show (f t).getD .non = (if t = x then some v else f t).getD .non
        rw [if_neg fun z => e (by rw [← z]; exact ht)]
      · simp
theorem DI.drop {kvs : List (Key × V)} {f : Int → Option V} (h : DI kvs f) (x : Int) : DI (dropK kvs (Sum.inl x)) fun t => if t = x then none else f t := by
  obtain ⟨l, hn, hm, rfl⟩ := h
  refine ⟨l.filter fun t => decide (t ≠ x), hn.filter _, fun t => ?_, ?_⟩
  · rw [List.mem_filter]
    by_cases et : t = x
    · simp [et]
    · simp only [if_neg et, decide_eq_true et, and_true]
      exact hm t
  · unfold dropK dm
    rw [List.filter_map]
    have e : (l.filter ((fun kv : Key × V => decide (kv.1 ≠ Sum.inl x)) ∘ fun s => ((Sum.inl s : Key), (f s).getD .non))) = l.filter fun t => decide (t ≠ x) := by
      refine List.filter_congr fun t _ => ?_
      show decide ((Sum.inl t : Key) ≠ Sum.inl x) = decide (t ≠ x)
      congr 1
      exact propext ⟨fun h z => h (by rw [z]), fun h z => h (Sum.inl.inj z)⟩
    rw [e]
    refine List.map_congr_left fun t ht => ?_
    have := of_decide_eq_true (List.mem_filter.mp ht).2
    simp only [if_neg this]
theorem DI.congr {kvs : List (Key × V)} {f g : Int → Option V} (h : DI kvs f) (e : ∀ x, f x = g x) : DI kvs g := by
  have : f = g := funext e
  rw [← this]
  exact h
/-- the keys, by what else tells them -/
theorem perm_of {l m : List Int} (hl : l.Nodup) (hm : m.Nodup) (h : ∀ x, x ∈ l ↔ x ∈ m) : l.Perm m := (List.perm_ext_iff_of_nodup hl hm).mpr fun x => h x
theorem DI.len {kvs : List (Key × V)} {f : Int → Option V} (h : DI kvs f) {m : List Int} (hm : m.Nodup) (e : ∀ x, x ∈ m ↔ (f x).isSome = true) : kvs.length = m.length := by
  obtain ⟨l, hn, hl, rfl⟩ := h
  rw [dm_len]
  exact (perm_of hn hm fun x => (hl x).trans (e x).symm).length_eq
/-! ### rules -/
def rDG1 (ty : TE) (σ : L2.St) (x : V) (H1 : Hp) (Q : VK) : Prop := ∃ a, x = .ref a ∧ IsD H1 a ∧ ty σ H1 fun y H2 => ∃ o, DGet H2 a y o ∧ Q (o.getD .non) H2
def rDG1b (a : Addr) (y : V) (H2 : Hp) (Q : VK) : Prop := ∃ o, DGet H2 a y o ∧ Q (o.getD .non) H2
def rDG2 (ty tx : TE) (σ : L2.St) (x : V) (H1 : Hp) (Q : VK) : Prop := ∃ a, x = .ref a ∧ IsD H1 a ∧ ty σ H1 fun y H2 => tx σ H2 fun z H3 => ∃ o, DGet H3 a y o ∧ Q (o.getD z) H3
def rDG2b (a : Addr) (y z : V) (H2 : Hp) (Q : VK) : Prop := ∃ o, DGet H2 a y o ∧ Q (o.getD z) H2
def rDPop (ty : TE) (σ : L2.St) (x : V) (H1 : Hp) (Q : VK) : Prop := ∃ a, x = .ref a ∧ IsD H1 a ∧ ty σ H1 fun y H2 => ∃ kvs k v, H2 a = some (.dK kvs) ∧ y = kV k ∧ valV kvs k = some v ∧ Q v (upd H2 a (.dK (dropK kvs k)))
def rDPopb (a : Addr) (y : V) (H2 : Hp) (Q : VK) : Prop := ∃ kvs k v, H2 a = some (.dK kvs) ∧ y = kV k ∧ valV kvs k = some v ∧ Q v (upd H2 a (.dK (dropK kvs k)))
def rDSet (ty tx : TE) (σ : L2.St) (x : V) (H1 : Hp) (Q : VK) : Prop := ∃ a, x = .ref a ∧ IsD H1 a ∧ ty σ H1 fun y H2 => tx σ H2 fun z H3 => ∃ (kvs : List (Key × V)) (k : Key), H3 a = some (.dK kvs) ∧ y = kV k ∧ kvs.length < sizeLine ∧ (∀ v, valV kvs k = some v → Q v H3) ∧ (valV kvs k = none → Q z (upd H3 a (.dK (putK kvs k z))))
def rDSetb (a : Addr) (y z : V) (H3 : Hp) (Q : VK) : Prop := ∃ (kvs : List (Key × V)) (k : Key), H3 a = some (.dK kvs) ∧ y = kV k ∧ kvs.length < sizeLine ∧ (∀ v, valV kvs k = some v → Q v H3) ∧ (valV kvs k = none → Q z (upd H3 a (.dK (putK kvs k z))))
def rDictC : List V → Hp → VK → Prop := fun xs H Q => ∃ (a : Addr) (kvs : List (Key × V)), xs = [.ref a] ∧ Rd H a (.dK kvs) ∧ ∀ p, H p = none → Q (.ref p) (upd H p (.dK kvs))
def rLenD : List V → Hp → VK → Prop := fun xs H Q => ∃ a kvs, xs = [V.ref a] ∧ H a = some (.dK kvs) ∧ Q (.int kvs.length) H
theorem dict_C {X : Cx} : CallR X (.type "dict") rDictC := call_dictD
theorem len_D {X : Cx} : CallR X (.builtin "len") rLenD := call_lenD
theorem list_D {X : Cx} (hc : X.calm = true) : CallR X (.type "list") rListD := call_list_dK hc
section
variable {K : PySem.W.Frag} {σ : L2.St} {H : Hp} {Q : VK} {D : Ends} {td ty tx : TE} {d : Addr} {x : Int} {z v : V} {kvs : List (Key × V)} {f : Int → Option V}
theorem st_dg1 (h : td σ H fun x H1 => rDG1 ty σ x H1 Q) : tDGet1 td ty σ H Q := h
theorem st_dg2 (h : td σ H fun x H1 => rDG2 ty tx σ x H1 Q) : tDGet2 td ty tx σ H Q := h
theorem st_dpop (h : td σ H fun x H1 => rDPop ty σ x H1 Q) : tDPop1 td ty σ H Q := h
theorem st_dset (h : td σ H fun x H1 => rDSet ty tx σ x H1 Q) : tDSetd td ty tx σ H Q := h
theorem r_dg1 (h : Rd H d (.dK kvs)) (q : ty σ H fun y H2 => rDG1b d y H2 Q) : rDG1 ty σ (.ref d) H Q := ⟨d, rfl, .inl ⟨kvs, h⟩, q⟩
theorem r_dg1b (h : Rd H d (.dK kvs)) (k : DI kvs f) (q : Q ((f x).getD .non) H) : rDG1b d (.int x) H Q := ⟨_, .inl ⟨kvs, Sum.inl x, h, rfl, (k.get x).symm⟩, q⟩
theorem r_dg2 (h : Rd H d (.dK kvs)) (q : ty σ H fun y H2 => tx σ H2 fun z H3 => rDG2b d y z H3 Q) : rDG2 ty tx σ (.ref d) H Q := ⟨d, rfl, .inl ⟨kvs, h⟩, q⟩
theorem r_dg2b (h : Rd H d (.dK kvs)) (k : DI kvs f) (q : Q ((f x).getD z) H) : rDG2b d (.int x) z H Q := ⟨_, .inl ⟨kvs, Sum.inl x, h, rfl, (k.get x).symm⟩, q⟩
theorem r_dpop (h : Rd H d (.dK kvs)) (q : ty σ H fun y H2 => rDPopb d y H2 Q) : rDPop ty σ (.ref d) H Q := ⟨d, rfl, .inl ⟨kvs, h⟩, q⟩
theorem r_dpopb (h : H d = some (.dK kvs)) (k : DI kvs f) (e : f x = some v) (q : ∀ H1 kvs', ExW d H H1 → H1 d = some (.dK kvs') → DI kvs' (fun t => if t = x then none else f t) → Q v H1) : rDPopb d (.int x) H Q :=
  ⟨kvs, Sum.inl x, v, h, rfl, (k.get x).trans e, q _ _ ExW.upd upd_same (k.drop x)⟩
theorem r_dset (h : Rd H d (.dK kvs)) (q : ty σ H fun y H2 => tx σ H2 fun z H3 => rDSetb d y z H3 Q) : rDSet ty tx σ (.ref d) H Q := ⟨d, rfl, .inl ⟨kvs, h⟩, q⟩
theorem r_dsetb (h : H d = some (.dK kvs)) (k : DI kvs f) (hz : kvs.length < 100000) (q1 : ∀ v, f x = some v → Q v H) (q2 : f x = none → ∀ H1 kvs', ExW d H H1 → H1 d = some (.dK kvs') → DI kvs' (fun t => if t = x then some z else f t) → Q z H1) : rDSetb d (.int x) z H Q :=
  ⟨kvs, Sum.inl x, h, rfl, sz_lt hz, fun v e => q1 v ((k.get x).symm.trans e), fun e => q2 ((k.get x).symm.trans e) _ _ ExW.upd upd_same (k.put x z)⟩
theorem r_dgetI (h : Rd H d (.dK kvs)) (k : DI kvs f) (e : f x = some v) (q : Q v H) : rDGet (.ref d) (.int x) H Q := r_dget h ((k.get x).trans e) q
theorem r_dinI (h : Rd H d (.dK kvs)) (k : DI kvs f) (q : Q (.bl (f x).isSome) H) : rDIn false (.ref d) (.int x) H Q := ⟨d, _, rfl, .inl ⟨kvs, Sum.inl x, h, rfl, (k.get x).symm⟩, q⟩
theorem r_dninI (h : Rd H d (.dK kvs)) (k : DI kvs f) (q : Q (.bl (!(f x).isSome)) H) : rDIn true (.ref d) (.int x) H Q := ⟨d, _, rfl, .inl ⟨kvs, Sum.inl x, h, rfl, (k.get x).symm⟩, q⟩
theorem r_dputI {R : Hp → Prop} (h : H d = some (.dK kvs)) (k : DI kvs f) (hz : kvs.length < 100000) (q : ∀ H1 kvs', ExW d H H1 → H1 d = some (.dK kvs') → DI kvs' (fun t => if t = x then some v else f t) → R H1) : rDPut (.ref d) (.int x) v H R :=
  r_dput h hz fun H1 e h1 => q H1 _ e h1 (k.put x v)
theorem r_dictC (h : Rd H d (.dK kvs)) (q : ∀ p H1, H p = none → Ex H H1 → H1 p = some (.dK kvs) → Q (.ref p) H1) : rDictC [.ref d] H Q := ⟨d, kvs, rfl, h, alloc q⟩
theorem r_lenD (h : H d = some (.dK kvs)) (q : Q (.int (kvs.length : Int)) H) : rLenD [.ref d] H Q := ⟨d, kvs, rfl, h, q⟩
theorem r_lstD (h : H d = some (.dK kvs)) (q : ∀ p H1, H p = none → Ex H H1 → H1 p = some (.lst (kvs.map fun kv => kV kv.1)) → Q (.ref p) H1) : rListD [.ref d] H Q := ⟨d, kvs, rfl, h, alloc q⟩
/-- {k: v} of one pair -/
def rDisp1 (p : Addr) (x v : V) (H2 : Hp) (Q : VK) : Prop := H2 p = some (.dK []) ∧ ∃ k : Key, x = kV k ∧ Q (.ref p) (upd H2 p (.dK [(k, v)]))
theorem st_disp1 {tk tv : TE} (h : ∀ p H1, H p = none → Ex H H1 → H1 p = some (.dK []) → tk σ H1 fun x H2 => tv σ H2 fun v H3 => rDisp1 p x v H3 Q) (mono1 : ∀ (A B : VK) H, (∀ x H, A x H → B x H) → tk σ H A → tk σ H B) (mono2 : ∀ (A B : VK) H, (∀ x H, A x H → B x H) → tv σ H A → tv σ H B) : tDisp [(tk, tv)] σ H Q := fun p hp => by
  refine mono1 _ _ _ (fun x H2 h2 => mono2 _ _ _ (fun v H3 h3 => ?_) h2) (h p _ hp (Ex.new hp) upd_same)
  obtain ⟨e, k, ex, q⟩ := h3
  subst ex
  exact ⟨e, [(k, v)], rfl, by simp, q⟩
end
end L2
/-! webs: rooms and steps between them; what is reached from a room, step by step -/
namespace Wb
open L2
/-- where a step leads from a room -/
abbrev Gm := Nat → Int → Option Nat
structure Gr (L n : Nat) (d : Gm) : Prop where
  dom : ∀ r s g, d r s = some g → r < n ∧ g < n ∧ s ∈ Od.steps L
  sym : ∀ r s g, d r s = some g → d g (-s) = some r
theorem Gr.back {L n : Nat} {d : Gm} (G : Gr L n d) {r g : Nat} {s : Int} : d r s = some g ↔ d g (-s) = some r :=
  ⟨G.sym r s g, fun h => by have := G.sym g (-s) r h; rw [Int.neg_neg] at this; exact this⟩
/-- rooms found, each with what leads there -/
abbrev Fd := List (Nat × Option (Nat × Int))
def adv (d : Gm) (r : Nat) (fd : Fd) (s : Int) : Fd := match d r s with
  | some g => if g ∈ fd.map (·.1) then fd else fd ++ [(g, some (r, s))]
  | none => fd
def look (d : Gm) (r : Nat) (S : List Int) (fd : Fd) : Fd := S.foldl (adv d r) fd
theorem look_snoc (d : Gm) (r : Nat) (S : List Int) (s : Int) (fd : Fd) : look d r (S ++ [s]) fd = adv d r (look d r S fd) s := by unfold look; rw [List.foldl_append]; rfl
def run (d : Gm) (S : List Int) : Nat → Nat → Fd → Fd
  | 0, _, fd => fd
  | k + 1, p, fd => match fd[p]? with
    | some (r, _) => run d S k (p + 1) (look d r S fd)
    | none => fd
theorem run_on {d : Gm} {S : List Int} {k p r : Nat} {x : Option (Nat × Int)} {fd : Fd} (h : fd[p]? = some (r, x)) : run d S (k + 1) p fd = run d S k (p + 1) (look d r S fd) := by rw [run, h]
theorem run_end {d : Gm} {S : List Int} {k p : Nat} {fd : Fd} (h : fd.length ≤ p) : run d S k p fd = fd := by
  cases k with
  | zero => rfl
  | succ k => rw [run, List.getElem?_eq_none h]
def bfs (L n : Nat) (d : Gm) (home : Nat) : Fd := run d (Od.steps L) (n + 1) 0 [(home, none)]
/-- the rooms found are rooms, each once -/
structure Ok (n : Nat) (fd : Fd) : Prop where
  nodup : (fd.map (·.1)).Nodup
  lt : ∀ g ∈ fd.map (·.1), g < n
theorem nodup_lt {n : Nat} : ∀ {l : List Nat}, l.Nodup → (∀ x ∈ l, x < n) → l.length ≤ n := by
  induction n with
  | zero =>
    intro l _ h
    cases l with
    | nil => exact Nat.le_refl _
    | cons x l => exact absurd (h x List.mem_cons_self) (Nat.not_lt_zero _)
  | succ n ih =>
    intro l hn h
    by_cases hm : n ∈ l
    · have e := List.perm_cons_erase hm
      have hn2 : (l.erase n).Nodup := hn.erase n
      have z := ih (l := l.erase n) hn2 fun x hx => by
        have h1 := h x (List.mem_of_mem_erase hx)
        have h2 : x ≠ n := fun z => by
          subst z
          exact (List.Nodup.not_mem_erase hn) hx
        omega
      have := e.length_eq
      rw [List.length_cons] at this
      omega
    · have z := ih (l := l) hn fun x hx => by
        have h1 := h x hx
        have h2 : x ≠ n := fun z => by
          subst z
          exact hm hx
        omega
      omega
theorem Ok.len {n : Nat} {fd : Fd} (h : Ok n fd) : fd.length ≤ n := by
  have := nodup_lt h.nodup h.lt
  rwa [List.length_map] at this
theorem adv_ok {L n : Nat} {d : Gm} {r : Nat} {s : Int} {fd : Fd} (G : Gr L n d) (h : Ok n fd) : Ok n (adv d r fd s) := by
  unfold adv
  cases e : d r s with
  | none => exact h
  | some g =>
    show Ok n (if g ∈ fd.map (·.1) then fd else fd ++ [(g, some (r, s))])
    split
    · exact h
    · rename_i hg
      refine ⟨?_, fun x hx => ?_⟩
      · rw [List.map_append, List.nodup_append]
        refine ⟨h.nodup, by simp, fun a ha b hb => ?_⟩
        simp only [List.map_cons, List.map_nil, List.mem_singleton] at hb
        rw [hb]
        exact fun z => hg (by rw [← z]; exact ha)
      · rw [List.map_append, List.mem_append] at hx
        rcases hx with hx | hx
        · exact h.lt x hx
        · simp only [List.map_cons, List.map_nil, List.mem_singleton] at hx
          rw [hx]
          exact (G.dom _ _ _ e).2.1
theorem look_ok {L n : Nat} {d : Gm} {r : Nat} (G : Gr L n d) : ∀ (S : List Int) {fd : Fd}, Ok n fd → Ok n (look d r S fd)
  | [], _, h => h
  | s :: S, _, h => look_ok G S (adv_ok G h)
/-- what is found stays, in its place -/
theorem adv_pre (d : Gm) (r : Nat) (fd : Fd) (s : Int) : ∃ m, adv d r fd s = fd ++ m := by
  unfold adv
  cases e : d r s with
  | none => exact ⟨[], (List.append_nil _).symm⟩
  | some g =>
    show ∃ m, (if g ∈ fd.map (·.1) then fd else fd ++ [(g, some (r, s))]) = fd ++ m
    split
    · exact ⟨[], (List.append_nil _).symm⟩
    · exact ⟨_, rfl⟩
theorem look_pre (d : Gm) (r : Nat) : ∀ (S : List Int) (fd : Fd), ∃ m, look d r S fd = fd ++ m
  | [], fd => ⟨[], (List.append_nil _).symm⟩
  | s :: S, fd => by
    obtain ⟨m, e⟩ := adv_pre d r fd s
    obtain ⟨m2, e2⟩ := look_pre d r S (adv d r fd s)
    refine ⟨m ++ m2, ?_⟩
    show look d r S (adv d r fd s) = _
    rw [e2, e, List.append_assoc]
/-- all that steps lead to is found behind the look -/
theorem adv_in {d : Gm} {r g : Nat} {s : Int} (fd : Fd) (h : d r s = some g) : g ∈ (adv d r fd s).map (·.1) := by
  unfold adv
  rw [h]
  show g ∈ (if g ∈ fd.map (·.1) then fd else fd ++ [(g, some (r, s))]).map (·.1)
  split
  · assumption
  · simp
theorem pre_in {g : Nat} {fd m : Fd} (h : g ∈ fd.map (·.1)) : g ∈ (fd ++ m).map (·.1) := by
  rw [List.map_append]
  exact List.mem_append_left _ h
theorem look_in {d : Gm} {r g : Nat} {s : Int} : ∀ {S : List Int} (fd : Fd), s ∈ S → d r s = some g → g ∈ (look d r S fd).map (·.1)
  | t :: S, fd, hs, h => by
    show g ∈ (look d r S (adv d r fd t)).map (·.1)
    rcases List.mem_cons.mp hs with e | hs
    · subst e
      obtain ⟨m, e⟩ := look_pre d r S (adv d r fd s)
      rw [e]
      exact pre_in (adv_in fd h)
    · exact look_in _ hs h
/-- from whence each is found -/
def Par (d : Gm) (home : Nat) (fd : Fd) : Prop := ∀ (i : Nat) (g : Nat) (x : Option (Nat × Int)), fd[i]? = some (g, x) → (i = 0 ∧ g = home ∧ x = none) ∨ ∃ r s j y, x = some (r, s) ∧ d r s = some g ∧ j < i ∧ fd[j]? = some (r, y)
theorem adv_par {d : Gm} {home r : Nat} {s : Int} {fd : Fd} (h : Par d home fd) (hr : ∃ (j : Nat) (y : Option (Nat × Int)), fd[j]? = some (r, y)) : Par d home (adv d r fd s) ∧ ∃ (j : Nat) (y : Option (Nat × Int)), (adv d r fd s)[j]? = some (r, y) := by
  unfold adv
  cases e : d r s with
  | none => exact ⟨h, hr⟩
  | some g =>
    show Par d home (if g ∈ fd.map (·.1) then fd else fd ++ [(g, some (r, s))]) ∧ ∃ (j : Nat) (y : Option (Nat × Int)), (if g ∈ fd.map (·.1) then fd else fd ++ [(g, some (r, s))])[j]? = some (r, y)
    split
    · exact ⟨h, hr⟩
    · obtain ⟨j, y, hj⟩ := hr
      have lj := (List.getElem?_eq_some_iff.mp hj).1
      refine ⟨fun i g' x hi => ?_, j, y, by rw [List.getElem?_append_left lj]; exact hj⟩
      rcases Nat.lt_or_ge i fd.length with lt | ge
      · rw [List.getElem?_append_left lt] at hi
        rcases h i g' x hi with k | ⟨r', s', j', y', k1, k2, k3, k4⟩
        · exact .inl k
        · exact .inr ⟨r', s', j', y', k1, k2, k3, by rw [List.getElem?_append_left (by omega)]; exact k4⟩
      · rw [List.getElem?_append_right ge] at hi
        have e0 : i - fd.length = 0 := by
          have := (List.getElem?_eq_some_iff.mp hi).1
          simp at this
          omega
        rw [e0] at hi
        cases hi
        exact .inr ⟨r, s, j, y, rfl, e, by omega, by rw [List.getElem?_append_left lj]; exact hj⟩
theorem look_par {d : Gm} {home r : Nat} : ∀ (S : List Int) {fd : Fd}, Par d home fd → (∃ (j : Nat) (y : Option (Nat × Int)), fd[j]? = some (r, y)) → Par d home (look d r S fd)
  | [], _, h, _ => h
  | s :: S, _, h, hr => look_par S (adv_par h hr).1 (adv_par h hr).2
/-- what stands between two turns: the rooms ahead of the place are done with -/
structure Rn (L n : Nat) (d : Gm) (home : Nat) (p : Nat) (fd : Fd) : Prop where
  ok : Ok n fd
  par : Par d home fd
  hd : fd[0]? = some (home, none)
  done : ∀ (i r : Nat) (x : Option (Nat × Int)) (s : Int) (g : Nat), i < p → fd[i]? = some (r, x) → d r s = some g → g ∈ fd.map (·.1)
theorem rn_start {L n : Nat} {d : Gm} {home : Nat} (h : home < n) : Rn L n d home 0 [(home, none)] := by
  refine ⟨⟨by simp, fun g hg => ?_⟩, fun i g x hi => ?_, rfl, fun i r x s g hi => by omega⟩
  · simp only [List.map_cons, List.map_nil, List.mem_singleton] at hg
    omega
  · cases i with
    | zero => cases hi; exact .inl ⟨rfl, rfl, rfl⟩
    | succ i => simp at hi
theorem rn_next {L n : Nat} {d : Gm} {home p r : Nat} {x : Option (Nat × Int)} {fd : Fd} (G : Gr L n d) (R : Rn L n d home p fd) (hp : fd[p]? = some (r, x)) : Rn L n d home (p + 1) (look d r (Od.steps L) fd) := by
  obtain ⟨m, e⟩ := look_pre d r (Od.steps L) fd
  have lp := (List.getElem?_eq_some_iff.mp hp).1
  refine ⟨look_ok G _ R.ok, look_par _ R.par ⟨p, x, hp⟩, ?_, fun i r' x' s g hi hr hd => ?_⟩
  · rw [e, List.getElem?_append_left (by omega)]
    exact R.hd
  · have li : i < fd.length := by omega
    rw [e, List.getElem?_append_left li] at hr
    rcases Nat.lt_or_ge i p with lt | ge
    · rw [e]
      exact pre_in (R.done i r' x' s g lt hr hd)
    · have : i = p := by omega
      subst this
      rw [hp] at hr
      cases hr
      exact look_in _ (G.dom _ _ _ hd).2.2 hd
theorem rn_run {L n : Nat} {d : Gm} {home : Nat} (G : Gr L n d) : ∀ (k p : Nat) (fd : Fd), n < p + k → Rn L n d home p fd → ∃ q, (run d (Od.steps L) k p fd).length ≤ q ∧ Rn L n d home q (run d (Od.steps L) k p fd)
  | 0, p, fd, hk, R => ⟨p, by have := R.ok.len; show fd.length ≤ p; omega, R⟩
  | k + 1, p, fd, hk, R => by
    cases hp : fd[p]? with
    | none =>
      have : fd.length ≤ p := by
        rcases Nat.lt_or_ge p fd.length with lt | ge
        · rw [List.getElem?_eq_getElem lt] at hp
          cases hp
        · exact ge
      rw [run_end this]
      exact ⟨p, this, R⟩
    | some y =>
      obtain ⟨r, x⟩ := y
      rw [run_on hp]
      exact rn_run G k (p + 1) _ (by omega) (rn_next G R hp)
/-- all that is reached -/
theorem bfs_all {L n : Nat} {d : Gm} {home : Nat} (G : Gr L n d) (h : home < n) : ∃ q, (bfs L n d home).length ≤ q ∧ Rn L n d home q (bfs L n d home) := rn_run G (n + 1) 0 _ (by omega) (rn_start h)
theorem bfs_ok {L n : Nat} {d : Gm} {home : Nat} (G : Gr L n d) (h : home < n) : Ok n (bfs L n d home) := (bfs_all G h).choose_spec.2.ok
theorem bfs_closed {L n : Nat} {d : Gm} {home r g : Nat} {s : Int} (G : Gr L n d) (h : home < n) (hr : r ∈ (bfs L n d home).map (·.1)) (hd : d r s = some g) : g ∈ (bfs L n d home).map (·.1) := by
  obtain ⟨q, hq, R⟩ := bfs_all G h
  obtain ⟨i, hi⟩ := List.mem_iff_getElem?.mp hr
  rw [List.getElem?_map] at hi
  cases e : (bfs L n d home)[i]? with
  | none => rw [e] at hi; cases hi
  | some y =>
    rw [e] at hi
    cases hi
    exact R.done i y.1 y.2 s g (by have := (List.getElem?_eq_some_iff.mp e).1; omega) e hd
/-! ### the same rooms by other names -/
def ren (φ : Nat → Nat) (fd : Fd) : Fd := fd.map fun y => (φ y.1, y.2.map fun z => (φ z.1, z.2))
theorem ren_keys (φ : Nat → Nat) (fd : Fd) : (ren φ fd).map (·.1) = (fd.map (·.1)).map φ := by unfold ren; rw [List.map_map, List.map_map]; rfl
structure Sim (d d' : Gm) (φ : Nat → Nat) (P : Nat → Prop) : Prop where
  inj : ∀ a b, P a → P b → φ a = φ b → a = b
  go : ∀ r s, P r → d' (φ r) s = (d r s).map φ
  on : ∀ r s g, P r → d r s = some g → P g
theorem adv_ren {d d' : Gm} {φ : Nat → Nat} {P : Nat → Prop} (I : Sim d d' φ P) {r : Nat} {s : Int} {fd : Fd} (hr : P r) (hf : ∀ g ∈ fd.map (·.1), P g) : adv d' (φ r) (ren φ fd) s = ren φ (adv d r fd s) ∧ ∀ g ∈ (adv d r fd s).map (·.1), P g := by
  unfold adv
  rw [I.go r s hr]
  cases e : d r s with
  | none => exact ⟨rfl, hf⟩
  | some g =>
    have pg := I.on r s g hr e
    show (if φ g ∈ (ren φ fd).map (·.1) then ren φ fd else ren φ fd ++ [(φ g, some (φ r, s))]) = ren φ (if g ∈ fd.map (·.1) then fd else fd ++ [(g, some (r, s))]) ∧ ∀ g' ∈ (if g ∈ fd.map (·.1) then fd else fd ++ [(g, some (r, s))]).map (·.1), P g'
    rw [ren_keys]
    have iff : φ g ∈ (fd.map (·.1)).map φ ↔ g ∈ fd.map (·.1) := by
      refine ⟨fun h => ?_, fun h => List.mem_map_of_mem h⟩
      obtain ⟨a, ha, e2⟩ := List.mem_map.mp h
      rw [← I.inj a g (hf a ha) pg e2]
      exact ha
    by_cases hg : g ∈ fd.map (·.1)
    · rw [if_pos (iff.mpr hg), if_pos hg]
      exact ⟨rfl, hf⟩
    · rw [if_neg (fun z => hg (iff.mp z)), if_neg hg]
      refine ⟨by unfold ren; rw [List.map_append]; rfl, fun x hx => ?_⟩
      rw [List.map_append, List.mem_append] at hx
      rcases hx with hx | hx
      · exact hf x hx
      · simp only [List.map_cons, List.map_nil, List.mem_singleton] at hx
        rw [hx]
        exact pg
theorem look_ren {d d' : Gm} {φ : Nat → Nat} {P : Nat → Prop} (I : Sim d d' φ P) {r : Nat} (hr : P r) : ∀ (S : List Int) {fd : Fd}, (∀ g ∈ fd.map (·.1), P g) → look d' (φ r) S (ren φ fd) = ren φ (look d r S fd) ∧ ∀ g ∈ (look d r S fd).map (·.1), P g
  | [], _, hf => ⟨rfl, hf⟩
  | s :: S, fd, hf => by
    have a := adv_ren I (s := s) hr hf
    have b := look_ren I hr S a.2
    refine ⟨?_, b.2⟩
    show look d' (φ r) S (adv d' (φ r) (ren φ fd) s) = _
    rw [a.1]
    exact b.1
theorem run_ren {d d' : Gm} {φ : Nat → Nat} {P : Nat → Prop} (I : Sim d d' φ P) (S : List Int) : ∀ (k p : Nat) {fd : Fd}, (∀ g ∈ fd.map (·.1), P g) → run d' S k p (ren φ fd) = ren φ (run d S k p fd)
  | 0, _, _, _ => rfl
  | k + 1, p, fd, hf => by
    cases hp : fd[p]? with
    | none =>
      have h2 : (ren φ fd)[p]? = none := by unfold ren; rw [List.getElem?_map, hp]; rfl
      have e1 : run d' S (k + 1) p (ren φ fd) = ren φ fd := by rw [run, h2]
      have e2 : run d S (k + 1) p fd = fd := by rw [run, hp]
      rw [e1, e2]
    | some y =>
      obtain ⟨r, x⟩ := y
      have h2 : (ren φ fd)[p]? = some (φ r, x.map fun z => (φ z.1, z.2)) := by unfold ren; rw [List.getElem?_map, hp]; rfl
      have hr : P r := hf r (List.mem_map.mpr ⟨_, List.mem_of_getElem? hp, rfl⟩)
      have a := look_ren I hr S hf
      rw [run_on hp, run_on h2, a.1]
      exact run_ren I S k (p + 1) a.2
/-- more turns than needed change nothing -/
theorem run_more {d : Gm} {S : List Int} {L n : Nat} {home : Nat} (G : Gr L n d) (hS : S = Od.steps L) : ∀ (k j p : Nat) (fd : Fd), n < p + k → Rn L n d home p fd → run d S (k + j) p fd = run d S k p fd
  | 0, j, p, fd, hk, R => by
    have := R.ok.len
    rw [run_end (by omega), run_end (by omega)]
  | k + 1, j, p, fd, hk, R => by
    cases hp : fd[p]? with
    | none =>
      have : fd.length ≤ p := by
        rcases Nat.lt_or_ge p fd.length with lt | ge
        · rw [List.getElem?_eq_getElem lt] at hp
          cases hp
        · exact ge
      rw [run_end this, run_end this]
    | some y =>
      obtain ⟨r, x⟩ := y
      rw [show k + 1 + j = (k + j) + 1 by omega, run_on hp, run_on hp]
      subst hS
      exact run_more G rfl k j (p + 1) _ (by omega) (rn_next G R hp)
/-! ### webs -/
/-- how many doors a room has -/
def deg (L : Nat) (d : Gm) (r : Nat) : Nat := ((Od.steps L).filter fun s => (d r s).isSome).length
structure Web (L n : Nat) (d : Gm) : Prop where
  l1 : 1 ≤ L
  l4 : L ≤ 4
  pos : 0 < n
  gr : Gr L n d
  two : ∀ r, 0 < r → r < n → 2 ≤ deg L d r
  ord : (bfs L n d 0).map (·.1) = List.range n
/-- the rows that tell of it -/
def row (L : Nat) (d : Gm) (r : Nat) : List Int := (List.range L).map fun (l : Nat) => match d r ((l : Int) + 1) with
  | some g => (g : Int)
  | none => -1
def rows (L n : Nat) (d : Gm) : List (List Int) := (List.range n).map (row L d)
/-- all that is reached, numbered as it is reached, is a web -/
theorem web_of_bfs {L n : Nat} {d' : Gm} (l1 : 1 ≤ L) (l4 : L ≤ 4) (hn : 0 < n) (G : Gr L n d') (leaf : ∀ r, 0 < r → r < n → deg L d' r ≠ 1) :
    ∃ d : Gm, Web L (bfs L n d' 0).length d ∧ ∀ r, r < (bfs L n d' 0).length → ∀ s, d r s = (d' (((bfs L n d' 0).map (·.1)).getD r 0) s).map ((bfs L n d' 0).map (·.1)).idxOf := by
  obtain ⟨ord, ho⟩ : ∃ ord, (bfs L n d' 0).map (·.1) = ord := ⟨_, rfl⟩
  obtain ⟨m, hm⟩ : ∃ m, (bfs L n d' 0).length = m := ⟨_, rfl⟩
  have lm : ord.length = m := by rw [← ho, List.length_map, hm]
  have ok := bfs_ok G hn
  have nd : ord.Nodup := ho ▸ ok.nodup
  have lt : ∀ g ∈ ord, g < n := fun g hg => ok.lt g (ho ▸ hg)
  have cl : ∀ r s g, r ∈ ord → d' r s = some g → g ∈ ord := fun r s g hr hd => by
    rw [← ho] at hr ⊢
    exact bfs_closed G hn hr hd
  rw [ho, hm]
  have at_in : ∀ r, r < m → ord.getD r 0 ∈ ord := fun r hr => by
    rw [List.getD_eq_getElem?_getD, List.getElem?_eq_getElem (by omega)]
    exact List.getElem_mem _
  have at_idx : ∀ g ∈ ord, ord.getD (ord.idxOf g) 0 = g := fun g hg => by
    have h1 := List.idxOf_lt_length_of_mem hg
    rw [List.getD_eq_getElem?_getD, List.getElem?_eq_getElem h1, Option.getD_some, List.getElem_idxOf]
  have idx_at : ∀ r, r < m → ord.idxOf (ord.getD r 0) = r := fun r hr => by
    have h1 := List.idxOf_lt_length_of_mem (at_in r hr)
    have a : ord[ord.idxOf (ord.getD r 0)]? = some (ord.getD r 0) := by rw [List.getElem?_eq_getElem h1, List.getElem_idxOf]
    have b : ord[r]? = some (ord.getD r 0) := by
      rw [List.getD_eq_getElem?_getD, List.getElem?_eq_getElem (by omega : r < ord.length)]
      rfl
    exact (List.getElem?_inj h1 nd).mp (a.trans b.symm)
  refine ⟨fun r s => if r < m then (d' (ord.getD r 0) s).map ord.idxOf else none, ?_, fun r hr s => if_pos hr⟩
  have get : ∀ {r : Nat} {s : Int} {g : Nat}, (if r < m then (d' (ord.getD r 0) s).map ord.idxOf else none) = some g → r < m ∧ g < m ∧ d' (ord.getD r 0) s = some (ord.getD g 0) := fun {r s g} h => by
    by_cases hr : r < m
    · rw [if_pos hr] at h
      cases e : d' (ord.getD r 0) s with
      | none => rw [e] at h; cases h
      | some g' =>
        rw [e] at h
        cases h
        have hg := cl _ _ _ (at_in r hr) e
        exact ⟨hr, by rw [← lm]; exact List.idxOf_lt_length_of_mem hg, by rw [at_idx _ hg]⟩
    · rw [if_neg hr] at h
      cases h
  have put : ∀ {r g : Nat} {s : Int}, r < m → g < m → d' (ord.getD r 0) s = some (ord.getD g 0) → (if r < m then (d' (ord.getD r 0) s).map ord.idxOf else none) = some g := fun {r g s} hr hg h => by
    rw [if_pos hr, h]
    show some (ord.idxOf (ord.getD g 0)) = some g
    rw [idx_at g hg]
  have G2 : Gr L m fun r s => if r < m then (d' (ord.getD r 0) s).map ord.idxOf else none := by
    refine ⟨fun r s g h => ?_, fun r s g h => ?_⟩
    · obtain ⟨h1, h2, h3⟩ := get h
      exact ⟨h1, h2, (G.dom _ _ _ h3).2.2⟩
    · obtain ⟨h1, h2, h3⟩ := get h
      exact put h2 h1 (G.sym _ _ _ h3)
  have pos : 0 < m := by
    obtain ⟨q, hq, R⟩ := bfs_all (home := 0) G hn
    have := (List.getElem?_eq_some_iff.mp R.hd).1
    omega
  have home : ord.getD 0 0 = 0 := by
    obtain ⟨q, hq, R⟩ := bfs_all (home := 0) G hn
    rw [← ho, List.getD_eq_getElem?_getD, List.getElem?_map, R.hd]
    rfl
  have I : Sim (fun r s => if r < m then (d' (ord.getD r 0) s).map ord.idxOf else none) d' (fun r => ord.getD r 0) (· < m) := by
    refine ⟨fun a b ha hb e => ?_, fun r s hr => ?_, fun r s g _ h => (get h).2.1⟩
    · rw [← idx_at a ha, ← idx_at b hb]
      exact congrArg ord.idxOf e
    · rw [if_pos hr]
      cases e : d' (ord.getD r 0) s with
      | none => rfl
      | some g =>
        show some g = some (ord.getD (ord.idxOf g) 0)
        rw [at_idx _ (cl _ _ _ (at_in r hr) e)]
  have mn : m ≤ n := by
    have := ok.len
    omega
  have bf : (bfs L n d' 0) = ren (fun r => ord.getD r 0) (bfs L m (fun r s => if r < m then (d' (ord.getD r 0) s).map ord.idxOf else none) 0) := by
    have a := run_ren I (Od.steps L) (n + 1) 0 (fd := [(0, none)]) fun g hg => by
      simp only [List.map_cons, List.map_nil, List.mem_singleton] at hg
      omega
    have b : ren (fun r => ord.getD r 0) [(0, none)] = [(0, none)] := by
      show [(ord.getD 0 0, none)] = _
      rw [home]
    rw [b] at a
    have c := run_more (home := 0) G2 rfl (m + 1) (n - m) 0 [(0, none)] (by omega) (rn_start pos)
    rw [show m + 1 + (n - m) = n + 1 by omega] at c
    rw [c] at a
    exact a
  refine ⟨l1, l4, pos, G2, fun r hr0 hr => ?_, ?_⟩
  · have same : deg L (fun r s => if r < m then (d' (ord.getD r 0) s).map ord.idxOf else none) r = deg L d' (ord.getD r 0) := by
      unfold deg
      congr 1
      refine List.filter_congr fun s _ => ?_
      show (if r < m then (d' (ord.getD r 0) s).map ord.idxOf else none).isSome = _
      rw [if_pos hr]
      cases d' (ord.getD r 0) s <;> rfl
    rw [same]
    have hin := at_in r hr
    have ne0 : ord.getD r 0 ≠ 0 := fun z => by
      have := idx_at r hr
      rw [z, ← home, idx_at 0 pos] at this
      omega
    have d1 := leaf _ (by omega) (lt _ hin)
    obtain ⟨q, hq, R⟩ := bfs_all (home := 0) G hn
    obtain ⟨i, hi⟩ := List.mem_iff_getElem?.mp (ho ▸ hin)
    rw [List.getElem?_map] at hi
    cases e : (bfs L n d' 0)[i]? with
    | none => rw [e] at hi; cases hi
    | some y =>
      rw [e] at hi
      have hy : y.1 = ord.getD r 0 := by
        rw [ho] at hi
        exact Option.some.inj hi
      rcases R.par i y.1 y.2 e with ⟨_, k, _⟩ | ⟨r', s, j, y', _, k, _⟩
      · exact absurd (hy.symm.trans k) ne0
      · rw [hy] at k
        have k2 := G.sym _ _ _ k
        have : 0 < deg L d' (ord.getD r 0) := by
          unfold deg
          exact List.length_pos_of_mem (List.mem_filter.mpr ⟨(G.dom _ _ _ k2).2.2, by rw [k2]; rfl⟩)
        omega
  · obtain ⟨ks, hks⟩ : ∃ ks, (bfs L m (fun r s => if r < m then (d' (ord.getD r 0) s).map ord.idxOf else none) 0).map (·.1) = ks := ⟨_, rfl⟩
    have e1 : ord = ks.map fun r => ord.getD r 0 := by rw [← hks, ← ren_keys, ← bf, ho]
    have ok2 := bfs_ok G2 pos
    have lk : ks.length = m := by
      have := congrArg List.length e1
      rw [List.length_map, lm] at this
      exact this.symm
    rw [hks]
    refine List.ext_getElem? fun i => ?_
    rcases Nat.lt_or_ge i m with h | h
    · have hk := List.getElem?_eq_getElem (l := ks) (i := i) (by omega)
      have e2 := congrArg (fun l => l[i]?) e1
      simp only [List.getElem?_map] at e2
      rw [hk] at e2
      have klt : ks[i]'(by omega) < m := ok2.lt _ (by rw [hks]; exact List.getElem_mem _)
      have e3 : ord.getD i 0 = ord.getD (ks[i]'(by omega)) 0 := by
        rw [List.getD_eq_getElem?_getD, e2]
        rfl
      have := congrArg ord.idxOf e3
      rw [idx_at i h, idx_at _ klt] at this
      rw [hk, List.getElem?_range h, ← this]
    · rw [List.getElem?_eq_none (by omega), List.getElem?_eq_none (by rw [List.length_range]; omega)]
/-! ### the ways laid one by one -/
/-- those up to a letter of a room -/
def laid (d : Gm) (i j : Nat) : Gm := fun x s => match d x s with
  | none => none
  | some g => if 0 < s then (if x < i ∨ (x = i ∧ s ≤ (j : Int)) then some g else none) else (if g < i ∨ (g = i ∧ -s ≤ (j : Int)) then some g else none)
theorem laid_no {d : Gm} {i j x : Nat} {s : Int} (h : d x s = none) : laid d i j x s = none := by unfold laid; rw [h]
theorem laid_pos {d : Gm} {i j x g : Nat} {s : Int} (h : d x s = some g) (hs : 0 < s) : laid d i j x s = if x < i ∨ (x = i ∧ s ≤ (j : Int)) then some g else none := by
  unfold laid
  rw [h]
  exact if_pos hs
theorem laid_neg {d : Gm} {i j x g : Nat} {s : Int} (h : d x s = some g) (hs : ¬ 0 < s) : laid d i j x s = if g < i ∨ (g = i ∧ -s ≤ (j : Int)) then some g else none := by
  unfold laid
  rw [h]
  exact if_neg hs
theorem ite_same {c c' : Prop} [Decidable c] [Decidable c'] {α : Type} {a b : α} (h : c ↔ c') : (if c then a else b) = if c' then a else b := by
  by_cases hc : c
  · rw [if_pos hc, if_pos (h.mp hc)]
  · rw [if_neg hc, if_neg fun z => hc (h.mpr z)]
theorem step_ne {L n : Nat} {d : Gm} (G : Gr L n d) {x g : Nat} {s : Int} (h : d x s = some g) : s ≠ 0 ∧ -(L : Int) ≤ s ∧ s ≤ L := Od.mem_steps.mp (G.dom _ _ _ h).2.2
theorem laid_none {L n : Nat} {d : Gm} (G : Gr L n d) {i j : Nat} (h : d i ((j : Int) + 1) = none) (x : Nat) (s : Int) : laid d i (j + 1) x s = laid d i j x s := by
  cases e : d x s with
  | none => rw [laid_no e, laid_no e]
  | some g =>
    by_cases hs : 0 < s
    · rw [laid_pos e hs, laid_pos e hs]
      refine ite_same ⟨fun z => ?_, fun z => by omega⟩
      rcases z with z | ⟨z1, z2⟩
      · exact .inl z
      · refine .inr ⟨z1, ?_⟩
        rcases Decidable.em ((j : Int) < s) with q | q
        · exfalso
          have : s = (j : Int) + 1 := by omega
          rw [this, z1, h] at e
          cases e
        · omega
    · rw [laid_neg e hs, laid_neg e hs]
      refine ite_same ⟨fun z => ?_, fun z => by omega⟩
      rcases z with z | ⟨z1, z2⟩
      · exact .inl z
      · refine .inr ⟨z1, ?_⟩
        rcases Decidable.em ((j : Int) < -s) with q | q
        · exfalso
          have k := G.sym _ _ _ e
          have : -s = (j : Int) + 1 := by omega
          rw [this, z1, h] at k
          cases k
        · omega
theorem laid_some {L n : Nat} {d : Gm} (G : Gr L n d) {i j g : Nat} (h : d i ((j : Int) + 1) = some g) (x : Nat) (s : Int) : laid d i (j + 1) x s = if x = g ∧ s = -((j : Int) + 1) then some i else if x = i ∧ s = (j : Int) + 1 then some g else laid d i j x s := by
  by_cases c1 : x = g ∧ s = -((j : Int) + 1)
  · rw [if_pos c1, c1.1, c1.2, laid_neg (G.sym _ _ _ h) (by omega), if_pos (.inr ⟨rfl, by omega⟩)]
  rw [if_neg c1]
  by_cases c2 : x = i ∧ s = (j : Int) + 1
  · rw [if_pos c2, c2.1, c2.2, laid_pos h (by omega), if_pos (.inr ⟨rfl, by omega⟩)]
  rw [if_neg c2]
  cases e : d x s with
  | none => rw [laid_no e, laid_no e]
  | some g' =>
    by_cases hs : 0 < s
    · rw [laid_pos e hs, laid_pos e hs]
      refine ite_same ⟨fun z => ?_, fun z => by omega⟩
      rcases z with z | ⟨z1, z2⟩
      · exact .inl z
      · refine .inr ⟨z1, ?_⟩
        rcases Decidable.em ((j : Int) < s) with q | q
        · exact absurd ⟨z1, by omega⟩ c2
        · omega
    · rw [laid_neg e hs, laid_neg e hs]
      refine ite_same ⟨fun z => ?_, fun z => by omega⟩
      rcases z with z | ⟨z1, z2⟩
      · exact .inl z
      · refine .inr ⟨z1, ?_⟩
        rcases Decidable.em ((j : Int) < -s) with q | q
        · have k := G.sym _ _ _ e
          have e3 : -s = (j : Int) + 1 := by omega
          rw [e3, z1, h] at k
          exact absurd ⟨(Option.some.inj k).symm, by omega⟩ c1
        · omega
theorem laid_start {L n : Nat} {d : Gm} (G : Gr L n d) (x : Nat) (s : Int) : laid d 0 0 x s = none := by
  cases e : d x s with
  | none => exact laid_no e
  | some g =>
    have := step_ne G e
    by_cases hs : 0 < s
    · rw [laid_pos e hs, if_neg (by omega)]
    · rw [laid_neg e hs, if_neg (by omega)]
theorem laid_row {L n : Nat} {d : Gm} (G : Gr L n d) {i : Nat} (x : Nat) (s : Int) : laid d i L x s = laid d (i + 1) 0 x s := by
  cases e : d x s with
  | none => rw [laid_no e, laid_no e]
  | some g =>
    have := step_ne G e
    by_cases hs : 0 < s
    · rw [laid_pos e hs, laid_pos e hs]
      exact ite_same (by omega)
    · rw [laid_neg e hs, laid_neg e hs]
      exact ite_same (by omega)
theorem laid_all {L n : Nat} {d : Gm} (G : Gr L n d) (x : Nat) (s : Int) : laid d n 0 x s = d x s := by
  cases e : d x s with
  | none => exact laid_no e
  | some g =>
    have := G.dom _ _ _ e
    by_cases hs : 0 < s
    · rw [laid_pos e hs, if_pos (by omega)]
    · rw [laid_neg e hs, if_pos (by omega)]
/-- what is not laid yet -/
theorem laid_new {L n : Nat} {d : Gm} (G : Gr L n d) {i j g : Nat} (h : d i ((j : Int) + 1) = some g) : laid d i j g (-((j : Int) + 1)) = none := by
  rw [laid_neg (G.sym _ _ _ h) (by omega), if_neg (by omega)]
theorem laid_sub {d : Gm} {i j x : Nat} {s : Int} (h : (laid d i j x s).isSome = true) : (d x s).isSome = true := by
  cases e : d x s with
  | none => rw [laid_no e] at h; cases h
  | some g => rfl
theorem row_at {L r l : Nat} {d : Gm} (h : l < L) : (row L d r)[l]? = some (match d r ((l : Int) + 1) with
  | some g => (g : Int)
  | none => -1) := by
  unfold row
  rw [List.getElem?_map, List.getElem?_range h]
  rfl
theorem rows_at {L n r : Nat} {d : Gm} (h : r < n) : (rows L n d)[r]? = some (row L d r) := by
  unfold rows
  rw [List.getElem?_map, List.getElem?_range h]
  rfl
theorem row_len (L : Nat) (d : Gm) (r : Nat) : (row L d r).length = L := by unfold row; rw [List.length_map, List.length_range]
theorem rows_len (L n : Nat) (d : Gm) : (rows L n d).length = n := by unfold rows; rw [List.length_map, List.length_range]
/-! ### how many straight walks lead home -/
/-- by first steps, and all of them -/
def hw (L : Nat) (d : Gm) : Nat → (Nat → Int → Int) × (Nat → Int)
  | 0 => (fun _ _ => 0, fun r => if r = 0 then 1 else 0)
  | k + 1 => (fun r s => match d r s with
      | some g => (hw L d k).2 g - (hw L d k).1 g (-s)
      | none => 0, fun r => ((Od.steps L).map fun s => match d r s with
      | some g => (hw L d k).2 g - (hw L d k).1 g (-s)
      | none => 0).sum)
/-- how many walks of a length lead from home to home -/
def mem (L : Nat) (d : Gm) (k : Nat) : Int := (hw L d k).2 0
theorem hw_tot (L : Nat) (d : Gm) (k r : Nat) : (hw L d (k + 1)).2 r = ((Od.steps L).map ((hw L d (k + 1)).1 r)).sum := rfl
theorem hw_none {L : Nat} {d : Gm} {k r : Nat} {s : Int} (h : d r s = none) : (hw L d k).1 r s = 0 := by
  cases k with
  | zero => rfl
  | succ k =>
    show (match d r s with
      | some g => (hw L d k).2 g - (hw L d k).1 g (-s)
      | none => 0) = 0
    rw [h]
theorem hw_some {L : Nat} {d : Gm} {k r g : Nat} {s : Int} (h : d r s = some g) : (hw L d (k + 1)).1 r s = (hw L d k).2 g - (hw L d k).1 g (-s) := by
  show (match d r s with
      | some g => (hw L d k).2 g - (hw L d k).1 g (-s)
      | none => 0) = _
  rw [h]
end Wb
/-! webs as they stand in memory -/
namespace L2
open PySem PySem.Spec PyProof.Rows Evl
/-- a room, if there is one -/
def vN (o : Option Nat) : Option V := o.map fun (g : Nat) => V.int (g : Int)
theorem vN_some {o : Option Nat} : (vN o).isSome = o.isSome := by cases o <;> rfl
/-- a web: (letters, rows) -/
structure WebH (K : PySem.W.Frag) (H : Hp) (a : Addr) (L n : Nat) (d : Wb.Gm) : Prop where
  ex : ∃ (r : Addr) (xs : List V), SqT K H a [.int (L : Int), .ref r] ∧ SqT K H r xs ∧ WkA K H xs (Wb.rows L n d)
theorem WebH.mono {K : PySem.W.Frag} {H H1 : Hp} {a : Addr} {L n : Nat} {d : Wb.Gm} (h : WebH K H a L n d) (e : Ex H H1) : WebH K H1 a L n d := by
  obtain ⟨r, xs, h1, h2, h3⟩ := h.ex
  exact ⟨r, xs, ex_t e h1, ex_t e h2, h3.ex e⟩
theorem WebH.tx {K : PySem.W.Frag} {H H1 : Hp} {a : Addr} {L n : Nat} {d : Wb.Gm} (h : WebH K H a L n d) (e : TX H H1) : WebH K H1 a L n d := by
  obtain ⟨r, xs, h1, h2, h3⟩ := h.ex
  exact ⟨r, xs, tx_t e h1, tx_t e h2, h3.tx e⟩
/-- a list of dicts with numbers for keys: new ones behind H0 -/
structure DL (H0 H : Hp) (a : Addr) (n : Nat) (f : Nat → Int → Option V) : Prop where
  ex : ∃ ds : List Addr, ds.length = n ∧ ds.Nodup ∧ a ∉ ds ∧ (∀ x ∈ ds, H0 x = none) ∧ H0 a = none ∧ H a = some (.lst (ds.map V.ref)) ∧ ∀ i x, ds[i]? = some x → ∃ kvs, H x = some (.dK kvs) ∧ DI kvs (f i)
theorem DL.mono {H0 H H1 : Hp} {a : Addr} {n : Nat} {f : Nat → Int → Option V} (h : DL H0 H a n f) (e : Ex H H1) : DL H0 H1 a n f := by
  obtain ⟨ds, h1, h2, h3, h4, h5, h6, h7⟩ := h.ex
  refine ⟨ds, h1, h2, h3, h4, h5, e _ _ h6, fun i x hx => ?_⟩
  obtain ⟨kvs, k1, k2⟩ := h7 i x hx
  exact ⟨kvs, e _ _ k1, k2⟩
theorem DL.congr {H0 H : Hp} {a : Addr} {n : Nat} {f g : Nat → Int → Option V} (h : DL H0 H a n f) (e : ∀ i, i < n → ∀ x, f i x = g i x) : DL H0 H a n g := by
  obtain ⟨ds, h1, h2, h3, h4, h5, h6, h7⟩ := h.ex
  refine ⟨ds, h1, h2, h3, h4, h5, h6, fun i x hx => ?_⟩
  obtain ⟨kvs, k1, k2⟩ := h7 i x hx
  exact ⟨kvs, k1, k2.congr (e i (by rw [← h1]; exact (List.getElem?_eq_some_iff.mp hx).1))⟩
/-- the dict at a place -/
theorem DL.at' {H0 H : Hp} {a : Addr} {n : Nat} {f : Nat → Int → Option V} (h : DL H0 H a n f) {i : Nat} (hi : i < n) : ∃ xs x kvs, H a = some (.lst xs) ∧ xs[i]? = some (.ref x) ∧ H x = some (.dK kvs) ∧ DI kvs (f i) ∧ x ≠ a ∧ H0 x = none ∧
    ∀ H1 kvs' g, ExW x H H1 → H1 x = some (.dK kvs') → DI kvs' g → DL H0 H1 a n (fun j => if j = i then g else f j) := by
  obtain ⟨ds, h1, h2, h3, h4, h5, h6, h7⟩ := h.ex
  have hx := List.getElem?_eq_getElem (l := ds) (i := i) (by omega)
  obtain ⟨kvs, k1, k2⟩ := h7 i _ hx
  have xin := List.mem_of_getElem? hx
  have xa : ds[i] ≠ a := fun z => h3 (z ▸ xin)
  refine ⟨_, ds[i], kvs, h6, by rw [List.getElem?_map, hx]; rfl, k1, k2, xa, h4 _ xin, fun H1 kvs' g e q1 q2 => ?_⟩
  refine ⟨ds, h1, h2, h3, h4, h5, e _ _ h6 xa.symm, fun j y hy => ?_⟩
  by_cases ej : j = i
  · subst ej
    rw [hx] at hy
    cases hy
    exact ⟨kvs', q1, by rw [if_pos rfl]; exact q2⟩
  · obtain ⟨kv2, m1, m2⟩ := h7 j y hy
    have ne : y ≠ ds[i] := fun z => by
      subst z
      exact ej ((List.getElem?_inj (List.getElem?_eq_some_iff.mp hy).1 h2).mp (hy.trans hx.symm))
    exact ⟨kv2, e _ _ m1 ne, by rw [if_neg ej]; exact m2⟩
theorem DL.ex0 {H0 H H1 : Hp} {x : Addr} (e : Ex H0 H) (w : ExW x H H1) (hx : H0 x = none) : Ex H0 H1 := fun a o ha => w a o (e a o ha) (ne_of_none ha hx)
theorem DI.le {kvs : List (Key × V)} {f : Int → Option V} (h : DI kvs f) {m : List Int} (hm : m.Nodup) (e : ∀ x, (f x).isSome = true → x ∈ m) : kvs.length ≤ m.length := by
  rw [h.len (hm.filter fun x => (f x).isSome) fun x => by rw [List.mem_filter]; exact ⟨fun z => z.2, fun z => ⟨e x z, z⟩⟩]
  exact List.length_filter_le _ _
/-- a table of steps: for each room a dict -/
structure TabH (H : Hp) (a : Addr) (n : Nat) (d : Wb.Gm) : Prop where
  ex : ∃ ds : List Addr, ds.length = n ∧ H a = some (.lst (ds.map V.ref)) ∧ ∀ i x, ds[i]? = some x → ∃ kvs, H x = some (.dK kvs) ∧ DI kvs fun s => vN (d i s)
theorem TabH.mono {H H1 : Hp} {a : Addr} {n : Nat} {d : Wb.Gm} (h : TabH H a n d) (e : Ex H H1) : TabH H1 a n d := by
  obtain ⟨ds, h1, h6, h7⟩ := h.ex
  refine ⟨ds, h1, e _ _ h6, fun i x hx => ?_⟩
  obtain ⟨kvs, k1, k2⟩ := h7 i x hx
  exact ⟨kvs, e _ _ k1, k2⟩
theorem TabH.of {H0 H : Hp} {a : Addr} {n : Nat} {f : Nat → Int → Option V} {d : Wb.Gm} (h : DL H0 H a n f) (e : ∀ i, i < n → ∀ s, f i s = vN (d i s)) : TabH H a n d := by
  obtain ⟨ds, h1, h2, h3, h4, h5, h6, h7⟩ := (h.congr e).ex
  exact ⟨ds, h1, h6, h7⟩
theorem TabH.at' {H : Hp} {a : Addr} {n : Nat} {d : Wb.Gm} (h : TabH H a n d) {i : Nat} (hi : i < n) : ∃ xs x kvs, H a = some (.lst xs) ∧ xs.length = n ∧ xs[i]? = some (.ref x) ∧ H x = some (.dK kvs) ∧ DI kvs fun s => vN (d i s) := by
  obtain ⟨ds, h1, h6, h7⟩ := h.ex
  have hx := List.getElem?_eq_getElem (l := ds) (i := i) (by omega)
  obtain ⟨kvs, k1, k2⟩ := h7 i _ hx
  exact ⟨_, _, kvs, h6, by rw [List.length_map]; exact h1, by rw [List.getElem?_map, hx]; rfl, k1, k2⟩
/-- all the rooms reached, each with what leads there -/
structure RchH (K : PySem.W.Frag) (H : Hp) (kvs : List (Key × V)) (fd : Wb.Fd) : Prop where
  len : kvs.length = fd.length
  at' : ∀ (i : Nat) kv y, kvs[i]? = some kv → fd[i]? = some y → kv.1 = Sum.inl (y.1 : Int) ∧ match y.2 with
    | none => kv.2 = .non
    | some (r, s) => WkV K H kv.2 [(r : Int), s]
theorem RchH.mono {K : PySem.W.Frag} {H H1 : Hp} {kvs : List (Key × V)} {fd : Wb.Fd} (h : RchH K H kvs fd) (e : TX H H1) : RchH K H1 kvs fd := by
  refine ⟨h.len, fun i kv y h1 h2 => ?_⟩
  obtain ⟨a, b⟩ := h.at' i kv y h1 h2
  refine ⟨a, ?_⟩
  cases e2 : y.2 with
  | none => rw [e2] at b; exact b
  | some z => rw [e2] at b; exact b.tx e
theorem RchH.keys {K : PySem.W.Frag} {H : Hp} {kvs : List (Key × V)} {fd : Wb.Fd} (h : RchH K H kvs fd) : kvs.map (·.1) = (fd.map (·.1)).map fun (g : Nat) => (Sum.inl (g : Int) : Key) := by
  refine List.ext_getElem? fun i => ?_
  rw [List.getElem?_map, List.getElem?_map, List.getElem?_map]
  rcases Nat.lt_or_ge i kvs.length with lt | ge
  · have a := List.getElem?_eq_getElem lt
    have b := List.getElem?_eq_getElem (l := fd) (i := i) (h.len ▸ lt)
    rw [a, b]
    exact congrArg some (h.at' i _ _ a b).1
  · rw [List.getElem?_eq_none ge, List.getElem?_eq_none (h.len ▸ ge)]
    rfl
theorem RchH.mem {K : PySem.W.Frag} {H : Hp} {kvs : List (Key × V)} {fd : Wb.Fd} (h : RchH K H kvs fd) (g : Nat) : (valV kvs (Sum.inl (g : Int))).isSome = decide (g ∈ fd.map (·.1)) := by
  have iff : (Sum.inl (g : Int) : Key) ∈ kvs.map (·.1) ↔ g ∈ fd.map (·.1) := by
    rw [h.keys]
    refine ⟨fun z => ?_, fun z => List.mem_map_of_mem z⟩
    obtain ⟨x, hx, e⟩ := List.mem_map.mp z
    have := Sum.inl.inj e
    have : x = g := by omega
    rw [← this]
    exact hx
  cases e : valV kvs (Sum.inl (g : Int)) with
  | none => exact (decide_eq_false fun z => valV_not e (iff.mpr z)).symm
  | some v => exact (decide_eq_true (iff.mp (valV_in e))).symm
/-! ### new dicts, one for each item -/
section
variable {K : PySem.W.Frag} {σ : L2.St} {H : Hp} {Q : VK} {vs : List Nat} {j : Nat} {a : Addr} {xs : List V}
/-- so many new dicts -/
def NewDs (H0 : Hp) (i : Nat) (ys : List V) (H' : Hp) : Prop := ∃ ds : List Addr, ys = ds.map V.ref ∧ ds.length = i ∧ ds.Nodup ∧ (∀ x ∈ ds, H0 x = none) ∧ (∀ x ∈ ds, H' x = some (.dK [])) ∧ Ex H0 H'
theorem newDs_off {H0 H1 : Hp} {i : Nat} {acc : List V} {D : Addr} (hall : ∀ o, NewDs H0 i acc (upd H1 D o)) : H0 D = none ∧ ∃ ds : List Addr, acc = ds.map V.ref ∧ ds.length = i ∧ ds.Nodup ∧ D ∉ ds ∧ (∀ x ∈ ds, H0 x = none) ∧ (∀ x ∈ ds, H1 x = some (.dK [])) := by
  refine ⟨ex_none fun o => (hall o).choose_spec.2.2.2.2.2, ?_⟩
  obtain ⟨ds, h1, h2, h3, h4, h5, h6⟩ := hall (.lst [])
  have hD : D ∉ ds := fun z => by
    have := h5 D z
    rw [upd_same] at this
    cases this
  refine ⟨ds, h1, h2, h3, hD, h4, fun x hx => ?_⟩
  have := h5 x hx
  have ne : x ≠ D := fun z => hD (z ▸ hx)
  rwa [upd_ne ne] at this
theorem newDs_turn {H0 H1 : Hp} {i : Nat} {acc : List V} {D : Addr} {σ : L2.St} (hall : ∀ o, NewDs H0 i acc (upd H1 D o)) (hacc : H1 D = some (.lst acc)) (e : Ex H0 H1) (R : VK)
    (k : ∀ y H2, H2 D = some (.lst acc) → (∀ o, NewDs H0 (i + 1) (acc ++ [y]) (upd H2 D o)) → R y H2) : tDNewK σ H1 R := by
  obtain ⟨hD0, ds, rfl, h2, h3, hD, h4, h5⟩ := newDs_off hall
  refine st_dnew (r_dnew fun p H2 hp e2 k2 => ?_)
  have hpD : p ≠ D := fun z => by rw [z, hacc] at hp; cases hp
  have hpd : p ∉ ds := fun z => by rw [h5 p z] at hp; cases hp
  refine k _ H2 (e2 _ _ hacc) fun o => ⟨ds ++ [p], by rw [List.map_append]; rfl, by rw [List.length_append, h2]; rfl, ?_, fun x hx => ?_, fun x hx => ?_, ex_put (e.trans e2) hD0⟩
  · rw [List.nodup_append]
    refine ⟨h3, by simp, fun x hx y hy => ?_⟩
    rw [List.mem_singleton.mp hy]
    exact fun z => hpd (z ▸ hx)
  · rcases List.mem_append.mp hx with hx | hx
    · exact h4 x hx
    · rw [List.mem_singleton.mp hx]
      exact fresh_back e hp
  · rcases List.mem_append.mp hx with hx | hx
    · have ne : x ≠ D := fun z => hD (z ▸ hx)
      rw [upd_ne ne]
      exact e2 _ _ (h5 x hx)
    · rw [List.mem_singleton.mp hx, upd_ne hpD]
      exact k2
theorem newDs_end {H0 H1 : Hp} {i : Nat} {acc : List V} {D : Addr} (hall : ∀ o, NewDs H0 i acc (upd H1 D o)) (hacc : H1 D = some (.lst acc)) (e : Ex H0 H1) : DL H0 H1 D i fun _ _ => none := by
  obtain ⟨hD0, ds, rfl, h2, h3, hD, h4, h5⟩ := newDs_off hall
  exact ⟨ds, h2, h3, hD, h4, hD0, hacc, fun k x hx => ⟨[], h5 x (List.mem_of_getElem? hx), DI.nil⟩⟩
theorem dl_T (hl : SqT K H a xs) (hz : xs.length ≤ 10000) (hw : ∀ x, wipe ((wipe σ vs).set j (some x)) vs = wipe σ vs)
    (q : ∀ p H1, H p = none → Ex H H1 → DL H H1 p xs.length (fun _ _ => none) → Q (.ref p) H1) : rLc (Itt K a) (gName j) tYes tDNewK vs σ Q H := by
  refine r_cmTA (xs := xs) (fun i ys H' => NewDs H i ys H') (by omega) hw (fun i ys H' p => ex_t p.choose_spec.2.2.2.2.2 hl) (fun D hD o => ⟨[], rfl, rfl, List.nodup_nil, (fun x hx => nomatch hx), (fun x hx => nomatch hx), Ex.new hD⟩) (fun i x H1 D acc hx hz' hacc p hall => ?_) fun D H1 ys hD h p hall => ?_
  · have hi := (List.getElem?_eq_some_iff.mp hx).1
    refine t_yes (if_T ?_)
    exact newDs_turn hall hacc p.choose_spec.2.2.2.2.2 _ fun y H2 z1 z2 => cm_yes z1 hz' (by omega) z2
  · exact q D H1 hD p.choose_spec.2.2.2.2.2 (newDs_end hall h p.choose_spec.2.2.2.2.2)
theorem dl_R {lo : Int} {m : Nat} (hz : m ≤ 10000) (hw : ∀ x, wipe ((wipe σ vs).set j (some x)) vs = wipe σ vs)
    (q : ∀ p H1, H p = none → Ex H H1 → DL H H1 p m (fun _ _ => none) → Q (.ref p) H1) : rLc (Itr lo m) (gName j) tYes tDNewK vs σ Q H := by
  have at1 : ∀ {i : Nat} {ys : List V} {H' : Hp} {D : Addr}, (∀ o, NewDs H i ys (upd H' D o)) → H' D = some (.lst ys) → NewDs H i ys H' := fun {i ys H' D} h e => by
    have z := h (.lst ys)
    rw [upd_id e] at z
    exact z
  refine r_cmRA (m := m) (fun i ys H' => NewDs H i ys H') (by omega) hw (fun D hD o => ⟨[], rfl, rfl, List.nodup_nil, (fun x hx => nomatch hx), (fun x hx => nomatch hx), Ex.new hD⟩) (fun i H1 D acc hi hz' hacc hall Q' k => ?_) fun D H1 ys hD zy h hall => ?_
  · exact newDs_turn hall hacc (at1 hall hacc).choose_spec.2.2.2.2.2 _ fun y H2 z1 z2 => k y H2 z1 z2
  · have e := (at1 hall h).choose_spec.2.2.2.2.2
    exact q D H1 hD e (newDs_end hall h e)
end
theorem RchH.snoc {K : PySem.W.Frag} {H : Hp} {kvs : List (Key × V)} {fd : Wb.Fd} {g r : Nat} {s : Int} {x : V} (h : RchH K H kvs fd) (hx : WkV K H x [(r : Int), s]) : RchH K H (kvs ++ [(Sum.inl (g : Int), x)]) (fd ++ [(g, some (r, s))]) := by
  refine ⟨by rw [List.length_append, List.length_append, h.len]; rfl, fun i kv y h1 h2 => ?_⟩
  rcases Nat.lt_or_ge i kvs.length with lt | ge
  · rw [List.getElem?_append_left lt] at h1
    rw [List.getElem?_append_left (h.len ▸ lt)] at h2
    exact h.at' i kv y h1 h2
  · rw [List.getElem?_append_right ge] at h1
    rw [List.getElem?_append_right (h.len ▸ ge)] at h2
    have e : i - kvs.length = 0 := by
      have := (List.getElem?_eq_some_iff.mp h1).1
      simp at this
      omega
    rw [e] at h1
    rw [← h.len, e] at h2
    cases h1
    cases h2
    exact ⟨rfl, hx⟩
theorem r_dninV {H : Hp} {Q : VK} {d : Addr} {x : Int} {kvs : List (Key × V)} (h : Rd H d (.dK kvs)) (q : Q (.bl (!(valV kvs (Sum.inl x)).isSome)) H) : rDIn true (.ref d) (.int x) H Q := ⟨d, _, rfl, .inl ⟨kvs, Sum.inl x, h, rfl, rfl⟩, q⟩
theorem r_dinV {H : Hp} {Q : VK} {d : Addr} {x : Int} {kvs : List (Key × V)} (h : Rd H d (.dK kvs)) (q : Q (.bl (valV kvs (Sum.inl x)).isSome) H) : rDIn false (.ref d) (.int x) H Q := ⟨d, _, rfl, .inl ⟨kvs, Sum.inl x, h, rfl, rfl⟩, q⟩
theorem FunD.okN {P : Program} {w : World} {K : PySem.W.Frag} {mg : Str → Option Value} {base : Heap} {x qual : Str} {params : Arguments} {body : List Stmt} {scope : Scope} {dvs : List V} {kws : List (Str × V)} {f : Addr} {fd : FuncData} {N ps : List Str} {k : Nat} {sp : Sp} (F : FunD K x qual params body scope dvs kws f fd) (S : FnScope N ps scope)
    (len : ∀ xs H Q E, sp xs H Q E → xs.length = ps.length)
    (inner : ∀ (cdv : Value) (A : Around) (outer : List Env) (s : Shared) (H : Hp) (xs : List V) (Q : VK) (E : XK),
      Room k (A.deeper (envOfC qual scope s.heap.objs.size f cdv)) → sp xs H Q E →
      ∃ t, PSs (cxOf CX0 P w K mg base N qual scope f cdv A outer s H E).nox body t ∧ t { nx := fun _ H' => Q .non H', rt := Q } (start N xs) H) :
    FnOk P w K mg base CX0 (k + 1) f fd ps sp :=
  F.ok S len fun cdv A outer s H xs Q E hr hsp => by
    obtain ⟨t, b, q⟩ := inner cdv A outer s H xs Q E hr hsp
    exact ⟨t, b.nox, q⟩
end L2
/-! objects by their fields; lists of dicts made by comprehensions; sums over dicts -/
namespace L2
open PySem PySem.Spec PyProof.Rows Evl
/-! ### fields and methods -/
def rFld (K : PySem.W.Frag) (f : Str) (x : V) (H1 : Hp) (Q : VK) : Prop := ∃ a C dx fs v, x = .ref a ∧ H1 a = some (.ins C dx fs) ∧ Cls K C ∧ NoAttr K C f ∧ fs.lookup f = some v ∧ Q v H1
def rSFld (K : PySem.W.Frag) (f : Str) (y x : V) (H2 : Hp) (R : Hp → Prop) : Prop := ∃ a C dx fs, x = .ref a ∧ H2 a = some (.ins C dx fs) ∧ Cls K C ∧ NoAttr K C f ∧ fs.length < 1000 ∧ R (upd H2 a (.ins C dx (putF f y fs)))
def rMeth (C : Addr) (m : Str) (sp : Sp) (dvs : List V) (E : XK) (t : TA) (σ : L2.St) (x : V) (H1 : Hp) (Q : VK) : Prop := ∃ a dx fs, x = .ref a ∧ H1 a = some (.ins C dx fs) ∧ fs.lookup m = none ∧ t σ H1 fun vs H2 => sp (x :: (vs ++ dvs)) H2 Q E
def rMake (C : Addr) (sp : Sp) (dvs : List V) (E : XK) (vs : List V) (H1 : Hp) (Q : VK) : Prop := ∀ x dx, H1 x = none → H1 dx = none → dx ≠ x → sp (.ref x :: (vs ++ dvs)) (upd (upd H1 dx (.own x)) x (.ins C dx [])) (fun v H2 => v = .non ∧ Q (.ref x) H2) E
section
variable {K : PySem.W.Frag} {σ : L2.St} {H : Hp} {Q : VK} {D : Ends} {ta tv : TE} {t : TA} {f m : Str} {a C dx : Addr} {fs : List (Str × V)} {v y : V} {sp : Sp} {dvs vs : List V} {E : XK}
theorem st_fld (h : ta σ H fun x H1 => rFld K f x H1 Q) : tFld K ta f σ H Q := h
theorem st_sfld (h : tv σ H fun y H1 => ta σ H1 fun x H2 => rSFld K f y x H2 fun H3 => D.nx σ H3) : sFld K ta tv f D σ H := h
theorem st_meth (h : ta σ H fun x H1 => rMeth C m sp dvs E t σ x H1 Q) : tMeth C m sp dvs E ta t σ H Q := h
theorem st_make (h : t σ H fun vs H1 => rMake C sp dvs E vs H1 Q) : tMake C sp dvs E t σ H Q := h
theorem r_fld (h : H a = some (.ins C dx fs)) (c : Cls K C) (n : NoAttr K C f) (l : fs.lookup f = some v) (q : Q v H) : rFld K f (.ref a) H Q := ⟨a, C, dx, fs, v, rfl, h, c, n, l, q⟩
theorem r_sfld {R : Hp → Prop} (h : H a = some (.ins C dx fs)) (c : Cls K C) (n : NoAttr K C f) (hz : fs.length < 1000) (q : ∀ H1, ExW a H H1 → H1 a = some (.ins C dx (putF f y fs)) → R H1) : rSFld K f y (.ref a) H R :=
  ⟨a, C, dx, fs, rfl, h, c, n, hz, q _ ExW.upd upd_same⟩
theorem r_meth (h : H a = some (.ins C dx fs)) (l : fs.lookup m = none) (q : t σ H fun vs H2 => sp (.ref a :: (vs ++ dvs)) H2 Q E) : rMeth C m sp dvs E t σ (.ref a) H Q := ⟨a, dx, fs, rfl, h, l, q⟩
theorem r_make (q : ∀ x dx H2, H x = none → Ex H H2 → H2 x = some (.ins C dx []) → sp (.ref x :: (vs ++ dvs)) H2 (fun v H3 => v = .non ∧ Q (.ref x) H3) E) : rMake C sp dvs E vs H Q := fun x dx hx hdx hne =>
  q x dx _ hx (fun b o ho => by rw [upd_ne (ne_of_none ho hx), upd_ne (ne_of_none ho hdx)]; exact ho) upd_same
end
theorem pe_fldK {X : Cx} (K : PySem.W.Frag) {e : Expr} {f : Str} {pos : Pos} {ta : TE} (he : PE X e ta) (hb : attributeBase e f X.env (eval e X.env) = eval e X.env := by rfl) (h : X.K = K := by rfl) : PE X (.Attribute e f pos) (tFld K ta f) := h ▸ pe_fld he hb
theorem st_rg1 {ta : TE} {σ : L2.St} {H : Hp} {R : Int → Int → Hp → Prop} (h : ta σ H fun x H1 => ∃ n, x = .int n ∧ R 0 n H1) : tRg1 ta σ H R := h
/-! ### lists of dicts, each as told -/
def NewDf (H0 : Hp) (f : Nat → Int → Option V) (i : Nat) (ys : List V) (H' : Hp) : Prop := ∃ ds : List Addr, ys = ds.map V.ref ∧ ds.length = i ∧ ds.Nodup ∧ (∀ x ∈ ds, H0 x = none) ∧ (∀ k x, ds[k]? = some x → ∃ kvs, H' x = some (.dK kvs) ∧ DI kvs (f k)) ∧ Ex H0 H'
section
variable {K : PySem.W.Frag} {σ : L2.St} {H : Hp} {Q : VK} {vs : List Nat} {j : Nat} {a : Addr} {xs : List V} {te : TE} {f : Nat → Int → Option V}
theorem newDf_off {H0 H1 : Hp} {i : Nat} {acc : List V} {D : Addr} (hall : ∀ o, NewDf H0 f i acc (upd H1 D o)) : H0 D = none ∧ ∃ ds : List Addr, acc = ds.map V.ref ∧ ds.length = i ∧ ds.Nodup ∧ D ∉ ds ∧ (∀ x ∈ ds, H0 x = none) ∧ (∀ k x, ds[k]? = some x → ∃ kvs, H1 x = some (.dK kvs) ∧ DI kvs (f k)) := by
  refine ⟨ex_none fun o => (hall o).choose_spec.2.2.2.2.2, ?_⟩
  obtain ⟨ds, h1, h2, h3, h4, h5, h6⟩ := hall (.lst [])
  have hD : D ∉ ds := fun z => by
    obtain ⟨k, hk⟩ := List.mem_iff_getElem?.mp z
    obtain ⟨kvs, q, _⟩ := h5 k D hk
    rw [upd_same] at q
    cases q
  refine ⟨ds, h1, h2, h3, hD, h4, fun k x hx => ?_⟩
  obtain ⟨kvs, q1, q2⟩ := h5 k x hx
  have ne : x ≠ D := fun z => hD (z ▸ List.mem_of_getElem? hx)
  exact ⟨kvs, by rwa [upd_ne ne] at q1, q2⟩
theorem newDf_next {H0 H1 H2 : Hp} {i : Nat} {acc : List V} {D p : Addr} {kvs : List (Key × V)} (hall : ∀ o, NewDf H0 f i acc (upd H1 D o)) (hacc : H1 D = some (.lst acc)) (e : Ex H0 H1) (hp : H1 p = none) (e2 : Ex H1 H2) (k2 : H2 p = some (.dK kvs)) (hd : DI kvs (f i)) : ∀ o, NewDf H0 f (i + 1) (acc ++ [.ref p]) (upd H2 D o) := fun o => by
  obtain ⟨hD0, ds, rfl, h2, h3, hD, h4, h5⟩ := newDf_off hall
  have hpD : p ≠ D := fun z => by rw [z, hacc] at hp; cases hp
  have hpd : p ∉ ds := fun z => by
    obtain ⟨k, hk⟩ := List.mem_iff_getElem?.mp z
    obtain ⟨_, q, _⟩ := h5 k p hk
    rw [q] at hp
    cases hp
  refine ⟨ds ++ [p], by rw [List.map_append]; rfl, by rw [List.length_append, h2]; rfl, ?_, fun x hx => ?_, fun k x hx => ?_, ex_put (e.trans e2) hD0⟩
  · rw [List.nodup_append]
    refine ⟨h3, by simp, fun x hx y hy => ?_⟩
    rw [List.mem_singleton.mp hy]
    exact fun z => hpd (z ▸ hx)
  · rcases List.mem_append.mp hx with hx | hx
    · exact h4 x hx
    · rw [List.mem_singleton.mp hx]
      exact fresh_back e hp
  · rcases Nat.lt_or_ge k ds.length with lt | ge
    · rw [List.getElem?_append_left lt] at hx
      obtain ⟨kv, q1, q2⟩ := h5 k x hx
      have ne : x ≠ D := fun z => hD (z ▸ List.mem_of_getElem? hx)
      exact ⟨kv, by rw [upd_ne ne]; exact e2 _ _ q1, q2⟩
    · rw [List.getElem?_append_right ge] at hx
      have ek : k = i := by
        have := (List.getElem?_eq_some_iff.mp hx).1
        simp at this
        omega
      rw [ek, h2, Nat.sub_self] at hx
      cases hx
      rw [ek]
      exact ⟨kvs, by rw [upd_ne hpD]; exact k2, hd⟩
theorem newDf_end {H0 H1 : Hp} {i : Nat} {acc : List V} {D : Addr} (hall : ∀ o, NewDf H0 f i acc (upd H1 D o)) (hacc : H1 D = some (.lst acc)) : DL H0 H1 D i f := by
  obtain ⟨hD0, ds, rfl, h2, h3, hD, h4, h5⟩ := newDf_off hall
  exact ⟨ds, h2, h3, hD, h4, hD0, hacc, h5⟩
/-- [e for x in xs], each e a new dict -/
theorem dlf_L (hl : SqL K H a xs) (hz : xs.length ≤ 10000) (hw : ∀ x, wipe ((wipe σ vs).set j (some x)) vs = wipe σ vs)
    (he : ∀ i x H1 (R : VK), xs[i]? = some x → Ex H H1 → (∀ p kvs H2, H1 p = none → Ex H1 H2 → H2 p = some (.dK kvs) → DI kvs (f i) → R (.ref p) H2) → te ((wipe σ vs).set j (some x)) H1 R)
    (q : ∀ p H1, H p = none → Ex H H1 → DL H H1 p xs.length f → Q (.ref p) H1) : rLc (Itl K a) (gName j) tYes te vs σ Q H := by
  refine r_cmLA (xs := xs) (fun i ys H' => NewDf H f i ys H') (by omega) hw (fun i ys H' p => ex_l p.choose_spec.2.2.2.2.2 hl) (fun D hD o => ⟨[], rfl, rfl, List.nodup_nil, (fun x hx => nomatch hx), (fun k x hx => by simp at hx), Ex.new hD⟩) (fun i x H1 D acc hx hz' hacc p hall => ?_) fun D H1 ys hD h p hall => ?_
  · have hi := (List.getElem?_eq_some_iff.mp hx).1
    have e := p.choose_spec.2.2.2.2.2
    refine t_yes (if_T ?_)
    exact he i x H1 _ hx e fun p' kvs H2 hp e2 k2 hd => cm_yes (e2 _ _ hacc) hz' (by omega) (newDf_next hall hacc e hp e2 k2 hd)
  · exact q D H1 hD p.choose_spec.2.2.2.2.2 (newDf_end hall h)
end
/-! ### {x: e for x, y in d.items()} -/
section
variable {K : PySem.W.Frag} {σ : L2.St} {H : Hp} {Q : VK} {td tv : TE} {vs : List Nat} {d : Addr} {j j2 : Nat} {ns : List Int}
theorem r_dcI2 {i0 : Nat} {f0 : Int → V} (hv : σ[i0]? = some (some (.ref d))) (hd : H d = some (.dK (dm ns f0))) (hn : ns.Nodup) (f : Int → V) (hz : ns.length ≤ 10000) (hw : ∀ x y, wipe (((wipe σ vs).set j (some x)).set j2 (some y)) vs = wipe σ vs) (hj : ∀ x y, (((wipe σ vs).set j (some x)).set j2 (some y))[j]? = some (some x))
    (he : ∀ x, x ∈ ns → ∀ (H1 : Hp) (Q' : VK), ExW d H H1 → Rd H1 d (.dK (dm ns f0)) → (∀ H2, Ex H1 H2 → Q' (f x) H2) → tv (((wipe σ vs).set j (some (.int x))).set j2 (some (f0 x))) H1 Q')
    (q : ∀ p H1, H p = none → Ex H H1 → H1 p = some (.dK (dm ns f)) → Q (.ref p) H1) : tLockE (tDc (iItems (tVar i0)) (gTup K 2 (gCons (gName j) (gCons (gName j2) gNil))) tYes (tVar j) tv vs) σ H Q := by
  refine ⟨d, _, hd, trivial, fun od => ?_⟩
  refine ⟨_, hv, d, od, dm ns f0, rfl, upd_same, fun D hD => ?_⟩
  have hDd : D ≠ d := fun e => by rw [e, upd_same] at hD; cases hD
  have hD0 : H D = none := by rw [upd_ne hDd] at hD; exact hD
  have fr : (upd H d (.frz od (.dK (dm ns f0)))) d = some (.frz od (.dK (dm ns f0))) := upd_same
  have wx : ExW d H (upd H d (.frz od (.dK (dm ns f0)))) := ExW.upd
  generalize upd H d (.frz od (.dK (dm ns f0))) = H0 at hD fr wx
  refine ⟨fun i m H' => m = ns.length - i ∧ i ≤ ns.length ∧ Ex H0 H' ∧ H' D = some (.dK (dm (ns.take i) f)), ⟨ns.length, by simp, Nat.zero_le _, Ex.new hD, upd_same⟩, ?_⟩
  rintro i m H' ⟨rfl, hi, e, h⟩
  have fr' := e _ _ fr
  rcases Nat.lt_or_ge i ns.length with lt | ge
  · have hx := List.getElem?_eq_getElem lt
    refine .inr ⟨⟨fr', by rw [dm_len]; exact lt⟩, fun H'' => Ex H0 H'' ∧ H'' D = some (.dK (dm (ns.take (i + 1)) f)), fun H'' p => ⟨ns.length - (i + 1), by omega, rfl, lt, p⟩, ?_⟩
    rintro y H6 ⟨T, k, v, hy, rfl, hT, rfl⟩
    unfold dm at hy
    rw [List.getElem?_map, hx] at hy
    cases hy
    have e6 : Ex H' (upd H' T (.tup [kV (Sum.inl ns[i]), f0 ns[i]])) := Ex.new hT
    refine r_tup2 (x := .int ns[i]) (y := f0 ns[i]) (t_of (by rw [upd_same]; rfl)) ?_
    refine ⟨hw _ _, t_yes ?_⟩
    dsimp only
    rw [if_pos rfl]
    refine ⟨_, hj _ _, ?_⟩
    refine he _ (List.mem_of_getElem? hx) _ _ (wx.trans (.of (e.trans e6))) (.inr ⟨od, e6 _ _ fr'⟩) fun H7 e7 => ?_
    have h7 := e7 _ _ (e6 _ _ h)
    refine ⟨_, Sum.inl ns[i], rfl, h7, sz_lt (by rw [dm_len, List.length_take]; omega), Ex.mut ((e.trans e6).trans e7) hD, ?_⟩
    have nin : ns[i] ∉ ns.take i := fun hm => by
      obtain ⟨k, hk⟩ := List.mem_iff_getElem?.mp hm
      have hki := (List.getElem?_eq_some_iff.mp hk).1
      rw [List.length_take] at hki
      rw [List.getElem?_take_of_lt (by omega)] at hk
      have := (List.getElem?_inj (by omega) hn).mp (hk.trans hx.symm)
      omega
    rw [upd_same, putK_dm_new nin, take_snoc hx, dm_snoc]
  · have e2 : i = ns.length := by omega
    subst e2
    refine .inl ⟨⟨fr', by rw [dm_len]; exact Nat.le_refl _⟩, fr', ?_⟩
    rw [List.take_length] at h
    refine q D _ hD0 (fun b o hb => ?_) (by rw [upd_ne hDd]; exact h)
    by_cases eb : b = d
    · subst eb
      rw [upd_same, ← hb, hd]
    · rw [upd_ne eb]
      exact e _ _ (wx b o hb eb)
end
/-! ### sums -/
theorem perm_sum {l m : List Int} (h : l.Perm m) : l.sum = m.sum := by
  induction h with
  | nil => rfl
  | cons x _ ih => rw [List.sum_cons, List.sum_cons, ih]
  | swap x y l => rw [List.sum_cons, List.sum_cons, List.sum_cons, List.sum_cons]; omega
  | trans _ _ a b => rw [a, b]
theorem sum_filter {b : Int → Int} {p : Int → Bool} : ∀ {m : List Int}, (∀ x ∈ m, p x = false → b x = 0) → ((m.filter p).map b).sum = (m.map b).sum
  | [], _ => rfl
  | x :: m, h => by
    have ih := sum_filter (m := m) fun y hy => h y (List.mem_cons_of_mem _ hy)
    cases hp : p x with
    | true => rw [List.filter_cons_of_pos hp, List.map_cons, List.sum_cons, List.map_cons, List.sum_cons, ih]
    | false => rw [List.filter_cons_of_neg (by rw [hp]; decide), ih, List.map_cons, List.sum_cons, h x List.mem_cons_self hp]; omega
theorem DI.vals {kvs : List (Key × V)} {f : Int → Option V} (h : DI kvs f) (b : Int → Int) (hb : ∀ x v, f x = some v → v = .int (b x)) {m : List Int} (hm : m.Nodup) (hs : ∀ x, (f x).isSome = true → x ∈ m) (h0 : ∀ x ∈ m, (f x).isSome = false → b x = 0) :
    ∃ ns : List Int, kvs.map (·.2) = ns.map V.int ∧ ns.sum = (m.map b).sum := by
  obtain ⟨l, hn, hl, rfl⟩ := h
  refine ⟨l.map b, ?_, ?_⟩
  · rw [dm_vals, List.map_map]
    refine List.map_congr_left fun x hx => ?_
    have := (hl x).mp hx
    cases e : f x with
    | none => rw [e] at this; cases this
    | some v => exact hb x v e
  · rw [← sum_filter (p := fun x => (f x).isSome) h0]
    exact perm_sum ((perm_of hn (hm.filter _) fun x => by rw [hl, List.mem_filter]; exact ⟨fun z => ⟨hs x z, z⟩, fun z => z.2⟩).map b)
/-- what a dict is, by its keys -/
theorem DI.dm {kvs : List (Key × V)} {f : Int → Option V} (h : DI kvs f) : ∃ l : List Int, l.Nodup ∧ (∀ x, x ∈ l ↔ (f x).isSome = true) ∧ kvs = L2.dm l fun x => (f x).getD .non := h
theorem DI.of_dm {l : List Int} {g : Int → V} {f : Int → Option V} (hn : l.Nodup) (hl : ∀ x, x ∈ l ↔ (f x).isSome = true) (e : ∀ x ∈ l, f x = some (g x)) : DI (L2.dm l g) f := ⟨l, hn, hl, dm_congr fun x hx => by rw [e x hx]; rfl⟩
/-! ### fields by name -/
theorem pf_hit {f : Str} {v x : V} {r : List (Str × V)} : putF f v ((f, x) :: r) = (f, v) :: r := if_pos rfl
theorem pf_skip {f g : Str} {v x : V} {r : List (Str × V)} (h : ¬ g = f) : putF f v ((g, x) :: r) = (g, x) :: putF f v r := if_neg h
theorem pf_nil {f : Str} {v : V} : putF f v [] = [(f, v)] := rfl
theorem lk_hit {f : Str} {x : V} {r : List (Str × V)} : ((f, x) :: r).lookup f = some x := by rw [List.lookup_cons]; simp
theorem lk_skip {f g : Str} {x : V} {r : List (Str × V)} (h : ¬ g = f) : ((g, x) :: r).lookup f = r.lookup f := by
  rw [List.lookup_cons]
  have : (f == g) = false := by
    cases e : f == g with
    | false => rfl
    | true => exact absurd (eq_of_beq e).symm h
  rw [this]
theorem lk_nil {f : Str} : ([] : List (Str × V)).lookup f = none := rfl
/-! ### all but objects stay -/
def ExI (H H1 : Hp) : Prop := ∀ a o, H a = some o → (∀ C dx fs, o ≠ .ins C dx fs) → H1 a = some o
theorem ExI.refl (H : Hp) : ExI H H := fun _ _ h _ => h
theorem ExI.of {H H1 : Hp} (e : Ex H H1) : ExI H H1 := fun a o h _ => e a o h
theorem ExI.trans {H H1 H2 : Hp} (a : ExI H H1) (b : ExI H1 H2) : ExI H H2 := fun x o h n => b x o (a x o h n) n
theorem ExI.w {H H1 : Hp} {x C dx : Addr} {fs : List (Str × V)} (e : ExW x H H1) (hx : H x = some (.ins C dx fs)) : ExI H H1 := fun a o h n => e a o h fun z => by
  rw [z, hx] at h
  exact n _ _ _ (Option.some.inj h).symm
theorem ExI.lst {H H1 : Hp} (e : ExI H H1) {a : Addr} {xs : List V} (h : H a = some (.lst xs)) : H1 a = some (.lst xs) := e _ _ h fun _ _ _ z => nomatch z
theorem ExI.dk {H H1 : Hp} (e : ExI H H1) {a : Addr} {kvs : List (Key × V)} (h : H a = some (.dK kvs)) : H1 a = some (.dK kvs) := e _ _ h fun _ _ _ z => nomatch z
theorem ExI.tx {H H1 : Hp} (e : ExI H H1) : TX H H1 := fun a xs h => by
  rcases h with h | ⟨o, h⟩
  · rw [h, e _ _ h fun _ _ _ z => nomatch z]
  · rw [h, e _ _ h fun _ _ _ z => nomatch z]
/-- a list of dicts that is read -/
structure DR (H : Hp) (a : Addr) (n : Nat) (f : Nat → Int → Option V) : Prop where
  ex : ∃ ds : List Addr, ds.length = n ∧ H a = some (.lst (ds.map V.ref)) ∧ ∀ i x, ds[i]? = some x → ∃ kvs, H x = some (.dK kvs) ∧ DI kvs (f i)
theorem DR.i {H H1 : Hp} {a : Addr} {n : Nat} {f : Nat → Int → Option V} (h : DR H a n f) (e : ExI H H1) : DR H1 a n f := by
  obtain ⟨ds, h1, h2, h3⟩ := h.ex
  refine ⟨ds, h1, e.lst h2, fun i x hx => ?_⟩
  obtain ⟨kvs, k1, k2⟩ := h3 i x hx
  exact ⟨kvs, e.dk k1, k2⟩
theorem DR.of {H0 H : Hp} {a : Addr} {n : Nat} {f : Nat → Int → Option V} (h : DL H0 H a n f) : DR H a n f := by
  obtain ⟨ds, h1, h2, h3, h4, h5, h6, h7⟩ := h.ex
  exact ⟨ds, h1, h6, h7⟩
theorem DR.at' {H : Hp} {a : Addr} {n : Nat} {f : Nat → Int → Option V} (h : DR H a n f) {i : Nat} (hi : i < n) : ∃ xs x kvs, H a = some (.lst xs) ∧ xs.length = n ∧ xs[i]? = some (.ref x) ∧ H x = some (.dK kvs) ∧ DI kvs (f i) := by
  obtain ⟨ds, h1, h6, h7⟩ := h.ex
  have hx := List.getElem?_eq_getElem (l := ds) (i := i) (by omega)
  obtain ⟨kvs, k1, k2⟩ := h7 i _ hx
  exact ⟨_, _, kvs, h6, by rw [List.length_map]; exact h1, by rw [List.getElem?_map, hx]; rfl, k1, k2⟩
theorem TabH.dr {H : Hp} {a : Addr} {n : Nat} {d : Wb.Gm} (h : TabH H a n d) : DR H a n fun i s => vN (d i s) := ⟨h.ex⟩
theorem DR.tab {H : Hp} {a : Addr} {n : Nat} {d : Wb.Gm} (h : DR H a n fun i s => vN (d i s)) : TabH H a n d := ⟨h.ex⟩
end L2
/-! pictures trimmed and rings folded -/
namespace Wb
theorem flt_le {α : Type} {p q : α → Bool} : ∀ {l : List α}, (∀ x ∈ l, p x = true → q x = true) → (l.filter p).length ≤ (l.filter q).length
  | [], _ => Nat.le_refl _
  | x :: l, h => by
    have ih := flt_le (l := l) fun y hy => h y (List.mem_cons_of_mem _ hy)
    have hx := h x List.mem_cons_self
    cases hp : p x with
    | true => rw [List.filter_cons_of_pos hp, List.filter_cons_of_pos (hx hp), List.length_cons, List.length_cons]; omega
    | false =>
      rw [List.filter_cons_of_neg (by rw [hp]; decide)]
      cases hq : q x with
      | true => rw [List.filter_cons_of_pos hq, List.length_cons]; omega
      | false => rw [List.filter_cons_of_neg (by rw [hq]; decide)]; exact ih
theorem flt_lt {α : Type} {p q : α → Bool} : ∀ {l : List α} {a : α}, (∀ x ∈ l, p x = true → q x = true) → a ∈ l → p a = false → q a = true → (l.filter p).length < (l.filter q).length
  | [], a, _, ha, _, _ => (List.not_mem_nil ha).elim
  | x :: l, a, h, ha, hp, hq => by
    have hl := fun y hy => h y (List.mem_cons_of_mem x hy)
    rcases List.mem_cons.mp ha with e | e
    · subst e
      rw [List.filter_cons_of_neg (by rw [hp]; decide), List.filter_cons_of_pos hq, List.length_cons]
      exact Nat.lt_succ_of_le (flt_le hl)
    · have ih := flt_lt hl e hp hq
      have hx := h x List.mem_cons_self
      cases hp2 : p x with
      | true => rw [List.filter_cons_of_pos hp2, List.filter_cons_of_pos (hx hp2), List.length_cons, List.length_cons]; omega
      | false =>
        rw [List.filter_cons_of_neg (by rw [hp2]; decide)]
        cases hq2 : q x with
        | true => rw [List.filter_cons_of_pos hq2, List.length_cons]; omega
        | false => rw [List.filter_cons_of_neg (by rw [hq2]; decide)]; exact ih
theorem flt_one {p q : Nat → Bool} {a : Nat} : ∀ {l : List Nat}, l.Nodup → (∀ x ∈ l, p x = true → q x = true ∨ x = a) → (l.filter p).length ≤ (l.filter q).length + 1
  | [], _, _ => Nat.zero_le _
  | x :: l, hn, h => by
    have hl := fun y hy => h y (List.mem_cons_of_mem x hy)
    have hx := h x List.mem_cons_self
    obtain ⟨n1, n2⟩ := List.nodup_cons.mp hn
    cases hp : p x with
    | false =>
      rw [List.filter_cons_of_neg (by rw [hp]; decide)]
      have ih := flt_one n2 hl
      cases hq : q x with
      | true => rw [List.filter_cons_of_pos hq, List.length_cons]; omega
      | false => rw [List.filter_cons_of_neg (by rw [hq]; decide)]; exact ih
    | true =>
      rw [List.filter_cons_of_pos hp, List.length_cons]
      rcases hx hp with hq | e
      · rw [List.filter_cons_of_pos hq, List.length_cons]
        have ih := flt_one n2 hl
        omega
      · subst e
        have := flt_le (p := p) (q := q) (l := l) fun y hy hpy => (hl y hy hpy).elim id fun e => absurd hy (e ▸ n1)
        cases hq : q x with
        | true => rw [List.filter_cons_of_pos hq, List.length_cons]; omega
        | false => rw [List.filter_cons_of_neg (by rw [hq]; decide)]; omega
/-! ### one way left out -/
def cut (d : Gm) (r g : Nat) (s : Int) : Gm := fun x t => if (x = r ∧ t = s) ∨ (x = g ∧ t = -s) then none else d x t
theorem cut_sub {d : Gm} {r g x y : Nat} {s t : Int} (h : cut d r g s x t = some y) : ¬ ((x = r ∧ t = s) ∨ (x = g ∧ t = -s)) ∧ d x t = some y := by
  unfold cut at h
  by_cases c : (x = r ∧ t = s) ∨ (x = g ∧ t = -s)
  · rw [if_pos c] at h
    cases h
  · rw [if_neg c] at h
    exact ⟨c, h⟩
theorem cut_gr {L n : Nat} {d : Gm} {r g : Nat} {s : Int} (G : Gr L n d) (h : d r s = some g) : Gr L n (cut d r g s) := by
  refine ⟨fun x t y e => G.dom x t y (cut_sub e).2, fun x t y e => ?_⟩
  obtain ⟨c, e⟩ := cut_sub e
  unfold cut
  rw [if_neg, G.sym _ _ _ e]
  intro z
  apply c
  have e2 := G.sym _ _ _ e
  have h2 := G.sym _ _ _ h
  rcases z with ⟨z1, z2⟩ | ⟨z1, z2⟩
  · subst z1
    rw [z2, h] at e2
    cases e2
    exact .inr ⟨rfl, by omega⟩
  · subst z1
    rw [z2, h2] at e2
    cases e2
    exact .inl ⟨rfl, by omega⟩
theorem cut_some {d : Gm} {r g x : Nat} {s t : Int} (h : (cut d r g s x t).isSome = true) : (d x t).isSome = true := by
  cases e : cut d r g s x t with
  | none => rw [e] at h; cases h
  | some y => rw [(cut_sub e).2]; rfl
theorem cut_deg {L : Nat} {d : Gm} {r g : Nat} {s : Int} (x : Nat) : deg L (cut d r g s) x ≤ deg L d x := flt_le fun t _ h => cut_some h
theorem cut_zero {L n : Nat} {d : Gm} {r g : Nat} {s : Int} (G : Gr L n d) (h : d r s = some g) (h1 : deg L d r = 1) : deg L (cut d r g s) r = 0 := by
  have : deg L (cut d r g s) r < deg L d r := flt_lt (a := s) (fun t _ z => cut_some z) (G.dom _ _ _ h).2.2 (by
    have : cut d r g s r s = none := if_pos (.inl ⟨rfl, rfl⟩)
    rw [this]
    rfl) (by rw [h]; rfl)
  omega
/-- rooms but home with any way -/
def pot (L n : Nat) (d : Gm) : Nat := ((List.range n).filter fun r => decide (r ≠ 0) && decide (0 < deg L d r)).length
theorem cut_pot {L n : Nat} {d : Gm} {r g : Nat} {s : Int} (G : Gr L n d) (h : d r s = some g) (h1 : deg L d r = 1) (hr : 0 < r) : pot L n (cut d r g s) + 1 ≤ pot L n d := by
  refine flt_lt (a := r) (fun x _ z => ?_) (List.mem_range.mpr (G.dom _ _ _ h).1) ?_ ?_
  · rw [Bool.and_eq_true, decide_eq_true_eq, decide_eq_true_eq] at z ⊢
    exact ⟨z.1, Nat.lt_of_lt_of_le z.2 (cut_deg x)⟩
  · rw [cut_zero G h h1]
    simp
  · rw [h1]
    simp
    omega
theorem pot_start {L n : Nat} {d : Gm} (hn : 0 < n) : pot L n d + 1 ≤ n := by
  have := flt_lt (l := List.range n) (p := fun r => decide (r ≠ 0) && decide (0 < deg L d r)) (q := fun _ => true) (a := 0) (fun _ _ _ => rfl) (List.mem_range.mpr hn) (by simp) rfl
  rw [List.filter_eq_self.mpr fun _ _ => rfl, List.length_range] at this
  exact this
def NoEnd (L n : Nat) (d : Gm) : Prop := ∀ r, 0 < r → r < n → deg L d r ≠ 1
def TrimI (L n t j : Nat) (d : Gm) : Prop := ((∀ r, 0 < r → r < j → deg L d r ≠ 1) ∧ pot L n d + t + 1 ≤ n) ∨ pot L n d + t + 2 ≤ n ∨ NoEnd L n d
def TrimO (L n t : Nat) (d : Gm) : Prop := NoEnd L n d ∨ pot L n d + t + 1 ≤ n
theorem trim_first {L n : Nat} {d : Gm} (hn : 0 < n) : TrimO L n 0 d := .inr (by have := pot_start (L := L) (d := d) hn; omega)
theorem trim_start {L n t : Nat} {d : Gm} (h : TrimO L n t d) : TrimI L n t 1 d := h.elim (fun h => .inr (.inr h)) fun h => .inl ⟨fun r h1 h2 => by omega, h⟩
theorem trim_no {L n t j : Nat} {d : Gm} (h : TrimI L n t j d) (hj : deg L d j ≠ 1) : TrimI L n t (j + 1) d := by
  rcases h with ⟨h1, h2⟩ | h
  · refine .inl ⟨fun r r0 rj => ?_, h2⟩
    rcases Nat.lt_or_ge r j with z | z
    · exact h1 r r0 z
    · rwa [show r = j by omega]
  · exact .inr h
theorem trim_yes {L n t j g : Nat} {d : Gm} {s : Int} (h : TrimI L n t j d) (G : Gr L n d) (e : d j s = some g) (hj : deg L d j = 1) (j0 : 0 < j) : TrimI L n t (j + 1) (cut d j g s) := by
  have z := cut_pot G e hj j0
  rcases h with ⟨h1, h2⟩ | h | h
  · exact .inr (.inl (by omega))
  · exact .inr (.inl (by omega))
  · exact absurd hj (h j j0 (G.dom _ _ _ e).1)
theorem trim_round {L n t : Nat} {d : Gm} (h : TrimI L n t n d) : TrimO L n (t + 1) d := by
  rcases h with ⟨h1, h2⟩ | h | h
  · exact .inl h1
  · exact .inr (by omega)
  · exact .inl h
theorem trim_end {L n : Nat} {d : Gm} (h : TrimO L n n d) : NoEnd L n d := h.elim id fun h => by omega
/-! ### rings folded -/
abbrev Ways := List (Nat × Int × Nat)
structure WaysOk (L n : Nat) (ws : Ways) : Prop where
  dom : ∀ a s b, (a, s, b) ∈ ws → a < n ∧ b < n ∧ s ∈ Od.steps L
  rev : ∀ a s b, (a, s, b) ∈ ws → (b, -s, a) ∈ ws
structure HeadsOk (n : Nat) (h : List Nat) : Prop where
  len : h.length = n
  lt : ∀ x ∈ h, x < n
def at0 (h : List Nat) (a : Nat) : Nat := h.getD a 0
theorem HeadsOk.in {n a : Nat} {h : List Nat} (k : HeadsOk n h) (ha : a < n) : at0 h a ∈ h := by
  unfold at0
  rw [List.getD_eq_getElem?_getD, List.getElem?_eq_getElem (by rw [k.len]; exact ha)]
  exact List.getElem_mem _
def lab (n : Nat) (h : List Nat) : Nat := ((List.range n).filter fun x => decide (x ∈ h)).length
def merge (h : List Nat) (lo hi : Nat) : List Nat := h.map fun x => if x = hi then lo else x
theorem mem_merge {h : List Nat} {lo hi x : Nat} (k : x ∈ merge h lo hi) : (x = lo ∧ hi ∈ h) ∨ (x ∈ h ∧ x ≠ hi) := by
  obtain ⟨y, hy, e⟩ := List.mem_map.mp k
  by_cases c : y = hi
  · rw [if_pos c] at e
    exact .inl ⟨e.symm, c ▸ hy⟩
  · rw [if_neg c] at e
    subst e
    exact .inr ⟨hy, c⟩
theorem merge_ok {n : Nat} {h : List Nat} {lo hi : Nat} (k : HeadsOk n h) (hl : lo < n) : HeadsOk n (merge h lo hi) := by
  refine ⟨by unfold merge; rw [List.length_map]; exact k.len, fun x hx => ?_⟩
  rcases mem_merge hx with ⟨e, _⟩ | ⟨e, _⟩
  · omega
  · exact k.lt _ e
theorem lab_lt {n : Nat} {h : List Nat} {lo hi : Nat} (k : HeadsOk n h) (hl : lo ∈ h) (hh : hi ∈ h) (ne : lo ≠ hi) : lab n (merge h lo hi) + 1 ≤ lab n h := by
  refine flt_lt (a := hi) (fun x _ z => ?_) (List.mem_range.mpr (k.lt _ hh)) (decide_eq_false fun z => ?_) (decide_eq_true hh)
  · rw [decide_eq_true_eq] at z ⊢
    rcases mem_merge z with ⟨e, _⟩ | ⟨e, _⟩
    · rw [e]; exact hl
    · exact e
  · rcases mem_merge z with ⟨e, _⟩ | ⟨_, e⟩
    · exact ne e.symm
    · exact e rfl
theorem lab_le {n : Nat} {h : List Nat} {lo hi : Nat} (k : HeadsOk n h) : lab n (merge h lo hi) ≤ lab n h := by
  by_cases hh : hi ∈ h
  · have z1 : ((List.range n).filter fun x => decide (x ∈ merge h lo hi)).length ≤ ((List.range n).filter fun x => decide (x ∈ h) && decide (x ≠ hi)).length + 1 :=
      flt_one (a := lo) List.nodup_range fun x _ z => by
        rw [decide_eq_true_eq] at z
        rcases mem_merge z with ⟨e, _⟩ | ⟨e, e2⟩
        · exact .inr e
        · exact .inl (by rw [Bool.and_eq_true, decide_eq_true_eq, decide_eq_true_eq]; exact ⟨e, e2⟩)
    have z2 : ((List.range n).filter fun x => decide (x ∈ h) && decide (x ≠ hi)).length < ((List.range n).filter fun x => decide (x ∈ h)).length :=
      flt_lt (a := hi) (fun x _ z => by rw [Bool.and_eq_true] at z; exact z.1) (List.mem_range.mpr (k.lt _ hh)) (by simp) (decide_eq_true hh)
    unfold lab
    omega
  · refine flt_le fun x _ z => ?_
    rw [decide_eq_true_eq] at z ⊢
    rcases mem_merge z with ⟨_, e⟩ | ⟨e, _⟩
    · exact absurd e hh
    · exact e
theorem lab_pos {n : Nat} {h : List Nat} (k : HeadsOk n h) (hn : 0 < n) : 1 ≤ lab n h := by
  have h0 := k.in hn
  exact List.length_pos_of_mem (List.mem_filter.mpr ⟨List.mem_range.mpr (k.lt _ h0), decide_eq_true h0⟩)
theorem lab_top {n : Nat} {h : List Nat} : lab n h ≤ n := by
  have := List.length_filter_le (fun x => decide (x ∈ h)) (List.range n)
  rwa [List.length_range] at this
def Stab (ws : Ways) (h : List Nat) : Prop := ∀ a s b a' b', (a, s, b) ∈ ws → (a', s, b') ∈ ws → at0 h a = at0 h a' → at0 h b = at0 h b'
structure Dof (d : Gm) (ws : Ways) (h : List Nat) : Prop where
  to : ∀ a s b, (a, s, b) ∈ ws → d (at0 h a) s = some (at0 h b)
  fro : ∀ x s v, d x s = some v → ∃ a b, (a, s, b) ∈ ws ∧ at0 h a = x ∧ at0 h b = v
def Dom (L n : Nat) (d : Gm) : Prop := ∀ x s v, d x s = some v → x < n ∧ v < n ∧ s ∈ Od.steps L
def RI (n : Nat) (all ws : Ways) (h0 h : List Nat) (d : Gm) : Prop := (h = h0 ∧ Dof d ws h0) ∨ (lab n h + 1 ≤ lab n h0 ∧ ¬ Stab all h0)
def RO (n : Nat) (ws : Ways) (t : Nat) (h : List Nat) (d : Gm) : Prop := (Stab ws h ∧ Dof d ws h) ∨ lab n h + t ≤ n
def set1 (d : Gm) (x : Nat) (s : Int) (v : Nat) : Gm := fun y t => if y = x ∧ t = s then some v else d y t
theorem ri_start {n : Nat} {all : Ways} {h : List Nat} : RI n all [] h h fun _ _ => none := .inl ⟨rfl, fun a s b e => (List.not_mem_nil e).elim, fun x s v e => by cases e⟩
theorem ri_new {n a b : Nat} {s : Int} {all ws : Ways} {h0 h : List Nat} {d : Gm} (k : RI n all ws h0 h d) (e : d (at0 h a) s = none) : RI n all (ws ++ [(a, s, b)]) h0 h (set1 d (at0 h a) s (at0 h b)) := by
  rcases k with ⟨rfl, k1, k2⟩ | k
  · refine .inl ⟨rfl, fun a' s' b' m => ?_, fun x s' v m => ?_⟩
    · unfold set1
      rcases List.mem_append.mp m with m | m
      · rw [if_neg, k1 _ _ _ m]
        intro z
        have := k1 _ _ _ m
        rw [z.1, z.2] at this
        rw [e] at this
        cases this
      · cases List.mem_singleton.mp m
        rw [if_pos ⟨rfl, rfl⟩]
    · unfold set1 at m
      by_cases c : x = at0 h a ∧ s' = s
      · rw [if_pos c] at m
        cases m
        exact ⟨a, b, List.mem_append_right _ (by rw [c.2]; exact List.mem_singleton.mpr rfl), c.1.symm, rfl⟩
      · rw [if_neg c] at m
        obtain ⟨a', b', m1, m2⟩ := k2 _ _ _ m
        exact ⟨a', b', List.mem_append_left _ m1, m2⟩
  · exact .inr k
theorem ri_same {n a b : Nat} {s : Int} {all ws : Ways} {h0 h : List Nat} {d : Gm} (k : RI n all ws h0 h d) (e : d (at0 h a) s = some (at0 h b)) : RI n all (ws ++ [(a, s, b)]) h0 h d := by
  rcases k with ⟨rfl, k1, k2⟩ | k
  · refine .inl ⟨rfl, fun a' s' b' m => ?_, fun x s' v m => ?_⟩
    · rcases List.mem_append.mp m with m | m
      · exact k1 _ _ _ m
      · cases List.mem_singleton.mp m
        exact e
    · obtain ⟨a', b', m1, m2⟩ := k2 _ _ _ m
      exact ⟨a', b', List.mem_append_left _ m1, m2⟩
  · exact .inr k
theorem ri_merge {n a b v lo hi : Nat} {s : Int} {all ws rest : Ways} {h0 h : List Nat} {d : Gm} (k : RI n all ws h0 h d) (ho : HeadsOk n h) (hall : ∀ w ∈ ws, w ∈ all) (hm : (a, s, b) ∈ all) (ha : ∀ a s b, (a, s, b) ∈ all → a < n ∧ b < n) (e : d (at0 h a) s = some v) (ne : v ≠ at0 h b) (hlo : lo = min v (at0 h b)) (hhi : hi = max v (at0 h b)) (ws' : Ways) :
    RI n all ws' h0 (merge h lo hi) d := by
  rcases k with ⟨rfl, k1, k2⟩ | ⟨k1, k2⟩
  · obtain ⟨a', b', m1, m2, m3⟩ := k2 _ _ _ e
    have i1 : at0 h b ∈ h := ho.in (ha _ _ _ hm).2
    have i2 : v ∈ h := m3 ▸ ho.in (ha _ _ _ (hall _ m1)).2
    refine .inr ⟨lab_lt ho ?_ ?_ (by omega), fun z => ne ?_⟩
    · rw [hlo, Nat.min_def]; split <;> assumption
    · rw [hhi, Nat.max_def]; split <;> assumption
    · rw [← m3]
      exact z _ _ _ _ _ (hall _ m1) hm m2
  · exact .inr ⟨Nat.le_trans (Nat.succ_le_succ (lab_le ho)) k1, k2⟩
theorem ro_turn {n t : Nat} {ws : Ways} {h0 h : List Nat} {d0 d : Gm} (k : RO n ws t h0 d0) (r : RI n ws ws h0 h d) : RO n ws (t + 1) h d := by
  rcases r with ⟨rfl, k1⟩ | ⟨k1, k2⟩
  · refine .inl ⟨fun a s b a' b' m m' e => ?_, k1⟩
    have z1 := k1.to _ _ _ m
    have z2 := k1.to _ _ _ m'
    rw [e, z2] at z1
    exact (Option.some.inj z1).symm
  · rcases k with ⟨s, _⟩ | k
    · exact absurd s k2
    · exact .inr (by omega)
theorem ro_first {n : Nat} {ws : Ways} {h : List Nat} {d : Gm} : RO n ws 0 h d := .inr (by have := lab_top (n := n) (h := h); omega)
theorem ro_end {L n : Nat} {ws : Ways} {h : List Nat} {d : Gm} (k : RO n ws n h d) (ho : HeadsOk n h) (hw : WaysOk L n ws) (hn : 0 < n) : Gr L n d := by
  have hp := lab_pos ho hn
  rcases k with ⟨s, k⟩ | k
  · refine ⟨fun x s v e => ?_, fun x s v e => ?_⟩
    · obtain ⟨a, b, m, rfl, rfl⟩ := k.fro _ _ _ e
      obtain ⟨d1, d2, d3⟩ := hw.dom _ _ _ m
      exact ⟨ho.lt _ (ho.in d1), ho.lt _ (ho.in d2), d3⟩
    · obtain ⟨a, b, m, rfl, rfl⟩ := k.fro _ _ _ e
      exact k.to _ _ _ (hw.rev _ _ _ m)
  · omega
end Wb
/-! doors put into a list of dicts -/
namespace L2
open PySem PySem.Spec PyProof.Rows Evl
theorem dl_set {H0 H : Hp} {a : Addr} {n i : Nat} {d : Wb.Gm} (h : DL H0 H a n fun x s => vN (d x s)) (hi : i < n) (hs : ∀ s, (d i s).isSome = true → s ∈ Od.steps 4) :
    ∃ xs p kvs, H a = some (.lst xs) ∧ xs[i]? = some (.ref p) ∧ H p = some (.dK kvs) ∧ DI kvs (fun s => vN (d i s)) ∧ kvs.length < 100000 ∧ p ≠ a ∧ H0 p = none ∧
      ∀ H1 kvs' s0 (g : Nat), ExW p H H1 → H1 p = some (.dK kvs') → DI kvs' (fun t => if t = s0 then some (.int (g : Int)) else vN (d i t)) → DL H0 H1 a n fun x s => vN (if x = i ∧ s = s0 then some g else d x s) := by
  obtain ⟨xs, p, kvs, h1, h2, h3, h4, h5, h6, h7⟩ := h.at' hi
  refine ⟨xs, p, kvs, h1, h2, h3, h4, ?_, h5, h6, fun H1 kvs' s0 g e q1 q2 => (h7 H1 kvs' _ e q1 q2).congr fun x _ s => ?_⟩
  · have := h4.le (Od.steps_nodup 4) fun s z => hs s (by rw [← vN_some]; exact z)
    rw [Od.steps_len] at this
    omega
  · by_cases c1 : x = i
    · subst c1
      refine (congrFun (if_pos rfl) s).trans ?_
      by_cases c2 : s = s0
      · refine (if_pos c2).trans ?_
        have e2 : (if x = x ∧ s = s0 then some g else d x s) = some g := if_pos ⟨rfl, c2⟩
        rw [e2]
        rfl
      · refine (if_neg c2).trans ?_
        have e2 : (if x = x ∧ s = s0 then some g else d x s) = d x s := if_neg fun z => c2 z.2
        rw [e2]
    · refine (congrFun (if_neg c1) s).trans ?_
      have e2 : (if x = i ∧ s = s0 then some g else d x s) = d x s := if_neg fun z => c1 z.1
      rw [e2]
theorem dl_pop {H0 H : Hp} {a : Addr} {n i : Nat} {d : Wb.Gm} (h : DL H0 H a n fun x s => vN (d x s)) (hi : i < n) :
    ∃ xs p kvs, H a = some (.lst xs) ∧ xs[i]? = some (.ref p) ∧ H p = some (.dK kvs) ∧ DI kvs (fun s => vN (d i s)) ∧ p ≠ a ∧ H0 p = none ∧
      ∀ H1 kvs' s0, ExW p H H1 → H1 p = some (.dK kvs') → DI kvs' (fun t => if t = s0 then none else vN (d i t)) → DL H0 H1 a n fun x s => vN (if x = i ∧ s = s0 then none else d x s) := by
  obtain ⟨xs, p, kvs, h1, h2, h3, h4, h5, h6, h7⟩ := h.at' hi
  refine ⟨xs, p, kvs, h1, h2, h3, h4, h5, h6, fun H1 kvs' s0 e q1 q2 => (h7 H1 kvs' _ e q1 q2).congr fun x _ s => ?_⟩
  by_cases c1 : x = i
  · subst c1
    refine (congrFun (if_pos rfl) s).trans ?_
    by_cases c2 : s = s0
    · refine (if_pos c2).trans ?_
      have e2 : (if x = x ∧ s = s0 then none else d x s) = none := if_pos ⟨rfl, c2⟩
      rw [e2]
      rfl
    · refine (if_neg c2).trans ?_
      have e2 : (if x = x ∧ s = s0 then none else d x s) = d x s := if_neg fun z => c2 z.2
      rw [e2]
  · refine (congrFun (if_neg c1) s).trans ?_
    have e2 : (if x = i ∧ s = s0 then none else d x s) = d x s := if_neg fun z => c1 z.1
    rw [e2]
theorem di_deg {L n r : Nat} {d : Wb.Gm} {kvs : List (Key × V)} (h : DI kvs fun s => vN (d r s)) (G : Wb.Gr L n d) : kvs.length = Wb.deg L d r :=
  h.len ((Od.steps_nodup L).filter _) fun x => by
    rw [List.mem_filter, vN_some]
    exact ⟨fun z => z.2, fun z => ⟨by
      cases e : d r x with
      | none => rw [e] at z; cases z
      | some g => exact (G.dom _ _ _ e).2.2, z⟩⟩
/-- the one way of an idle end -/
theorem di_one {r : Nat} {d : Wb.Gm} {kvs : List (Key × V)} (h : DI kvs fun s => vN (d r s)) (h1 : kvs.length = 1) : ∃ s g, d r s = some g ∧ kvs.map (fun kv => kV kv.1) = [V.int s] := by
  obtain ⟨l, hn, hl, rfl⟩ := h.dm
  rw [dm_len] at h1
  obtain ⟨s, rfl⟩ := List.length_eq_one_iff.mp h1
  have hs := (hl s).mp (List.mem_singleton.mpr rfl)
  rw [vN_some] at hs
  cases e : d r s with
  | none => rw [e] at hs; cases hs
  | some g => exact ⟨s, g, e, rfl⟩
theorem vN_inj {a b : Option Nat} (h : vN a = vN b) : a = b := by
  cases a <;> cases b
  · rfl
  · cases h
  · cases h
  · have := Option.some.inj h
    have : ((_ : Nat) : Int) = ((_ : Nat) : Int) := V.int.inj this
    exact congrArg some (by omega)
/-- numbers of rooms -/
def nI (l : List Nat) : List Int := l.map fun (g : Nat) => (g : Int)
theorem nI_mem {l : List Nat} {g : Nat} : (g : Int) ∈ nI l ↔ g ∈ l := by
  unfold nI
  rw [List.mem_map]
  exact ⟨fun ⟨x, hx, e⟩ => (show x = g by omega) ▸ hx, fun h => ⟨g, h, rfl⟩⟩
theorem nI_idx {g : Nat} : ∀ {l : List Nat}, (nI l).idxOf (g : Int) = l.idxOf g
  | [] => rfl
  | x :: l => by
    show ((x : Int) :: nI l).idxOf (g : Int) = _
    rw [List.idxOf_cons, List.idxOf_cons, nI_idx (l := l)]
    have : ((x : Int) == (g : Int)) = (x == g) := by
      by_cases e : x = g
      · subst e
        rw [beq_self_eq_true, beq_self_eq_true]
      · rw [beq_false_of_ne (show ¬ (x : Int) = g by omega), beq_false_of_ne e]
    rw [this]
theorem nI_len {l : List Nat} : (nI l).length = l.length := by unfold nI; rw [List.length_map]
theorem nI_at {l : List Nat} {i g : Nat} (h : l[i]? = some g) : (nI l)[i]? = some (g : Int) := by unfold nI; rw [List.getElem?_map, h]; rfl
/-- what else changes -/
theorem dl_w {H0 H H1 : Hp} {a w : Addr} {n : Nat} {f : Nat → Int → Option V} (h : DL H0 H a n f) (e : ExW w H H1) (hw : H0 w ≠ none) : DL H0 H1 a n f := by
  obtain ⟨ds, h1, h2, h3, h4, h5, h6, h7⟩ := h.ex
  refine ⟨ds, h1, h2, h3, h4, h5, e _ _ h6 fun z => hw (z ▸ h5), fun i x hx => ?_⟩
  obtain ⟨kvs, k1, k2⟩ := h7 i x hx
  exact ⟨kvs, e _ _ k1 (fun z => hw (z ▸ h4 x (List.mem_of_getElem? hx))), k2⟩
/-- a new list changes -/
theorem dl_l {H0 H H1 : Hp} {a l : Addr} {n : Nat} {f : Nat → Int → Option V} {ns : List V} (h : DL H0 H a n f) (e : ExW l H H1) (hl : H l = some (.lst ns)) (ha : l ≠ a) : DL H0 H1 a n f := by
  obtain ⟨ds, h1, h2, h3, h4, h5, h6, h7⟩ := h.ex
  refine ⟨ds, h1, h2, h3, h4, h5, e _ _ h6 ha.symm, fun i x hx => ?_⟩
  obtain ⟨kvs, k1, k2⟩ := h7 i x hx
  exact ⟨kvs, e _ _ k1 (fun z => by rw [z, hl] at k1; cases k1), k2⟩
end L2
/-! items drawn out of a list -/
namespace L2
open PySem PySem.Spec PyProof.Rows Evl
section
variable {K : PySem.W.Frag} {σ : L2.St} {H : Hp} {Q : VK} {a : Addr} {xs : List V} {t : TA}
theorem r_pa (h : SqL K H a xs) (q : t σ H fun us H2 => rPopAt (.ref a) us H2 Q) : rApp K "list" rPopAt t σ (.ref a) H Q := ⟨.inl ⟨rfl, xs, h⟩, q⟩
theorem seq_ix {i : Int} {n : Nat} (h0 : 0 ≤ i) (h1 : i < n) : seqIndex? i n = some i.toNat := by
  unfold seqIndex?
  try simp only [h0, if_true, not_lt_of_ge]
  split <;> simp_all <;> omega
theorem r_popA {i : Int} {v : V} (h : H a = some (.lst xs)) (h0 : 0 ≤ i) (hz : xs.length < 100000) (hx : xs[i.toNat]? = some v) (q : ∀ H1, ExW a H H1 → H1 a = some (.lst (xs.eraseIdx i.toNat)) → Q v H1) : rPopAt (.ref a) [.int i] H Q := by
  have hi := (List.getElem?_eq_some_iff.mp hx).1
  exact ⟨a, xs, i, i.toNat, v, rfl, rfl, h, by omega, by omega, seq_ix h0 (by omega), hx, q _ ExW.upd upd_same⟩
end
end L2
namespace L2
open PySem PySem.Spec PyProof.Rows Evl
theorem dl_back {H0 H H1 : Hp} {a : Addr} {n : Nat} {f : Nat → Int → Option V} (h : DL H H1 a n f) (e : Ex H0 H) : DL H0 H1 a n f := by
  obtain ⟨ds, h1, h2, h3, h4, h5, h6, h7⟩ := h.ex
  exact ⟨ds, h1, h2, h3, fun x hx => fresh_back e (h4 x hx), fresh_back e h5, h6, h7⟩
theorem tx_dk {H H1 : Hp} {b : Addr} {kvs : List (Key × V)} (hb : H b = some (.dK kvs)) (e : ExW b H H1) : TX H H1 := fun q ys hq => by
  have ne : q ≠ b := fun z => by
    rw [z, hb] at hq
    rcases hq with hq | ⟨_, hq⟩ <;> cases hq
  rcases hq with hq | ⟨o, hq⟩
  · rw [hq, e _ _ hq ne]
  · rw [hq, e _ _ hq ne]
end L2
/-! members counted by rooms and last steps -/
namespace Wb
theorem sum_flt {α : Type} {b : α → Int} {p : α → Bool} : ∀ {m : List α}, (∀ x ∈ m, p x = false → b x = 0) → ((m.filter p).map b).sum = (m.map b).sum
  | [], _ => rfl
  | x :: m, h => by
    have ih := sum_flt (m := m) fun y hy => h y (List.mem_cons_of_mem _ hy)
    cases hp : p x with
    | true => rw [List.filter_cons_of_pos hp, List.map_cons, List.sum_cons, List.map_cons, List.sum_cons, ih]
    | false => rw [List.filter_cons_of_neg (by rw [hp]; decide), ih, List.map_cons, List.sum_cons, h x List.mem_cons_self hp]; omega
theorem perm_sumI {l m : List Int} (h : l.Perm m) : l.sum = m.sum := by
  induction h with
  | nil => rfl
  | cons x _ ih => rw [List.sum_cons, List.sum_cons, ih]
  | swap x y l => rw [List.sum_cons, List.sum_cons, List.sum_cons, List.sum_cons]; omega
  | trans _ _ a b => rw [a, b]
theorem nodup_perm {α : Type} [DecidableEq α] {l m : List α} (hl : l.Nodup) (hm : m.Nodup) (h : ∀ x, x ∈ l ↔ x ∈ m) : l.Perm m := by
  exact (List.perm_ext_iff_of_nodup hl hm).mpr h
/-- the same sum over two lists that both hold all that counts -/
theorem sum_two {α : Type} [DecidableEq α] {f : α → Int} {l m : List α} (hl : l.Nodup) (hm : m.Nodup) (h1 : ∀ x ∈ l, x ∉ m → f x = 0) (h2 : ∀ x ∈ m, x ∉ l → f x = 0) : (l.map f).sum = (m.map f).sum := by
  rw [← sum_flt (p := fun x => decide (x ∈ m)) (m := l) fun x hx hp => h1 x hx (by simpa using hp), ← sum_flt (p := fun x => decide (x ∈ l)) (m := m) fun x hx hp => h2 x hx (by simpa using hp)]
  refine perm_sumI ((nodup_perm (hl.filter _) (hm.filter _) fun x => ?_).map f)
  rw [List.mem_filter, List.mem_filter, decide_eq_true_eq, decide_eq_true_eq]
  exact ⟨fun z => ⟨z.2, z.1⟩, fun z => ⟨z.2, z.1⟩⟩
theorem sum_addI {α : Type} {f g : α → Int} : ∀ {l : List α}, (l.map fun x => f x + g x).sum = (l.map f).sum + (l.map g).sum
  | [] => rfl
  | x :: l => by rw [List.map_cons, List.sum_cons, sum_addI, List.map_cons, List.sum_cons, List.map_cons, List.sum_cons]; omega
abbrev Pl := Nat × Int
/-- how many straight walks lead from home to a room by a last step -/
def lst (L : Nat) (d : Gm) : Nat → Pl → Int
  | 0 => fun k => if k = (0, 0) then 1 else 0
  | n + 1 => fun k => (hw L d (n + 1)).1 k.1 (-k.2)
/-- what a list of places tells: all that counts -/
structure Tells (L n : Nat) (d : Gm) (k : Nat) (ps : List Pl) : Prop where
  nd : ps.Nodup
  all : ∀ x, x ∉ ps → lst L d k x = 0
  dom : ∀ x ∈ ps, x.1 < n ∧ (x.2 ∈ Od.steps L ∨ x.2 = 0)
theorem zero_no {L n : Nat} {d : Gm} (G : Gr L n d) (r : Nat) : d r 0 = none := by
  cases e : d r 0 with
  | none => rfl
  | some g =>
    have := Od.mem_steps.mp (G.dom _ _ _ e).2.2
    omega
theorem tells_sum {L n k : Nat} {d : Gm} {ps : List Pl} (G : Gr L n d) (T : Tells L n d k ps) (r : Nat) : (ps.map fun x => if x.1 = r then lst L d k x else 0).sum = (hw L d k).2 r := by
  have hnd : ((0 :: Od.steps L).map fun s => ((r, s) : Pl)).Nodup := by
    have h0 : (0 :: Od.steps L).Nodup := List.nodup_cons.mpr ⟨fun z => by have := Od.mem_steps.mp z; omega, Od.steps_nodup L⟩
    exact List.pairwise_map.mpr (List.Pairwise.imp (fun {a b} h z => h (Prod.mk.inj z).2) h0)
  rw [sum_two (m := (0 :: Od.steps L).map fun s => ((r, s) : Pl)) T.nd hnd (fun x hx hn => ?_) (fun x hx hn => ?_)]
  · rw [List.map_map, List.map_cons, List.sum_cons]
    have e0 : ((fun x : Pl => if x.1 = r then lst L d k x else 0) ∘ fun s => ((r, s) : Pl)) = fun s => lst L d k (r, s) := funext fun s => if_pos rfl
    rw [e0]
    cases k with
    | zero =>
      have z : ((Od.steps L).map fun s => lst L d 0 (r, s)).sum = 0 := by
        have : ((Od.steps L).map fun s => lst L d 0 (r, s)) = (Od.steps L).map fun _ => (0 : Int) := List.map_congr_left fun s hs => by
          have := Od.mem_steps.mp hs
          exact if_neg fun z => by have := (Prod.mk.inj z).2; omega
        rw [this]
        generalize Od.steps L = l
        induction l with
        | nil => rfl
        | cons x l ih => rw [List.map_cons, List.sum_cons, ih]; rfl
      rw [z]
      show (if ((r, 0) : Pl) = (0, 0) then (1 : Int) else 0) + 0 = if r = 0 then 1 else 0
      by_cases c : r = 0
      · rw [if_pos c, if_pos (by rw [c])]; rfl
      · rw [if_neg c, if_neg fun z => c (Prod.mk.inj z).1]; rfl
    | succ k =>
      have z0 : lst L d (k + 1) (r, 0) = 0 := by
        show (hw L d (k + 1)).1 r (-0) = 0
        exact hw_none (by rw [Int.neg_zero]; exact zero_no G r)
      try dsimp only
      rw [z0, hw_tot]
      show 0 + ((Od.steps L).map fun s => (hw L d (k + 1)).1 r (-s)).sum = _
      have := Od.sum_neg ((hw L d (k + 1)).1 r) L
      rw [Int.zero_add]
      exact this
  · by_cases c : x.1 = r
    · exfalso
      apply hn
      refine List.mem_map.mpr ⟨x.2, ?_, by rw [← c]⟩
      rcases (T.dom x hx).2 with h | h
      · exact List.mem_cons_of_mem _ h
      · rw [h]; exact List.mem_cons_self
    · exact if_neg c
  · rw [T.all x hn]
    split <;> rfl
def contrib (L : Nat) (d : Gm) (k : Nat) (x y : Pl) : Int := if d x.1 y.2 = some y.1 ∧ y.2 ≠ -x.2 then lst L d k x else 0
theorem sum_one {ps : List Pl} {f : Pl → Int} {a : Pl} (hn : ps.Nodup) (h0 : a ∉ ps → f a = 0) : (ps.map fun x => if x = a then f x else 0).sum = f a := by
  rw [sum_two (f := fun x => if x = a then f x else 0) (m := [a]) hn (List.nodup_cons.mpr ⟨List.not_mem_nil, List.nodup_nil⟩) (fun x _ h => if_neg fun z => h (List.mem_singleton.mpr z)) fun x hx h => ?_]
  · show (if a = a then f a else 0) + 0 = f a
    rw [if_pos rfl]; omega
  · have e := List.mem_singleton.mp hx
    subst e
    rw [if_pos rfl, h0 h]
theorem tells_next {L n k : Nat} {d : Gm} {ps : List Pl} (G : Gr L n d) (T : Tells L n d k ps) (y : Pl) : (ps.map fun x => contrib L d k x y).sum = lst L d (k + 1) y := by
  obtain ⟨g, s⟩ := y
  show _ = (hw L d (k + 1)).1 g (-s)
  cases e : d g (-s) with
  | none =>
    rw [hw_none e]
    have : (ps.map fun x => contrib L d k x (g, s)) = ps.map fun _ => (0 : Int) := List.map_congr_left fun x _ => by
      refine if_neg fun z => ?_
      have := G.sym _ _ _ z.1
      rw [e] at this
      cases this
    rw [this]
    generalize ps = l
    induction l with
    | nil => rfl
    | cons x l ih => rw [List.map_cons, List.sum_cons, ih]; rfl
  | some r =>
    rw [hw_some e, ← tells_sum G T r]
    have hs : s ≠ 0 := fun z => by
      rw [z, Int.neg_zero, zero_no G] at e
      cases e
    have hb : d r s = some g := by have := G.sym _ _ _ e; rwa [Int.neg_neg] at this
    have h1 : (ps.map fun x => if x.1 = r then lst L d k x else 0) = ps.map fun x => contrib L d k x (g, s) + if x = (r, -s) then lst L d k x else 0 := List.map_congr_left fun x _ => by
      unfold contrib
      by_cases c : x.1 = r
      · rw [if_pos c]
        by_cases c2 : x.2 = -s
        · rw [if_neg (fun z => z.2 (by rw [c2, Int.neg_neg])), if_pos (Prod.ext c c2)]
          omega
        · rw [if_pos ⟨by rw [c]; exact hb, fun z => c2 (by show x.2 = -s; have z : s = -x.2 := z; omega)⟩, if_neg fun z => c2 (by rw [z])]
          omega
      · rw [if_neg c, if_neg fun z => c ?_, if_neg fun z => c (by rw [z])]
        · rfl
        · have := G.sym _ _ _ z.1
          rw [e] at this
          exact (Option.some.inj this).symm
    rw [h1, sum_addI, sum_one T.nd (T.all _)]
    have h2 : lst L d k (r, -s) = (hw L d k).1 r (-(-s)) := by
      cases k with
      | zero => exact if_neg fun z => hs (by have := (Prod.mk.inj z).2; omega)
      | succ k => rfl
    rw [h2]
    omega
theorem tells_zero {L n : Nat} {d : Gm} (hn : 0 < n) : Tells L n d 0 [(0, 0)] := ⟨List.nodup_cons.mpr ⟨List.not_mem_nil, List.nodup_nil⟩, fun x h => if_neg fun z => h (List.mem_singleton.mpr z), fun x h => by rw [List.mem_singleton.mp h]; exact ⟨hn, .inr rfl⟩⟩
end Wb
/-! dicts with pairs of numbers for keys -/
namespace L2
open PySem PySem.Spec PyProof.Rows Evl
/-! ### {(a, b): x} -/
def tDispT (tk tv : TE) : TE := fun σ H Q => ∀ p, H p = none → tk σ (upd H p (.dT [])) fun x H1 => tv σ H1 fun y H2 => H2 p = some (.dT []) ∧ ∃ (k : List Key) (b : Addr), x = .ref b ∧ H2 b = some (.tup (k.map kV)) ∧ Q (.ref p) (upd H2 p (.dT [(k, y)]))
theorem pe_dispT {X : Cx} {k v : Expr} {tk tv : TE} {pos : Pos} (hu : X.A.units + 1 < cLine) (hk : PE X k tk) (hv : PE X v tv) : PE X (.Dict [some k] [v] pos) (tDispT tk tv) := by
  refine ⟨fun pins s σ H Q I q => ?_⟩
  have hn := I.hok.fresh (Nat.le_refl s.heap.objs.size)
  have I1 := I.laid (a := s.heap.objs.size) (o := .dT []) (h' := s.heap.push { cls := .type "dict", data := .dict #[] }) (t' := s.toks) (fun _ _ q => Heap.get?_push_of_some _ q) (Nat.le_refl _) (dt_empty s.heap I.big)
  have hz := zip_pairTrees [some k] [v] X.env pos rfl rfl
  have hl := pairTrees_length [some k] [v] X.env pos rfl rfl
  rw [arm_eval_Dict, hz, dictDisplay_pairs _ (by intro z; rw [z] at hl; exact absurd hl (by simp)) (by rw [hl]; simp)]
  refine wpAny_bind (wpAny_standAt (wpAny_bind (wpAny_subDictH (knd := tupleKind (mixKind X.prog X.w)) (Q := fun d s' => wpAny (model X.prog X.w) X.A (pure (Value.ref d)) _ X.xe s') ?_ (by rw [hl]; simp) ?_)))
  · exact Nat.lt_of_succ_lt hu
  · have q2 := q _ hn
    refine thn ((pps_cons hk hv (pps_nil (pos := pos))).run pins _ σ _ (fun ps H2 => match ps with
      | [(x, y)] => H2 s.heap.objs.size = some (.dT []) ∧ ∃ (k : List Key) (b : Addr), x = .ref b ∧ H2 b = some (.tup (k.map kV)) ∧ Q (.ref s.heap.objs.size) (upd H2 s.heap.objs.size (.dT [(k, y)]))
      | _ => False) I1 q2) fun ws s2 ⟨ps, H2, I2, rel, q3⟩ => ?_
    match ps, q3 with
    | [(x, y)], q3 =>
      obtain ⟨e, k, b, ex, eb, q4⟩ := q3
      cases rel with
      | @cons a c as cs r0 r1 =>
        cases r1
        obtain ⟨kv, vv⟩ := c
        obtain ⟨rx, ry⟩ := r0
        subst ex
        obtain rfl : kv = Value.ref b := rx
        obtain ⟨z, hd, xs, rel, dd⟩ := dt_of I2.hok e
        cases rel
        refine ⟨[(k, b, vv)], ⟨rfl, rfl, key_of I2.hok eb, trivial⟩, dd, fun h' tk dd' hs => wpAny_pure ?_⟩
        obtain ⟨o, es, ep, hq, h2, h3, h4, _, h5⟩ := dd'
        refine ⟨.ref _, _, d_write (ob := .dT [(k, y)]) I2 (by rw [e]; exact True.intro) hs ⟨o, hq⟩ ⟨by simp [sizeLine_eq], hd, [(k, b, vv)], ?_, o, es, ep, hq, h2, h3, h4, h5⟩, rfl, q4⟩
        refine .cons ⟨rfl, ?_, ry⟩ .nil
        rw [upd_ne (ne_of eb e (fun z => nomatch z))]
        exact eb
/-! ### what such a dict holds -/
abbrev Pl := Nat × Int
def ky (x : Pl) : List Key := [Sum.inl (x.1 : Int), Sum.inl x.2]
theorem ky_inj {x y : Pl} (h : ky x = ky y) : x = y := by
  obtain ⟨a, b⟩ := x
  obtain ⟨c, d⟩ := y
  unfold ky at h
  have h1 := (List.cons.inj h).1
  have h2 := (List.cons.inj (List.cons.inj h).2).1
  have h3 : (a : Int) = (c : Int) := Sum.inl.inj h1
  have h4 : b = d := Sum.inl.inj h2
  rw [h4, show a = c by omega]
def tm (ps : List Pl) (f : Pl → Int) : List (List Key × V) := ps.map fun x => (ky x, V.int (f x))
theorem tm_len (ps : List Pl) (f : Pl → Int) : (tm ps f).length = ps.length := by unfold tm; rw [List.length_map]
theorem tm_congr {ps : List Pl} {f g : Pl → Int} (h : ∀ x ∈ ps, f x = g x) : tm ps f = tm ps g := List.map_congr_left fun x hx => by rw [h x hx]
theorem valV_tm {f : Pl → Int} : ∀ {l : List Pl} {x : Pl}, x ∈ l → valV (tm l f) (ky x) = some (.int (f x))
  | y :: l, x, h => by
    show valV ((ky y, V.int (f y)) :: tm l f) (ky x) = _
    by_cases e : y = x
    · subst e
      exact valV_pos rfl
    · rw [valV_neg (fun z => e (ky_inj z))]
      rcases List.mem_cons.mp h with h | h
      · exact absurd h.symm e
      · exact valV_tm h
theorem valV_tm_no {f : Pl → Int} : ∀ {l : List Pl} {x : Pl}, x ∉ l → valV (tm l f) (ky x) = none
  | [], _, _ => rfl
  | y :: l, x, h => by
    show valV ((ky y, V.int (f y)) :: tm l f) (ky x) = _
    rw [valV_neg (fun z => h (by rw [ky_inj z]; exact List.mem_cons_self))]
    exact valV_tm_no fun z => h (List.mem_cons_of_mem _ z)
theorem putK_tm {f : Pl → Int} {l : List Pl} {x : Pl} (h : x ∈ l) (y : Int) : putK (tm l f) (ky x) (.int y) = tm l fun s => if s = x then y else f s := by
  have e : ((tm l f).any fun kv => decide (kv.1 = ky x)) = true := by rw [valV_any, valV_tm h]; rfl
  unfold putK
  rw [if_pos e]
  unfold tm
  rw [List.map_map]
  refine List.map_congr_left fun s _ => ?_
  show (if ky s = ky x then (ky s, V.int y) else (ky s, V.int (f s))) = _
  by_cases e2 : s = x
  · rw [if_pos (by rw [e2])]
    show _ = (ky s, V.int (if s = x then y else f s))
    rw [if_pos e2]
  · rw [if_neg (fun z => e2 (ky_inj z))]
    show _ = (ky s, V.int (if s = x then y else f s))
    rw [if_neg e2]
theorem putK_tm_new {f : Pl → Int} {l : List Pl} {x : Pl} (h : x ∉ l) (y : Int) : putK (tm l f) (ky x) (.int y) = tm (l ++ [x]) fun s => if s = x then y else f s := by
  rw [putK_new (.int y) (valV_tm_no h)]
  unfold tm
  rw [List.map_append]
  congr 1
  · refine List.map_congr_left fun s hs => ?_
    show (ky s, V.int (f s)) = (ky s, V.int (if s = x then y else f s))
    rw [if_neg (fun z : s = x => h (z ▸ hs))]
  · show _ = [(ky x, V.int (if x = x then y else f x))]
    rw [if_pos rfl]
section
variable {K : PySem.W.Frag} {σ : L2.St} {H : Hp} {Q : VK} {D : Ends} {tb : TS} {te ty tx : TE} {tt : TT} {vs : List Nat} {d b : Addr} {j j2 i0 : Nat} {ps : List Pl} {f : Pl → Int} {x : Pl}
theorem kyV (x : Pl) : (ky x).map kV = [V.int (x.1 : Int), V.int x.2] := rfl
theorem r_tget (h : Rd H d (.dT (tm ps f))) (hb : H b = some (.tup [V.int (x.1 : Int), V.int x.2])) (hx : x ∈ ps) (q : Q (.int (f x)) H) : rDGet (.ref d) (.ref b) H Q := ⟨d, _, rfl, .inr ⟨tm ps f, ky x, b, h, rfl, hb, (valV_tm hx).symm⟩, q⟩
theorem r_tg2 (h : Rd H d (.dT (tm ps f))) (q : ty σ H fun y H2 => tx σ H2 fun z H3 => rDG2b d y z H3 Q) : rDG2 ty tx σ (.ref d) H Q := ⟨d, rfl, .inr ⟨_, h⟩, q⟩
theorem r_tg2b {z : Int} (h : Rd H d (.dT (tm ps f))) (hb : H b = some (.tup [V.int (x.1 : Int), V.int x.2])) (q : Q (.int (if x ∈ ps then f x else z)) H) : rDG2b d (.ref b) (.int z) H Q := by
  refine ⟨valV (tm ps f) (ky x), .inr ⟨tm ps f, ky x, b, h, rfl, hb, rfl⟩, ?_⟩
  by_cases c : x ∈ ps
  · rw [if_pos c] at q
    rw [valV_tm c]
    exact q
  · rw [if_neg c] at q
    rw [valV_tm_no c]
    exact q
theorem r_tput {z : Int} {R : Hp → Prop} (h : H d = some (.dT (tm ps f))) (hb : H b = some (.tup [V.int (x.1 : Int), V.int x.2])) (hz : ps.length < 100000) (q : ∀ H1, ExW d H H1 → H1 d = some (.dT (tm (if x ∈ ps then ps else ps ++ [x]) fun s => if s = x then z else f s)) → R H1) : rDPut (.ref d) (.ref b) (.int z) H R := by
  refine ⟨d, _, rfl, .inr ⟨tm ps f, ky x, b, h, rfl, hb, sz_lt (by rw [tm_len]; exact hz), rfl⟩, q _ ExW.upd ?_⟩
  rw [upd_same]
  by_cases c : x ∈ ps
  · rw [if_pos c, putK_tm c]
  · rw [if_neg c, putK_tm_new c]
/-- for a, b in d, d locked -/
theorem r_lockT (hv : σ[i0]? = some (some (.ref d))) (hd : H d = some (.dT (tm ps f))) (Pv : Nat → L2.St → Hp → Prop) (h0 : ∀ od H1, ExW d H H1 → H1 d = some (.frz od (.dT (tm ps f))) → Pv 0 σ H1)
    (hs : ∀ od i x q σ' H' rt bk, ps[i]? = some x → Pv i σ' H' → H' d = some (.frz od (.dT (tm ps f))) → H' q = some (.tup [V.int (x.1 : Int), V.int x.2]) →
      tb ⟨fun σ2 H2 => Pv (i + 1) σ2 H2 ∧ H2 d = some (.frz od (.dT (tm ps f))), rt, bk, fun σ2 H2 => Pv (i + 1) σ2 H2 ∧ H2 d = some (.frz od (.dT (tm ps f)))⟩ ((σ'.set j (some (.int (x.1 : Int)))).set j2 (some (.int x.2))) H')
    (hq : ∀ od σ' H', Pv ps.length σ' H' → H' d = some (.frz od (.dT (tm ps f))) → D.nx σ' (upd H' d (.dT (tm ps f)))) :
    tLock (tFor (iKeys (tVar i0)) (gTup K 2 (gCons (gName j) (gCons (gName j2) gNil))) tb) D σ H := by
  refine ⟨d, _, hd, trivial, fun od => ?_⟩
  have fr : (upd H d (.frz od (.dT (tm ps f)))) d = some (.frz od (.dT (tm ps f))) := upd_same
  refine ⟨_, hv, d, od, rfl, .inr ⟨tm ps f, fr, ?_⟩⟩
  refine ⟨fun i m σ' H' => m = ps.length - i ∧ i ≤ ps.length ∧ Pv i σ' H' ∧ H' d = some (.frz od (.dT (tm ps f))), ⟨ps.length, by simp, Nat.zero_le _, h0 od _ ExW.upd fr, fr⟩, ?_⟩
  rintro i m σ' H' ⟨rfl, hi, p, fr'⟩
  rcases Nat.lt_or_ge i ps.length with lt | ge
  · have hx := List.getElem?_eq_getElem lt
    refine .inr ⟨⟨fr', by rw [tm_len]; exact lt⟩, fun σ2 H2 => Pv (i + 1) σ2 H2 ∧ H2 d = some (.frz od (.dT (tm ps f))), fun σ2 H2 p => ⟨ps.length - (i + 1), by omega, rfl, lt, p.1, p.2⟩, ?_⟩
    rintro y H6 ⟨rfl, k, v, q, hy, rfl, hq⟩
    unfold tm at hy
    rw [List.getElem?_map, hx] at hy
    cases hy
    refine r_tup2 (t_of hq) ?_
    exact hs od i _ q σ' H6 _ _ hx p fr' hq
  · have e2 : i = ps.length := by omega
    subst e2
    exact .inl ⟨⟨fr', by rw [tm_len]; exact Nat.le_refl _⟩, fr', hq od σ' H' p fr'⟩
/-- for x in d, d locked, its keys numbers -/
theorem r_lockK {ns : List Int} {f0 : Int → V} (hd : H d = some (.dK (dm ns f0))) (hte : ∀ od H1 (R : VK), ExW d H H1 → H1 d = some (.frz od (.dK (dm ns f0))) → R (.ref d) H1 → te σ H1 R) (Pv : Nat → L2.St → Hp → Prop) (h0 : ∀ od H1, ExW d H H1 → H1 d = some (.frz od (.dK (dm ns f0))) → Pv 0 σ H1)
    (hs : ∀ od i x σ' H' rt bk, ns[i]? = some x → Pv i σ' H' → H' d = some (.frz od (.dK (dm ns f0))) →
      tb ⟨fun σ2 H2 => Pv (i + 1) σ2 H2 ∧ H2 d = some (.frz od (.dK (dm ns f0))), rt, bk, fun σ2 H2 => Pv (i + 1) σ2 H2 ∧ H2 d = some (.frz od (.dK (dm ns f0)))⟩ (σ'.set j (some (.int x))) H')
    (hq : ∀ od σ' H', Pv ns.length σ' H' → H' d = some (.frz od (.dK (dm ns f0))) → D.nx σ' (upd H' d (.dK (dm ns f0)))) :
    tLock (tFor (iKeys te) (gName j) tb) D σ H := by
  refine ⟨d, _, hd, trivial, fun od => ?_⟩
  have fr : (upd H d (.frz od (.dK (dm ns f0)))) d = some (.frz od (.dK (dm ns f0))) := upd_same
  refine hte od _ _ ExW.upd fr ⟨d, od, rfl, .inl ⟨dm ns f0, fr, ?_⟩⟩
  refine ⟨fun i m σ' H' => m = ns.length - i ∧ i ≤ ns.length ∧ Pv i σ' H' ∧ H' d = some (.frz od (.dK (dm ns f0))), ⟨ns.length, by simp, Nat.zero_le _, h0 od _ ExW.upd fr, fr⟩, ?_⟩
  rintro i m σ' H' ⟨rfl, hi, p, fr'⟩
  rcases Nat.lt_or_ge i ns.length with lt | ge
  · have hx := List.getElem?_eq_getElem lt
    refine .inr ⟨⟨fr', by rw [dm_len]; exact lt⟩, fun σ2 H2 => Pv (i + 1) σ2 H2 ∧ H2 d = some (.frz od (.dK (dm ns f0))), fun σ2 H2 p => ⟨ns.length - (i + 1), by omega, rfl, lt, p.1, p.2⟩, ?_⟩
    rintro y H6 ⟨rfl, k, v, hy, rfl⟩
    unfold dm at hy
    rw [List.getElem?_map, hx] at hy
    cases hy
    exact hs od i _ σ' H6 _ _ hx p fr'
  · have e2 : i = ns.length := by omega
    subst e2
    exact .inl ⟨⟨fr', by rw [dm_len]; exact Nat.le_refl _⟩, fr', hq od σ' H' p fr'⟩
/-- [e for x in d if t], the keys pairs -/
theorem r_lcKT (hv : σ[i0]? = some (some (.ref d))) (hd : H d = some (.dT (tm ps f))) (p : Pl → Bool) (v : Pl → V) (hz : ps.length ≤ 50000) (hw : ∀ x, wipe ((wipe σ vs).set j (some x)) vs = wipe σ vs)
    (ht : ∀ x ∈ ps, ∀ H1 q, ExW d H H1 → Rd H1 d (.dT (tm ps f)) → H1 q = some (.tup [V.int (x.1 : Int), V.int x.2]) → ∀ Q' : Bool → Hp → Prop, Q' (p x) H1 → tt ((wipe σ vs).set j (some (.ref q))) H1 Q')
    (he : ∀ x ∈ ps, p x = true → ∀ H1 q, ExW d H H1 → Rd H1 d (.dT (tm ps f)) → H1 q = some (.tup [V.int (x.1 : Int), V.int x.2]) → ∀ Q' : VK, Q' (v x) H1 → te ((wipe σ vs).set j (some (.ref q))) H1 Q')
    (q : ∀ P H1, H P = none → Ex H H1 → H1 P = some (.lst ((ps.filter p).map v)) → Q (.ref P) H1) : tLockE (tLc (iKeys (tVar i0)) (gName j) tt te vs) σ H Q := by
  refine ⟨d, _, hd, trivial, fun od => ?_⟩
  have fr : (upd H d (.frz od (.dT (tm ps f)))) d = some (.frz od (.dT (tm ps f))) := upd_same
  have wx : ExW d H (upd H d (.frz od (.dT (tm ps f)))) := ExW.upd
  have hof : ∀ D, (upd H d (.frz od (.dT (tm ps f)))) D = none → D ≠ d ∧ H D = none := fun D hD => by
    have hDd : D ≠ d := fun e => by rw [e, upd_same] at hD; cases hD
    exact ⟨hDd, by rw [upd_ne hDd] at hD; exact hD⟩
  refine ⟨_, hv, d, od, rfl, .inr ⟨tm ps f, fr, fun D hD => ?_⟩⟩
  obtain ⟨hDd, hD0⟩ := hof D hD
  generalize upd H d (.frz od (.dT (tm ps f))) = H0 at hD fr wx
  refine ⟨fun i m H' => m = ps.length - i ∧ i ≤ ps.length ∧ Ex H0 H' ∧ H' D = some (.lst (((ps.take i).filter p).map v)), ⟨ps.length, by simp, Nat.zero_le _, Ex.new hD, upd_same⟩, ?_⟩
  rintro i m H' ⟨rfl, hi, e, h⟩
  have fr' := e _ _ fr
  rcases Nat.lt_or_ge i ps.length with lt | ge
  · have hx := List.getElem?_eq_getElem lt
    have hxm := List.mem_of_getElem? hx
    refine .inr ⟨⟨fr', by rw [tm_len]; exact lt⟩, fun H'' => Ex H0 H'' ∧ H'' D = some (.lst (((ps.take (i + 1)).filter p).map v)), fun H'' p => ⟨ps.length - (i + 1), by omega, rfl, lt, p⟩, ?_⟩
    rintro y H6 ⟨rfl, k, w, qa, hy, rfl, hqa⟩
    unfold tm at hy
    rw [List.getElem?_map, hx] at hy
    cases hy
    refine ⟨hw _, ht _ hxm H6 qa (wx.trans (.of e)) (.inr ⟨od, fr'⟩) hqa _ ?_⟩
    by_cases hp : p ps[i] = true
    · rw [hp, if_pos rfl]
      refine he _ hxm hp H6 qa (wx.trans (.of e)) (.inr ⟨od, fr'⟩) hqa _ ?_
      refine ⟨_, h, sz_lt ?_, Ex.mut e hD, ?_⟩
      · rw [List.length_map]
        have := List.length_filter_le p (ps.take i)
        rw [List.length_take] at this
        omega
      · rw [upd_same, take_snoc hx, List.filter_append, List.filter_cons_of_pos hp, List.filter_nil, List.map_append]
        rfl
    · rw [if_neg hp]
      refine ⟨e, ?_⟩
      rw [take_snoc hx, List.filter_append, List.filter_cons_of_neg hp, List.filter_nil, List.append_nil]
      exact h
  · have e2 : i = ps.length := by omega
    subst e2
    refine .inl ⟨⟨fr', by rw [tm_len]; exact Nat.le_refl _⟩, fr', ?_⟩
    rw [List.take_length] at h
    refine q D _ hD0 (fun b o hb => ?_) (by rw [upd_ne hDd]; exact h)
    by_cases eb : b = d
    · subst eb
      rw [upd_same, ← hb, hd]
    · rw [upd_ne eb]
      exact e _ _ (wx b o hb eb)
end
end L2
/-! [e for x, y, z in zip(xs, ys, zs)], xs.extend(ys) -/
namespace L2
open PySem PySem.Spec PyProof.Rows Evl
theorem upd_comm {H : Hp} {a b : Addr} {o u : HO} (h : a ≠ b) : upd (upd H a o) b u = upd (upd H b u) a o := by
  funext x
  by_cases e1 : x = a
  · subst e1
    rw [upd_ne h, upd_same, upd_same]
  · by_cases e2 : x = b
    · subst e2
      rw [upd_same, upd_ne e1, upd_same]
    · rw [upd_ne e2, upd_ne e1, upd_ne e1, upd_ne e2]
section
variable {K : PySem.W.Frag} {σ : L2.St} {H : Hp} {Q : VK} {a b c : Addr} {xs ys zs : List V} {vs : List Nat} {m n o : Nat} {tt : TT} {te : TE} {k1 k2 k3 : SK}
theorem r_cmZ3A {N : Nat} (hN : min (min xs.length ys.length) zs.length = N) (S : Nat → List V → Hp → Prop) (hz : N ≤ 100000) (hw : ∀ x y z, wipe ((((wipe σ vs).set m (some x)).set n (some y)).set o (some z)) vs = wipe σ vs)
    (hl : ∀ i us H', S i us H' → k1.Sq K H' a xs ∧ k2.Sq K H' b ys ∧ k3.Sq K H' c zs) (hx : ∀ i us H' H1, S i us H' → Ex H' H1 → S i us H1)
    (h0 : ∀ D, H D = none → ∀ u, S 0 [] (upd H D u))
    (he : ∀ i x y z H1 D acc, xs[i]? = some x → ys[i]? = some y → zs[i]? = some z → acc.length ≤ i → H1 D = some (.lst acc) → S i acc H1 → (∀ u, S i acc (upd H1 D u)) →
      tt ((((wipe σ vs).set m (some x)).set n (some y)).set o (some z)) H1 fun b H2 => if b = true then te ((((wipe σ vs).set m (some x)).set n (some y)).set o (some z)) H2 (fun y H3 => CmY S D i y H3) else CmP S D (i + 1) H2)
    (q : ∀ D H1 us, H D = none → H1 D = some (.lst us) → S N us H1 → (∀ u, S N us (upd H1 D u)) → Q (.ref D) H1) : rLc (ItZ3 k1 k2 k3 K a b c) (gTup K 3 (gCons (gName m) (gCons (gName n) (gCons (gName o) gNil)))) tt te vs σ Q H := fun D hD => by
  have at1 : ∀ {i : Nat} {us : List V} {H' : Hp}, (∀ u, S i us (upd H' D u)) → H' D = some (.lst us) → S i us H' := fun {i us H'} h e => by
    have z := h (.lst us)
    rw [upd_id e] at z
    exact z
  refine ⟨fun i d H' => d = N - i ∧ i ≤ N ∧ CmP S D i H', ⟨_, rfl, Nat.zero_le _, [], Nat.le_refl _, fun u => by rw [upd_upd]; exact h0 D hD u, upd_same⟩, ?_⟩
  rintro i d H' ⟨rfl, hi, us, h1, h2, h3⟩
  have hq := hl i us H' (at1 h2 h3)
  rcases Nat.lt_or_ge i N with lt | ge
  · have ex := List.getElem?_eq_getElem (show i < xs.length by omega)
    have ey := List.getElem?_eq_getElem (show i < ys.length by omega)
    have ez := List.getElem?_eq_getElem (show i < zs.length by omega)
    refine .inr ⟨⟨xs, ys, zs, _, _, _, hq, ex, ey, ez⟩, CmP S D (i + 1), fun H1 q1 => ⟨N - (i + 1), by omega, rfl, lt, q1⟩, ?_⟩
    rintro v H1 ⟨T, x, y, z, rfl, hT, rfl, e1, e2, e3⟩
    have ne : T ≠ D := fun z => by rw [z, h3] at hT; cases hT
    have s2 : ∀ u, S i us (upd (upd H' T (.tup [x, y, z])) D u) := fun u => by
      rw [upd_comm ne]
      exact hx _ _ _ _ (h2 u) (Ex.new (by rw [upd_ne ne]; exact hT))
    have d2 : upd H' T (.tup [x, y, z]) D = some (.lst us) := by rw [upd_ne ne.symm]; exact h3
    refine r_tup3 (t_of upd_same) ⟨hw x y z, ?_⟩
    exact he i x y z _ D us (e1 xs hq.1) (e2 ys hq.2.1) (e3 zs hq.2.2) h1 d2 (at1 s2 d2) s2
  · have e : i = N := by omega
    subst e
    exact .inl ⟨⟨xs, ys, zs, hq, hN⟩, q D H' us hD h3 (at1 h2 h3) h2⟩
theorem r_ext {t : TA} (h : SqL K H a xs) (q : t σ H fun us H2 => rExtend (.ref a) us H2 Q) : rApp K "list" rExtend t σ (.ref a) H Q := ⟨.inl ⟨rfl, xs, h⟩, q⟩
theorem r_extd (h : H a = some (.lst xs)) (hb : H b = some (.lst ys)) (hz : xs.length + ys.length ≤ 100000) (q : ∀ H1, ExW a H H1 → H1 a = some (.lst (xs ++ ys)) → Q .non H1) : rExtend (.ref a) [.ref b] H Q := ⟨a, b, xs, ys, rfl, rfl, h, hb, sz_of hz, q _ ExW.upd upd_same⟩
end
end L2
/-! rooms walked; the first ways; the cosets -/
namespace Wb
open L2
def go (d : Gm) : Nat → List Int → Option Nat
  | r, [] => some r
  | r, s :: w => match d r s with
    | some g => go d g w
    | none => none
theorem go_cons {d : Gm} {r g : Nat} {s : Int} {w : List Int} (h : d r s = some g) : go d r (s :: w) = go d g w := by rw [go, h]
theorem go_stop {d : Gm} {r : Nat} {s : Int} {w : List Int} (h : d r s = none) : go d r (s :: w) = none := by rw [go, h]
theorem go_app (d : Gm) : ∀ (u v : List Int) (r : Nat), go d r (u ++ v) = (go d r u).bind fun g => go d g v
  | [], v, r => rfl
  | s :: u, v, r => by
    cases h : d r s with
    | none => rw [List.cons_append, go_stop h, go_stop h]; rfl
    | some g => rw [List.cons_append, go_cons h, go_cons h]; exact go_app d u v g
theorem go_snoc (d : Gm) (u : List Int) (s : Int) (r : Nat) : go d r (u ++ [s]) = (go d r u).bind fun g => d g s := by
  rw [go_app]
  congr 1
  funext g
  cases h : d g s with
  | none => exact go_stop h
  | some x => exact go_cons h
theorem go_lt {L n : Nat} {d : Gm} (G : Gr L n d) : ∀ {w : List Int} {r g : Nat}, r < n → go d r w = some g → g < n
  | [], r, g, hr, h => by cases h; exact hr
  | s :: w, r, g, hr, h => by
    cases e : d r s with
    | none => rw [go_stop e] at h; cases h
    | some x => rw [go_cons e] at h; exact go_lt G (G.dom _ _ _ e).2.1 h
theorem go_bk {L n : Nat} {d : Gm} (G : Gr L n d) : ∀ {w : List Int} {r g : Nat}, go d r w = some g → go d g (Fg.bk w) = some r
  | [], r, g, h => by cases h; rfl
  | s :: w, r, g, h => by
    cases e : d r s with
    | none => rw [go_stop e] at h; cases h
    | some x =>
      rw [go_cons e] at h
      rw [show s :: w = [s] ++ w from rfl, Fg.bk_app, go_app, go_bk G h]
      show go d x [-s] = some r
      rw [go_cons (G.sym _ _ _ e)]
      rfl
theorem go_back {L n : Nat} {d : Gm} (G : Gr L n d) {w : List Int} {r g : Nat} : go d r w = some g ↔ go d g (Fg.bk w) = some r :=
  ⟨go_bk G, fun h => by have := go_bk G h; rwa [Fg.bk_bk] at this⟩
/-- as far as it can be gone -/
def gone (d : Gm) : Nat → List Int → Nat × Nat
  | r, [] => (r, 0)
  | r, s :: w => match d r s with
    | some g => ((gone d g w).1, (gone d g w).2 + 1)
    | none => (r, 0)
theorem gone_cons {d : Gm} {r g : Nat} {s : Int} {w : List Int} (h : d r s = some g) : gone d r (s :: w) = ((gone d g w).1, (gone d g w).2 + 1) := by rw [gone, h]
theorem gone_stop {d : Gm} {r : Nat} {s : Int} {w : List Int} (h : d r s = none) : gone d r (s :: w) = (r, 0) := by rw [gone, h]
theorem gone_of {d : Gm} : ∀ {u v : List Int} {r g : Nat}, go d r u = some g → (∀ s, v.head? = some s → d g s = none) → gone d r (u ++ v) = (g, u.length)
  | [], [], r, g, h, _ => by cases h; rfl
  | [], s :: v, r, g, h, k => by cases h; exact gone_stop (k s rfl)
  | s :: u, v, r, g, h, k => by
    cases e : d r s with
    | none => rw [go_stop e] at h; cases h
    | some x =>
      rw [go_cons e] at h
      rw [List.cons_append, gone_cons e, gone_of h k]
      rfl
theorem gone_ex (d : Gm) : ∀ (w : List Int) (r : Nat), ∃ u v, w = u ++ v ∧ go d r u = some (gone d r w).1 ∧ (gone d r w).2 = u.length ∧ ∀ s, v.head? = some s → d (gone d r w).1 s = none
  | [], r => ⟨[], [], rfl, rfl, rfl, fun s h => by cases h⟩
  | s :: w, r => by
    cases e : d r s with
    | none => rw [gone_stop e]; exact ⟨[], s :: w, rfl, rfl, rfl, fun t h => by cases h; exact e⟩
    | some x =>
      obtain ⟨u, v, h1, h2, h3, h4⟩ := gone_ex d w x
      rw [gone_cons e]
      refine ⟨s :: u, v, by rw [h1]; rfl, by rw [go_cons e]; exact h2, by rw [h3]; rfl, h4⟩
theorem go_gone {d : Gm} {r : Nat} {w : List Int} : go d r w = if (gone d r w).2 = w.length then some (gone d r w).1 else none := by
  obtain ⟨u, v, h1, h2, h3, h4⟩ := gone_ex d w r
  by_cases c : (gone d r w).2 = w.length
  · rw [if_pos c]
    have hv : v = [] := by
      have := congrArg List.length h1
      rw [List.length_append] at this
      exact List.length_eq_zero_iff.mp (by omega)
    subst hv
    rw [List.append_nil] at h1
    subst h1
    exact h2
  · rw [if_neg c]
    cases v with
    | nil =>
      rw [List.append_nil] at h1
      subst h1
      exact absurd h3 c
    | cons s v =>
      have e := go_app d u (s :: v) r
      rw [← h1, h2] at e
      exact e.trans (go_stop (h4 s rfl))
theorem gone_le (d : Gm) (r : Nat) (w : List Int) : (gone d r w).2 ≤ w.length := by
  obtain ⟨u, v, h1, h2, h3, h4⟩ := gone_ex d w r
  have := congrArg List.length h1
  rw [List.length_append] at this
  omega
theorem gone_lt {L n : Nat} {d : Gm} (G : Gr L n d) {w : List Int} {r : Nat} (hr : r < n) : (gone d r w).1 < n := by
  obtain ⟨u, v, h1, h2, h3, h4⟩ := gone_ex d w r
  exact go_lt G hr h2
theorem gone_take (d : Gm) (r : Nat) (w : List Int) : go d r (w.take (gone d r w).2) = some (gone d r w).1 := by
  obtain ⟨u, v, h1, h2, h3, h4⟩ := gone_ex d w r
  rw [h3]
  conv => lhs; rw [h1]
  rw [List.take_left']
  · exact h2
  · rfl
/-! ### all in the order of time -/
def tc (L r : Nat) (s : Int) : Nat := r * (2 * L) + (Od.steps L).idxOf s
theorem tc_inj {L r g : Nat} {s t : Int} (hs : s ∈ Od.steps L) (ht : t ∈ Od.steps L) (h : tc L r s = tc L g t) : r = g ∧ s = t := by
  unfold tc at h
  have a := List.idxOf_lt_length_of_mem hs
  have b := List.idxOf_lt_length_of_mem ht
  rw [Od.steps_len] at a b
  generalize 2 * L = m at h a b
  have e : r = g := by
    rcases Nat.lt_trichotomy r g with z | z | z
    · have := Nat.mul_le_mul_right m (show r + 1 ≤ g from z)
      rw [Nat.add_mul] at this
      omega
    · exact z
    · have := Nat.mul_le_mul_right m (show g + 1 ≤ r from z)
      rw [Nat.add_mul] at this
      omega
  subst e
  refine ⟨rfl, ?_⟩
  have e2 : (Od.steps L).idxOf s = (Od.steps L).idxOf t := by omega
  have i1 := Od.at_idx hs
  have i2 := Od.at_idx ht
  rw [e2, i2] at i1
  exact (Option.some.inj i1).symm
theorem tc_lex {L r g : Nat} {s t : Int} (hs : s ∈ Od.steps L) (ht : t ∈ Od.steps L) (h : tc L r s ≤ tc L g t) : r < g ∨ (r = g ∧ (Od.steps L).idxOf s ≤ (Od.steps L).idxOf t) := by
  unfold tc at h
  have a := List.idxOf_lt_length_of_mem hs
  have b := List.idxOf_lt_length_of_mem ht
  rw [Od.steps_len] at a b
  generalize 2 * L = m at h a b
  rcases Nat.lt_trichotomy r g with z | z | z
  · exact .inl z
  · subst z
    exact .inr ⟨rfl, by omega⟩
  · have := Nat.mul_le_mul_right m (show g + 1 ≤ r from z)
    rw [Nat.add_mul] at this
    omega
structure Tm (L : Nat) (d : Gm) (B : Nat) (fd : Fd) : Prop where
  a : ∀ r s g, d r s = some g → tc L r s < B → ∃ x, (g, x) ∈ fd ∧ ∀ r' s', x = some (r', s') → tc L r' s' ≤ tc L r s
  b : ∀ g r s, (g, some (r, s)) ∈ fd → tc L r s < B ∧ s ∈ Od.steps L
  c : fd.Pairwise fun y z => ∀ r s r' s', y.2 = some (r, s) → z.2 = some (r', s') → tc L r s < tc L r' s'
theorem tm_start (L : Nat) (d : Gm) : Tm L d 0 [(0, none)] := ⟨fun _ _ _ _ h => absurd h (Nat.not_lt_zero _), fun g r s h => (by
  have h := List.mem_singleton.mp h
  cases h), List.pairwise_singleton _ _⟩
theorem tm_adv {L n : Nat} {d : Gm} {B r : Nat} {s : Int} {fd : Fd} (G : Gr L n d) (T : Tm L d B fd) (hs : s ∈ Od.steps L) (hB : tc L r s = B) : Tm L d (B + 1) (adv d r fd s) := by
  have old : ∀ (r1 : Nat) (s1 : Int) (g1 : Nat) (m : Fd), d r1 s1 = some g1 → tc L r1 s1 < B → ∃ x, (g1, x) ∈ fd ++ m ∧ ∀ r' s', x = some (r', s') → tc L r' s' ≤ tc L r1 s1 := fun r1 s1 g1 m h1 h2 => by
    obtain ⟨x, k1, k2⟩ := T.a r1 s1 g1 h1 h2
    exact ⟨x, List.mem_append_left _ k1, k2⟩
  have same : ∀ r1 s1 g1, d r1 s1 = some g1 → tc L r1 s1 < B + 1 → ¬ tc L r1 s1 < B → r1 = r ∧ s1 = s := fun r1 s1 g1 h1 h2 h3 => tc_inj (G.dom _ _ _ h1).2.2 hs (by omega)
  unfold adv
  cases e : d r s with
  | none =>
    refine ⟨fun r1 s1 g1 h1 h2 => ?_, fun g r1 s1 h => ⟨by have := (T.b g r1 s1 h).1; omega, (T.b g r1 s1 h).2⟩, T.c⟩
    by_cases h3 : tc L r1 s1 < B
    · exact T.a r1 s1 g1 h1 h3
    · obtain ⟨rfl, rfl⟩ := same _ _ _ h1 h2 h3
      rw [e] at h1
      cases h1
  | some g =>
    show Tm L d (B + 1) (if g ∈ fd.map (·.1) then fd else fd ++ [(g, some (r, s))])
    split
    · rename_i hg
      refine ⟨fun r1 s1 g1 h1 h2 => ?_, fun g r1 s1 h => ⟨by have := (T.b g r1 s1 h).1; omega, (T.b g r1 s1 h).2⟩, T.c⟩
      by_cases h3 : tc L r1 s1 < B
      · exact T.a r1 s1 g1 h1 h3
      · obtain ⟨rfl, rfl⟩ := same _ _ _ h1 h2 h3
        rw [e] at h1
        cases h1
        obtain ⟨y, hy, ey⟩ := List.mem_map.mp hg
        obtain ⟨y1, y2⟩ := y
        dsimp only at ey
        subst ey
        refine ⟨y2, hy, fun r' s' e2 => ?_⟩
        subst e2
        have := (T.b _ _ _ hy).1
        omega
    · refine ⟨fun r1 s1 g1 h1 h2 => ?_, fun g1 r1 s1 h => ?_, ?_⟩
      · by_cases h3 : tc L r1 s1 < B
        · exact old r1 s1 g1 _ h1 h3
        · obtain ⟨rfl, rfl⟩ := same _ _ _ h1 h2 h3
          rw [e] at h1
          cases h1
          refine ⟨_, List.mem_append_right _ List.mem_cons_self, fun r' s' e2 => ?_⟩
          cases e2
          exact Nat.le_refl _
      · rcases List.mem_append.mp h with h | h
        · exact ⟨by have := (T.b g1 r1 s1 h).1; omega, (T.b g1 r1 s1 h).2⟩
        · rw [List.mem_singleton] at h
          cases h
          exact ⟨by omega, hs⟩
      · rw [List.pairwise_append]
        refine ⟨T.c, List.pairwise_singleton _ _, fun y hy z hz r1 s1 r2 s2 e1 e2 => ?_⟩
        rw [List.mem_singleton] at hz
        subst hz
        cases e2
        obtain ⟨y1, y2⟩ := y
        dsimp only at e1
        subst e1
        have := (T.b _ _ _ hy).1
        omega
theorem tm_look {L n : Nat} {d : Gm} {r : Nat} {fd : Fd} (G : Gr L n d) (T : Tm L d (r * (2 * L)) fd) : ∀ i, i ≤ (Od.steps L).length → Tm L d (r * (2 * L) + i) (look d r ((Od.steps L).take i) fd)
  | 0, _ => by rw [List.take_zero]; exact T
  | i + 1, h => by
    have hi := List.getElem?_eq_getElem (l := Od.steps L) (i := i) (by omega)
    rw [show (Od.steps L).take (i + 1) = (Od.steps L).take i ++ [(Od.steps L)[i]] by
      rw [List.take_succ, hi]; rfl, look_snoc]
    have z := tm_adv (r := r) (s := (Od.steps L)[i]) G (tm_look G T i (by omega)) (List.getElem_mem _) (by
      unfold tc
      rw [(Od.steps_nodup L).idxOf_getElem])
    exact z
theorem run_pre (d : Gm) (S : List Int) : ∀ (k p : Nat) (fd : Fd), ∃ m, run d S k p fd = fd ++ m
  | 0, _, fd => ⟨[], (List.append_nil _).symm⟩
  | k + 1, p, fd => by
    cases h : fd[p]? with
    | none => exact ⟨[], by rw [run, h, List.append_nil]⟩
    | some y =>
      obtain ⟨r, x⟩ := y
      obtain ⟨m, e⟩ := look_pre d r S fd
      obtain ⟨m2, e2⟩ := run_pre d S k (p + 1) (look d r S fd)
      exact ⟨m ++ m2, by rw [run_on h, e2, e, List.append_assoc]⟩
theorem tm_run {L n : Nat} {d : Gm} {F : Fd} (G : Gr L n d) (hF : F.map (·.1) = List.range n) : ∀ (k p : Nat) (fd : Fd), k = n + 1 - p → p ≤ n → run d (Od.steps L) k p fd = F → Tm L d (p * (2 * L)) fd → Tm L d (n * (2 * L)) F
  | 0, p, fd, hk, hp, hr, T => by omega
  | k + 1, p, fd, hk, hp, hr, T => by
    have lF : F.length = n := by have := congrArg List.length hF; rwa [List.length_map, List.length_range] at this
    obtain ⟨m, em⟩ := run_pre d (Od.steps L) (k + 1) p fd
    rw [hr] at em
    rcases Nat.lt_or_ge p n with lt | ge
    · have lp : p < fd.length := by
        rcases Nat.lt_or_ge p fd.length with z | z
        · exact z
        · rw [run_end z] at hr
          rw [hr] at z
          omega
      have hp2 := List.getElem?_eq_getElem lp
      obtain ⟨r, x, hx⟩ : ∃ r x, fd[p] = (r, x) := ⟨_, _, rfl⟩
      rw [hx] at hp2
      have er : r = p := by
        have h1 : F[p]? = some (r, x) := by rw [em, List.getElem?_append_left lp, hp2]
        have h2 := congrArg (fun l => l[p]?) hF
        simp only [List.getElem?_map] at h2
        rw [h1, List.getElem?_range lt] at h2
        exact Option.some.inj h2
      subst er
      rw [run_on hp2] at hr
      refine tm_run G hF k (r + 1) _ (by omega) lt hr ?_
      have z := tm_look G T (Od.steps L).length (Nat.le_refl _)
      rw [List.take_length, Od.steps_len] at z
      rw [Nat.succ_mul]
      exact z
    · have e : p = n := by omega
      subst e
      have : fd.length ≤ p := by
        have := congrArg List.length em
        rw [List.length_append] at this
        omega
      rw [run_end this] at hr
      subst hr
      exact T
theorem web_tm {L n : Nat} {d : Gm} (W : Web L n d) : Tm L d (n * (2 * L)) (bfs L n d 0) := tm_run W.gr W.ord (n + 1) 0 [(0, none)] (by omega) (Nat.zero_le _) rfl (by rw [Nat.zero_mul]; exact tm_start L d)
/-! ### the first ways -/
def fstep (ws : List (List Int)) (y : Nat × Option (Nat × Int)) : List (List Int) := ws ++ [match y.2 with
  | none => []
  | some (r, s) => ws.getD r [] ++ [s]]
def fwl (fd : Fd) : List (List Int) := fd.foldl fstep []
theorem fwl_snoc (fd : Fd) (y : Nat × Option (Nat × Int)) : fwl (fd ++ [y]) = fstep (fwl fd) y := by
  unfold fwl
  rw [List.foldl_append]
  rfl
theorem fwl_len (fd : Fd) : (fwl fd).length = fd.length := by
  refine Od.snoc_ind (C := fun fd => (fwl fd).length = fd.length) rfl (fun u x ih => ?_) fd
  rw [fwl_snoc]
  unfold fstep
  rw [List.length_append, List.length_append, ih]
  rfl
theorem fwl_pre (fd m : Fd) : ∃ k, fwl (fd ++ m) = fwl fd ++ k := by
  refine Od.snoc_ind (C := fun m => ∃ k, fwl (fd ++ m) = fwl fd ++ k) ⟨[], by rw [List.append_nil, List.append_nil]⟩ (fun u x ih => ?_) m
  obtain ⟨k, e⟩ := ih
  rw [← List.append_assoc, fwl_snoc, e]
  unfold fstep
  rw [List.append_assoc]
  exact ⟨_, rfl⟩
theorem getD_app {α : Type} {a b : List α} {i : Nat} {x : α} (h : i < a.length) : (a ++ b).getD i x = a.getD i x := by
  rw [List.getD_eq_getElem?_getD, List.getD_eq_getElem?_getD, List.getElem?_append_left h]
theorem fwl_at {fd : Fd} {i g r : Nat} {s : Int} (h : fd[i]? = some (g, some (r, s))) (hr : r < i) : (fwl fd)[i]? = some ((fwl fd).getD r [] ++ [s]) := by
  have hi := (List.getElem?_eq_some_iff.mp h).1
  have e : fd = (fd.take i ++ [(g, some (r, s))]) ++ fd.drop (i + 1) := by
    rw [← L2.take_snoc h, List.take_append_drop]
  obtain ⟨k, ek⟩ := fwl_pre (fd.take i ++ [(g, some (r, s))]) (fd.drop (i + 1))
  rw [← e, fwl_snoc] at ek
  have l1 : (fwl (fd.take i)).length = i := by rw [fwl_len, List.length_take]; omega
  unfold fstep at ek
  rw [ek, List.getElem?_append_left (by rw [List.length_append, l1]; simp), List.getElem?_append_right (by rw [l1]; exact Nat.le_refl _), l1, Nat.sub_self]
  rw [getD_app (by rw [List.length_append, l1]; simp; omega), getD_app (by omega)]
  rfl
theorem fwl_zero {fd : Fd} {g : Nat} (h : fd[0]? = some (g, none)) : (fwl fd)[0]? = some [] := by
  cases fd with
  | nil => cases h
  | cons y fd =>
    cases h
    obtain ⟨k, e⟩ := fwl_pre [(g, none)] fd
    rw [show (g, none) :: fd = [(g, none)] ++ fd from rfl, e]
    rfl
def fw (L n : Nat) (d : Gm) (g : Nat) : List Int := (fwl (bfs L n d 0)).getD g []
def fws (L n : Nat) (d : Gm) : List (List Int) := fwl (bfs L n d 0)
theorem web_len {L n : Nat} {d : Gm} (W : Web L n d) : (bfs L n d 0).length = n := by
  have := congrArg List.length W.ord
  rwa [List.length_map, List.length_range] at this
theorem fws_len {L n : Nat} {d : Gm} (W : Web L n d) : (fws L n d).length = n := by unfold fws; rw [fwl_len, web_len W]
theorem fws_at {L n : Nat} {d : Gm} (W : Web L n d) {g : Nat} (hg : g < n) : (fws L n d)[g]? = some (fw L n d g) := by
  unfold fw
  rw [List.getD_eq_getElem?_getD]
  have := List.getElem?_eq_getElem (l := fws L n d) (i := g) (by rw [fws_len W]; exact hg)
  unfold fws at this ⊢
  rw [this]
  rfl
/-- what stands at a room -/
theorem web_ent {L n : Nat} {d : Gm} (W : Web L n d) {g : Nat} (hg : g < n) : ∃ x, (bfs L n d 0)[g]? = some (g, x) := by
  have h := W.ord
  have l := web_len W
  have e := List.getElem?_eq_getElem (l := bfs L n d 0) (i := g) (by omega)
  have h2 := congrArg (fun l => l[g]?) h
  simp only [List.getElem?_map] at h2
  rw [e, List.getElem?_range hg] at h2
  refine ⟨(bfs L n d 0)[g].2, ?_⟩
  rw [e]
  have := Option.some.inj h2
  show some _ = some _
  congr 1
  exact Prod.ext this rfl
theorem web_idx {L n : Nat} {d : Gm} (W : Web L n d) {i g : Nat} {x : Option (Nat × Int)} (h : (bfs L n d 0)[i]? = some (g, x)) : i = g ∧ g < n := by
  have hi := (List.getElem?_eq_some_iff.mp h).1
  have l := web_len W
  have h2 := congrArg (fun l => l[i]?) W.ord
  simp only [List.getElem?_map] at h2
  rw [h, List.getElem?_range (by omega)] at h2
  have := Option.some.inj h2
  dsimp only at this
  omega
theorem web_par {L n : Nat} {d : Gm} (W : Web L n d) {g : Nat} (h0 : 0 < g) (hg : g < n) : ∃ r s, (bfs L n d 0)[g]? = some (g, some (r, s)) ∧ d r s = some g ∧ r < g ∧ fw L n d g = fw L n d r ++ [s] := by
  obtain ⟨x, hx⟩ := web_ent W hg
  obtain ⟨q, hq, R⟩ := bfs_all (home := 0) W.gr W.pos
  rcases R.par g g x hx with ⟨k, _⟩ | ⟨r, s, j, y, k1, k2, k3, k4⟩
  · omega
  · subst k1
    have := (web_idx W k4).1
    subst this
    refine ⟨j, s, hx, k2, k3, ?_⟩
    have e := fwl_at hx k3
    unfold fw
    rw [List.getD_eq_getElem?_getD, e]
    rfl
theorem fw_zero {L n : Nat} {d : Gm} (W : Web L n d) : fw L n d 0 = [] := by
  obtain ⟨q, hq, R⟩ := bfs_all (home := 0) W.gr W.pos
  unfold fw
  rw [List.getD_eq_getElem?_getD, fwl_zero R.hd]
  rfl
theorem fw_go {L n : Nat} {d : Gm} (W : Web L n d) : ∀ (g : Nat), g < n → go d 0 (fw L n d g) = some g ∧ Od.G L none (fw L n d g) ∧ (fw L n d g).length ≤ g := by
  intro g
  induction g using Nat.strongRecOn with
  | _ g ih =>
    intro hg
    rcases Nat.eq_zero_or_pos g with e | h0
    · subst e
      rw [fw_zero W]
      exact ⟨rfl, trivial, Nat.le_refl _⟩
    · obtain ⟨r, s, h1, h2, h3, h4⟩ := web_par W h0 hg
      obtain ⟨i1, i2, i3⟩ := ih r h3 (by omega)
      rw [h4]
      refine ⟨by rw [go_snoc, i1]; exact h2, Od.G_snoc.mpr ⟨i2, Od.mem_bh.mpr ⟨(W.gr.dom _ _ _ h2).2.2, fun z => ?_⟩⟩, by rw [List.length_append]; simp; omega⟩
      -- the last step ahead would be the way back
      rcases Nat.eq_zero_or_pos r with e | r0
      · subst e
        rw [fw_zero W] at z
        cases z
      · obtain ⟨r2, s2, k1, k2, k3, k4⟩ := web_par W r0 (by omega)
        rw [k4, Od.lst_snoc] at z
        have z := Option.some.inj z
        subst z
        have := W.gr.sym _ _ _ k2
        rw [Int.neg_neg, h2] at this
        have := Option.some.inj this
        omega
theorem idx_mono {L : Nat} {p : Option Int} {s t : Int} (hs : s ∈ Od.bh L p) (ht : t ∈ Od.bh L p) (h : (Od.steps L).idxOf s < (Od.steps L).idxOf t) : (Od.bh L p).idxOf s < (Od.bh L p).idxOf t := by
  obtain ⟨s1, s2⟩ := Od.mem_bh.mp hs
  obtain ⟨t1, t2⟩ := Od.mem_bh.mp ht
  unfold Od.bh
  rw [Od.idx_filter s1 (decide_eq_true s2), Od.idx_filter t1 (decide_eq_true t2)]
  have e := Od.at_idx s1
  have e2 : (Od.steps L).take ((Od.steps L).idxOf s + 1) = (Od.steps L).take ((Od.steps L).idxOf s) ++ [s] := L2.take_snoc e
  have e3 : (Od.steps L).take ((Od.steps L).idxOf t) = (Od.steps L).take ((Od.steps L).idxOf s + 1) ++ ((Od.steps L).take ((Od.steps L).idxOf t)).drop ((Od.steps L).idxOf s + 1) := by
    conv => lhs; rw [← List.take_append_drop ((Od.steps L).idxOf s + 1) ((Od.steps L).take ((Od.steps L).idxOf t))]
    rw [List.take_take, Nat.min_eq_left (by omega)]
  rw [e3, e2, List.filter_append, List.filter_append, List.length_append, List.length_append, List.filter_cons_of_pos (by simpa using s2)]
  simp
  omega
theorem place_lt_snoc {L : Nat} {u w : List Int} {s t : Int} (gu : Od.G L none (u ++ [s])) (gw : Od.G L none (w ++ [t])) (h : Od.place L u < Od.place L w) : Od.place L (u ++ [s]) < Od.place L (w ++ [t]) := by
  obtain ⟨u1, u2⟩ := Od.G_snoc.mp gu
  obtain ⟨w1, w2⟩ := Od.G_snoc.mp gw
  have hl := Od.place_len u1 w1 (Nat.le_of_lt h)
  rcases Nat.lt_or_ge u.length w.length with lt | ge
  · have a := Od.place_lt gu
    have b := Od.place_ge L (w ++ [t])
    rw [List.length_append] at a b
    have c := Od.S_mono (L := L) (a := u.length + [s].length + 1) (b := w.length + [t].length) (by simp; omega)
    omega
  · have el : u.length = w.length := by omega
    unfold Od.place at h ⊢
    rw [el] at h
    have hv : Od.V L none u < Od.V L none w := by omega
    rw [Od.V_snoc gu, Od.V_snoc gw, List.length_append, List.length_append, el]
    have un : u ≠ [] := fun z => by
      subst z
      have : w = [] := List.length_eq_zero_iff.mp el.symm
      subst this
      exact Nat.lt_irrefl _ hv
    have wn : w ≠ [] := fun z => by
      subst z
      exact un (List.length_eq_zero_iff.mp el)
    have b1 := List.idxOf_lt_length_of_mem u2
    have b2 := Od.bh_len u1
    have b3 := Od.bh_len w1
    rw [if_neg un] at b2
    rw [if_neg wn] at b3
    rw [b2] at b1
    rw [b2, b3]
    have := Nat.mul_le_mul_right (2 * L - 1) (show Od.V L none u + 1 ≤ Od.V L none w from hv)
    rw [Nat.add_mul] at this
    simp only [List.length_cons, List.length_nil]
    omega
theorem place_lt_last {L : Nat} {u : List Int} {s t : Int} (gs : Od.G L none (u ++ [s])) (gt : Od.G L none (u ++ [t])) (h : (Od.steps L).idxOf s < (Od.steps L).idxOf t) : Od.place L (u ++ [s]) < Od.place L (u ++ [t]) := by
  obtain ⟨u1, u2⟩ := Od.G_snoc.mp gs
  obtain ⟨w1, w2⟩ := Od.G_snoc.mp gt
  unfold Od.place
  rw [Od.V_snoc gs, Od.V_snoc gt, List.length_append, List.length_append]
  have := idx_mono u2 w2 h
  simp only [List.length_cons, List.length_nil]
  omega
theorem place_pos {L : Nat} {u : List Int} {s : Int} (g : Od.G L none (u ++ [s])) : Od.place L [] < Od.place L (u ++ [s]) := by
  rcases Nat.lt_or_ge (Od.place L []) (Od.place L (u ++ [s])) with lt | ge
  · exact lt
  · have := Od.place_len g (show Od.G L none [] from trivial) ge
    rw [List.length_append] at this
    simp at this
/-- the rooms stand in the order of their first ways -/
theorem fw_mono {L n : Nat} {d : Gm} (W : Web L n d) : ∀ (j i : Nat), i < j → j < n → Od.place L (fw L n d i) < Od.place L (fw L n d j) := by
  intro j
  induction j using Nat.strongRecOn with
  | _ j ih =>
    intro i hij hj
    obtain ⟨r, s, h1, h2, h3, h4⟩ := web_par W (by omega) hj
    have gj := (fw_go W j hj).2.1
    rw [h4] at gj ⊢
    rcases Nat.eq_zero_or_pos i with e | i0
    · subst e
      rw [fw_zero W]
      exact place_pos gj
    · obtain ⟨r2, s2, k1, k2, k3, k4⟩ := web_par W i0 (by omega)
      have gi := (fw_go W i (by omega)).2.1
      rw [k4] at gi ⊢
      have T := web_tm W
      have lt : tc L r2 s2 < tc L r s := by
        obtain ⟨hi, ei⟩ := List.getElem?_eq_some_iff.mp k1
        obtain ⟨hj2, ej⟩ := List.getElem?_eq_some_iff.mp h1
        have := List.pairwise_iff_getElem.mp T.c i j hi hj2 hij
        rw [ei, ej] at this
        exact this r2 s2 r s rfl rfl
      have m1 := (W.gr.dom _ _ _ h2).2.2
      have m2 := (W.gr.dom _ _ _ k2).2.2
      rcases tc_lex m2 m1 (Nat.le_of_lt lt) with z | ⟨z1, z2⟩
      · exact place_lt_snoc gi gj (ih r h3 r2 z (by omega))
      · subst z1
        refine place_lt_last gi gj ?_
        rcases Nat.lt_or_ge ((Od.steps L).idxOf s2) ((Od.steps L).idxOf s) with q | q
        · exact q
        · unfold tc at lt
          omega
/-- they are the least -/
theorem fw_least {L n : Nat} {d : Gm} (W : Web L n d) : ∀ (w : List Int) (g : Nat), Od.G L none w → go d 0 w = some g → Od.place L (fw L n d g) ≤ Od.place L w := by
  intro w
  refine Od.snoc_ind (C := fun w => ∀ g, Od.G L none w → go d 0 w = some g → Od.place L (fw L n d g) ≤ Od.place L w) (fun g _ h => ?_) (fun w s ih g hw h => ?_) w
  · cases h
    rw [fw_zero W]
    exact Nat.le_refl _
  · rw [go_snoc] at h
    cases e : go d 0 w with
    | none => rw [e] at h; cases h
    | some r' =>
      rw [e] at h
      have h : d r' s = some g := h
      obtain ⟨w1, w2⟩ := Od.G_snoc.mp hw
      have i1 := ih r' w1 e
      have dm := W.gr.dom _ _ _ h
      rcases Nat.eq_zero_or_pos g with e0 | g0
      · subst e0
        rw [fw_zero W]
        exact Nat.le_of_lt (place_pos hw)
      · obtain ⟨r, t, h1, h2, h3, h4⟩ := web_par W g0 dm.2.1
        have gg := (fw_go W g dm.2.1).2.1
        rw [h4] at gg ⊢
        have T := web_tm W
        have lt : tc L r' s < n * (2 * L) := by
          unfold tc
          have a := List.idxOf_lt_length_of_mem dm.2.2
          rw [Od.steps_len] at a
          have := Nat.mul_le_mul_right (2 * L) (show r' + 1 ≤ n from dm.1)
          rw [Nat.add_mul] at this
          omega
        obtain ⟨x, hx, kx⟩ := T.a r' s g h lt
        obtain ⟨i, hi⟩ := List.mem_iff_getElem?.mp hx
        have := (web_idx W hi).1
        subst this
        rw [h1] at hi
        cases hi
        have le := kx r t rfl
        have r'n := dm.1
        rcases tc_lex (W.gr.dom _ _ _ h2).2.2 dm.2.2 le with z | ⟨z1, z2⟩
        · have := fw_mono W r' r z r'n
          exact Nat.le_of_lt (place_lt_snoc gg hw (by omega))
        · subst z1
          rcases Nat.lt_or_ge (Od.place L (fw L n d r)) (Od.place L w) with q | q
          · exact Nat.le_of_lt (place_lt_snoc gg hw q)
          · have ew := Od.place_inj (fw_go W r r'n).2.1 w1 (by omega)
            rw [← ew] at hw ⊢
            rcases Nat.lt_or_ge ((Od.steps L).idxOf t) ((Od.steps L).idxOf s) with q2 | q2
            · exact Nat.le_of_lt (place_lt_last gg hw q2)
            · have m1 := (W.gr.dom _ _ _ h2).2.2
              have e3 : (Od.steps L).idxOf t = (Od.steps L).idxOf s := by omega
              have a1 := Od.at_idx m1
              have a2 := Od.at_idx dm.2.2
              rw [e3, a2] at a1
              rw [Option.some.inj a1]
              exact Nat.le_refl _
end Wb
/-! cosets; pictures seen from another home -/
namespace Wb
open L2
theorem place_le_app {L : Nat} {u w : List Int} : ∀ (v : List Int), Od.G L none (u ++ v) → Od.G L none (w ++ v) → Od.place L u ≤ Od.place L w → Od.place L (u ++ v) ≤ Od.place L (w ++ v) := by
  intro v
  refine Od.snoc_ind (C := fun v => Od.G L none (u ++ v) → Od.G L none (w ++ v) → Od.place L u ≤ Od.place L w → Od.place L (u ++ v) ≤ Od.place L (w ++ v)) (fun _ _ h => by rw [List.append_nil, List.append_nil]; exact h) (fun v s ih gu gw h => ?_) v
  rw [← List.append_assoc] at gu gw ⊢
  rw [← List.append_assoc]
  have g1 := (Od.G_snoc.mp gu).1
  have g2 := (Od.G_snoc.mp gw).1
  have h2 := ih g1 g2 h
  rcases Nat.lt_or_ge (Od.place L (u ++ v)) (Od.place L (w ++ v)) with q | q
  · exact Nat.le_of_lt (place_lt_snoc gu gw q)
  · rw [Od.place_inj g1 g2 (by omega)]
    exact Nat.le_refl _
theorem gl_snoc (u : List Int) (x : Int) : (u ++ [x]).getLast? = some x := by simp
/-- whether a walk belongs -/
def bel (d : Gm) (w : List Int) : Bool := decide (go d 0 (Fg.rd w) = some 0)
/-- what two walks have in common at their ends -/
theorem same_end : ∀ (u w : List Int), Fg.Str u → Fg.Str w → ∃ a b t, u = a ++ t ∧ w = b ++ t ∧ Fg.rd (u ++ Fg.bk w) = a ++ Fg.bk b ∧ (a = [] ∨ b = [] ∨ a.getLast? ≠ b.getLast?) := by
  intro u
  refine Od.snoc_ind (C := fun u => ∀ w, Fg.Str u → Fg.Str w → ∃ a b t, u = a ++ t ∧ w = b ++ t ∧ Fg.rd (u ++ Fg.bk w) = a ++ Fg.bk b ∧ (a = [] ∨ b = [] ∨ a.getLast? ≠ b.getLast?)) (fun w _ hw => ?_) (fun u x ih w hu hw => ?_) u
  · exact ⟨[], w, [], rfl, (List.append_nil _).symm, by rw [List.nil_append]; exact Fg.rd_str (Fg.str_bk hw), .inl rfl⟩
  · rcases List.eq_nil_or_concat w with e | ⟨w', y, e⟩
    · subst e
      refine ⟨u ++ [x], [], [], (List.append_nil _).symm, rfl, ?_, .inr (.inl rfl)⟩
      rw [show Fg.bk [] = [] from rfl, List.append_nil]
      exact Fg.rd_str hu
    · rw [List.concat_eq_append] at e
      subst e
      by_cases exy : x = y
      · subst exy
        obtain ⟨a, b, t, h1, h2, h3, h4⟩ := ih w' (Fg.str_init hu).1 (Fg.str_init hw).1
        refine ⟨a, b, t ++ [x], by rw [h1, List.append_assoc], by rw [h2, List.append_assoc], ?_, h4⟩
        rw [← h3, Fg.bk_app]
        show Fg.rd (u ++ [x] ++ ([-x] ++ Fg.bk w')) = _
        refine Fg.rd_eq ?_
        have := Fg.eqv_cut u (Fg.bk w') x
        rw [show u ++ [x] ++ ([-x] ++ Fg.bk w') = u ++ [x, -x] ++ Fg.bk w' by simp]
        exact this
      · refine ⟨u ++ [x], w' ++ [y], [], (List.append_nil _).symm, (List.append_nil _).symm, ?_, .inr (.inr fun z => ?_)⟩
        · refine Fg.rd_str (Fg.str_app hu (Fg.str_bk hw) fun p q hp hq => ?_)
          rw [gl_snoc] at hp
          cases hp
          rw [Fg.bk_app] at hq
          have hq : some (-y) = some q := hq
          cases hq
          exact fun z => exy (by omega)
        · rw [gl_snoc, gl_snoc] at z
          cases z
          exact exy rfl
theorem bel_pair {L n : Nat} {d : Gm} (G : Gr L n d) {u w : List Int} (hu : Fg.Str u) (hw : Fg.Str w) :
    go d 0 (Fg.rd (u ++ Fg.bk w)) = some 0 ↔ ((gone d 0 u).1 = (gone d 0 w).1 ∧ u.drop (gone d 0 u).2 = w.drop (gone d 0 w).2) := by
  obtain ⟨a, b, t, h1, h2, h3, h4⟩ := same_end u w hu hw
  rw [h3, go_app]
  have key : ∀ (p q v : List Int) (r : Nat), u = p ++ v → w = q ++ v → go d 0 p = some r → go d 0 q = some r → ∃ x, go d 0 a = some x ∧ go d x (Fg.bk b) = some 0 := fun p q v r e1 e2 g1 g2 => by
    -- v is no longer than what is common
    have hv : ∃ v1, t = v1 ++ v := by
      have c1 := List.append_eq_append_iff.mp (e1.symm.trans h1)
      rcases c1 with ⟨z, z1, z2⟩ | ⟨z, z1, z2⟩
      · -- a = p ++ z, v = z ++ t
        have : q ++ (z ++ t) = b ++ t := by rw [← z2, ← e2, h2]
        rw [← List.append_assoc] at this
        have eb := List.append_cancel_right this
        cases z using Od.snoc_ind with
        | h0 => exact ⟨[], by rw [z2]; rfl⟩
        | h1 z y _ =>
          exfalso
          rcases h4 with k | k | k
          · rw [k] at z1
            have := congrArg List.length z1
            simp at this
          · rw [k] at eb
            have := congrArg List.length eb
            simp at this
          · apply k
            rw [z1, ← eb, ← List.append_assoc, ← List.append_assoc, gl_snoc, gl_snoc]
      · exact ⟨z, z2⟩
    obtain ⟨v1, ev⟩ := hv
    have ep : p = a ++ v1 := List.append_cancel_right (by rw [List.append_assoc, ← ev, ← e1, h1])
    have eq2 : q = b ++ v1 := List.append_cancel_right (by rw [List.append_assoc, ← ev, ← e2, h2])
    rw [ep, go_app] at g1
    rw [eq2, go_app] at g2
    cases ga : go d 0 a with
    | none => rw [ga] at g1; cases g1
    | some x =>
      rw [ga] at g1
      cases gb : go d 0 b with
      | none => rw [gb] at g2; cases g2
      | some y =>
        rw [gb] at g2
        have k1 := go_bk G (show go d x v1 = some r from g1)
        have k2 := go_bk G (show go d y v1 = some r from g2)
        rw [k1] at k2
        cases k2
        exact ⟨x, rfl, go_bk G gb⟩
  constructor
  · intro h
    cases ga : go d 0 a with
    | none => rw [ga] at h; cases h
    | some x =>
      rw [ga] at h
      have gb : go d 0 b = some x := (go_back G).mpr (show go d x (Fg.bk b) = some 0 from h)
      -- both go on alike
      obtain ⟨c, v, k1, k2, k3, k4⟩ := gone_ex d t x
      have eu : gone d 0 u = ((gone d x t).1, a.length + c.length) := by
        rw [h1, k1, ← List.append_assoc]
        rw [gone_of (g := (gone d x t).1) (by rw [go_app, ga]; exact k2) k4, List.length_append]
        rw [← k1]
      have ew : gone d 0 w = ((gone d x t).1, b.length + c.length) := by
        rw [h2, k1, ← List.append_assoc]
        rw [gone_of (g := (gone d x t).1) (by rw [go_app, gb]; exact k2) k4, List.length_append]
        rw [← k1]
      rw [eu, ew]
      refine ⟨rfl, ?_⟩
      show u.drop (a.length + c.length) = w.drop (b.length + c.length)
      rw [h1, h2, ← List.drop_drop, ← List.drop_drop, List.drop_left', List.drop_left'] <;> rfl
  · rintro ⟨e1, e2⟩
    have g1 := gone_take d 0 u
    have g2 := gone_take d 0 w
    rw [e1] at g1
    obtain ⟨x, k1, k2⟩ := key (u.take (gone d 0 u).2) (w.take (gone d 0 w).2) (u.drop (gone d 0 u).2) (gone d 0 w).1 (List.take_append_drop _ _).symm (by rw [e2, List.take_append_drop]) g1 g2
    rw [k1]
    exact k2
/-- the least walk of a coset -/
def cw (L n : Nat) (d : Gm) (w : List Int) : List Int := fw L n d (gone d 0 w).1 ++ w.drop (gone d 0 w).2
theorem cw_G {L n : Nat} {d : Gm} (W : Web L n d) {w : List Int} (hw : Od.G L none w) : Od.G L none (cw L n d w) ∧ gone d 0 (cw L n d w) = ((gone d 0 w).1, (fw L n d (gone d 0 w).1).length) ∧ (cw L n d w).length ≤ w.length := by
  obtain ⟨u, v, h1, h2, h3, h4⟩ := gone_ex d w 0
  have hr := gone_lt W.gr (w := w) W.pos
  obtain ⟨f1, f2, f3⟩ := fw_go W _ hr
  have dv : w.drop (gone d 0 w).2 = v := by rw [h3]; conv => lhs; rw [h1]
                                            rw [List.drop_left']; rfl
  have e : cw L n d w = fw L n d (gone d 0 w).1 ++ v := by unfold cw; rw [dv]
  rw [e]
  have gu : Od.G L none u := by
    have := Od.G_take hw u.length
    rw [h1, List.take_left'] at this
    · exact this
    · rfl
  refine ⟨?_, gone_of f1 h4, ?_⟩
  · -- the step behind leads on, not back
    cases v with
    | nil => rw [List.append_nil]; exact f2
    | cons s v =>
      refine Od.G_of (L := L) ?_ ?_
      · intro x hx
        rcases List.mem_append.mp hx with z | z
        · exact (Od.of_G f2).1 x z
        · exact (Od.of_G hw).1 x (by rw [h1]; exact List.mem_append_right _ z)
      · refine Fg.str_app (Od.of_G f2).2 (by have := Fg.str_drop u.length (Od.of_G hw).2; rw [h1, List.drop_left'] at this; exact this; rfl) fun p q hp hq => ?_
        cases hq
        intro z
        -- the last step of the first way has its way back
        obtain ⟨f, ef⟩ : ∃ f, fw L n d (gone d 0 w).1 = f ++ [p] := by
          rcases List.eq_nil_or_concat (fw L n d (gone d 0 w).1) with k | ⟨f, y, k⟩
          · rw [k] at hp; cases hp
          · rw [List.concat_eq_append] at k
            rw [k, gl_snoc] at hp
            cases hp
            exact ⟨f, k⟩
        rw [ef, go_snoc] at f1
        cases k : go d 0 f with
        | none => rw [k] at f1; cases f1
        | some y =>
          rw [k] at f1
          have b := W.gr.sym _ _ _ (show d y p = some _ from f1)
          have := h4 s rfl
          rw [z, b] at this
          cases this
  · have l1 := fw_least W u _ gu h2
    have l2 := Od.place_len f2 gu l1
    rw [List.length_append]
    have := congrArg List.length h1
    rw [List.length_append] at this
    omega
theorem cw_bel {L n : Nat} {d : Gm} (W : Web L n d) {w : List Int} (hw : Od.G L none w) : go d 0 (Fg.rd (cw L n d w ++ Fg.bk w)) = some 0 := by
  obtain ⟨g, e, _⟩ := cw_G W hw
  rw [bel_pair W.gr (Od.of_G g).2 (Od.of_G hw).2, e]
  refine ⟨rfl, ?_⟩
  show (cw L n d w).drop (fw L n d (gone d 0 w).1).length = _
  unfold cw
  rw [List.drop_left']
  rfl
theorem cw_least {L n : Nat} {d : Gm} (W : Web L n d) {w u : List Int} (hw : Od.G L none w) (hu : Od.G L none u) (h : go d 0 (Fg.rd (u ++ Fg.bk w)) = some 0) : Od.place L (cw L n d w) ≤ Od.place L u := by
  rw [bel_pair W.gr (Od.of_G hu).2 (Od.of_G hw).2] at h
  obtain ⟨g, e, _⟩ := cw_G W hw
  have h1 := gone_take d 0 u
  have g1 := Od.G_take hu (gone d 0 u).2
  have l1 := fw_least W _ _ g1 h1
  rw [h.1] at l1
  have eu : u = u.take (gone d 0 u).2 ++ w.drop (gone d 0 w).2 := by rw [← h.2, List.take_append_drop]
  unfold cw at g ⊢
  rw [eu] at hu
  conv => rhs; rw [eu]
  exact place_le_app _ g hu l1
theorem cw_same {L n : Nat} {d : Gm} (W : Web L n d) {u w : List Int} (hu : Od.G L none u) (hw : Od.G L none w) : cw L n d u = cw L n d w ↔ go d 0 (Fg.rd (u ++ Fg.bk w)) = some 0 := by
  rw [bel_pair W.gr (Od.of_G hu).2 (Od.of_G hw).2]
  constructor
  · intro h
    obtain ⟨_, e1, _⟩ := cw_G W hu
    obtain ⟨_, e2, _⟩ := cw_G W hw
    rw [h, e2] at e1
    have z := congrArg Prod.fst e1
    dsimp only at z
    refine ⟨z.symm, ?_⟩
    unfold cw at h
    rw [z] at h
    exact List.append_cancel_left h
  · rintro ⟨h1, h2⟩
    unfold cw
    rw [h1, h2]
end Wb
/-! pictures seen from another home, trimmed -/
namespace Wb
open L2
def sw (h x : Nat) : Nat := if x = 0 then h else if x = h then 0 else x
theorem sw_sw (h x : Nat) : sw h (sw h x) = x := by
  unfold sw
  by_cases e : x = 0
  · rw [if_pos e]
    by_cases e2 : h = 0
    · rw [if_pos e2]; omega
    · rw [if_neg e2, if_pos rfl]; exact e.symm
  · rw [if_neg e]
    by_cases e2 : x = h
    · rw [if_pos e2, if_pos rfl]; exact e2.symm
    · rw [if_neg e2, if_neg e, if_neg e2]
theorem sw_inj {h x y : Nat} (e : sw h x = sw h y) : x = y := by rw [← sw_sw h x, e, sw_sw]
theorem sw_lt {h x n : Nat} (hh : h < n) (hx : x < n) : sw h x < n := by
  unfold sw
  by_cases e : x = 0
  · rw [if_pos e]; exact hh
  · rw [if_neg e]
    by_cases e2 : x = h
    · rw [if_pos e2]; omega
    · rw [if_neg e2]; exact hx
def swd (h : Nat) (d : Gm) : Gm := fun r s => (d (sw h r) s).map (sw h)
theorem swd_some {h r g : Nat} {s : Int} {d : Gm} : swd h d r s = some g ↔ d (sw h r) s = some (sw h g) := by
  unfold swd
  cases e : d (sw h r) s with
  | none => exact ⟨fun z => (nomatch z), fun z => (nomatch z)⟩
  | some x =>
    refine ⟨fun z => ?_, fun z => ?_⟩
    · cases z; rw [sw_sw]
    · cases z; show some (sw h (sw h g)) = _; rw [sw_sw]
theorem swd_gr {L n h : Nat} {d : Gm} (G : Gr L n d) (hh : h < n) : Gr L n (swd h d) := by
  refine ⟨fun r s g e => ?_, fun r s g e => ?_⟩
  · obtain ⟨a, b, c⟩ := G.dom _ _ _ (swd_some.mp e)
    exact ⟨by have := sw_lt hh a; rwa [sw_sw] at this, by have := sw_lt hh b; rwa [sw_sw] at this, c⟩
  · exact swd_some.mpr (G.sym _ _ _ (swd_some.mp e))
theorem swd_deg {L h r : Nat} {d : Gm} : deg L (swd h d) r = deg L d (sw h r) := by
  unfold deg
  congr 1
  refine List.filter_congr fun s _ => ?_
  unfold swd
  cases d (sw h r) s <;> rfl
theorem idx_map {φ : Nat → Nat} (inj : ∀ x y, φ x = φ y → x = y) (g : Nat) : ∀ l : List Nat, (l.map φ).idxOf (φ g) = l.idxOf g
  | [] => rfl
  | a :: l => by
    rw [List.map_cons]
    have cn : ∀ {x y : Nat} {l : List Nat}, x ≠ y → (x :: l).idxOf y = l.idxOf y + 1 := fun {x y l} e => by
      rw [List.idxOf_cons, beq_false_of_ne e]
      rfl
    by_cases e : a = g
    · subst e
      rw [List.idxOf_cons_self, List.idxOf_cons_self]
    · rw [cn e, cn fun z => e (inj _ _ z), idx_map inj g l]
theorem bfs_sw {L n h : Nat} {d : Gm} : bfs L n d h = ren (sw h) (bfs L n (swd h d) 0) := by
  have I : Sim (swd h d) d (sw h) fun _ => True := by
    refine ⟨fun a b _ _ e => sw_inj e, fun r s _ => ?_, fun _ _ _ _ _ => trivial⟩
    unfold swd
    cases d (sw h r) s with
    | none => rfl
    | some x => show some x = some (sw h (sw h x)); rw [sw_sw]
  have a := run_ren I (Od.steps L) (n + 1) 0 (fd := [(0, none)]) fun _ _ => trivial
  have b : ren (sw h) [(0, none)] = [(h, none)] := by
    show [(sw h 0, none)] = _
    unfold sw
    rw [if_pos rfl]
  rw [b] at a
  exact a
theorem web_of_bfs_h {L n h : Nat} {d' : Gm} (l1 : 1 ≤ L) (l4 : L ≤ 4) (hh : h < n) (G : Gr L n d') (leaf : ∀ r, r ≠ h → r < n → deg L d' r ≠ 1) :
    ∃ d : Gm, Web L (bfs L n d' h).length d ∧ ∀ r, r < (bfs L n d' h).length → ∀ s, d r s = (d' (((bfs L n d' h).map (·.1)).getD r 0) s).map ((bfs L n d' h).map (·.1)).idxOf := by
  obtain ⟨d, W, hd⟩ := web_of_bfs l1 l4 (by omega) (swd_gr G hh) fun r r0 rn => by
    rw [swd_deg]
    refine leaf _ (fun z => ?_) (sw_lt hh rn)
    have e0 : sw h 0 = h := if_pos rfl
    have := sw_inj (z.trans e0.symm)
    omega
  have ek : (bfs L n d' h).map (·.1) = ((bfs L n (swd h d') 0).map (·.1)).map (sw h) := by rw [bfs_sw, ren_keys]
  have el : (bfs L n d' h).length = (bfs L n (swd h d') 0).length := by rw [bfs_sw]; unfold ren; rw [List.length_map]
  rw [el, ek]
  refine ⟨d, W, fun r hr s => ?_⟩
  rw [hd r hr s]
  have eg : (((bfs L n (swd h d') 0).map (·.1)).map (sw h)).getD r 0 = sw h (((bfs L n (swd h d') 0).map (·.1)).getD r 0) := by
    have lr : r < ((bfs L n (swd h d') 0).map (·.1)).length := by rw [List.length_map]; exact hr
    rw [List.getD_eq_getElem?_getD, List.getD_eq_getElem?_getD, List.getElem?_map, List.getElem?_eq_getElem lr]
    rfl
  rw [eg]
  obtain ⟨ks, hks⟩ : ∃ ks, (bfs L n (swd h d') 0).map (·.1) = ks := ⟨_, rfl⟩
  rw [hks]
  unfold swd
  cases d' (sw h (ks.getD r 0)) s with
  | none => rfl
  | some g =>
    show some (ks.idxOf (sw h g)) = some ((ks.map (sw h)).idxOf g)
    congr 1
    have := idx_map (φ := sw h) (fun _ _ => sw_inj) (sw h g) ks
    rw [sw_sw] at this
    exact this.symm
/-! ### idle ends but home -/
def potH (L n h : Nat) (d : Gm) : Nat := ((List.range n).filter fun r => decide (r ≠ h) && decide (0 < deg L d r)).length
def NoEndH (L n h : Nat) (d : Gm) : Prop := ∀ r, r ≠ h → r < n → deg L d r ≠ 1
theorem one_ne {L n r g : Nat} {d : Gm} {s : Int} (G : Gr L n d) (h : d r s = some g) (h1 : deg L d r = 1) : g ≠ r := fun z => by
  subst z
  have b := G.sym _ _ _ h
  have m1 := (G.dom _ _ _ h).2.2
  have m2 := (G.dom _ _ _ b).2.2
  unfold deg at h1
  have hs := Od.mem_steps.mp m1
  match e : (Od.steps L).filter fun s => (d g s).isSome, h1 with
  | [x], _ =>
    have i1 : s ∈ (Od.steps L).filter fun s => (d g s).isSome := List.mem_filter.mpr ⟨m1, by rw [h]; rfl⟩
    have i2 : -s ∈ (Od.steps L).filter fun s => (d g s).isSome := List.mem_filter.mpr ⟨m2, by rw [b]; rfl⟩
    rw [e, List.mem_singleton] at i1 i2
    omega
theorem deg_zero {L n r : Nat} {d : Gm} (G : Gr L n d) (h : deg L d r = 0) (s : Int) : d r s = none := by
  cases e : d r s with
  | none => rfl
  | some g =>
    unfold deg at h
    have := List.length_eq_zero_iff.mp h
    have i1 : s ∈ (Od.steps L).filter fun s => (d r s).isSome := List.mem_filter.mpr ⟨(G.dom _ _ _ e).2.2, by rw [e]; rfl⟩
    rw [this] at i1
    cases i1
/-- within a round: so many of the idle rooms are done -/
structure RdH (L n h : Nat) (d0 d : Gm) (idle : List Nat) (j : Nat) : Prop where
  gr : Gr L n d
  le : ∀ r, deg L d r ≤ deg L d0 r
  done : ∀ i r, i < j → idle[i]? = some r → deg L d r = 0
theorem rdH_next {L n h : Nat} {d0 d d1 : Gm} {idle : List Nat} {j r : Nat} (R : RdH L n h d0 d idle j) (hr : idle[j]? = some r) (G : Gr L n d1) (le : ∀ x, deg L d1 x ≤ deg L d x) (z : deg L d1 r = 0) : RdH L n h d0 d1 idle (j + 1) := by
  refine ⟨G, fun x => Nat.le_trans (le x) (R.le x), fun i x hi hx => ?_⟩
  rcases Nat.lt_or_ge i j with q | q
  · have := R.done i x q hx
    have := le x
    omega
  · have : i = j := by omega
    subst this
    rw [hr] at hx
    cases hx
    exact z
theorem rdH_end {L n h : Nat} {d0 d : Gm} {idle : List Nat} (R : RdH L n h d0 d idle idle.length) (hi : ∀ r, r ∈ idle → r ≠ h ∧ r < n ∧ deg L d0 r = 1) (ne : idle ≠ []) : potH L n h d + 1 ≤ potH L n h d0 := by
  cases idle with
  | nil => exact absurd rfl ne
  | cons r l =>
    obtain ⟨a, b, c⟩ := hi r List.mem_cons_self
    have z := R.done 0 r (by simp) rfl
    refine flt_lt (a := r) (fun x _ q => ?_) (List.mem_range.mpr b) ?_ ?_
    · rw [Bool.and_eq_true, decide_eq_true_eq, decide_eq_true_eq] at q ⊢
      exact ⟨q.1, Nat.lt_of_lt_of_le q.2 (R.le x)⟩
    · rw [z]
      simp
    · rw [c]
      simpa using a
theorem potH_start {L n h : Nat} {d : Gm} (hh : h < n) : potH L n h d + 1 ≤ n := by
  have := flt_lt (l := List.range n) (p := fun r => decide (r ≠ h) && decide (0 < deg L d r)) (q := fun _ => true) (a := h) (fun _ _ _ => rfl) (List.mem_range.mpr hh) (by simp) rfl
  rw [List.filter_eq_self.mpr fun _ _ => rfl, List.length_range] at this
  exact this
end Wb
/-! two doors laid at once; dicts emptied -/
namespace L2
open PySem PySem.Spec PyProof.Rows Evl
/-- only new dicts change -/
def ExD (H0 H H1 : Hp) : Prop := ∀ p o, H p = some o → (H0 p ≠ none ∨ ∀ kvs, o ≠ .dK kvs) → H1 p = some o
theorem ExD.refl (H0 H : Hp) : ExD H0 H H := fun _ _ h _ => h
theorem ExD.of {H0 H H1 : Hp} (e : Ex H H1) : ExD H0 H H1 := fun p o h _ => e p o h
theorem ExD.trans {H0 H H1 H2 : Hp} (a : ExD H0 H H1) (b : ExD H0 H1 H2) : ExD H0 H H2 := fun p o h c => b p o (a p o h c) c
theorem ExD.w {H0 H H1 : Hp} {x : Addr} {kvs : List (Key × V)} (e : ExW x H H1) (hx : H x = some (.dK kvs)) (h0 : H0 x = none) : ExD H0 H H1 := fun p o h c => e p o h fun z => by
  subst z
  rw [hx] at h
  cases h
  rcases c with c | c
  · exact c h0
  · exact c kvs rfl
theorem ExD.mut {H0 H Hx H3 H4 : Hp} {b : Addr} (e : ExD H0 H H3) (w : ExW b H3 H4) (ex : ExD H0 H Hx) (hb : Hx b = none) : ExD H0 H H4 := fun p o h c => w p o (e p o h c) fun z => by
  subst z
  have := ex _ _ h c
  rw [hb] at this
  cases this
theorem ExD.lst {H0 H H1 : Hp} (e : ExD H0 H H1) {a : Addr} {xs : List V} (h : H a = some (.lst xs)) : H1 a = some (.lst xs) := e _ _ h (.inr fun _ z => nomatch z)
theorem ExD.old {H0 H H1 : Hp} (e : ExD H0 H H1) (h : Ex H0 H) : Ex H0 H1 := fun p o q => e p o (h p o q) (.inl fun z => by rw [z] at q; cases q)
theorem ExD.tx {H0 H H1 : Hp} (e : ExD H0 H H1) : TX H H1 := fun a xs h => by
  rcases h with h | ⟨o, h⟩
  · rw [h, e _ _ h (.inr fun _ z => nomatch z)]
  · rw [h, e _ _ h (.inr fun _ z => nomatch z)]
theorem ExD.drs {w : Addr} {H0 H H1 : Hp} {n : Nat} (e : ExD H0 H H1) (s : DrS w H0 n H) (hw : H0 w ≠ none) : DrS w H0 n H1 := by
  refine ⟨fun p o h ne => e p o (s.ex p o h ne) (.inl fun z => by rw [z] at h; cases h), ?_⟩
  obtain ⟨a, b, c, h1, h2⟩ := s.well.ex
  exact ⟨a, b, c, e _ _ h1 (.inl hw), h2⟩
theorem dl_two {H0 H : Hp} {a : Addr} {n i g : Nat} {d : Wb.Gm} {s : Int} (h : DL H0 H a n fun x s => vN (d x s)) (hi : i < n) (hg : g < n) (hs : s ∈ Od.steps 4) (h4 : ∀ x t y, d x t = some y → t ∈ Od.steps 4) :
    ∃ xs p q kvs, H a = some (.lst xs) ∧ xs[i]? = some (.ref p) ∧ xs[g]? = some (.ref q) ∧ H p = some (.dK kvs) ∧ DI kvs (fun t => vN (d i t)) ∧ kvs.length < 100000 ∧
      ∀ H1 kv1, ExW p H H1 → H1 p = some (.dK kv1) → DI kv1 (fun t => if t = s then some (.int (g : Int)) else vN (d i t)) →
        ∃ kv2 f2, H1 q = some (.dK kv2) ∧ DI kv2 f2 ∧ kv2.length < 100000 ∧
          ∀ H2 kv3, ExW q H1 H2 → H2 q = some (.dK kv3) → DI kv3 (fun t => if t = -s then some (.int (i : Int)) else f2 t) → ExD H0 H H2 ∧ DL H0 H2 a n fun x t => vN (Wb.set1 (Wb.set1 d i s g) g (-s) i x t) := by
  obtain ⟨xs, p, kvs, b1, b2, b3, b4, b5, b6, b7, b8⟩ := dl_set h hi fun t ht => by
    cases e : d i t with
    | none => rw [e] at ht; cases ht
    | some v => exact h4 _ _ _ e
  obtain ⟨xs', q, kvq, c1, c2, c3, _⟩ := dl_set h hg fun t ht => by
    cases e : d g t with
    | none => rw [e] at ht; cases ht
    | some v => exact h4 _ _ _ e
  have ex := c1.symm.trans b1
  cases ex
  refine ⟨xs, p, q, kvs, b1, b2, c2, b3, b4, b5, fun H1 kv1 e1 k1 d1 => ?_⟩
  have T1 := b8 H1 kv1 s g e1 k1 d1
  obtain ⟨xs2, q2, kv2, a1, a2, a3, a4, a5, a6, a7, a8⟩ := dl_set T1 hg fun t ht => by
    by_cases z : g = i ∧ t = s
    · rw [z.2]; exact hs
    · rw [if_neg z] at ht
      cases e : d g t with
      | none => rw [e] at ht; cases ht
      | some v => exact h4 _ _ _ e
  have ea := e1 _ _ b1 b6.symm
  have ex := a1.symm.trans ea
  cases ex
  have eq2 := a2.symm.trans c2
  cases eq2
  refine ⟨kv2, _, a3, a4, a5, fun H2 kv3 e2 k2 d2 => ⟨(ExD.w e1 b3 b7).trans (ExD.w e2 a3 a7), ?_⟩⟩
  exact a8 H2 kv3 (-s) i e2 k2 d2
theorem dl_ne {H0 H : Hp} {a p q : Addr} {n i g : Nat} {f : Nat → Int → Option V} {xs : List V} (h : DL H0 H a n f) (ha : H a = some (.lst xs)) (hp : xs[i]? = some (.ref p)) (hq : xs[g]? = some (.ref q)) (ne : i ≠ g) : p ≠ q := by
  obtain ⟨ds, h1, h2, h3, h4, h5, h6, h7⟩ := h.ex
  rw [ha] at h6
  cases h6
  rw [List.getElem?_map] at hp hq
  cases e1 : ds[i]? with
  | none => rw [e1] at hp; cases hp
  | some x =>
    cases e2 : ds[g]? with
    | none => rw [e2] at hq; cases hq
    | some y =>
      rw [e1] at hp
      rw [e2] at hq
      cases hp
      cases hq
      intro z
      subst z
      exact ne ((List.getElem?_inj (List.getElem?_eq_some_iff.mp e1).1 h2).mp (e1.trans e2.symm))
/-- the dict at a place, if the list and its address are known -/
theorem dl_set0 {H0 H : Hp} {a p : Addr} {n i : Nat} {f : Nat → Int → Option V} {xs : List V} (h : DL H0 H a n f) (ha : H a = some (.lst xs)) (hp : xs[i]? = some (.ref p)) (hi : i < n) :
    H0 p = none ∧ ∃ kvs, H p = some (.dK kvs) ∧ DI kvs (f i) ∧ ∀ H1 kvs' g, ExW p H H1 → H1 p = some (.dK kvs') → DI kvs' g → ExD H0 H H1 ∧ DL H0 H1 a n (fun j => if j = i then g else f j) := by
  obtain ⟨ys, q, kvs, b1, b2, b3, b4, b5, b6, b7⟩ := h.at' hi
  rw [ha] at b1
  cases b1
  rw [hp] at b2
  cases b2
  exact ⟨b6, kvs, b3, b4, fun H1 kvs' g e1 k1 d1 => ⟨ExD.w e1 b3 b6, b7 H1 kvs' g e1 k1 d1⟩⟩
theorem dl_il {H0 H : Hp} {a il : Addr} {n : Nat} {f : Nat → Int → Option V} {ns : List Int} (dl : DL H0 H a n f) (k : H il = some (.lst (ns.map V.int))) (hn : 0 < n) : il ≠ a := fun z => by
  obtain ⟨ds, h1, _, _, _, _, h6, _⟩ := dl.ex
  rw [← z, k] at h6
  have k1 := HO.lst.inj (Option.some.inj h6)
  cases ds with
  | nil => simp at h1; omega
  | cons y ds => cases ns with
    | nil => cases k1
    | cons x l => cases k1
theorem dl_push {H0 H1 H2 H3 : Hp} {a p : Addr} {n : Nat} {f : Nat → Int → Option V} {xs : List V} (h : DL H0 H1 a n f) (hp0 : H0 p = none) (hp1 : H1 p = none) (e : Ex H1 H2) (k2 : H2 p = some (.dK [])) (ha : H1 a = some (.lst xs)) (w : ExW a H2 H3) (k3 : H3 a = some (.lst (xs ++ [.ref p]))) (hf : ∀ s, f n s = none) : DL H0 H3 a (n + 1) f := by
  obtain ⟨ds, h1, h2, h3, h4, h5, h6, h7⟩ := h.ex
  rw [ha] at h6
  cases h6
  have npa : p ≠ a := fun z => by rw [z, ha] at hp1; cases hp1
  have npd : p ∉ ds := fun z => by
    obtain ⟨i, hi⟩ := List.mem_iff_getElem?.mp z
    obtain ⟨kvs, k, _⟩ := h7 i p hi
    rw [hp1] at k
    cases k
  refine ⟨ds ++ [p], by rw [List.length_append, h1]; rfl, ?_, fun z => ?_, fun x hx => ?_, h5, by rw [k3, List.map_append]; rfl, fun i x hx => ?_⟩
  · rw [List.nodup_append]
    refine ⟨h2, by simp, fun x hx y hy => ?_⟩
    rw [List.mem_singleton.mp hy]
    exact fun z => npd (z ▸ hx)
  · rcases List.mem_append.mp z with z | z
    · exact h3 z
    · exact npa (List.mem_singleton.mp z).symm
  · rcases List.mem_append.mp hx with hx | hx
    · exact h4 x hx
    · rw [List.mem_singleton.mp hx]; exact hp0
  · rcases Nat.lt_or_ge i ds.length with lt | ge
    · rw [List.getElem?_append_left lt] at hx
      obtain ⟨kvs, k, di⟩ := h7 i x hx
      exact ⟨kvs, w _ _ (e _ _ k) (fun z => h3 (by rw [← z]; exact List.mem_of_getElem? hx)), di⟩
    · rw [List.getElem?_append_right ge] at hx
      have e0 : i - ds.length = 0 := by
        have := (List.getElem?_eq_some_iff.mp hx).1
        simp at this
        omega
      rw [e0] at hx
      cases hx
      have ei : i = n := by omega
      subst ei
      exact ⟨[], w _ _ k2 npa, DI.nil.congr fun s => (hf s).symm⟩
theorem dl_zero {H0 H : Hp} {a : Addr} {f : Nat → Int → Option V} (h0 : H0 a = none) (h : H a = some (.lst [])) : DL H0 H a 0 f := ⟨[], rfl, List.nodup_nil, fun z => (nomatch z), fun x z => (nomatch z), h0, h, fun i x hx => by simp at hx⟩
theorem r_dclear {K : PySem.W.Frag} {H : Hp} {Q : VK} {d : Addr} {kvs : List (Key × V)} (h : H d = some (.dK kvs)) (q : ∀ H1, ExW d H H1 → H1 d = some (.dK []) → Q .non H1) : rApp0 K "dict" rDClear (.ref d) H Q := ⟨.inr (.inr (.inl ⟨rfl, .inl ⟨kvs, h⟩⟩)), d, kvs, rfl, rfl, h, q _ ExW.upd upd_same⟩
end L2
namespace L2
open PySem PySem.Spec PyProof.Rows Evl
theorem valV_at {kvs : List (Key × V)} (hn : (kvs.map (·.1)).Nodup) {i : Nat} {kv : Key × V} (h : kvs[i]? = some kv) : valV kvs kv.1 = some kv.2 := by
  induction kvs generalizing i with
  | nil => cases h
  | cons p r ih =>
    rw [List.map_cons, List.nodup_cons] at hn
    cases i with
    | zero =>
      cases h
      exact valV_pos rfl
    | succ i =>
      have h : r[i]? = some kv := h
      rw [valV_neg fun z => hn.1 (z ▸ List.mem_map.mpr ⟨kv, List.mem_of_getElem? h, rfl⟩)]
      exact ih hn.2 h
/-- rooms reached, each with its first way -/
structure FwH (K : PySem.W.Frag) (H : Hp) (kvs : List (Key × V)) (fd : Wb.Fd) : Prop where
  len : kvs.length = fd.length
  at' : ∀ (i : Nat) kv y, kvs[i]? = some kv → fd[i]? = some y → kv.1 = Sum.inl (y.1 : Int) ∧ WkV K H kv.2 ((Wb.fwl fd).getD i [])
theorem FwH.mono {K : PySem.W.Frag} {H H1 : Hp} {kvs : List (Key × V)} {fd : Wb.Fd} (h : FwH K H kvs fd) (e : TX H H1) : FwH K H1 kvs fd :=
  ⟨h.len, fun i kv y h1 h2 => ⟨(h.at' i kv y h1 h2).1, (h.at' i kv y h1 h2).2.tx e⟩⟩
theorem FwH.keys {K : PySem.W.Frag} {H : Hp} {kvs : List (Key × V)} {fd : Wb.Fd} (h : FwH K H kvs fd) : kvs.map (·.1) = (fd.map (·.1)).map fun (g : Nat) => (Sum.inl (g : Int) : Key) := by
  refine List.ext_getElem? fun i => ?_
  rw [List.getElem?_map, List.getElem?_map, List.getElem?_map]
  rcases Nat.lt_or_ge i kvs.length with lt | ge
  · have a := List.getElem?_eq_getElem lt
    have b := List.getElem?_eq_getElem (l := fd) (i := i) (h.len ▸ lt)
    rw [a, b]
    exact congrArg some (h.at' i _ _ a b).1
  · rw [List.getElem?_eq_none ge, List.getElem?_eq_none (h.len ▸ ge)]
    rfl
theorem FwH.mem {K : PySem.W.Frag} {H : Hp} {kvs : List (Key × V)} {fd : Wb.Fd} (h : FwH K H kvs fd) (g : Nat) : (valV kvs (Sum.inl (g : Int))).isSome = decide (g ∈ fd.map (·.1)) := by
  have iff : (Sum.inl (g : Int) : Key) ∈ kvs.map (·.1) ↔ g ∈ fd.map (·.1) := by
    rw [h.keys]
    refine ⟨fun z => ?_, fun z => List.mem_map_of_mem z⟩
    obtain ⟨x, hx, e⟩ := List.mem_map.mp z
    have := Sum.inl.inj e
    have : x = g := by omega
    rw [← this]
    exact hx
  cases e : valV kvs (Sum.inl (g : Int)) with
  | none => exact (decide_eq_false fun z => valV_not e (iff.mpr z)).symm
  | some v => exact (decide_eq_true (iff.mp (valV_in e))).symm
theorem nodup_keys {l : List Nat} (h : l.Nodup) : (l.map fun (g : Nat) => (Sum.inl (g : Int) : Key)).Nodup := by
  refine List.Pairwise.map _ (fun a b hab z => hab ?_) h
  have := Sum.inl.inj z
  omega
theorem FwH.get {K : PySem.W.Frag} {H : Hp} {kvs : List (Key × V)} {fd : Wb.Fd} (h : FwH K H kvs fd) (hn : (fd.map (·.1)).Nodup) {i g : Nat} {x : Option (Nat × Int)} (hi : fd[i]? = some (g, x)) : ∃ v, valV kvs (Sum.inl (g : Int)) = some v ∧ WkV K H v ((Wb.fwl fd).getD i []) := by
  have lt := (List.getElem?_eq_some_iff.mp hi).1
  have a := List.getElem?_eq_getElem (l := kvs) (i := i) (h.len.symm ▸ lt)
  obtain ⟨k1, k2⟩ := h.at' i _ _ a hi
  have nd : (kvs.map (·.1)).Nodup := by rw [h.keys]; exact nodup_keys hn
  have z := valV_at nd a
  rw [k1] at z
  exact ⟨_, z, k2⟩
theorem FwH.snoc {K : PySem.W.Frag} {H : Hp} {kvs : List (Key × V)} {fd : Wb.Fd} {g r : Nat} {s : Int} {x : V} (h : FwH K H kvs fd) (hx : WkV K H x ((Wb.fwl fd).getD r [] ++ [s])) : FwH K H (kvs ++ [(Sum.inl (g : Int), x)]) (fd ++ [(g, some (r, s))]) := by
  refine ⟨by rw [List.length_append, List.length_append, h.len]; rfl, fun i kv y h1 h2 => ?_⟩
  rw [Wb.fwl_snoc]
  unfold Wb.fstep
  have lf := Wb.fwl_len fd
  rcases Nat.lt_or_ge i kvs.length with lt | ge
  · rw [List.getElem?_append_left lt] at h1
    have lt2 := h.len ▸ lt
    rw [List.getElem?_append_left lt2] at h2
    rw [Wb.getD_app (by omega)]
    exact h.at' i kv y h1 h2
  · rw [List.getElem?_append_right ge] at h1
    rw [List.getElem?_append_right (h.len ▸ ge)] at h2
    have e : i - kvs.length = 0 := by
      have := (List.getElem?_eq_some_iff.mp h1).1
      simp at this
      omega
    rw [e] at h1
    rw [← h.len, e] at h2
    cases h1
    cases h2
    refine ⟨rfl, ?_⟩
    have ei : i = (Wb.fwl fd).length := by have := h.len; omega
    rw [List.getD_eq_getElem?_getD, ei, List.getElem?_append_right (Nat.le_refl _), Nat.sub_self]
    exact hx
/-- what stands at a room reached -/
theorem RchH.get {K : PySem.W.Frag} {H : Hp} {kvs : List (Key × V)} {fd : Wb.Fd} (h : RchH K H kvs fd) (hn : (fd.map (·.1)).Nodup) {i g r : Nat} {s : Int} (hi : fd[i]? = some (g, some (r, s))) : ∃ v, valV kvs (Sum.inl (g : Int)) = some v ∧ WkV K H v [(r : Int), s] := by
  have lt := (List.getElem?_eq_some_iff.mp hi).1
  have a := List.getElem?_eq_getElem (l := kvs) (i := i) (h.len.symm ▸ lt)
  obtain ⟨k1, k2⟩ := h.at' i _ _ a hi
  have nd : (kvs.map (·.1)).Nodup := by rw [h.keys]; exact nodup_keys hn
  have z := valV_at nd a
  rw [k1] at z
  exact ⟨_, z, k2⟩
end L2
namespace Wb
theorem fwl_bd (fd : Fd) : ∀ w ∈ fwl fd, w.length ≤ fd.length := by
  refine Od.snoc_ind (C := fun fd => ∀ w ∈ fwl fd, w.length ≤ fd.length) (fun w hw => by cases hw) (fun u x ih w hw => ?_) fd
  rw [fwl_snoc] at hw
  unfold fstep at hw
  rw [List.length_append]
  rcases List.mem_append.mp hw with hw | hw
  · have := ih w hw
    omega
  · rw [List.mem_singleton] at hw
    subst hw
    cases x.2 with
    | none => exact Nat.zero_le _
    | some z =>
      obtain ⟨r, s⟩ := z
      show ((fwl u).getD r [] ++ [s]).length ≤ _
      rw [List.length_append, List.getD_eq_getElem?_getD]
      cases e : (fwl u)[r]? with
      | none => simp
      | some y =>
        have := ih y (List.mem_of_getElem? e)
        simp
        omega
theorem fwl_bdD (fd : Fd) (i : Nat) : ((fwl fd).getD i []).length ≤ fd.length := by
  rw [List.getD_eq_getElem?_getD]
  cases e : (fwl fd)[i]? with
  | none => exact Nat.zero_le _
  | some y => exact fwl_bd fd y (List.mem_of_getElem? e)
end Wb
/-! [e for .. in enumerate(xs) for .. in ys if t] -/
namespace L2
open PySem PySem.Spec PyProof.Rows Evl
/-- the items so far, S of them and of the heap, whatever stands at the new list -/
def C2 (S : List V → Hp → Prop) (D : Addr) (H' : Hp) : Prop := ∃ ys : List V, ys.length < 100000 ∧ (∀ o, S ys (upd H' D o)) ∧ H' D = some (.lst ys)
def C2Y (S : List V → Hp → Prop) (D : Addr) (y : V) (H' : Hp) : Prop := ∃ acc, H' D = some (.lst acc) ∧ acc.length < sizeLine ∧ C2 S D (upd H' D (.lst (acc ++ [y])))
theorem c2_yes {S : List V → Hp → Prop} {D : Addr} {y : V} {H' : Hp} {acc : List V} (h : H' D = some (.lst acc)) (hz : acc.length + 1 < 100000) (s : ∀ o, S (acc ++ [y]) (upd H' D o)) : C2Y S D y H' :=
  ⟨acc, h, sz_lt (by omega), acc ++ [y], by rw [List.length_append]; simpa using hz, fun o => by rw [upd_upd]; exact s o, upd_same⟩
theorem c2_no {S : List V → Hp → Prop} {D : Addr} {H' : Hp} {acc : List V} (h : H' D = some (.lst acc)) (hz : acc.length < 100000) (s : ∀ o, S acc (upd H' D o)) : C2 S D H' := ⟨acc, hz, s, h⟩
theorem c2_at {S : List V → Hp → Prop} {D : Addr} {H' : Hp} {ys : List V} (h : ∀ o, S ys (upd H' D o)) (e : H' D = some (.lst ys)) : S ys H' := by
  have z := h (.lst ys)
  rw [upd_id e] at z
  exact z
section
variable {K : PySem.W.Frag} {σ : L2.St} {H : Hp} {Q : VK} {vs vs1 : List Nat} {wi1 : TI} {te : TE} {k : SK} {k0 : Int} {a : Addr} {xs : List V} {m n : Nat} {tt1 : TT} {g1 : TG}
/-- the outer one: for m, n in enumerate(xs) -/
theorem r_lc2E (S : Nat → List V → Hp → Prop) (hw : ∀ x y, wipe (((wipe σ vs).set m (some x)).set n (some y)) vs = wipe σ vs)
    (hl : ∀ i us H', S i us H' → k.Sq K H' a xs) (hx : ∀ i us H' H1, S i us H' → Ex H' H1 → S i us H1) (h0 : ∀ D, H D = none → ∀ o, S 0 [] (upd H D o))
    (he : ∀ i x H1 D, xs[i]? = some x → C2 (S i) D H1 → wi1 (((wipe σ vs).set m (some (.int (k0 + (i : Int))))).set n (some x)) H1 fun J1 H4 => ∃ W1 : Nat → Nat → Hp → Prop, (∃ m, W1 0 m H4) ∧ ∀ j k H, W1 j k H →
      (J1.stop j H ∧ C2 (S (i + 1)) D H) ∨ (J1.go j H ∧ ∃ Nx1 : Hp → Prop, (∀ H', Nx1 H' → ∃ k', k' < k ∧ W1 (j + 1) k' H') ∧ ∀ y H', J1.yld j H y H' → g1 y (wipe (((wipe σ vs).set m (some (.int (k0 + (i : Int))))).set n (some x)) vs1) H' fun σ3 H5 => wipe σ3 vs1 = wipe (((wipe σ vs).set m (some (.int (k0 + (i : Int))))).set n (some x)) vs1 ∧ tt1 σ3 H5 fun b H6 =>
        if b = true then te σ3 H6 fun y H7 => ∃ acc, H7 D = some (.lst acc) ∧ acc.length < sizeLine ∧ Nx1 (upd H7 D (.lst (acc ++ [y]))) else Nx1 H6))
    (q : ∀ D H1 us, H D = none → H1 D = some (.lst us) → S xs.length us H1 → (∀ o, S xs.length us (upd H1 D o)) → Q (.ref D) H1) : rLc2 (ItE k K k0 a) (gTup K 2 (gCons (gName m) (gCons (gName n) gNil))) tYes wi1 g1 tt1 te vs vs1 σ Q H := fun D hD => by
  refine ⟨fun i d H' => d = xs.length - i ∧ i ≤ xs.length ∧ C2 (S i) D H', ⟨_, rfl, Nat.zero_le _, [], by simp, fun o => by rw [upd_upd]; exact h0 D hD o, upd_same⟩, ?_⟩
  rintro i d H' ⟨rfl, hi, us, z1, z2, z3⟩
  have hq := hl i us H' (c2_at z2 z3)
  rcases Nat.lt_or_ge i xs.length with lt | ge
  · have hx' := List.getElem?_eq_getElem lt
    refine .inr ⟨⟨xs, _, hq, hx'⟩, C2 (S (i + 1)) D, fun H1 p => ⟨xs.length - (i + 1), by omega, rfl, lt, p⟩, ?_⟩
    rintro v H1 ⟨T, x, rfl, hT, rfl, e⟩
    have ne : T ≠ D := fun z => by rw [z, z3] at hT; cases hT
    refine r_tup2 (t_of upd_same) ⟨hw _ _, t_yes (if_T ?_)⟩
    refine he i x _ D (e xs hq) ⟨us, z1, fun u => ?_, by rw [upd_ne ne.symm]; exact z3⟩
    rw [upd_comm ne]
    exact hx _ _ _ _ (z2 u) (Ex.new (by rw [upd_ne ne]; exact hT))
  · have e : i = xs.length := by omega
    subst e
    exact .inl ⟨⟨xs, hq, rfl⟩, q D H' us hD z3 (c2_at z2 z3) z2⟩
/-- the inner one: for j in a list -/
theorem in_lst {J1 : It} {b D : Addr} {ys : List V} {j : Nat} {H4 : Hp} {Z : Hp → Prop} (T : Nat → List V → Hp → Prop) (hJ : J1 = Itl K b) (hw1 : ∀ y, wipe ((wipe σ vs1).set j (some y)) vs1 = wipe σ vs1)
    (hl : ∀ i us H', T i us H' → SqL K H' b ys) (h0 : C2 (T 0) D H4)
    (he : ∀ i y H1 acc, ys[i]? = some y → acc.length < 100000 → H1 D = some (.lst acc) → T i acc H1 → (∀ o, T i acc (upd H1 D o)) →
      tt1 ((wipe σ vs1).set j (some y)) H1 fun c H2 => if c = true then te ((wipe σ vs1).set j (some y)) H2 (fun y H3 => C2Y (T (i + 1)) D y H3) else C2 (T (i + 1)) D H2)
    (hd : ∀ H', C2 (T ys.length) D H' → Z H') : ∃ W1 : Nat → Nat → Hp → Prop, (∃ m, W1 0 m H4) ∧ ∀ j' k H, W1 j' k H →
      (J1.stop j' H ∧ Z H) ∨ (J1.go j' H ∧ ∃ Nx1 : Hp → Prop, (∀ H', Nx1 H' → ∃ k', k' < k ∧ W1 (j' + 1) k' H') ∧ ∀ y H', J1.yld j' H y H' → gName j y (wipe σ vs1) H' fun σ3 H5 => wipe σ3 vs1 = wipe σ vs1 ∧ tt1 σ3 H5 fun b H6 =>
        if b = true then te σ3 H6 fun y H7 => ∃ acc, H7 D = some (.lst acc) ∧ acc.length < sizeLine ∧ Nx1 (upd H7 D (.lst (acc ++ [y]))) else Nx1 H6) := by
  subst hJ
  refine ⟨fun i d H' => d = ys.length - i ∧ i ≤ ys.length ∧ C2 (T i) D H', ⟨_, rfl, Nat.zero_le _, h0⟩, ?_⟩
  rintro i d H' ⟨rfl, hi, us, z1, z2, z3⟩
  have hq := hl i us H' (c2_at z2 z3)
  rcases Nat.lt_or_ge i ys.length with lt | ge
  · have hx' := List.getElem?_eq_getElem lt
    refine .inr ⟨⟨ys, _, hq, hx'⟩, C2 (T (i + 1)) D, fun H1 p => ⟨ys.length - (i + 1), by omega, rfl, lt, p⟩, ?_⟩
    rintro y H1 ⟨rfl, hy⟩
    exact ⟨hw1 _, he i y _ us (hy _ hq) z1 z3 (c2_at z2 z3) z2⟩
  · have e : i = ys.length := by omega
    subst e
    exact .inl ⟨⟨ys, hq, Nat.le_refl _⟩, hd H' ⟨us, z1, z2, z3⟩⟩
/-- the inner one: for j, l in enumerate(ys, k0) -/
theorem in_enu {J1 : It} {b D : Addr} {ys : List V} {j l : Nat} {H4 : Hp} {Z : Hp → Prop} (T : Nat → List V → Hp → Prop) (hJ : J1 = ItE k K k0 b) (hw1 : ∀ x y, wipe (((wipe σ vs1).set j (some x)).set l (some y)) vs1 = wipe σ vs1)
    (hl : ∀ i us H', T i us H' → k.Sq K H' b ys) (hx : ∀ i us H' H1, T i us H' → Ex H' H1 → T i us H1) (h0 : C2 (T 0) D H4)
    (he : ∀ i y H1 acc, ys[i]? = some y → acc.length < 100000 → H1 D = some (.lst acc) → T i acc H1 → (∀ o, T i acc (upd H1 D o)) →
      tt1 (((wipe σ vs1).set j (some (.int (k0 + (i : Int))))).set l (some y)) H1 fun c H2 => if c = true then te (((wipe σ vs1).set j (some (.int (k0 + (i : Int))))).set l (some y)) H2 (fun y H3 => C2Y (T (i + 1)) D y H3) else C2 (T (i + 1)) D H2)
    (hd : ∀ H', C2 (T ys.length) D H' → Z H') : ∃ W1 : Nat → Nat → Hp → Prop, (∃ m, W1 0 m H4) ∧ ∀ j' k H, W1 j' k H →
      (J1.stop j' H ∧ Z H) ∨ (J1.go j' H ∧ ∃ Nx1 : Hp → Prop, (∀ H', Nx1 H' → ∃ k', k' < k ∧ W1 (j' + 1) k' H') ∧ ∀ y H', J1.yld j' H y H' → gTup K 2 (gCons (gName j) (gCons (gName l) gNil)) y (wipe σ vs1) H' fun σ3 H5 => wipe σ3 vs1 = wipe σ vs1 ∧ tt1 σ3 H5 fun b H6 =>
        if b = true then te σ3 H6 fun y H7 => ∃ acc, H7 D = some (.lst acc) ∧ acc.length < sizeLine ∧ Nx1 (upd H7 D (.lst (acc ++ [y]))) else Nx1 H6) := by
  subst hJ
  refine ⟨fun i d H' => d = ys.length - i ∧ i ≤ ys.length ∧ C2 (T i) D H', ⟨_, rfl, Nat.zero_le _, h0⟩, ?_⟩
  rintro i d H' ⟨rfl, hi, us, z1, z2, z3⟩
  have hq := hl i us H' (c2_at z2 z3)
  rcases Nat.lt_or_ge i ys.length with lt | ge
  · have hx' := List.getElem?_eq_getElem lt
    refine .inr ⟨⟨ys, _, hq, hx'⟩, C2 (T (i + 1)) D, fun H1 p => ⟨ys.length - (i + 1), by omega, rfl, lt, p⟩, ?_⟩
    rintro v H1 ⟨X, y, rfl, hX, rfl, e⟩
    have ne : X ≠ D := fun z => by rw [z, z3] at hX; cases hX
    have s2 : ∀ u, T i us (upd (upd H' X (.tup [.int (k0 + (i : Int)), y])) D u) := fun u => by
      rw [upd_comm ne]
      exact hx _ _ _ _ (z2 u) (Ex.new (by rw [upd_ne ne]; exact hX))
    have d2 : upd H' X (.tup [.int (k0 + (i : Int)), y]) D = some (.lst us) := by rw [upd_ne ne.symm]; exact z3
    refine r_tup2 (t_of upd_same) ⟨hw1 _ _, ?_⟩
    exact he i y _ us (e ys hq) z1 d2 (c2_at s2 d2) s2
  · have e : i = ys.length := by omega
    subst e
    exact .inl ⟨⟨ys, hq, rfl⟩, hd H' ⟨us, z1, z2, z3⟩⟩
end
end L2
/-! repr of any data; four targets; walks reduced where they are gone -/
namespace L2
open PySem PySem.Spec PyProof.Rows Evl
/-- what repr tells of a value -/
inductive Rp (K : PySem.W.Frag) (H : Hp) : V → Str → Prop
  | dat {a : Addr} {d : PyData} : Dp K H (.ref a) d → Shows d → Rp K H (.ref a) d.shown
  | int {i : Int} : i.natAbs.log2 < 1920 → Rp K H (.int i) (toString i)
  | non : Rp K H .non "None"
  | bl (b : Bool) : Rp K H (.bl b) (if b then "True" else "False")
def rReprV (K : PySem.W.Frag) : List V → Hp → VK → Prop := fun xs H Q => ∃ v t, xs = [v] ∧ Rp K H v t ∧ Q (.str t) H
theorem repr_V {X : Cx} (K : PySem.W.Frag) (g : Quiet X.A) {k : Nat} (hr : Room k X.A) (h : X.K = K := by rfl) : CallR X (.builtin "repr") (rReprV K) := by
  intro pins s σ H xs us Q I r h'
  obtain ⟨v, t, rfl, hd, q⟩ := h'
  obtain ⟨u, rfl, ru⟩ : ∃ u, us = [u] ∧ RelV v u := by
    cases r with
    | cons r0 rr =>
      cases rr
      exact ⟨_, rfl, r0⟩
  cases hd with
  | dat hd sd => exact repr_K K g hr h pins s σ H _ _ Q I r ⟨_, _, rfl, hd, sd, q⟩
  | int hz =>
    obtain ⟨t, rfl⟩ := ru
    exact PySem.P.repr_of_int hz ⟨.str _, H, I.tok _, ⟨_, rfl⟩, q⟩
  | non =>
    cases ru
    exact PySem.P.repr_of_none ⟨.str _, H, I.tok _, ⟨_, rfl⟩, q⟩
  | bl b =>
    cases ru
    exact PySem.P.repr_of_bool ⟨.str _, H, I.tok _, ⟨_, rfl⟩, q⟩
section
variable {K : PySem.W.Frag} {H : Hp} {Q : VK} {σ : L2.St} {v : V} {d : PyData}
theorem r_reprV {t : Str} (h : Rp K H v t) (q : Q (.str t) H) : rReprV K [v] H Q := ⟨v, t, rfl, h, q⟩
theorem rp_int {i : Int} (h : i.natAbs < 2 ^ 1900) : Rp K H (.int i) (toString i) := .int (Nat.lt_of_lt_of_le (PySem.Flt.log2_lt_of (by decide) h) (by decide))
theorem shows_t {ns : List Int} (sm : Sml ns) (hz : ns.length ≤ 100000) : Shows (.tuple (ns.map .int)) := by
  refine Shows.of ?_ ?_ ?_ ?_ ?_
  · show PyData.showableAll (ns.map .int) = true
    exact sml_can sm
  · show PyData.hasDictAll (ns.map .int) = false
    exact ints_plain ns
  · simp only [PyData.depth]
    rw [depth_ints]
    omega
  · show PyData.leavesShortAll 13 (ns.map .int) = true
    exact sml_short sm
  · show PyData.bulkAll (ns.map .int) ≤ 2 ^ 20
    rw [ints_bulk]
    omega
theorem rp_t {a : Addr} {ns : List Int} (h : IT K H a ns) (sm : Sml ns) (hz : ns.length ≤ 100000) : Rp K H (.ref a) (PyData.tuple (ns.map .int)).shown := .dat (dp_t h) (shows_t sm hz)
theorem r_neN (q : Q (.bl false) H) : rNeU K .non .non H Q := .inl ⟨rfl, by
  have e : decide ((V.non) = V.non) = true := by simp
  rw [e]
  exact q⟩
theorem r_eqN (q : Q (.bl true) H) : rEqU K .non .non H Q := .inl ⟨rfl, by
  have e : decide ((V.non) = V.non) = true := by simp
  rw [e]
  exact q⟩
theorem r_tup4 {i j l m : Nat} {x y z w : V} {a : Addr} {R : L2.St → Hp → Prop} (h : SqT K H a [x, y, z, w]) (q : R ((((σ.set i (some x)).set j (some y)).set l (some z)).set m (some w)) H) : gTup K 4 (gCons (gName i) (gCons (gName j) (gCons (gName l) (gCons (gName m) gNil)))) (.ref a) σ H R :=
  ⟨a, _, rfl, h, rfl, x, [y, z, w], rfl, y, [z, w], rfl, z, [w], rfl, w, [], rfl, rfl, q⟩
theorem r_isiB {b c : Bool} {n : String} (hb : PySem.W.kitOne K (.type "bool") (.type n) = some c) (q : Q (.bl c) H) : rIsi K [.bl b, .ty n] H Q := ⟨_, _, _, _, c, rfl, .ty _, .base (.bl b), hb, q⟩
end
end L2
namespace Wb
theorem go_rd {L n : Nat} {d : Gm} (G : Gr L n d) {r g : Nat} : ∀ (w : List Int), go d r w = some g → go d r (Fg.rd w) = some g := by
  intro w
  refine Od.snoc_ind (C := fun w => ∀ g, go d r w = some g → go d r (Fg.rd w) = some g) (fun g h => h) (fun u x ih g h => ?_) w g
  rw [go_snoc] at h
  cases e : go d r u with
  | none => rw [e] at h; cases h
  | some y =>
    rw [e] at h
    have h : d y x = some g := h
    have i1 := ih y e
    rw [Fg.rd_snoc]
    rcases List.eq_nil_or_concat (Fg.rd u) with k | ⟨v, z, k⟩
    · rw [k] at i1 ⊢
      show go d r [x] = some g
      cases i1
      rw [go_cons h]
      rfl
    · rw [List.concat_eq_append] at k
      rw [k] at i1 ⊢
      rw [List.reverse_append]
      show go d r (if z = -x then v.reverse else x :: z :: v.reverse).reverse = some g
      by_cases c : z = -x
      · rw [if_pos c, List.reverse_reverse]
        rw [go_snoc] at i1
        cases e2 : go d r v with
        | none => rw [e2] at i1; cases i1
        | some t =>
          rw [e2] at i1
          have i1 : d t z = some y := i1
          have b := G.sym _ _ _ i1
          rw [c, Int.neg_neg, h] at b
          exact b.symm
      · rw [if_neg c, List.reverse_cons, List.reverse_cons, List.reverse_reverse, go_snoc, i1]
        exact h
end Wb
namespace L2
open PySem PySem.Spec PyProof.Rows Evl
theorem TabH.w {H H1 : Hp} {w p : Addr} {k n : Nat} {d : Wb.Gm} (h : TabH H p n d) (hw : Well H w k) (e : ExW w H H1) : TabH H1 p n d := by
  obtain ⟨a, b, c, h1, _⟩ := hw.ex
  obtain ⟨ds, q1, q2, q3⟩ := h.ex
  refine ⟨ds, q1, e _ _ q2 fun z => ?_, fun i x hx => ?_⟩
  · rw [z, h1] at q2
    have q2 := HO.lst.inj (Option.some.inj q2)
    cases ds with
    | nil => cases q2
    | cons y l => cases q2
  · obtain ⟨kvs, z1, z2⟩ := q3 i x hx
    exact ⟨kvs, e _ _ z1 (fun z => by rw [z, h1] at z1; cases z1), z2⟩
theorem DrS.tab {H H1 : Hp} {w p : Addr} {k m n : Nat} {d : Wb.Gm} (s : DrS w H k H1) (h0 : Well H w m) (h : TabH H p n d) : TabH H1 p n d := h.w h0 s.ex
theorem cut_last1 (ns : List Int) : ∃ us, cutV (ns.map V.int) none (some (-1)) = us.map V.int ∧ us = ns.dropLast := by
  rcases List.eq_nil_or_concat ns with e | ⟨u, x, e⟩
  · subst e; exact ⟨[], rfl, rfl⟩
  · rw [List.concat_eq_append] at e
    subst e
    refine ⟨u, ?_, by rw [List.dropLast_concat]⟩
    rw [List.map_append]
    exact cut_init _ _
end L2
namespace Wb
open L2
theorem cw_loop {L n : Nat} {d : Gm} (W : Web L n d) {u v : List Int} (hu : Stp L u) (hv : Stp L v) (h : go d 0 u = some 0) (gr : go d 0 (Fg.rd u) = some 0) : cw L n d (Fg.rd (u ++ v)) = cw L n d (Fg.rd v) := by
  have s1 : Stp (L : Int) (Fg.rd (u ++ v)) := fun x hx => by
    rcases List.mem_append.mp (Fg.mem_rd hx) with z | z
    · exact hu x z
    · exact hv x z
  have s2 : Stp (L : Int) (Fg.rd v) := fun x hx => hv x (Fg.mem_rd hx)
  rw [cw_same W (Od.G_of s1 (Fg.str_rd _)) (Od.G_of s2 (Fg.str_rd _))]
  have e : Fg.rd (Fg.rd (u ++ v) ++ Fg.bk (Fg.rd v)) = Fg.rd u := by
    rw [← Fg.rd_bk, Fg.rd_app]
    refine Fg.rd_eq ?_
    rw [List.append_assoc]
    have := (Fg.Eqv.refl u).app (Fg.eqv_bk v)
    rwa [List.append_nil] at this
  rw [e]; exact gr
theorem cw_pair {L n : Nat} {d : Gm} (W : Web L n d) {u v : List Int} (hu : Stp L u) (hv : Stp L v) : decide (cw L n d (Fg.rd u) = cw L n d (Fg.rd v)) = decide (go d 0 (Fg.rd (u ++ Fg.bk v)) = some 0) := by
  have s1 : Stp (L : Int) (Fg.rd u) := fun x hx => hu x (Fg.mem_rd hx)
  have s2 : Stp (L : Int) (Fg.rd v) := fun x hx => hv x (Fg.mem_rd hx)
  refine decide_eq_decide.mpr ?_
  rw [cw_same W (Od.G_of s1 (Fg.str_rd _)) (Od.G_of s2 (Fg.str_rd _)), ← Fg.rd_bk, Fg.rd_app]
theorem cw_cw {L n : Nat} {d : Gm} (W : Web L n d) {u : List Int} (hu : Od.G L none u) : Fg.rd (cw L n d u) = cw L n d u ∧ cw L n d (cw L n d u) = cw L n d u := by
  obtain ⟨g, _, _⟩ := cw_G W hu
  exact ⟨Fg.rd_str (Od.of_G g).2, (cw_same W g hu).mpr (cw_bel W hu)⟩
theorem cw_nil {L n : Nat} {d : Gm} (W : Web L n d) : cw L n d [] = [] := by
  unfold cw; show fw L n d 0 ++ [] = []; rw [fw_zero W]; rfl
end Wb
/-! the ways of a web; those of its tree; what the others tell -/
namespace Wb
/-- (room, letter less 1, room) -/
abbrev W3 := Nat × Nat × Nat
def tri (x : W3) : List Int := [(x.1 : Int), (x.2.1 : Int) + 1, (x.2.2 : Int)]
theorem tri_inj {x y : W3} (h : tri x = tri y) : x = y := by
  obtain ⟨a, l, b⟩ := x
  obtain ⟨a2, l2, b2⟩ := y
  unfold tri at h
  simp only [List.cons.injEq, and_true] at h
  obtain ⟨h1, h2, h3⟩ := h
  have e1 : a = a2 := by omega
  have e2 : l = l2 := by omega
  have e3 : b = b2 := by omega
  rw [e1, e2, e3]
def wayL (L : Nat) (d : Gm) (a : Nat) : List W3 := (List.range L).filterMap fun (l : Nat) => (d a ((l : Int) + 1)).map fun b => (a, l, b)
def ways3 (L n : Nat) (d : Gm) : List W3 := (List.range n).flatMap (wayL L d)
theorem mem_wayL {L n : Nat} {d : Gm} (G : Gr L n d) {a : Nat} {x : W3} : x ∈ wayL L d a ↔ x.1 = a ∧ d x.1 ((x.2.1 : Int) + 1) = some x.2.2 := by
  unfold wayL
  rw [List.mem_filterMap]
  constructor
  · rintro ⟨l, hl, h⟩
    obtain ⟨b, h1, rfl⟩ := Option.map_eq_some_iff.mp h
    exact ⟨rfl, h1⟩
  · rintro ⟨h1, h2⟩
    obtain ⟨a', l, b⟩ := x
    subst h1
    have m : ((l : Int) + 1) ≠ 0 ∧ -(L : Int) ≤ (l : Int) + 1 ∧ (l : Int) + 1 ≤ L := Od.mem_steps.mp (G.dom _ _ _ h2).2.2
    have hl : l < L := by omega
    exact ⟨l, List.mem_range.mpr hl, by rw [show d a' ((l : Int) + 1) = some b from h2]; rfl⟩
theorem mem_ways {L n : Nat} {d : Gm} (G : Gr L n d) {x : W3} : x ∈ ways3 L n d ↔ d x.1 ((x.2.1 : Int) + 1) = some x.2.2 := by
  unfold ways3
  rw [List.mem_flatMap]
  constructor
  · rintro ⟨a, _, h⟩
    exact ((mem_wayL G).mp h).2
  · intro h
    exact ⟨x.1, List.mem_range.mpr (G.dom _ _ _ h).1, (mem_wayL G).mpr ⟨rfl, h⟩⟩
theorem ways_bd {L n : Nat} {d : Gm} (G : Gr L n d) {x : W3} (h : x ∈ ways3 L n d) : x.1 < n ∧ x.2.1 < L ∧ x.2.2 < n := by
  have := G.dom _ _ _ ((mem_ways G).mp h)
  have m := Od.mem_steps.mp this.2.2
  omega
def key (x : W3) : Nat := (x.1 * 4096 + (x.2.1 + 1)) * 4096 + x.2.2
theorem ways_lt {L n : Nat} {d : Gm} (G : Gr L n d) (l4 : L ≤ 4) (hn : n ≤ 1000) : (ways3 L n d).Pairwise fun x y => key x < key y := by
  unfold ways3
  rw [List.pairwise_flatMap]
  refine ⟨fun a ha => ?_, ?_⟩
  · unfold wayL
    rw [List.pairwise_filterMap]
    refine List.Pairwise.imp ?_ (List.pairwise_lt_range (n := L))
    intro l l2 lt x hx y hy
    obtain ⟨b, h1, rfl⟩ := Option.map_eq_some_iff.mp hx
    obtain ⟨b2, h2, rfl⟩ := Option.map_eq_some_iff.mp hy
    have := (G.dom _ _ _ h1).2.1
    have := (G.dom _ _ _ h2).2.1
    unfold key
    simp only
    omega
  · refine List.Pairwise.imp ?_ (List.pairwise_lt_range (n := n))
    intro a a2 lt x hx y hy
    obtain ⟨e1, h1⟩ := (mem_wayL G).mp hx
    obtain ⟨e2, h2⟩ := (mem_wayL G).mp hy
    have b1 := G.dom _ _ _ h1
    have b2 := G.dom _ _ _ h2
    have m1 := Od.mem_steps.mp b1.2.2
    have m2 := Od.mem_steps.mp b2.2.2
    unfold key
    omega
theorem key_inj {x y : W3} (h1 : x.2.1 < 4 ∧ x.2.2 < 1000) (h2 : y.2.1 < 4 ∧ y.2.2 < 1000) (h : key x = key y) : x = y := by
  obtain ⟨a, l, b⟩ := x
  obtain ⟨a2, l2, b2⟩ := y
  unfold key at h
  simp only at h h1 h2
  have e1 : a = a2 := by omega
  have e2 : l = l2 := by omega
  have e3 : b = b2 := by omega
  rw [e1, e2, e3]
theorem sorted_same {α : Type} (key : α → Nat) : ∀ (xs ys : List α), (xs.Pairwise fun x y => key x < key y) → (ys.Pairwise fun x y => key x < key y) → (∀ z, z ∈ xs ↔ z ∈ ys) → xs = ys
  | [], [], _, _, _ => rfl
  | [], y :: ys, _, _, h => by have := (h y).mpr List.mem_cons_self; cases this
  | x :: xs, [], _, _, h => by have := (h x).mp List.mem_cons_self; cases this
  | x :: xs, y :: ys, hx, hy, h => by
    rw [List.pairwise_cons] at hx hy
    have e : x = y := by
      rcases List.mem_cons.mp ((h x).mp List.mem_cons_self) with e | m
      · exact e
      · rcases List.mem_cons.mp ((h y).mpr List.mem_cons_self) with e | m2
        · exact e.symm
        · have := hx.1 y m2
          have := hy.1 x m
          omega
    subst e
    rw [sorted_same key xs ys hx.2 hy.2 fun z => ?_]
    constructor
    · intro hz
      rcases List.mem_cons.mp ((h z).mp (List.mem_cons_of_mem _ hz)) with e | m
      · subst e
        exact absurd (hx.1 z hz) (Nat.lt_irrefl _)
      · exact m
    · intro hz
      rcases List.mem_cons.mp ((h z).mpr (List.mem_cons_of_mem _ hz)) with e | m
      · subst e
        exact absurd (hy.1 z hz) (Nat.lt_irrefl _)
      · exact m
/-! ### the tree -/
def isT (L n : Nat) (d : Gm) (x : W3) : Bool := decide (fw L n d x.2.2 = fw L n d x.1 ++ [(x.2.1 : Int) + 1]) || decide (fw L n d x.1 = fw L n d x.2.2 ++ [-((x.2.1 : Int) + 1)])
def treeT (L n : Nat) (d : Gm) : List W3 := (ways3 L n d).filter (isT L n d)
def restT (L n : Nat) (d : Gm) : List W3 := (ways3 L n d).filter fun x => !isT L n d x
def tw (L n : Nat) (d : Gm) (g : Nat) : W3 := match (bfs L n d 0)[g]? with
  | some (_, some (r, s)) => if 0 < s then (r, (s - 1).toNat, g) else (g, (-s - 1).toNat, r)
  | _ => (0, 0, 0)
theorem tw_eq {L n : Nat} {d : Gm} {g r : Nat} {s : Int} (h : (bfs L n d 0)[g]? = some (g, some (r, s))) : tw L n d g = if 0 < s then (r, (s - 1).toNat, g) else (g, (-s - 1).toNat, r) := by
  unfold tw
  rw [h]
theorem fw_inj {L n : Nat} {d : Gm} (W : Web L n d) {a b : Nat} (ha : a < n) (hb : b < n) (h : fw L n d a = fw L n d b) : a = b := by
  have h1 := (fw_go W a ha).1
  rw [h, (fw_go W b hb).1] at h1
  exact (Option.some.inj h1).symm
theorem tw_mem {L n : Nat} {d : Gm} (W : Web L n d) {g : Nat} (h0 : 0 < g) (hg : g < n) : tw L n d g ∈ treeT L n d := by
  obtain ⟨r, s, h1, h2, h3, h4⟩ := web_par W h0 hg
  have m := Od.mem_steps.mp (W.gr.dom _ _ _ h2).2.2
  rw [tw_eq h1]
  unfold treeT
  rw [List.mem_filter, mem_ways W.gr]
  by_cases c : 0 < s
  · rw [if_pos c]
    have e : (((s - 1).toNat : Nat) : Int) + 1 = s := by omega
    refine ⟨by show d r _ = some g; rw [e]; exact h2, ?_⟩
    unfold isT
    simp only
    rw [e, decide_eq_true h4]
    rfl
  · rw [if_neg c]
    have e : (((-s - 1).toNat : Nat) : Int) + 1 = -s := by omega
    refine ⟨by show d g _ = some r; rw [e]; exact W.gr.sym _ _ _ h2, ?_⟩
    unfold isT
    simp only
    rw [e, Int.neg_neg, decide_eq_true h4, Bool.or_true]
theorem tw_inj {L n : Nat} {d : Gm} (W : Web L n d) {g k : Nat} (h0 : 0 < g) (hg : g < n) (k0 : 0 < k) (hk : k < n) (h : tw L n d g = tw L n d k) : g = k := by
  obtain ⟨r, s, h1, h2, h3, h4⟩ := web_par W h0 hg
  obtain ⟨r2, s2, k1, k2, k3, k4⟩ := web_par W k0 hk
  rw [tw_eq h1, tw_eq k1] at h
  by_cases c : 0 < s <;> by_cases c2 : 0 < s2
  · rw [if_pos c, if_pos c2] at h
    exact (Prod.mk.inj (Prod.mk.inj h).2).2
  · rw [if_pos c, if_neg c2] at h
    have e1 := (Prod.mk.inj h).1
    have e2 := (Prod.mk.inj (Prod.mk.inj h).2).2
    omega
  · rw [if_neg c, if_pos c2] at h
    have e1 := (Prod.mk.inj h).1
    have e2 := (Prod.mk.inj (Prod.mk.inj h).2).2
    omega
  · rw [if_neg c, if_neg c2] at h
    exact (Prod.mk.inj h).1
theorem tw_all {L n : Nat} {d : Gm} (W : Web L n d) {x : W3} (hx : x ∈ treeT L n d) : ∃ g, 0 < g ∧ g < n ∧ tw L n d g = x := by
  unfold treeT at hx
  rw [List.mem_filter] at hx
  obtain ⟨hw, ht⟩ := hx
  have bd := ways_bd W.gr hw
  obtain ⟨a, l, b⟩ := x
  unfold isT at ht
  simp only at ht bd
  rw [Bool.or_eq_true, decide_eq_true_iff, decide_eq_true_iff] at ht
  have last : ∀ {u v : List Int} {s t : Int}, u ++ [s] = v ++ [t] → u = v ∧ s = t := fun h => by
    obtain ⟨h1, h2⟩ := List.append_inj' h rfl
    exact ⟨h1, (List.cons.inj h2).1⟩
  rcases ht with h | h
  · have b0 : 0 < b := by
      rcases Nat.eq_zero_or_pos b with z | z
      · rw [z, fw_zero W] at h
        have := congrArg List.length h
        rw [List.length_append] at this
        simp at this
      · exact z
    obtain ⟨r, s, h1, h2, h3, h4⟩ := web_par W b0 bd.2.2
    rw [h4] at h
    obtain ⟨e1, e2⟩ := last h
    have e3 := fw_inj W (by omega) bd.1 e1
    refine ⟨b, b0, bd.2.2, ?_⟩
    rw [tw_eq h1, if_pos (by omega), e3, e2, show ((l : Int) + 1 - 1).toNat = l by omega]
  · have a0 : 0 < a := by
      rcases Nat.eq_zero_or_pos a with z | z
      · rw [z, fw_zero W] at h
        have := congrArg List.length h
        rw [List.length_append] at this
        simp at this
      · exact z
    obtain ⟨r, s, h1, h2, h3, h4⟩ := web_par W a0 bd.1
    rw [h4] at h
    obtain ⟨e1, e2⟩ := last h
    have e3 := fw_inj W (by omega) bd.2.2 e1
    refine ⟨a, a0, bd.1, ?_⟩
    rw [tw_eq h1, if_neg (by omega), e3, e2, show (-(-((l : Int) + 1)) - 1).toNat = l by omega]
/-- the tree, as the rooms tell it -/
def treeU (L n : Nat) (d : Gm) : List W3 := (List.range (n - 1)).map fun i => tw L n d (1 + i)
theorem treeU_nodup {L n : Nat} {d : Gm} (W : Web L n d) : (treeU L n d).Nodup := by
  unfold treeU
  rw [List.Nodup, List.pairwise_map]
  have nd : (List.range (n - 1)).Nodup := List.nodup_range
  refine (List.Pairwise.and_mem.mp nd).imp fun {i j} ⟨hi, hj, ne⟩ e => ?_
  have hi := List.mem_range.mp hi
  have hj := List.mem_range.mp hj
  have := tw_inj W (by omega) (by omega) (by omega) (by omega) e
  omega
theorem mem_treeU {L n : Nat} {d : Gm} (W : Web L n d) {x : W3} : x ∈ treeU L n d ↔ x ∈ treeT L n d := by
  unfold treeU
  rw [List.mem_map]
  constructor
  · rintro ⟨i, hi, rfl⟩
    have := List.mem_range.mp hi
    exact tw_mem W (by omega) (by omega)
  · intro h
    obtain ⟨g, h1, h2, h3⟩ := tw_all W h
    exact ⟨g - 1, List.mem_range.mpr (by omega), by rw [show 1 + (g - 1) = g by omega]; exact h3⟩
theorem tree_same {L n : Nat} {d : Gm} (W : Web L n d) (hn : n ≤ 1000) {us : List W3} (hp : us.Perm (treeU L n d)) (hs : us.Pairwise fun x y => key x ≤ key y) : us = treeT L n d := by
  have l4 := W.l4
  have mem : ∀ z, z ∈ us ↔ z ∈ treeT L n d := fun z => by rw [hp.mem_iff, mem_treeU W]
  have nd : us.Nodup := (hp.nodup_iff).mpr (treeU_nodup W)
  have bd : ∀ z ∈ us, z.2.1 < 4 ∧ z.2.2 < 1000 := fun z hz => by
    have := ways_bd W.gr (List.mem_filter.mp ((mem z).mp hz)).1
    omega
  refine sorted_same key us (treeT L n d) ?_ ((ways_lt W.gr l4 hn).filter _) mem
  have both := List.Pairwise.and hs nd
  refine (List.Pairwise.and_mem.mp both).imp fun {x y} ⟨hx, hy, h, ne⟩ => ?_
  rcases Nat.lt_or_ge (key x) (key y) with lt | ge
  · exact lt
  · exact absurd (key_inj (bd x hx) (bd y hy) (Nat.le_antisymm h ge)) ne
theorem treeT_len {L n : Nat} {d : Gm} (W : Web L n d) : (treeT L n d).length = n - 1 := by
  have l4 := W.l4
  have h : (treeU L n d).length = n - 1 := by unfold treeU; rw [List.length_map, List.length_range]
  rw [← h]
  have nd2 : (treeT L n d).Nodup := by
    unfold treeT
    refine List.Pairwise.filter _ ?_
    unfold ways3
    rw [List.pairwise_flatMap]
    refine ⟨fun a ha => ?_, ?_⟩
    · unfold wayL
      rw [List.pairwise_filterMap]
      refine List.Pairwise.imp ?_ (List.pairwise_lt_range (n := L))
      intro l l2 lt x hx y hy e
      obtain ⟨b, h1, rfl⟩ := Option.map_eq_some_iff.mp hx
      obtain ⟨b2, h2, rfl⟩ := Option.map_eq_some_iff.mp hy
      have := (Prod.mk.inj (Prod.mk.inj e).2).1
      omega
    · refine List.Pairwise.imp ?_ (List.pairwise_lt_range (n := n))
      intro a a2 lt x hx y hy e
      obtain ⟨e1, h1⟩ := (mem_wayL W.gr).mp hx
      obtain ⟨e2, h2⟩ := (mem_wayL W.gr).mp hy
      rw [e] at e1
      omega
  have p1 := (treeU_nodup W)
  exact Nat.le_antisymm (List.Nodup.length_le_of_subset nd2 fun z hz => (mem_treeU W).mpr hz) (List.Nodup.length_le_of_subset p1 fun z hz => (mem_treeU W).mp hz)
/-! ### what the others tell -/
def word (L n : Nat) (d : Gm) (x : W3) : List Int := fw L n d x.1 ++ [(x.2.1 : Int) + 1] ++ Fg.bk (fw L n d x.2.2)
def basisW (L n : Nat) (d : Gm) : List (List Int) := (restT L n d).map (word L n d)
theorem last_par {L n : Nat} {d : Gm} (W : Web L n d) {a : Nat} {s : Int} (ha : a < n) (h : (fw L n d a).getLast? = some s) : ∃ r, r < n ∧ d r s = some a ∧ fw L n d a = fw L n d r ++ [s] := by
  have a0 : 0 < a := by
    rcases Nat.eq_zero_or_pos a with z | z
    · rw [z, fw_zero W] at h
      cases h
    · exact z
  obtain ⟨r, t, h1, h2, h3, h4⟩ := web_par W a0 ha
  rw [h4, List.getLast?_append] at h
  have e : t = s := by simpa using h
  subst e
  exact ⟨r, by omega, h2, h4⟩
theorem word_str {L n : Nat} {d : Gm} (W : Web L n d) {x : W3} (hx : x ∈ restT L n d) : Fg.Str (word L n d x) := by
  unfold restT at hx
  rw [List.mem_filter] at hx
  obtain ⟨hw, ht⟩ := hx
  have bd := ways_bd W.gr hw
  have hd := (mem_ways W.gr).mp hw
  unfold isT at ht
  rw [Bool.not_eq_true', Bool.or_eq_false_iff, decide_eq_false_iff_not, decide_eq_false_iff_not] at ht
  obtain ⟨t1, t2⟩ := ht
  unfold word
  obtain ⟨a, l, b⟩ := x
  simp only at bd hd t1 t2 ⊢
  have sa := (Od.of_G (fw_go W a bd.1).2.1).2
  have sb := (Od.of_G (fw_go W b bd.2.2).2.1).2
  refine Fg.str_app (Fg.str_snoc sa fun z => ?_) (Fg.str_bk sb) fun x y hx hy => ?_
  · obtain ⟨r, h1, h2, h3⟩ := last_par W bd.1 z
    have e := W.gr.sym _ _ _ h2
    rw [Int.neg_neg, hd] at e
    cases e
    exact t2 h3
  · rw [List.getLast?_append] at hx
    have ex : x = (l : Int) + 1 := by simpa using hx.symm
    intro ey
    have hl : (fw L n d b).getLast? = some ((l : Int) + 1) := by
      unfold Fg.bk at hy
      rw [List.head?_reverse, List.getLast?_map] at hy
      obtain ⟨z, h1, h2⟩ := Option.map_eq_some_iff.mp hy
      rw [h1]
      congr 1
      omega
    obtain ⟨r, h1, h2, h3⟩ := last_par W bd.2.2 hl
    have e := W.gr.sym _ _ _ h2
    have e2 := W.gr.sym _ _ _ hd
    rw [e] at e2
    cases e2
    exact t1 h3
theorem wayL_succ (j : Nat) (d : Gm) (a : Nat) : wayL (j + 1) d a = wayL j d a ++ (match d a ((j : Int) + 1) with | some b => [(a, j, b)] | none => []) := by
  unfold wayL
  rw [List.range_succ, List.filterMap_append]
  congr 1
  cases h : d a ((j : Int) + 1) with
  | none => rw [List.filterMap_cons_none (by rw [h]; rfl)]; rfl
  | some b => rw [List.filterMap_cons_some (by rw [h]; rfl)]; rfl
theorem wayL_len (j : Nat) (d : Gm) (a : Nat) : (wayL j d a).length ≤ j := by
  unfold wayL
  exact Nat.le_trans (List.length_filterMap_le _ _) (by rw [List.length_range]; exact Nat.le_refl _)
theorem ways_take (L : Nat) (d : Gm) (i : Nat) : (List.range (i + 1)).flatMap (wayL L d) = (List.range i).flatMap (wayL L d) ++ wayL L d i := by
  rw [List.range_succ, List.flatMap_append]
  simp
theorem ways_len (L : Nat) (d : Gm) : ∀ i, ((List.range i).flatMap (wayL L d)).length ≤ i * L
  | 0 => by simp
  | i + 1 => by
    rw [ways_take, List.length_append, Nat.succ_mul]
    have := ways_len L d i
    have := wayL_len L d i
    omega
end Wb
/-! {t: v for ..} with tuples for keys; ways as triples; sorted triples -/
namespace L2
open PySem PySem.Spec PyProof.Rows Evl
/-- a dict with tuples for keys takes one more -/
theorem set_T {X : Cx} {pins : List (Addr × Obj)} {σ : L2.St} {H : Hp} {s : Shared} {E : Value → Shared → Prop} {Q : Unit → Shared → Prop} {D b : Addr} {kvs : List (List Key × V)} {k : List Key} {z : V} {r : Value} (hu : X.A.units + 1 < cLine) (I : Inv X pins σ H s)
    (hD : H D = some (.dT kvs)) (hb : H b = some (.tup (k.map kV))) (hz : kvs.length < sizeLine) (rz : RelV z r) (h : ∀ s', Inv X pins σ (upd H D (.dT (putK kvs k z))) s' → Q () s') : wpAny (model X.prog X.w) X.A (dictSet D (.ref b) r) Q E s := by
  obtain ⟨z1, nm, xs, rel, dd⟩ := dt_of I.hok hD
  have fits : xs.length ≤ sizeLine := Paired.length rel ▸ z1
  have fits2 : (putK kvs k z).length ≤ sizeLine := Nat.le_trans (length_putK kvs k z) hz
  refine wpAny_dictSet_heap (hsz := fits) (knd := tupleKind (mixKind X.prog X.w)) (Nat.lt_of_succ_lt hu) (key_of I.hok hb) dd fun h1 d1 same => h _ ?_
  have ⟨o, es, ep, q1, q2, q3, q4, _, q5⟩ := d1
  refine d_write I (by rw [hD]; exact True.intro) same ⟨o, q1⟩ ⟨fits2, nm, _, (rel.put k hb rz).keeps fun c ys ec => ?_, o, es, ep, q1, q2, q3, q4, q5⟩
  exact (upd_ne (ne_of ec hD nofun)).trans ec
/-- how a turn of such a block ends -/
def EndT (D : Addr) (tk tv : TE) (Nx : Hp → Prop) : Bool → L2.St → Hp → Prop := fun b σ H =>
  if b = true then tk σ H fun y H1 => tv σ H1 fun z H2 => ∃ kvs k a, y = .ref a ∧ H2 a = some (.tup (k.map kV)) ∧ H2 D = some (.dT kvs) ∧ kvs.length < sizeLine ∧ Nx (upd H2 D (.dT (putK kvs k z))) else Nx H
def tDcT (wi : TI) (g : TG) (tt : TT) (tk tv : TE) (vs : List Nat) : TE := fun σ H Q => wi σ H fun J H1 => ∀ D, H1 D = none → ∃ W : Nat → Nat → Hp → Prop, (∃ m, W 0 m (upd H1 D (.dT []))) ∧ ∀ i m H', W i m H' →
  (J.stop i H' ∧ Q (.ref D) H') ∨ (J.go i H' ∧ ∀ x H2, J.yld i H' x H2 → g x (wipe σ vs) H2 fun σ2 H3 => wipe σ2 vs = wipe σ vs ∧ tt σ2 H3 fun b H4 => EndT D tk tv (fun H5 => ∃ m', m' < m ∧ W (i + 1) m' H5) b σ2 H4)
theorem pe_dcT {X : Cx} {kx vx tg iter : Expr} {ifs : List Expr} {scope : Scope} {own : List (Str × Nat)} {pos : Pos} {wi : TI} {g : TG} {tt : TT} {tk tv : TE} (hu : X.A.units + 1 < cLine) (hc : X.calm = true) (hN : X.N.Nodup) (hi : PI X tg iter wi) (ok : BlkOk X.N X.env.scope scope own)
    (hg : ∀ (s : Shared) (H : Hp) (C : Addr) (cl : List (Str × Addr)) (fp : List Addr), PG (X.blk s H scope (compEnvC scope cl C X.env) fp) tg g) (ht : ∀ (s : Shared) (H : Hp) (C : Addr) (cl : List (Str × Addr)) (fp : List Addr), PTs (X.blk s H scope (compEnvC scope cl C X.env) fp) ifs tt)
    (hk : ∀ (s : Shared) (H : Hp) (C : Addr) (cl : List (Str × Addr)) (fp : List Addr), PE (X.blk s H scope (compEnvC scope cl C X.env) fp) kx tk)
    (he : ∀ (s : Shared) (H : Hp) (C : Addr) (cl : List (Str × Addr)) (fp : List Addr), PE (X.blk s H scope (compEnvC scope cl C X.env) fp) vx tv) (hs : ∀ x, foldedSetIterable iter X.env x = pure x := by intro _; rfl) :
    PE X (.DictComp kx vx [⟨tg, iter, ifs, 0⟩] scope pos) (tDcT wi g tt tk tv (own.map (·.2))) := by
  refine ⟨fun pins s σ H Q I h => ?_⟩
  rw [arm_eval_DictComp]
  have cells : ∀ y ∈ scope.names, y.2 = .free → ∃ c, X.env.cells.lookup y.1 = some c := fun y hy e => I.ok.has _ (ok.free y hy e)
  refine wpAny_comprehension_free (use := none) rfl hs (closure_ok cells) ok.kind (fun y hy e => by rw [ok.uniq y hy, e]) (thn (hi.run pins s σ H _ I h) fun _ _ walked => thn walked fun _ s1 at1 => ?_)
  obtain ⟨it, fp, tn, J, H1, rfl, I1, T, here1, free1, q⟩ := at1
  refine wpAny_newObj_type (newEnv_comp ?_)
  -- the dict stands at the heap's end
  obtain ⟨D, hD⟩ : ∃ D, s1.heap.objs.size = D := ⟨_, rfl⟩
  rw [hD]
  obtain ⟨W, ⟨m0, w0⟩, turn⟩ := q D (I1.hok.fresh (Nat.le_of_eq hD))
  obtain ⟨s2, hs2⟩ : ∃ s2 : Shared, ({ s1 with heap := s1.heap.push { cls := .type "dict", data := .dict #[] } } : Shared) = s2 := ⟨_, rfl⟩
  have heap2 : s2.heap = s1.heap.push { cls := .type "dict", data := .dict #[] } := hs2 ▸ rfl
  have I2 : Inv X pins σ (upd H1 D (.dT [])) s2 := by
    rw [← hs2]
    exact I1.laid (t' := s1.toks) (fun b o e => Heap.get?_push_of_some _ e) (Nat.le_of_eq hD) (hD ▸ dt_empty s1.heap I1.big)
  have foot : ∀ b ∈ fp, FpOk X pins (upd H1 D (.dT [])) b ∧ b < s2.heap.objs.size := fun b hb => by
    obtain ⟨o, e, _⟩ := T.obj _ _ here1 b hb
    have lt := Heap.lt_size e
    have ne : b ≠ D := hD ▸ Nat.ne_of_lt lt
    exact ⟨⟨(upd_ne ne).trans (free1 b hb).1, (free1 b hb).2⟩, by rw [heap2, Heap.size_push]; exact Nat.lt_succ_of_lt lt⟩
  have here2 : tn 0 s2.heap := T.keep _ _ _ here1 fun b _ o e => heap2 ▸ Heap.get?_push_of_some _ e
  have J3 := block_start I2 ok hN foot
  have pg := hg s2 (upd H1 D (.dT [])) s2.heap.objs.size (cellsFrom (s2.heap.objs.size + 1) scope.names (cloFrom X.env.cells scope.names [])) fp
  have pt := ht s2 (upd H1 D (.dT [])) s2.heap.objs.size (cellsFrom (s2.heap.objs.size + 1) scope.names (cloFrom X.env.cells scope.names [])) fp
  have pk := hk s2 (upd H1 D (.dT [])) s2.heap.objs.size (cellsFrom (s2.heap.objs.size + 1) scope.names (cloFrom X.env.cells scope.names [])) fp
  have pv := he s2 (upd H1 D (.dT [])) s2.heap.objs.size (cellsFrom (s2.heap.objs.size + 1) scope.names (cloFrom X.env.cells scope.names [])) fp
  rw [hs2]
  show codeAny _ _ (.compStart (.DictComp kx vx [⟨tg, iter, ifs, 0⟩] scope pos) 0 (.ref it) (.ref D) (compEnvC scope (cellsFrom (s2.heap.objs.size + 1) scope.names (cloFrom X.env.cells scope.names [])) s2.heap.objs.size X.env)) (compPost (model X.prog X.w) X.A X.xe none _ (.ref D) s2.heap.objs.size) { s2 with heap := pushCells (s2.heap.push { cls := .type "dict", data := .dict #[] }) scope.names }
  obtain ⟨ce, hce⟩ : ∃ ce, compEnvC scope (cellsFrom (s2.heap.objs.size + 1) scope.names (cloFrom X.env.cells scope.names [])) s2.heap.objs.size X.env = ce := ⟨_, rfl⟩
  have loc : ce.locals = s2.heap.objs.size := hce ▸ rfl
  rw [hce] at J3 pg pt pk pv
  rw [hce]
  obtain ⟨H2, hH2⟩ : ∃ H2, upd H1 D (.dT []) = H2 := ⟨_, rfl⟩
  rw [hH2] at I2 J3 pg pt pk pv w0 foot
  obtain ⟨s3, hs3⟩ : ∃ s3 : Shared, ({ s2 with heap := pushCells (s2.heap.push { cls := .type "dict", data := .dict #[] }) scope.names } : Shared) = s3 := ⟨_, rfl⟩
  rw [hs3] at J3
  rw [hs3]
  have here3 : tn 0 s3.heap := T.keep _ _ _ here2 fun b _ o e => hs3 ▸ pushCells_keeps _ _ _ _ (Heap.get?_push_of_some _ e)
  -- what holds ahead of each turn
  let At : Nat → Shared → Prop := fun n s' => ∃ i H', Inv (X.blk s2 H2 scope ce fp) [] (wipe σ (own.map (·.2))) H' s' ∧ tn i s'.heap ∧ (∀ b ∈ fp, H' b = none) ∧ W i n H'
  have still : ∀ {σ' : L2.St} {H' : Hp} {s' : Shared}, Inv (X.blk s2 H2 scope ce fp) [] σ' H' s' → (∀ b ∈ fp, H' b = none) → ∀ b ∈ fp, FpOk (X.blk s2 H2 scope ce fp) [] H' b := fun I' none' b hb =>
    ⟨none' b hb, (I'.ok.exf b hb).1, I'.ok.exfs b hb, .inl hb, fun x c e => (I'.ok.exf b hb).2 x c e, fun p hp => absurd (show p ∈ ([] : List (Addr × Obj)) ++ [] from hp) (by simp)⟩
  refine codeAny_compStart_dict (?_ : codeAny (model X.prog X.w) X.A (.compLoop (.DictComp kx vx [⟨tg, iter, ifs, 0⟩] scope pos) 0 (.ref it) (.ref D) ce) _ s3) (T.self X.A 0 _ _ _ here3 ?_)
  all_goals
    refine compLoop_anyD At ?_ m0 ⟨0, H2, J3, here3, fun b hb => (foot b hb).1.1, w0⟩
    rintro n s4 ⟨i, H4, I4, here4, none4, w4⟩
    rcases turn i n H4 w4 with ⟨over, done⟩ | ⟨more, step⟩
    · refine thnF (T.done (X.blk s2 H2 scope ce fp) rfl rfl rfl hc i [] s4 _ H4 (fun _ _ => False) I4 (still I4 none4) here4 over) fun r s5 ⟨er, I5⟩ => ?_
      subst er
      -- out of the block
      have I6 : Inv X pins σ H4 s5 := I2.call' (ch := fp) I5.os I5.base I5.hok I5.bare fun b hb => ⟨(foot b hb).1.2.2.2.1, (foot b hb).1.2.1, (foot b hb).1.2.2.2.2.1, (foot b hb).1.2.2.2.2.2⟩
      have gone : H4 s2.heap.objs.size = none := loc ▸ (show H4 ce.locals = none from I5.free)
      obtain ⟨m, ns, _⟩ := I5.loc
      have ns : s5.heap.Ns ce.locals m := ns
      rw [loc] at ns
      refine ⟨m, ns, fun h2 but => ?_⟩
      obtain ⟨g0, g1, g2, g3, g4, g5⟩ := I2.fpOk (Nat.le_refl _) gone
      exact ⟨.ref D, H4, I6.turned (t' := s5.toks) (fun b o hb e => (but.2 b hb).trans e) g0 g1 g3 g4 g5, rfl, done⟩
    · refine thnF (T.item (X.blk s2 H2 scope ce fp) rfl rfl rfl hc i [] s4 _ H4 (fun _ _ => False) I4 (still I4 none4) here4 more) fun r s5 ⟨u, er, at5⟩ => ?_
      subst er
      refine thnF at5 fun _ s6 ⟨x, H6, I6, rx, yx, here6, none6⟩ => ?_
      have pinned := I6.pinned (still I6 none6) (T.obj _ _ here6)
      refine thnF (pg.run _ s6 _ H6 x u _ pinned rx (step x H6 yx)) fun _ s7 ⟨σ7, H7, I7, wiped, q7⟩ => ?_
      refine thnF (pt.run _ s7 σ7 H7 _ I7 q7) fun b s8 ⟨H8, I8, q8⟩ => ?_
      have next : ∀ {s' : Shared} {H' : Hp}, Inv (X.blk s2 H2 scope ce fp) ([] ++ pinsAt fp s6.heap) σ7 H' s' → (∃ m', m' < n ∧ W (i + 1) m' H') → ∃ m, m < n ∧ At m s' := fun {s' H'} I' nx => by
        obtain ⟨m', lt, w'⟩ := nx
        have stays : ∀ b ∈ fp, ∀ o, s6.heap.get? b = some o → s'.heap.get? b = some o ∧ H' b = none := fun b hb o e =>
          have p := I'.pin (b, o) (List.mem_append_right _ (List.mem_append_right _ (mem_pinsAt hb e)))
          ⟨p.1, p.2.1⟩
        refine ⟨m', lt, i + 1, H', (I'.unpinned (pins := [])).weak (by rw [← wiped, wipe_length]) fun j v e => ?_, T.keep _ _ _ here6 fun b hb o e => (stays b hb o e).1, fun b hb => ?_, w'⟩
        · rw [← wiped] at e
          exact (wipe_some e).1
        · obtain ⟨o, e, _⟩ := T.obj _ _ here6 b hb
          exact (stays b hb o e).2
      unfold EndT at q8
      cases b with
      | false => exact next I8 (by simpa using q8)
      | true =>
        rw [if_pos rfl] at q8 ⊢
        refine thnF (pk.run _ s8 σ7 H8 _ I8 q8) fun ku s9 ⟨y, H9, I9, ry, q9⟩ => ?_
        refine thnF (pv.run _ s9 σ7 H9 _ I9 q9) fun zu s10 ⟨z, H10, I10, rz, kvs, k, a, ey, ha, hDT, fits, nx⟩ => ?_
        subst ey
        obtain rfl : ku = Value.ref a := ry
        exact set_T (X := X.blk s2 H2 scope ce fp) hu I10 hDT ha fits rz fun s11 I11 => next I11 nx
/-! ### tuples of ints that stand in the heap -/
structure TpA (H : Hp) (xs : List V) (ws : List (List Int)) : Prop where
  len : xs.length = ws.length
  at' : ∀ (i : Nat) x w, xs[i]? = some x → ws[i]? = some w → ∃ a, x = .ref a ∧ H a = some (.tup (w.map V.int))
theorem TpA.nil {H : Hp} : TpA H [] [] := ⟨rfl, fun i x w h => by simp at h⟩
theorem TpA.tx {H H1 : Hp} {xs : List V} {ws : List (List Int)} (h : TpA H xs ws) (e : TX H H1) : TpA H1 xs ws := ⟨h.len, fun i x w h1 h2 => by
  obtain ⟨a, q1, q2⟩ := h.at' i x w h1 h2
  exact ⟨a, q1, (e a _ (.inl q2)).trans q2⟩⟩
theorem TpA.ex {H H1 : Hp} {xs : List V} {ws : List (List Int)} (h : TpA H xs ws) (e : Ex H H1) : TpA H1 xs ws := h.tx (.of e)
theorem TpA.wk {K : PySem.W.Frag} {H : Hp} {xs : List V} {ws : List (List Int)} (h : TpA H xs ws) : WkA K H xs ws := ⟨h.len, fun i x w h1 h2 => by
  obtain ⟨a, q1, q2⟩ := h.at' i x w h1 h2
  exact ⟨a, q1, t_of q2⟩⟩
theorem TpA.snoc {H : Hp} {xs : List V} {ws : List (List Int)} {a : Addr} {w : List Int} (h : TpA H xs ws) (hx : H a = some (.tup (w.map V.int))) : TpA H (xs ++ [.ref a]) (ws ++ [w]) := by
  refine ⟨by rw [List.length_append, List.length_append, h.len]; rfl, fun i y u h1 h2 => ?_⟩
  rcases Nat.lt_or_ge i xs.length with lt | ge
  · rw [List.getElem?_append_left lt] at h1
    rw [List.getElem?_append_left (h.len ▸ lt)] at h2
    exact h.at' i y u h1 h2
  · rw [List.getElem?_append_right ge] at h1
    rw [List.getElem?_append_right (h.len ▸ ge), ← h.len] at h2
    cases z : i - xs.length with
    | zero =>
      rw [z] at h1 h2
      cases h1
      cases h2
      exact ⟨a, rfl, hx⟩
    | succ k => rw [z] at h1; simp at h1
theorem TpA.app {H : Hp} {xs ys : List V} {ws us : List (List Int)} (h : TpA H xs ws) (k : TpA H ys us) : TpA H (xs ++ ys) (ws ++ us) := by
  refine ⟨by rw [List.length_append, List.length_append, h.len, k.len], fun i y w h1 h2 => ?_⟩
  rcases Nat.lt_or_ge i xs.length with lt | ge
  · rw [List.getElem?_append_left lt] at h1
    rw [List.getElem?_append_left (h.len ▸ lt)] at h2
    exact h.at' i y w h1 h2
  · rw [List.getElem?_append_right ge] at h1
    rw [List.getElem?_append_right (h.len ▸ ge), ← h.len] at h2
    exact k.at' _ y w h1 h2
theorem TpA.get {H : Hp} {xs : List V} {ws : List (List Int)} (h : TpA H xs ws) {i : Nat} {x : V} (hx : xs[i]? = some x) : ∃ w a, ws[i]? = some w ∧ x = .ref a ∧ H a = some (.tup (w.map V.int)) := by
  have hi := (List.getElem?_eq_some_iff.mp hx).1
  rw [h.len] at hi
  obtain ⟨a, q⟩ := h.at' i x _ hx (List.getElem?_eq_getElem hi)
  exact ⟨_, a, List.getElem?_eq_getElem hi, q⟩
theorem TpA.tail {H : Hp} {x : V} {xs : List V} {w : List Int} {ws : List (List Int)} (h : TpA H (x :: xs) (w :: ws)) : (∃ a, x = .ref a ∧ H a = some (.tup (w.map V.int))) ∧ TpA H xs ws :=
  ⟨h.at' 0 x w rfl rfl, by simpa using h.len, fun i y u h1 h2 => h.at' (i + 1) y u h1 h2⟩
theorem TpA.cons {H : Hp} {x : V} {xs : List V} {w : List Int} {ws : List (List Int)} (hx : ∃ a, x = .ref a ∧ H a = some (.tup (w.map V.int))) (h : TpA H xs ws) : TpA H (x :: xs) (w :: ws) := by
  refine ⟨by rw [List.length_cons, List.length_cons, h.len], fun i y u h1 h2 => ?_⟩
  cases i with
  | zero => cases h1; cases h2; exact hx
  | succ i => exact h.at' i y u h1 h2
/-- the same tuples in another sequence -/
theorem TpA.perm {H : Hp} {xs ys : List V} (p : ys.Perm xs) : ∀ {ws : List (List Int)}, TpA H ys ws → ∃ us, us.Perm ws ∧ TpA H xs us := by
  induction p with
  | nil => intro ws h; exact ⟨ws, List.Perm.refl _, h⟩
  | cons x p ih =>
    intro ws h
    cases ws with
    | nil => have := h.len; simp at this
    | cons w ws =>
      obtain ⟨h1, h2⟩ := h.tail
      obtain ⟨us, q1, q2⟩ := ih h2
      exact ⟨w :: us, q1.cons w, .cons h1 q2⟩
  | swap x y l =>
    intro ws h
    cases ws with
    | nil => have := h.len; simp at this
    | cons w ws =>
      obtain ⟨h1, h2⟩ := h.tail
      cases ws with
      | nil => have := h2.len; simp at this
      | cons w2 ws =>
        obtain ⟨h3, h4⟩ := h2.tail
        exact ⟨w2 :: w :: ws, List.Perm.swap _ _ _, .cons h3 (.cons h1 h4)⟩
  | trans p1 p2 i1 i2 =>
    intro ws h
    obtain ⟨us, q1, q2⟩ := i1 h
    obtain ⟨ts, q3, q4⟩ := i2 q2
    exact ⟨ts, q3.trans q1, q4⟩
/-- what is sorted of ways -/
def untri (ns : List Int) : Wb.W3 := match ns with
  | [a, s, b] => (a.toNat, (s - 1).toNat, b.toNat)
  | _ => (0, 0, 0)
theorem untri_tri (x : Wb.W3) : untri (Wb.tri x) = x := by
  obtain ⟨a, l, b⟩ := x
  unfold untri Wb.tri
  simp only [Int.toNat_natCast]
  rw [show ((l : Int) + 1 - 1).toNat = l by omega]
theorem map_untri (us : List Wb.W3) : (us.map Wb.tri).map untri = us := by
  rw [List.map_map]
  conv => rhs; rw [← List.map_id us]
  exact List.map_congr_left fun x _ => untri_tri x
theorem tri_bd {x : Wb.W3} (h : x.1 < 1000 ∧ x.2.1 < 4 ∧ x.2.2 < 1000) : TS.Bd 4096 (Wb.tri x) := fun m hm => by
  have e : m = (x.1 : Int) ∨ m = (x.2.1 : Int) + 1 ∨ m = (x.2.2 : Int) := by
    unfold Wb.tri at hm
    simpa using hm
  omega
theorem tri_code (x : Wb.W3) : TS.code 4096 (Wb.tri x) = (Wb.key x : Int) := by
  unfold Wb.tri Wb.key
  simp only [TS.code, List.length_cons, List.length_nil]
  omega
theorem tri_sorted {K : PySem.W.Frag} {H : Hp} {xs ys : List V} {us : List Wb.W3} (h : TpA H xs (us.map Wb.tri)) (p : ys.Perm xs) (hs : ys.Pairwise fun x y => ∀ n m, TupI K H x n → TupI K H y m → TS.code 4096 n ≤ TS.code 4096 m) :
    ∃ ts : List Wb.W3, ts.Perm us ∧ (ts.Pairwise fun x y => Wb.key x ≤ Wb.key y) ∧ TpA H ys (ts.map Wb.tri) := by
  obtain ⟨ws, q1, q2⟩ := TpA.perm p.symm h
  have e : (ws.map untri).map Wb.tri = ws := by
    rw [List.map_map]
    conv => rhs; rw [← List.map_id ws]
    refine List.map_congr_left fun w hw => ?_
    obtain ⟨x, _, rfl⟩ := List.mem_map.mp (q1.mem_iff.mp hw)
    show Wb.tri (untri (Wb.tri x)) = Wb.tri x
    rw [untri_tri]
  refine ⟨ws.map untri, ?_, ?_, by rw [e]; exact q2⟩
  · have := q1.map untri
    rwa [map_untri] at this
  · rw [List.pairwise_iff_getElem] at hs ⊢
    intro i j hi hj lt
    have li : i < ws.length := by rwa [List.length_map] at hi
    have lj : j < ws.length := by rwa [List.length_map] at hj
    have yi : i < ys.length := q2.len ▸ li
    have yj : j < ys.length := q2.len ▸ lj
    obtain ⟨a, ea, ha⟩ := q2.at' i _ _ (List.getElem?_eq_getElem yi) (List.getElem?_eq_getElem li)
    obtain ⟨b, eb, hb⟩ := q2.at' j _ _ (List.getElem?_eq_getElem yj) (List.getElem?_eq_getElem lj)
    have key : ∀ k (lk : k < ws.length), Wb.tri ((ws.map untri)[k]'(by rw [List.length_map]; exact lk)) = ws[k] := fun k lk => by
      have : ((ws.map untri).map Wb.tri)[k]? = ws[k]? := by rw [e]
      rw [List.getElem?_map, List.getElem?_eq_getElem (by rw [List.length_map]; exact lk), List.getElem?_eq_getElem lk] at this
      exact Option.some.inj this
    have := hs i j yi yj lt _ _ ⟨a, ea, t_of ha⟩ ⟨b, eb, t_of hb⟩
    rw [← key i li, ← key j lj, tri_code, tri_code] at this
    exact Int.ofNat_le.mp this
section
variable {K : PySem.W.Frag} {σ : L2.St} {H : Hp} {Q : VK} {a : Addr} {xs : List V} {vs : List Nat} {j m n o : Nat} {wi : TI} {g : TG} {tt : TT} {tk tv te : TE} {ws : List (List Int)}
def rDcT (J : It) (g : TG) (tt : TT) (tk tv : TE) (vs : List Nat) (σ : L2.St) (Q : VK) (H1 : Hp) : Prop := ∀ D, H1 D = none → ∃ W : Nat → Nat → Hp → Prop, (∃ m, W 0 m (upd H1 D (.dT []))) ∧ ∀ i m H', W i m H' →
  (J.stop i H' ∧ Q (.ref D) H') ∨ (J.go i H' ∧ ∀ x H2, J.yld i H' x H2 → g x (wipe σ vs) H2 fun σ2 H3 => wipe σ2 vs = wipe σ vs ∧ tt σ2 H3 fun b H4 => EndT D tk tv (fun H5 => ∃ m', m' < m ∧ W (i + 1) m' H5) b σ2 H4)
theorem st_dcT (h : wi σ H fun J H1 => rDcT J g tt tk tv vs σ Q H1) : tDcT wi g tt tk tv vs σ H Q := h
def tkey (w : List Int) : List Key := w.map Sum.inl
theorem tkey_inj {u w : List Int} (h : tkey u = tkey w) : u = w := (List.map_inj_right fun _ _ z => Sum.inl.inj z).mp h
theorem tkey_V (w : List Int) : (tkey w).map kV = w.map V.int := by unfold tkey; rw [List.map_map]; rfl
/-- {t: True for t in tuples} -/
theorem r_dcT (hl : H a = some (.lst xs)) (ht : TpA H xs ws) (hz : xs.length ≤ 50000) (hw : ∀ x, wipe ((wipe σ vs).set j (some x)) vs = wipe σ vs) (hj : ∀ x, ((wipe σ vs).set j (some x))[j]? = some (some x))
    (q : ∀ p H1 kvs, H p = none → Ex H H1 → H1 p = some (.dT kvs) → (∀ w : List Int, (valV kvs (tkey w)).isSome = decide (w ∈ ws)) → Q (.ref p) H1) : rDcT (Itl K a) (gName j) tYes (tVar j) (tC (.bl true)) vs σ Q H := fun D hD => by
  refine ⟨fun i d H' => d = xs.length - i ∧ i ≤ xs.length ∧ Ex H H' ∧ ∃ kvs, H' D = some (.dT kvs) ∧ kvs.length ≤ i ∧ ∀ w : List Int, (valV kvs (tkey w)).isSome = decide (w ∈ ws.take i), ⟨_, rfl, Nat.zero_le _, Ex.new hD, [], upd_same, Nat.le_refl _, fun w => rfl⟩, ?_⟩
  rintro i d H' ⟨rfl, hi, e, kvs, h1, h2, h3⟩
  have hl' : SqL K H' a xs := l_of (e _ _ hl)
  rcases Nat.lt_or_ge i xs.length with lt | ge
  · have hx := List.getElem?_eq_getElem lt
    obtain ⟨w, b, hw1, hb, hb2⟩ := ht.get hx
    refine .inr ⟨⟨_, _, hl', hx⟩, ?_⟩
    rintro y H6 ⟨rfl, hy⟩
    have hy' := hy _ hl'
    rw [hx] at hy'
    cases hy'
    refine ⟨hw _, t_yes ?_⟩
    unfold EndT
    rw [if_pos rfl]
    refine ⟨_, hj _, ?_⟩
    refine ⟨kvs, tkey w, b, hb, by rw [tkey_V]; exact e _ _ hb2, h1, sz_lt (by omega), _, by omega, rfl, lt, Ex.mut e hD, _, upd_same, ?_, fun u => ?_⟩
    · exact Nat.le_trans (length_putK kvs _ _) (by omega)
    · rw [valV_put, L2.take_snoc hw1]
      by_cases c : u = w
      · subst c
        rw [if_pos rfl]
        simp
      · rw [if_neg fun z => c (tkey_inj z), h3 u]
        refine decide_eq_decide.mpr ?_
        rw [List.mem_append]
        constructor
        · exact .inl
        · rintro (z | z)
          · exact z
          · exact absurd (List.mem_singleton.mp z) c
  · have e2 : i = xs.length := by omega
    subst e2
    refine .inl ⟨⟨_, hl', Nat.le_refl _⟩, q D H' kvs hD e h1 fun w => ?_⟩
    rw [h3 w, ht.len, List.take_length]
theorem r_tnin {d b : Addr} {kvs : List (List Key × V)} {w : List Int} (h : Rd H d (.dT kvs)) (hb : H b = some (.tup (w.map V.int))) (q : Q (.bl (!(valV kvs (tkey w)).isSome)) H) : rDIn true (.ref d) (.ref b) H Q :=
  ⟨d, _, rfl, .inr ⟨kvs, tkey w, b, h, rfl, by rw [tkey_V]; exact hb, rfl⟩, q⟩
/-- a tuple in a list of tuples -/
theorem r_ninW {ws0 : List Int} (wx : IT K H m ws0) (hl : SqL K H a xs) (wa : WkA K H xs ws) (q : Q (.bl (!decide (ws0 ∈ ws))) H) : rNotInD K (.ref m) (.ref a) H Q := by
  refine ⟨_, _, dp_t wx, dp_wl hl wa, shaped_t _, shaped_dWs _, ?_⟩
  have e : ((dWs ws).any fun z => PyData.eqv z (.tuple (ws0.map .int))) = decide (ws0 ∈ ws) := by
    unfold dWs
    rw [List.any_map, List.any_eq]
    refine decide_eq_decide.mpr ⟨?_, ?_⟩
    · rintro ⟨x, hx, h⟩
      have h : PyData.eqv (.tuple (x.map .int)) (.tuple (ws0.map .int)) = true := h
      rw [eqv_tints] at h
      exact of_decide_eq_true h ▸ hx
    · intro h
      refine ⟨ws0, h, ?_⟩
      show PyData.eqv (.tuple (ws0.map .int)) (.tuple (ws0.map .int)) = true
      rw [eqv_tints]
      exact decide_eq_true rfl
  rw [e]
  exact q
/-- [e for u, v, w in a list of threes if t] -/
theorem r_cmL3 (S : Nat → List V → Hp → Prop) (hz : xs.length ≤ 100000) (hw : ∀ x y z, wipe ((((wipe σ vs).set m (some x)).set n (some y)).set o (some z)) vs = wipe σ vs) (hl : ∀ i ys H', S i ys H' → SqL K H' a xs)
    (h0 : ∀ D, H D = none → ∀ o, S 0 [] (upd H D o))
    (he : ∀ i x H1 D acc, xs[i]? = some x → acc.length ≤ i → H1 D = some (.lst acc) → S i acc H1 → (∀ o, S i acc (upd H1 D o)) → ∃ p u v z, x = .ref p ∧ SqT K H1 p [u, v, z] ∧
      tt ((((wipe σ vs).set m (some u)).set n (some v)).set o (some z)) H1 fun b H2 => if b = true then te ((((wipe σ vs).set m (some u)).set n (some v)).set o (some z)) H2 (fun y H3 => CmY S D i y H3) else CmP S D (i + 1) H2)
    (q : ∀ D H1 ys, H D = none → H1 D = some (.lst ys) → S xs.length ys H1 → (∀ o, S xs.length ys (upd H1 D o)) → Q (.ref D) H1) : rLc (Itl K a) (gTup K 3 (gCons (gName m) (gCons (gName n) (gCons (gName o) gNil)))) tt te vs σ Q H := fun D hD => by
  have at1 : ∀ {i : Nat} {ys : List V} {H' : Hp}, (∀ o, S i ys (upd H' D o)) → H' D = some (.lst ys) → S i ys H' := fun {i ys H'} h e => by
    have z := h (.lst ys)
    rw [upd_id e] at z
    exact z
  refine lc_list (K := K) (a := a) (xs := xs) (fun i H' => CmP S D i H') ⟨[], Nat.le_refl _, fun o => by rw [upd_upd]; exact h0 D hD o, upd_same⟩ (fun i H' _ p => ?_) (fun i x H' hx p => ?_) (fun H' p => ?_)
  · obtain ⟨ys, h1, h2, h3⟩ := p
    exact hl i ys H' (at1 h2 h3)
  · obtain ⟨ys, h1, h2, h3⟩ := p
    obtain ⟨p, u, v, z, rfl, hp, k⟩ := he i x H' D ys hx h1 h3 (at1 h2 h3) h2
    exact r_tup3 hp ⟨hw u v z, k⟩
  · obtain ⟨ys, h1, h2, h3⟩ := p
    exact q D H' ys hD h3 (at1 h2 h3) h2
end
theorem op_ninD {X : Cx} (K : PySem.W.Frag) {k : Nat} (hr : Room k X.A) (h : X.K = K := by rfl) : OpR X (compareOp .NotIn) (rNotInD K) := h ▸ op_notInD (by have := hr.un; omega)
theorem op_inDK {X : Cx} (K : PySem.W.Frag) {k : Nat} (hr : Room k X.A) (h : X.K = K := by rfl) : OpR X (compareOp .In) (rInD K) := h ▸ op_inD (by have := hr.un; omega)
section
variable {K : PySem.W.Frag} {σ : L2.St} {H : Hp} {Q : VK} {a : Addr} {xs : List V} {vs : List Nat} {m n : Nat} {tt : TT} {te : TE} {k : SK} {k0 : Int}
/-- [e for u, v in enumerate(xs) if t] -/
theorem r_cmEA (S : Nat → List V → Hp → Prop) (hz : xs.length ≤ 100000) (hw : ∀ x y, wipe (((wipe σ vs).set m (some x)).set n (some y)) vs = wipe σ vs) (hl : ∀ i us H', S i us H' → k.Sq K H' a xs) (hx : ∀ i us H' H1, S i us H' → Ex H' H1 → S i us H1)
    (h0 : ∀ D, H D = none → ∀ u, S 0 [] (upd H D u))
    (he : ∀ i x H1 D acc, xs[i]? = some x → acc.length ≤ i → H1 D = some (.lst acc) → S i acc H1 → (∀ u, S i acc (upd H1 D u)) →
      tt (((wipe σ vs).set m (some (.int (k0 + (i : Int))))).set n (some x)) H1 fun b H2 => if b = true then te (((wipe σ vs).set m (some (.int (k0 + (i : Int))))).set n (some x)) H2 (fun y H3 => CmY S D i y H3) else CmP S D (i + 1) H2)
    (q : ∀ D H1 us, H D = none → H1 D = some (.lst us) → S xs.length us H1 → (∀ u, S xs.length us (upd H1 D u)) → Q (.ref D) H1) : rLc (ItE k K k0 a) (gTup K 2 (gCons (gName m) (gCons (gName n) gNil))) tt te vs σ Q H := fun D hD => by
  have at1 : ∀ {i : Nat} {us : List V} {H' : Hp}, (∀ u, S i us (upd H' D u)) → H' D = some (.lst us) → S i us H' := fun {i us H'} h e => by
    have z := h (.lst us)
    rw [upd_id e] at z
    exact z
  refine ⟨fun i d H' => d = xs.length - i ∧ i ≤ xs.length ∧ CmP S D i H', ⟨_, rfl, Nat.zero_le _, [], Nat.le_refl _, fun u => by rw [upd_upd]; exact h0 D hD u, upd_same⟩, ?_⟩
  rintro i d H' ⟨rfl, hi, us, h1, h2, h3⟩
  have hq := hl i us H' (at1 h2 h3)
  rcases Nat.lt_or_ge i xs.length with lt | ge
  · have ex := List.getElem?_eq_getElem lt
    refine .inr ⟨⟨xs, _, hq, ex⟩, CmP S D (i + 1), fun H1 q1 => ⟨xs.length - (i + 1), by omega, rfl, lt, q1⟩, ?_⟩
    rintro v H1 ⟨T, x, rfl, hT, rfl, e1⟩
    have ne : T ≠ D := fun z => by rw [z, h3] at hT; cases hT
    have s2 : ∀ u, S i us (upd (upd H' T (.tup [.int (k0 + (i : Int)), x])) D u) := fun u => by
      rw [upd_comm ne]
      exact hx _ _ _ _ (h2 u) (Ex.new (by rw [upd_ne ne]; exact hT))
    have d2 : upd H' T (.tup [.int (k0 + (i : Int)), x]) D = some (.lst us) := by rw [upd_ne ne.symm]; exact h3
    refine r_tup2 (t_of upd_same) ⟨hw _ x, ?_⟩
    exact he i x _ D us (e1 xs hq) h1 d2 (at1 s2 d2) s2
  · have e2 : i = xs.length := by omega
    subst e2
    exact .inl ⟨⟨xs, hq, rfl⟩, q D H' us hD h3 (at1 h2 h3) h2⟩
end
theorem shows_wl {n : Nat} {ws : List (List Int)} (sm : ∀ w ∈ ws, Sml w) (hz : ∀ w ∈ ws, w.length ≤ n) (hb : ws.length * (n + 1) ≤ 1000000) : Shows (.list (dWs ws)) := by
  have bk := wks_bulk hz
  refine Shows.of ?_ ?_ ?_ ?_ ?_
  · show PyData.showableAll (dWs ws) = true
    exact wks_can sm
  · show PyData.hasDictAll (dWs ws) = false
    exact wks_plain ws
  · have d := dWs_depth ws
    simp only [PyData.depth]
    omega
  · show PyData.leavesShortAll 13 (dWs ws) = true
    exact wks_short sm
  · simp only [PyData.bulk]
    omega
theorem r_rvs {K : PySem.W.Frag} {H : Hp} {Q : VK} {a : Addr} {xs : List V} (h : H a = some (.lst xs)) (q : ∀ H1, ExW a H H1 → H1 a = some (.lst xs.reverse) → Q .non H1) : rApp0 K "list" rReverse (.ref a) H Q := ⟨.inl ⟨rfl, xs, l_of h⟩, a, xs, rfl, rfl, h, q _ ExW.upd upd_same⟩
theorem tri_sml {L n : Nat} {d : Wb.Gm} (G : Wb.Gr L n d) (l4 : L ≤ 4) (hn : n ≤ 1000) {p : Wb.W3 → Bool} : ∀ w ∈ ((Wb.ways3 L n d).filter p).map Wb.tri, Sml w ∧ w.length ≤ 3 := fun w hw => by
  obtain ⟨y, hy, rfl⟩ := List.mem_map.mp hw
  have bd := Wb.ways_bd G (List.mem_filter.mp hy).1
  refine ⟨fun x hx => ?_, Nat.le_refl _⟩
  have e : x = (y.1 : Int) ∨ x = (y.2.1 : Int) + 1 ∨ x = (y.2.2 : Int) := by
    unfold Wb.tri at hx
    simpa using hx
  omega
theorem ways_len4 {L n : Nat} {d : Wb.Gm} (l4 : L ≤ 4) : (Wb.ways3 L n d).length ≤ n * 4 := Nat.le_trans (Wb.ways_len L d n) (Nat.mul_le_mul_left n l4)
theorem basis_sml {L n : Nat} {d : Wb.Gm} (W : Wb.Web L n d) : ∀ w ∈ Wb.basisW L n d, Stp (L : Int) w ∧ w.length ≤ 2 * n := fun w hw => by
  obtain ⟨y, hy, rfl⟩ := List.mem_map.mp hw
  have hw := (List.mem_filter.mp hy).1
  have bd := Wb.ways_bd W.gr hw
  have ga := Wb.fw_go W y.1 bd.1
  have gb := Wb.fw_go W y.2.2 bd.2.2
  have sa := (Od.of_G ga.2.1).1
  have sb := (Od.of_G gb.2.1).1
  have ma := ga.2.2
  have mb := gb.2.2
  unfold Wb.word
  refine ⟨fun x hx => ?_, ?_⟩
  · rcases List.mem_append.mp hx with hx | hx
    · rcases List.mem_append.mp hx with hx | hx
      · exact sa x hx
      · have : x = (y.2.1 : Int) + 1 := by simpa using hx
        omega
    · rw [bk_rev] at hx
      obtain ⟨z, hz, rfl⟩ := List.mem_map.mp hx
      have := sb z (List.mem_reverse.mp hz)
      omega
  · rw [List.length_append, List.length_append, Fg.bk_len]
    simp
    omega
end L2
/-! dicts counted: enumerate(d) -/
namespace L2
open PySem PySem.Spec PyProof.Rows Evl
section
variable {prog : Program} {w : World} {A : Around} {E Q : Value → Shared → Prop} {s : Shared} {it d : Addr} {i n ep : Nat} {od : Obj} {es : Array DictEntry} {en : DictEntry}
/-- the next key, asked by another iterator -/
theorem keyOf_item (I : s.heap.IsKeyIter it d i n ep) (ho : s.heap.get? d = some od) (hd : od.data = .dict es ep) (hn : es.size = n) (hx : es[i]? = some en)
    (q : ∀ h', h'.IsKeyIter it d (i + 1) n ep → Heap.SameBut it s.heap h' → Q en.key { s with heap := h' }) : wpAny (model prog w) A (Builtin.SmallTypes.nextOf (.ref it)) Q E s := by
  obtain ⟨o, o1, o2, o3⟩ := id I
  have T := I.typeIs
  have own : Builtin.Dict_items.ownsTuple "dict_keyiterator" = false := by decide
  have at' := Array.getElem?_eq_some_iff.mp hx
  have J : (s.heap.update it (Obj.mapFields (·.setIfInBounds 1 (rawInt ((i : Int) + 1))))).IsKeyIter it d (i + 1) n ep := by
    refine ⟨_, Heap.get?_update_self _ o1 (Obj.isFreed_of_fields (Obj.data_mapFields o3 _)), ?_, ?_⟩
    · rw [Obj.cls_mapFields]; exact o2
    · rw [Obj.data_mapFields o3]; simp [rawInt]
  have bs : ∀ {R : Nat → Shared → Prop} {s0 : Shared}, s0.TypeIs (.ref it) "dict_keyiterator" → R 0 s0 →
      wpAny (model prog w) A.in1 (typeNameOfWhole (.ref it) >>= fun nm => pure (if Builtin.Dict_items.ownsTuple nm then 2 else 0)) R E s0 := fun t r => by
    refine wpAny_bind (wpAny_typeNameOfWhole_keyiter t (wpAny_pure ?_))
    rw [own]
    exact r
  unfold Builtin.SmallTypes.nextOf
  refine wpAny_bind (wpAny_callSpecial?_slot (name := Str.ofString "__next__") T F.slot_dict_keyiterator_next ?_)
  refine wpAny_call_entry F.slot_dict_keyiterator_next T F.entry_dict_keyiterator_next ?_ (F.args_dict_keyiterator_next_1 _)
  refine wpAny_bind (wpAny_pure (wpAny_bind (wpAny_bind (bs T (wpAny_bind (wpAny_fieldsOf o1 o3 ?_))))))
  show wpAny _ _ (if (Value.ref d == Value.none) = true then _ else _ >>= _) _ _ s
  have z0 : ¬ ((Value.ref d == Value.none) = true) := Bool.false_ne_true
  rw [if_neg z0]
  refine wpAny_bind (wpAny_pure (wpAny_bind (wpAny_dictEntries ho hd ?_)))
  have z1 : ¬ (((es.size : Int) != (n : Int)) = true) := by rw [hn]; simp
  rw [if_neg z1]
  refine wpAny_bind (wpAny_pure (wpAny_bind (wpAny_dictEpoch ho hd ?_)))
  have z2 : ¬ (((ep : Int) != (ep : Int)) = true) := by simp
  rw [if_neg z2]
  refine wpAny_pure ?_
  obtain ⟨at1, at2⟩ := at'
  have z3 : ¬ ((i : Int) < 0) := by omega
  have z4 := Array.getElem?_eq_getElem at1
  simp only [z3, if_false, Int.toNat_natCast, z4]
  refine wpAny_bind (bs T (wpAny_bind (wpAny_isOneOf_keyiter T ?_)))
  refine wpAny_bind (wpAny_setField (x := rawInt ((i : Int) + 1)) o1 o3 (by simp) ?_)
  refine wpAny_bind (wpAny_holding (wpAny_bind (wpAny_isOneOf_keyiter J.typeIs ?_)))
  rw [at2]
  exact wpAny_pure (wpAny_pure ⟨_, rfl, wpAny_pure (q _ J (Heap.SameBut.update ..))⟩)
/-- none is left -/
theorem keyOf_end (hh : A.handled = none) (I : s.heap.IsKeyIter it d i n ep) (ho : s.heap.get? d = some od) (hd : od.data = .dict es ep) (hn : es.size = n) (hi : n ≤ i)
    (q : ∀ h' e, Heap.ExtBut it s.heap h' → (∃ o, h'.get? e = some o ∧ o.cls = .type "StopIteration") → E (.ref e) { s with heap := h' }) : wpAny (model prog w) A (Builtin.SmallTypes.nextOf (.ref it)) Q E s := by
  obtain ⟨o, o1, o2, o3⟩ := id I
  have T := I.typeIs
  have own : Builtin.Dict_items.ownsTuple "dict_keyiterator" = false := by decide
  have bs : ∀ {R : Nat → Shared → Prop} {s0 : Shared}, s0.TypeIs (.ref it) "dict_keyiterator" → R 0 s0 →
      wpAny (model prog w) A.in1 (typeNameOfWhole (.ref it) >>= fun nm => pure (if Builtin.Dict_items.ownsTuple nm then 2 else 0)) R E s0 := fun t r => by
    refine wpAny_bind (wpAny_typeNameOfWhole_keyiter t (wpAny_pure ?_))
    rw [own]
    exact r
  unfold Builtin.SmallTypes.nextOf
  refine wpAny_bind (wpAny_callSpecial?_slot (name := Str.ofString "__next__") T F.slot_dict_keyiterator_next ?_)
  refine wpAny_call_entry F.slot_dict_keyiterator_next T F.entry_dict_keyiterator_next ?_ (F.args_dict_keyiterator_next_1 _)
  refine wpAny_bind (wpAny_pure (wpAny_bind (wpAny_bind (bs T (wpAny_bind (wpAny_fieldsOf o1 o3 ?_))))))
  show wpAny _ _ (if (Value.ref d == Value.none) = true then _ else _ >>= _) _ _ s
  have z0 : ¬ ((Value.ref d == Value.none) = true) := Bool.false_ne_true
  rw [if_neg z0]
  refine wpAny_bind (wpAny_pure (wpAny_bind (wpAny_dictEntries ho hd ?_)))
  have z1 : ¬ (((es.size : Int) != (n : Int)) = true) := by rw [hn]; simp
  rw [if_neg z1]
  refine wpAny_bind (wpAny_pure (wpAny_bind (wpAny_dictEpoch ho hd ?_)))
  have z2 : ¬ (((ep : Int) != (ep : Int)) = true) := by simp
  rw [if_neg z2]
  refine wpAny_pure ?_
  have z3 : ¬ ((i : Int) < 0) := by omega
  have z4 : es[i]? = none := Array.getElem?_eq_none (by rw [hn]; exact hi)
  simp only [z3, if_false, Int.toNat_natCast, z4]
  refine wpAny_bind (bs T (wpAny_bind (wpAny_setField (x := .none) o1 o3 (by simp) ?_)))
  refine wpAny_bind ?_
  simp only [newExc, newTuple]
  refine wpAny_bind (wpAny_newObj_type ?_ (by size_fits))
  refine wpAny_bind (m := firstArgMember _ _) (wpAny_of_eq (a := Value.none) (by first | (simp only [firstArgMember]; rfl) | rfl) ?_)
  refine wpAny_newObj_type ?_ (by size_fits)
  simp only [raiseNew]
  refine wpAny_bind (wpAny_handled ?_)
  have hh1 : A.in1.handled = none := hh
  rw [hh1]
  refine wpAny_bind (wpAny_pure (wpAny_throw (q _ _ (((Heap.SameBut.update ..).extBut.push _).push _) ?_)))
  exact ⟨_, Heap.get?_push_size _ rfl, rfl⟩
end
theorem vals_of : ∀ {xs : List V} {us : List Value}, xs.length = us.length → (∀ (i : Nat) (x : V) (u : Value), xs[i]? = some x → us[i]? = some u → RelV x u) → Vals xs us
  | [], [], _, _ => .nil
  | [], _ :: _, h, _ => nomatch h
  | _ :: _, [], h, _ => nomatch h
  | x :: xs, u :: us, h, k => .cons (k 0 x u rfl rfl) (vals_of (Nat.succ.inj h) fun i x u a b => k (i + 1) x u a b)
def esz (o : Obj) : Nat := match o.data with
  | .dict es _ => es.size
  | _ => 0
def epz (o : Obj) : Nat := match o.data with
  | .dict _ ep => ep
  | _ => 0
theorem esz_eq {o : Obj} {es : Array DictEntry} {ep : Nat} (h : o.data = .dict es ep) : esz o = es.size ∧ epz o = ep := by
  unfold esz epz
  rw [h]
  exact ⟨rfl, rfl⟩
/-- what stands at a dict's place -/
def IsKd (o : Obj) (h : Heap) (a : Addr) (its : Array Value) : Prop := h.get? a = some o ∧ o.ExactDict ∧ (a == sysModules) = false ∧ ∃ es ep, o.data = .dict es ep ∧ its = es.map (·.key)
theorem key_draws {o : Obj} {P : Program} {w : World} {A : Around} (hh : A.handled = none) (it a : Addr) (ne : a ≠ it) (its : Array Value) : Draws P w A it [it, a] its.size (fun i v => its[i]? = some v) (fun i h => h.IsKeyIter it a i (esz o) (epz o) ∧ IsKd o h a its) where
  live := fun _ _ st => let ⟨o, ho, _⟩ := st.1; ⟨o, ho⟩
  frame := fun i h h' st hk => by
    obtain ⟨⟨x, k1, k2⟩, d1, d2⟩ := st
    exact ⟨⟨x, hk it (by simp) _ k1, k2⟩, hk a (by simp) _ d1, d2⟩
  item := fun i s Q E hi st hQ => by
    obtain ⟨k, d1, d2, d3, es, ep, e1, e2⟩ := st
    obtain ⟨z1, z2⟩ := esz_eq e1
    have hs : i < es.size := by rw [e2, Array.size_map] at hi; exact hi
    refine keyOf_item (en := es[i]) k d1 (z2 ▸ e1) z1.symm (Array.getElem?_eq_getElem hs) fun h' k' sb => ?_
    refine hQ _ h' s.toks ?_ ⟨k', (sb.2 a ne).trans d1, d2, d3, es, ep, e1, e2⟩ sb
    rw [e2, Array.getElem?_map, Array.getElem?_eq_getElem hs]
    rfl
  done := fun s Q E st hE => by
    obtain ⟨k, d1, d2, d3, es, ep, e1, e2⟩ := st
    obtain ⟨z1, z2⟩ := esz_eq e1
    refine keyOf_end hh k d1 (z2 ▸ e1) z1.symm ?_ hE
    rw [e2, Array.size_map, z1]
    exact Nat.le_refl _
/-- the keys of a dict that stands still, as a sequence -/
def skD (o : Obj) : SK where
  Sq := fun _ H a xs => ∃ kvs, H a = some (.frz o (.dK kvs)) ∧ xs = kvs.map fun kv => kV kv.1
  Is := IsKd o
  It := fun h it a i => h.IsKeyIter it a i (esz o) (epz o)
  o := fun a => { cls := .type "dict_keyiterator", data := .fields #[.ref a, .int 0 0, .int (esz o : Int) 0, .int (epz o : Int) 0] }
  seen := fun {X pins σ H s a xs} I q => by
    obtain ⟨kvs, hd, rfl⟩ := q
    obtain ⟨h1, h2, h3, es, ep, vs, h4, h5, h6, h7⟩ := I.frzK hd
    obtain ⟨o', es', g1, g2, g3, g4, g5, g6⟩ := h7
    rw [h2] at g1
    cases g1
    obtain ⟨rfl, _⟩ := dict_ep h4 g3
    have hl : kvs.length = vs.length := Paired.length h6
    refine ⟨es'.toList.map (·.key), vals_of (by simp [h5]) fun i x u hx hu => ?_, h2, h3, h1, es', ep, h4, ?_⟩
    · rw [List.getElem?_map] at hx hu
      cases hk : kvs[i]? with
      | none => rw [hk] at hx; cases hx
      | some kv =>
        rw [hk] at hx
        cases hx
        cases he : es'.toList[i]? with
        | none => rw [he] at hu; cases hu
        | some en =>
          rw [he] at hu
          cases hu
          obtain ⟨v, hv, _⟩ := kv_get h6 (show kvs[i]? = some (kv.1, kv.2) from hk)
          exact relV_key (g5.get? he hv).1
    · rw [← List.map_toArray, Array.toArray_toList]
  one := fun {X pins σ H s a xs ys} I q r => by
    obtain ⟨kvs, h1, rfl⟩ := q
    obtain ⟨kvs2, h2, rfl⟩ := r
    rw [h1] at h2
    cases h2
    rfl
  lt := fun h => Heap.lt_size h.1
  draws := fun hh it a ne its => key_draws hh it a ne its
  begins := fun a its =>
    { iter := fun prog w A E s Q h q => by
        obtain ⟨h1, h2, h3, es, ep, e1, e2⟩ := h
        obtain ⟨z1, z2⟩ := esz_eq e1
        refine iter_keys h3 h1 h2 e1 ?_
        rw [← z1, ← z2]
        exact q
      keeps := fun h h' x hk => ⟨hk _ _ x.1, x.2⟩
      free := rfl }
  it0 := fun e => ⟨_, e, rfl, rfl⟩
  live := fun h => let ⟨ob, e, _, d⟩ := h; ⟨ob, e, fun v q => nomatch d.symm.trans q⟩
  keep := fun h k => let ⟨ob, e, d⟩ := h; ⟨ob, k _ e, d⟩
/-- enumerate(d), d a dict that nobody holds but this -/
def iEnumD (K : PySem.W.Frag) (ta : TA) : TI := fun σ H R => ta σ H fun vs H1 => ∃ d kvs, vs = [.ref d] ∧ H1 d = some (.dK kvs) ∧ ∀ o, R (ItE (skD o) K 0 d) (upd H1 d (.frz o (.dK kvs)))
theorem pi_enumD {X : Cx} (K : PySem.W.Frag) {e : Expr} {ta : TA} {p pos tpos : Pos} {elts : List Expr} {kk : Nat} (hg : Gl X "enumerate") (hm : X.mg "enumerate" = none) (ha : PA X [e] ta)
    (hs : starEach [e] X.env = [(false, eval e X.env)] := by rfl) (h : X.K = K := by rfl) :
    PI X (.Tuple elts kk tpos) (.Call (.Name "enumerate" p) [e] [] pos) (iEnumD K ta) := by
  cases h
  constructor
  intro pins s σ H R I h
  refine Call_ (ld_blt I hg hm boot_enumerate (PyProof.Rows.callWith_type1 (thn (ha.run pos pins s σ H _ I h) fun us s1 got => ?_) hs rfl))
  obtain ⟨vs, H1, J0, r, d, kvs, ex, hd, q⟩ := got
  subst ex
  have ru : us = [Value.ref d] := by
    cases r with
    | cons r0 rr => cases rr; rw [show _ = Value.ref d from r0]
  subst ru
  obtain ⟨o, J⟩ := J0.lock hd trivial
  have hq : (skD o).Sq X.K (upd H1 d (.frz o (.dK kvs))) d (kvs.map fun kv => kV kv.1) := ⟨kvs, upd_same, rfl⟩
  obtain ⟨its, rv, p'⟩ := (skD o).seen J hq
  have al := (skD o).lt p'
  refine enum1_call ((skD o).begins d its.toArray) p' fun h' he hi hk => wpAny_pyIter_enum he ?_
  refine ⟨s1.heap.objs.size + 1, [s1.heap.objs.size + 1, s1.heap.objs.size], _, _, _, rfl, J.kept (t' := s1.toks) hk, turn_enumE (skD o) 0 d (s1.heap.objs.size + 1) s1.heap.objs.size, ?_, fun b hb => ?_, q o⟩
  · exact ⟨⟨.none, he⟩, (skD o).it0 hi, Nat.succ_ne_self _, Nat.ne_of_lt al, Nat.ne_of_gt (Nat.lt_succ_of_lt al)⟩
  · have hle : s1.heap.objs.size ≤ b := by
      rcases List.mem_cons.mp hb with z | hb
      · rw [z]; exact Nat.le_succ _
      · rw [List.mem_singleton.mp hb]; exact Nat.le_refl _
    exact J.fpOk hle (J.hok.fresh hle)
theorem pg_lstK (K : PySem.W.Frag) {X : Cx} {es : List Expr} {k : Nat} {t : TGs} {n : Nat} {pos : Pos} (hc : X.calm = true) (h : PGs X es t) (hn : (assignEach es X.env).length = n := by rfl) (hst : (assignEach es X.env).findIdx? (·.1) = none := by rfl) (hK : X.K = K := by rfl) : PG X (.Tuple es k pos) (gLst K n t) := hK ▸ pg_lst hc h hn hst
theorem r_lst2 {K : PySem.W.Frag} {σ : L2.St} {H : Hp} {i j : Nat} {x y : V} {a : Addr} {R : L2.St → Hp → Prop} (h : SqL K H a [x, y]) (q : R ((σ.set i (some x)).set j (some y)) H) : gLst K 2 (gCons (gName i) (gCons (gName j) gNil)) (.ref a) σ H R :=
  ⟨a, _, rfl, h, rfl, x, [y], rfl, y, [], rfl, rfl, q⟩
def rItED (K : PySem.W.Frag) (vs : List V) (R : It → Hp → Prop) (H1 : Hp) : Prop := ∃ d kvs, vs = [.ref d] ∧ H1 d = some (.dK kvs) ∧ ∀ o, R (ItE (skD o) K 0 d) (upd H1 d (.frz o (.dK kvs)))
theorem st_enumD {K : PySem.W.Frag} {ta : TA} {σ : L2.St} {H : Hp} {R : It → Hp → Prop} (h : ta σ H fun us H1 => rItED K us R H1) : iEnumD K ta σ H R := h
end L2
/-! petals, as sequences of ints -/
namespace Pt
open L2
/-- the rooms along a ring of so many steps -/
def places (n : Int) (z : Nat) : List Int := [0] ++ rgI n (n + z - 1) ++ [0]
theorem places_len (n : Int) (z : Nat) : (places n z).length = (z - 1) + 2 := by
  unfold places
  rw [List.length_append, List.length_append, rgI_len]
  simp
  omega
def wy (p q x : Int) : List Int := if 0 < x then [p, x, q] else [q, -x, p]
def way (n : Int) (s : List Int) (i : Nat) : List Int := wy ((places n s.length).getD i 0) ((places n s.length).getD (i + 1) 0) (s.getD i 0)
def ring (n : Int) (s : List Int) (k : Nat) : List (List Int) := (List.range k).map (way n s)
theorem ring_succ (n : Int) (s : List Int) (k : Nat) : ring n s (k + 1) = ring n s k ++ [way n s k] := by
  unfold ring
  rw [List.range_succ, List.map_append]
  rfl
theorem ring_len (n : Int) (s : List Int) (k : Nat) : (ring n s k).length = k := by
  unfold ring
  rw [List.length_map, List.length_range]
def stp (st : Int × List (List Int)) (w : List Int) : Int × List (List Int) := (st.1 + max 0 (((Fg.rd w).length : Int) - 1), st.2 ++ ring st.1 (Fg.rd w) (Fg.rd w).length)
def pet (ws : List (List Int)) : Int × List (List Int) := ws.foldl stp (1, [])
theorem pet_snoc (ws : List (List Int)) (w : List Int) : pet (ws ++ [w]) = stp (pet ws) w := by
  unfold pet
  rw [List.foldl_append]
  rfl
theorem pet_take {ws : List (List Int)} {i : Nat} {w : List Int} (h : ws[i]? = some w) : pet (ws.take (i + 1)) = stp (pet (ws.take i)) w := by
  rw [take_snoc h, pet_snoc]
theorem stp_rd (st : Int × List (List Int)) (w : List Int) : stp st (Fg.rd w) = stp st w := by
  unfold stp
  rw [Fg.rd_str (Fg.str_rd w)]
theorem stp_nil (st : Int × List (List Int)) {w : List Int} (h : Fg.rd w = []) : stp st w = st := by
  unfold stp
  rw [h]
  show (st.1 + max 0 ((0 : Int) - 1), st.2 ++ []) = st
  rw [List.append_nil, show max (0 : Int) (0 - 1) = 0 by decide, Int.add_zero]
/-- what falls away adds nothing -/
theorem pet_bare (ws : List (List Int)) (st : Int × List (List Int)) : ((ws.filter fun w => decide (Fg.rd w ≠ [])).map Fg.rd).foldl stp st = ws.foldl stp st := by
  induction ws generalizing st with
  | nil => rfl
  | cons w ws ih =>
    by_cases h : Fg.rd w = []
    · rw [List.filter_cons_of_neg (by simp [h]), List.foldl_cons, stp_nil st h]
      exact ih st
    · rw [List.filter_cons_of_pos (by simp [h]), List.map_cons, List.foldl_cons, List.foldl_cons, stp_rd]
      exact ih _
/-! ### how great it is -/
theorem rgI_mem {a b x : Int} (h : x ∈ rgI a b) : a ≤ x ∧ x < b := by
  unfold rgI at h
  obtain ⟨i, hi, rfl⟩ := List.mem_map.mp h
  have := List.mem_range.mp hi
  omega
theorem places_mem {n x : Int} {z : Nat} (hn : 0 ≤ n) (h : x ∈ places n z) : 0 ≤ x ∧ x ≤ n + z := by
  unfold places at h
  rcases List.mem_append.mp h with h | h
  · rcases List.mem_append.mp h with h | h
    · rw [List.mem_singleton.mp h]; omega
    · have := rgI_mem h; omega
  · rw [List.mem_singleton.mp h]; omega
theorem getD_mem0 {ns : List Int} (i : Nat) : ns.getD i 0 = 0 ∨ ns.getD i 0 ∈ ns := by
  rw [List.getD_eq_getElem?_getD]
  cases h : ns[i]? with
  | none => exact .inl rfl
  | some x => exact .inr (List.mem_of_getElem? h)
/-- a way of so many rooms -/
def Wy (b : Int) (w : List Int) : Prop := ∃ p x q, w = [p, x, q] ∧ 0 ≤ p ∧ p ≤ b ∧ 0 ≤ q ∧ q ≤ b ∧ 0 ≤ x ∧ x ≤ 4
theorem Wy.more {b c : Int} {w : List Int} (h : Wy b w) (e : b ≤ c) : Wy c w := by
  obtain ⟨p, x, q, rfl, h1⟩ := h
  exact ⟨p, x, q, rfl, by omega⟩
theorem way_wy {n : Int} {s : List Int} (i : Nat) (hn : 0 ≤ n) (hs : Stp 4 s) : Wy (n + s.length) (way n s i) := by
  have bd : ∀ j, 0 ≤ (places n s.length).getD j 0 ∧ (places n s.length).getD j 0 ≤ n + s.length := fun j => by
    rcases getD_mem0 (ns := places n s.length) j with e | e
    · rw [e]; omega
    · exact places_mem hn e
  have sx : -4 ≤ s.getD i 0 ∧ s.getD i 0 ≤ 4 := by
    rcases getD_mem0 (ns := s) i with e | e
    · rw [e]; omega
    · exact (hs _ e).2
  have b1 := bd i
  have b2 := bd (i + 1)
  unfold way wy
  split
  · exact ⟨_, _, _, rfl, by omega⟩
  · exact ⟨_, _, _, rfl, by omega⟩
structure Ok (st : Int × List (List Int)) (b : Nat) : Prop where
  lo : 1 ≤ st.1
  hi : st.1 ≤ 1 + b
  len : st.2.length ≤ b
  wys : ∀ w ∈ st.2, Wy (1 + b) w
theorem Ok.stp {st : Int × List (List Int)} {b k : Nat} {w : List Int} (h : Ok st b) (hw : Stp 4 w) (hz : w.length ≤ k) : Ok (stp st w) (b + k) := by
  have z := Nat.le_trans (Fg.rd_len w) hz
  have s := L2.stp_rd hw
  have h1 := h.lo
  have h2 := h.hi
  have h3 := h.len
  refine ⟨?_, ?_, ?_, fun u hu => ?_⟩
  · show 1 ≤ st.1 + max 0 (((Fg.rd w).length : Int) - 1)
    omega
  · show st.1 + max 0 (((Fg.rd w).length : Int) - 1) ≤ _
    omega
  · show (st.2 ++ ring st.1 (Fg.rd w) (Fg.rd w).length).length ≤ _
    rw [List.length_append, ring_len]
    omega
  · rcases List.mem_append.mp (show u ∈ st.2 ++ ring st.1 (Fg.rd w) (Fg.rd w).length from hu) with hu | hu
    · exact (h.wys u hu).more (by omega)
    · obtain ⟨i, _, rfl⟩ := List.mem_map.mp hu
      exact (way_wy i (by omega) s).more (by omega)
theorem pet_ok {ws : List (List Int)} {k : Nat} (h : ∀ w ∈ ws, Stp 4 w ∧ w.length ≤ k) : ∀ i, i ≤ ws.length → Ok (pet (ws.take i)) (i * k)
  | 0, _ => ⟨show (1 : Int) ≤ 1 by decide, show (1 : Int) ≤ 1 + ((0 * k : Nat) : Int) by omega, Nat.zero_le _, fun w hw => (nomatch hw)⟩
  | i + 1, hi => by
    have hx := List.getElem?_eq_getElem (show i < ws.length by omega)
    obtain ⟨h1, h2⟩ := h _ (List.mem_of_getElem? hx)
    have ih := pet_ok h i (by omega)
    rw [pet_take hx, Nat.succ_mul]
    exact ih.stp h1 h2
theorem pet_ok' {ws : List (List Int)} {k : Nat} (h : ∀ w ∈ ws, Stp 4 w ∧ w.length ≤ k) : Ok (pet ws) (ws.length * k) := by
  have := pet_ok h ws.length (Nat.le_refl _)
  rwa [List.take_length] at this
end Pt
namespace L2
open PySem PySem.Spec PyProof.Rows Evl
/-- a tuple of a number and a list of ways -/
structure PtV (K : PySem.W.Frag) (H : Hp) (q l : Addr) (st : Int × List (List Int)) : Prop where
  ex : ∃ xs, SqT K H q [.int st.1, .ref l] ∧ H l = some (.lst xs) ∧ WkA K H xs st.2
def dPt (st : Int × List (List Int)) : PyData := .tuple [.int st.1, .list (dWs st.2)]
theorem PtV.dp {K : PySem.W.Frag} {H : Hp} {q l : Addr} {st : Int × List (List Int)} (h : PtV K H q l st) : Dp K H (.ref q) (dPt st) := by
  obtain ⟨xs, h1, h2, h3⟩ := h.ex
  exact .tup h1 (.cons (.int _) (.cons (dp_wl (l_of h2) h3) .nil))
theorem shows_pt {st : Int × List (List Int)} {b : Nat} (h : Pt.Ok st b) (hb : b ≤ 50000) : Shows (dPt st) := by
  have h1 := h.lo
  have h2 := h.hi
  have h3 := h.len
  have sm : ∀ w ∈ st.2, Sml w := fun w hw x hx => by
    obtain ⟨p, y, q, rfl, h4⟩ := h.wys w hw
    have e : x = p ∨ x = y ∨ x = q := by simpa using hx
    omega
  have l3 : ∀ w ∈ st.2, w.length ≤ 3 := fun w hw => by
    obtain ⟨p, y, q, rfl, _⟩ := h.wys w hw
    exact Nat.le_refl 3
  have bk := wks_bulk l3
  have i1 : st.1.natAbs < 10 ^ 12 := by omega
  refine Shows.of ?_ ?_ ?_ ?_ ?_
  · show (PyData.showable (.int st.1) && (PyData.showableAll (dWs st.2) && true)) = true
    rw [int_can i1, wks_can sm]
    rfl
  · show (false || (PyData.hasDictAll (dWs st.2) || false)) = false
    rw [wks_plain]
    rfl
  · have d := dWs_depth st.2
    unfold dPt
    simp only [PyData.depth, PyData.depthAll]
    omega
  · show (PyData.leavesShort 13 (.int st.1) && (PyData.leavesShortAll 13 (dWs st.2) && true)) = true
    rw [int_short i1, wks_short sm]
    rfl
  · show 0 + 1 + (PyData.bulkAll (dWs st.2) + 1 + 0) ≤ 2 ^ 20
    omega
end L2
/-! what walks make; the folding of their petals -/
namespace Fo
open L2 Wb
/-- what a list of walks makes -/
inductive Sg (ws : List (List Int)) : List Int → Prop
  | nil : Sg ws []
  | gen {w : List Int} : w ∈ ws → Sg ws w
  | app {u v : List Int} : Sg ws u → Sg ws v → Sg ws (u ++ v)
  | bk {u : List Int} : Sg ws u → Sg ws (Fg.bk u)
  | eqv {u v : List Int} : Sg ws u → Fg.Eqv u v → Sg ws v
variable {ws : List (List Int)} {u v w : List Int}
theorem Sg.mono {ws2 : List (List Int)} (h : ∀ w ∈ ws, Sg ws2 w) : Sg ws u → Sg ws2 u := fun k => by
  induction k with
  | nil => exact .nil
  | gen m => exact h _ m
  | app _ _ a b => exact a.app b
  | bk _ a => exact a.bk
  | eqv _ e a => exact a.eqv e
theorem sg_rd : Sg ws (Fg.rd u) ↔ Sg ws u := ⟨fun h => h.eqv (Fg.eqv_rd _ u rfl), fun h => h.eqv (Fg.eqv_rd _ u rfl).symm⟩
/-- in one coset -/
def Cs (ws : List (List Int)) (u v : List Int) : Prop := Sg ws (u ++ Fg.bk v)
theorem Cs.refl (u : List Int) : Cs ws u u := Sg.nil.eqv (Fg.eqv_bk u).symm
theorem Cs.symm (h : Cs ws u v) : Cs ws v u := by
  have k := Sg.bk h
  rw [Fg.bk_app, Fg.bk_bk] at k
  exact k
theorem Cs.trans (h : Cs ws u v) (k : Cs ws v w) : Cs ws u w := by
  refine (Sg.app h k).eqv ?_
  have z := ((Fg.Eqv.refl u).app (Fg.eqv_kb v)).app (Fg.Eqv.refl (Fg.bk w))
  rw [List.append_nil] at z
  rw [show u ++ Fg.bk v ++ (v ++ Fg.bk w) = u ++ (Fg.bk v ++ v) ++ Fg.bk w by simp]
  exact z
theorem Cs.step (h : Cs ws u v) (s : List Int) : Cs ws (u ++ s) (v ++ s) := by
  refine Sg.eqv h ?_
  rw [Fg.bk_app]
  have z := (((Fg.Eqv.refl u).app (Fg.eqv_bk s)).app (Fg.Eqv.refl (Fg.bk v))).symm
  rw [List.append_nil] at z
  rw [show u ++ s ++ (Fg.bk s ++ Fg.bk v) = u ++ (s ++ Fg.bk s) ++ Fg.bk v by simp]
  exact z
theorem Cs.eqv {u' v' : List Int} (h : Cs ws u v) (e : Fg.Eqv u u') (f : Fg.Eqv v v') : Cs ws u' v' := Sg.eqv h (e.app f.bk)
theorem cs_nil : Cs ws u [] ↔ Sg ws u := by
  unfold Cs
  rw [show Fg.bk [] = [] from rfl, List.append_nil]
/-- one step there is one step back -/
theorem Cs.rev {s : Int} (h : Cs ws (u ++ [s]) v) : Cs ws (v ++ [-s]) u := by
  have k := (h.step [-s]).symm
  refine k.eqv (.refl _) ?_
  have z := Fg.eqv_cut u [] s
  rw [List.append_nil, List.append_nil] at z
  rw [List.append_assoc]
  exact z
/-! ### walks that belong -/
def Bl (d : Gm) (w : List Int) : Prop := go d 0 (Fg.rd w) = some 0
variable {L n : Nat} {d : Gm}
theorem Bl.of (G : Gr L n d) (h : go d 0 w = some 0) : Bl d w := go_rd G w h
theorem Bl.app (G : Gr L n d) (h : Bl d u) (k : Bl d v) : Bl d (u ++ v) := by
  have z : go d 0 (Fg.rd u ++ Fg.rd v) = some 0 := by
    rw [go_app, h]
    exact k
  have z := go_rd G _ z
  rwa [Fg.rd_app] at z
theorem Bl.bk (G : Gr L n d) (h : Bl d u) : Bl d (Fg.bk u) := by
  unfold Bl
  rw [Fg.rd_bk]
  exact go_bk G h
theorem bl_nil : Bl d [] := rfl
theorem Bl.eqv (h : Bl d u) (e : Fg.Eqv u v) : Bl d v := by
  unfold Bl at h ⊢
  rwa [← Fg.rd_eq e]
theorem bl_rd : Bl d (Fg.rd u) ↔ Bl d u := by
  unfold Bl
  rw [Fg.rd_rd]
theorem sg_bl (G : Gr L n d) (h : ∀ w ∈ ws, Bl d w) : Sg ws u → Bl d u := fun k => by
  induction k with
  | nil => exact bl_nil
  | gen m => exact h _ m
  | app _ _ a b => exact Bl.app G a b
  | bk _ a => exact Bl.bk G a
  | eqv _ e a => exact a.eqv e
theorem lab_go {lab : Nat → List Int} (h : ∀ r s g, d r s = some g → Cs ws (lab r ++ [s]) (lab g)) : ∀ (w : List Int) (r g : Nat), go d r w = some g → Cs ws (lab r ++ w) (lab g)
  | [], r, g, e => by
    cases e
    rw [List.append_nil]
    exact Cs.refl _
  | s :: w, r, g, e => by
    cases k : d r s with
    | none => rw [go_stop k] at e; cases e
    | some x =>
      rw [go_cons k] at e
      have z := ((h r s x k).step w).trans (lab_go h w x g e)
      rw [List.append_assoc] at z
      exact z
theorem bl_sg {lab : Nat → List Int} (h : ∀ r s g, d r s = some g → Cs ws (lab r ++ [s]) (lab g)) (h0 : lab 0 = []) (k : Bl d w) : Sg ws w := by
  have z := lab_go h _ 0 0 k
  rw [h0, List.nil_append, cs_nil] at z
  exact sg_rd.mp z
/-! ### petals -/
abbrev Yw := Nat × Int × Nat
def y3 (y : Yw) : List Int := [(y.1 : Int), y.2.1, (y.2.2 : Int)]
def nr (y : Yw) (s : Int) : Nat := if 0 < s then y.1 else y.2.2
def fr (y : Yw) (s : Int) : Nat := if 0 < s then y.2.2 else y.1
def On (y : Yw) (s : Int) : Prop := s = y.2.1 ∨ s = -y.2.1
structure YOk (L n : Nat) (Y : List Yw) : Prop where
  ok : ∀ y ∈ Y, y.1 < n ∧ y.2.2 < n ∧ 1 ≤ y.2.1 ∧ y.2.1 ≤ (L : Int)
theorem YOk.nr {Y : List Yw} (h : YOk L n Y) {y : Yw} (m : y ∈ Y) (s : Int) : nr y s < n := by
  have := h.ok y m
  unfold Fo.nr
  split <;> omega
theorem YOk.fr {Y : List Yw} (h : YOk L n Y) {y : Yw} (m : y ∈ Y) (s : Int) : fr y s < n := by
  have := h.ok y m
  unfold Fo.fr
  split <;> omega
theorem YOk.st {Y : List Yw} (h : YOk L n Y) {y : Yw} (m : y ∈ Y) {s : Int} (o : On y s) : s ∈ Od.steps L := by
  have := h.ok y m
  rw [Od.mem_steps]
  rcases o with o | o <;> omega
theorem YOk.neg {Y : List Yw} (h : YOk L n Y) {y : Yw} (m : y ∈ Y) {s : Int} (o : On y s) : Fo.nr y (-s) = Fo.fr y s ∧ Fo.fr y (-s) = Fo.nr y s ∧ On y (-s) := by
  have := h.ok y m
  unfold Fo.nr Fo.fr On
  rcases o with o | o
  · rw [if_neg (by omega), if_pos (by omega), if_neg (by omega), if_pos (by omega)]
    exact ⟨rfl, rfl, .inr (by omega)⟩
  · rw [if_pos (by omega), if_neg (by omega), if_pos (by omega), if_neg (by omega)]
    exact ⟨rfl, rfl, .inl (by omega)⟩
/-- a way from room to room by a step -/
def yw (p q : Nat) (x : Int) : Yw := if 0 < x then (p, x, q) else (q, -x, p)
theorem yw_on {p q : Nat} {x : Int} : On (yw p q x) x ∧ nr (yw p q x) x = p ∧ fr (yw p q x) x = q := by
  unfold On nr fr yw
  by_cases h : 0 < x
  · rw [if_pos h, if_pos h, if_pos h]
    exact ⟨.inl rfl, rfl, rfl⟩
  · rw [if_neg h, if_neg h, if_neg h]
    exact ⟨.inr (by simp), rfl, rfl⟩
/-- where the ring of a walk goes -/
def pl (n z j : Nat) : Nat := if j = 0 ∨ z ≤ j then 0 else n + j - 1
theorem pl_eq {n z j : Nat} (hz : 1 ≤ z) (hj : j ≤ z) : (Pt.places (n : Int) z).getD j 0 = (pl n z j : Int) := by
  have hl := Pt.places_len (n : Int) z
  have hr : (rgI (n : Int) ((n : Int) + (z : Int) - 1)).length = z - 1 := by rw [rgI_len]; omega
  rw [List.getD_eq_getElem?_getD]
  unfold Pt.places pl
  by_cases h0 : j = 0
  · subst h0
    rfl
  · by_cases h1 : z ≤ j
    · have : j = z := by omega
      subst this
      rw [List.getElem?_append_right (by rw [List.length_append, hr]; simp; omega), List.length_append, hr]
      rw [show j - ([(0 : Int)].length + (j - 1)) = 0 by simp; omega]
      rw [if_pos (by omega)]
      rfl
    · rw [List.getElem?_append_left (by rw [List.length_append, hr]; simp; omega), List.getElem?_append_right (by simp; omega)]
      rw [if_neg (by omega)]
      unfold rgI
      rw [List.getElem?_map, List.getElem?_range (by simp; omega)]
      simp
      omega
theorem way_eq {n : Nat} {s : List Int} {i : Nat} (hi : i < s.length) : Pt.way (n : Int) s i = y3 (yw (pl n s.length i) (pl n s.length (i + 1)) (s.getD i 0)) := by
  unfold Pt.way
  rw [pl_eq (by omega) (by omega), pl_eq (by omega) (by omega)]
  unfold Pt.wy yw y3
  split <;> rfl
structure Pet (L n : Nat) (Y : List Yw) (GW ws : List (List Int)) (lab : Nat → List Int) : Prop where
  pos : 1 ≤ n
  ok : YOk L n Y
  lab0 : lab 0 = []
  cs : ∀ y ∈ Y, Cs GW (lab y.1 ++ [y.2.1]) (lab y.2.2)
  rd : ∀ (d : Gm) (L' m : Nat) (φ : Nat → Nat), Gr L' m d → φ 0 = 0 → (∀ y ∈ Y, d (φ y.1) y.2.1 = some (φ y.2.2)) → ∀ w ∈ ws, Bl d w
  two : ∀ r, 0 < r → r < n → ∃ y z s t, y ∈ Y ∧ z ∈ Y ∧ On y s ∧ On z t ∧ nr y s = r ∧ nr z t = r ∧ s ≠ t
theorem cs_yw {GW : List (List Int)} {lab : Nat → List Int} {p q : Nat} {x : Int} (h : Cs GW (lab p ++ [x]) (lab q)) : Cs GW (lab (yw p q x).1 ++ [(yw p q x).2.1]) (lab (yw p q x).2.2) := by
  unfold yw
  by_cases c : 0 < x
  · rw [if_pos c]
    exact h
  · rw [if_neg c]
    exact h.rev
theorem go_yw {d : Gm} {L m : Nat} (G : Gr L m d) {φ : Nat → Nat} {p q : Nat} {x : Int} (h : d (φ (yw p q x).1) (yw p q x).2.1 = some (φ (yw p q x).2.2)) : d (φ p) x = some (φ q) := by
  unfold yw at h
  by_cases c : 0 < x
  · rw [if_pos c] at h
    exact h
  · rw [if_neg c] at h
    have := G.sym _ _ _ h
    rwa [Int.neg_neg] at this
theorem pet_of {L : Nat} {GW : List (List Int)} : ∀ ws : List (List Int), (∀ w ∈ ws, w ∈ GW ∧ ∀ x ∈ w, x ∈ Od.steps L) → ∃ (n : Nat) (Y : List Yw) (lab : Nat → List Int), (Pt.pet ws).1 = (n : Int) ∧ (Pt.pet ws).2 = Y.map y3 ∧ Pet L n Y GW ws lab := by
  intro ws
  refine Od.snoc_ind (C := fun ws => (∀ w ∈ ws, w ∈ GW ∧ ∀ x ∈ w, x ∈ Od.steps L) → ∃ (n : Nat) (Y : List Yw) (lab : Nat → List Int), (Pt.pet ws).1 = (n : Int) ∧ (Pt.pet ws).2 = Y.map y3 ∧ Pet L n Y GW ws lab) (fun _ => ?_) (fun ws w ih h => ?_) ws
  · exact ⟨1, [], fun _ => [], rfl, rfl, Nat.le_refl _, ⟨fun y m => nomatch m⟩, rfl, fun y m => (nomatch m), fun d L' m φ _ _ _ w hw => (nomatch hw), fun r h0 h1 => by omega⟩
  · obtain ⟨n, Y, lab, e1, e2, P⟩ := ih fun w hw => h w (List.mem_append_left _ hw)
    obtain ⟨hg, hx⟩ := h w (List.mem_append_right _ List.mem_cons_self)
    rw [Pt.pet_snoc]
    obtain ⟨s, hs⟩ : ∃ s, Fg.rd w = s := ⟨_, rfl⟩
    have hstr : Fg.Str s := hs ▸ Fg.str_rd w
    have hss : ∀ x ∈ s, x ∈ Od.steps L := fun x m => hx x (by rw [← hs] at m; exact Fg.mem_rd m)
    have pos := P.pos
    unfold Pt.stp
    rw [hs, e1, e2]
    rcases Nat.eq_zero_or_pos s.length with z0 | zp
    · refine ⟨n, Y, lab, by rw [z0]; simp; omega, by rw [z0]; show Y.map y3 ++ [] = _; rw [List.append_nil], P.pos, P.ok, P.lab0, P.cs, fun d L' m φ G h0 hy v hv => ?_, P.two⟩
      rcases List.mem_append.mp hv with hv | hv
      · exact P.rd d L' m φ G h0 hy v hv
      · rw [List.mem_singleton.mp hv]
        unfold Bl
        rw [hs, List.length_eq_zero_iff.mp z0]
        rfl
    · have plz : pl n s.length s.length = 0 := if_pos (.inr (Nat.le_refl _))
      have pl0 : pl n s.length 0 = 0 := if_pos (.inl rfl)
      have plm : ∀ {j}, 0 < j → j < s.length → pl n s.length j = n + j - 1 := fun h1 h2 => if_neg (by omega)
      have plt : ∀ j, j ≤ s.length → pl n s.length j < n + (s.length - 1) := fun j hj => by
        unfold pl
        split <;> omega
      let Yn : List Yw := (List.range s.length).map fun i => yw (pl n s.length i) (pl n s.length (i + 1)) (s.getD i 0)
      have memY : ∀ y, y ∈ Y ++ Yn ↔ y ∈ Y ∨ ∃ i, i < s.length ∧ y = yw (pl n s.length i) (pl n s.length (i + 1)) (s.getD i 0) := fun y => by
        rw [List.mem_append, List.mem_map]
        constructor
        · rintro (m | ⟨i, hi, e⟩)
          · exact .inl m
          · exact .inr ⟨i, List.mem_range.mp hi, e.symm⟩
        · rintro (m | ⟨i, hi, e⟩)
          · exact .inl m
          · exact .inr ⟨i, List.mem_range.mpr hi, e.symm⟩
      have getS : ∀ i, i < s.length → s[i]? = some (s.getD i 0) := fun i hi => by
        rw [List.getD_eq_getElem?_getD, List.getElem?_eq_getElem hi]
        rfl
      let lab' : Nat → List Int := fun r => if r < n then lab r else s.take (r - n + 1)
      have lab'0 : lab' 0 = [] := by
        show (if 0 < n then lab 0 else _) = _
        rw [if_pos (by omega)]
        exact P.lab0
      have labm : ∀ j, j < s.length → lab' (pl n s.length j) = s.take j := fun j hj => by
        rcases Nat.eq_zero_or_pos j with e | e
        · subst e
          rw [pl0, lab'0]
          rfl
        · rw [plm e hj]
          show (if n + j - 1 < n then _ else s.take (n + j - 1 - n + 1)) = _
          rw [if_neg (by omega), show n + j - 1 - n + 1 = j by omega]
      have ss : Sg GW s := by
        rw [← hs]
        exact sg_rd.mpr (.gen hg)
      have csn : ∀ i, i < s.length → Cs GW (lab' (pl n s.length i) ++ [s.getD i 0]) (lab' (pl n s.length (i + 1))) := fun i hi => by
        have tk : s.take (i + 1) = s.take i ++ [s.getD i 0] := L2.take_snoc (getS i hi)
        rw [labm i hi, ← tk]
        rcases Nat.lt_or_ge (i + 1) s.length with lt | ge
        · rw [labm _ lt]
          exact Cs.refl _
        · have : i + 1 = s.length := by omega
          rw [this, plz, lab'0, List.take_length]
          exact cs_nil.mpr ss
      have okn : ∀ y ∈ Y ++ Yn, y.1 < n + (s.length - 1) ∧ y.2.2 < n + (s.length - 1) ∧ 1 ≤ y.2.1 ∧ y.2.1 ≤ (L : Int) := fun y m => by
        rcases (memY y).mp m with m | ⟨i, hi, rfl⟩
        · have := P.ok.ok y m
          omega
        · have a := plt i (by omega)
          have b := plt (i + 1) (by omega)
          have c := Od.mem_steps.mp (hss _ (List.mem_of_getElem? (getS i hi)))
          unfold yw
          split
          · exact ⟨a, b, by simp only; omega, by simp only; omega⟩
          · exact ⟨b, a, by simp only; omega, by simp only; omega⟩
      refine ⟨n + (s.length - 1), Y ++ Yn, lab', ?_, ?_, by omega, ⟨okn⟩, lab'0, fun y m => ?_, fun d L' m φ G h0 hy v hv => ?_, fun r h0 hr => ?_⟩
      · simp only
        omega
      · simp only
        rw [List.map_append]
        congr 1
        unfold Pt.ring
        show _ = ((List.range s.length).map _).map y3
        rw [List.map_map]
        refine List.map_congr_left fun i hi => ?_
        exact way_eq (List.mem_range.mp hi)
      · rcases (memY y).mp m with m | ⟨i, hi, rfl⟩
        · have o := P.ok.ok y m
          show Cs GW ((if y.1 < n then lab y.1 else _) ++ _) (if y.2.2 < n then lab y.2.2 else _)
          rw [if_pos o.1, if_pos o.2.1]
          exact P.cs y m
        · exact cs_yw (csn i hi)
      · rcases List.mem_append.mp hv with hv | hv
        · exact P.rd d L' m φ G h0 (fun y hy2 => hy y ((memY y).mpr (.inl hy2))) v hv
        · rw [List.mem_singleton.mp hv]
          have walk : ∀ i, i ≤ s.length → go d 0 (s.take i) = some (φ (pl n s.length i)) := fun i => by
            induction i with
            | zero => intro _; rw [pl0, h0]; rfl
            | succ i ih =>
              intro hi
              rw [L2.take_snoc (getS i (by omega)), go_snoc, ih (by omega)]
              exact go_yw G (hy _ ((memY _).mpr (.inr ⟨i, by omega, rfl⟩)))
          have := walk s.length (Nat.le_refl _)
          rw [List.take_length, plz, h0] at this
          unfold Bl
          rw [hs]
          exact this
      · rcases Nat.lt_or_ge r n with lt | ge
        · obtain ⟨y, z, a, b, h1, h2, h3⟩ := P.two r h0 lt
          exact ⟨y, z, a, b, (memY y).mpr (.inl h1), (memY z).mpr (.inl h2), h3⟩
        · obtain ⟨j, hj⟩ : ∃ j, r = n + j := ⟨r - n, by omega⟩
          have hjl : j + 1 < s.length := by omega
          have o1 := yw_on (p := pl n s.length j) (q := pl n s.length (j + 1)) (x := s.getD j 0)
          have o2 := yw_on (p := pl n s.length (j + 1)) (q := pl n s.length (j + 1 + 1)) (x := s.getD (j + 1) 0)
          have m1 : yw (pl n s.length j) (pl n s.length (j + 1)) (s.getD j 0) ∈ Y ++ Yn := (memY _).mpr (.inr ⟨j, by omega, rfl⟩)
          have m2 : yw (pl n s.length (j + 1)) (pl n s.length (j + 1 + 1)) (s.getD (j + 1) 0) ∈ Y ++ Yn := (memY _).mpr (.inr ⟨j + 1, by omega, rfl⟩)
          have ng := YOk.neg ⟨okn⟩ m1 o1.1
          refine ⟨_, _, -(s.getD j 0), s.getD (j + 1) 0, m1, m2, ng.2.2, o2.1, ?_, ?_, fun z => ?_⟩
          · rw [ng.1, o1.2.2, plm (by omega) hjl]
            omega
          · rw [o2.2.1, plm (by omega) hjl]
            omega
          · have := hstr j _ (getS j (by omega))
            rw [getS (j + 1) hjl, ← z] at this
            exact this rfl
/-! ### the folding -/
def Cpt (Y : List Yw) (R : Nat → Nat → Prop) : Prop := ∀ y z s, y ∈ Y → z ∈ Y → On y s → On z s → R (nr y s) (nr z s) → R (fr y s) (fr z s)
abbrev Wt := List (Int × Nat × Nat)
structure Fs (L n : Nat) (Y : List Yw) (dn : Nat → Int → Prop) (ρ : Nat → Nat) (D : Nat → Int → Option Nat) (W : Wt) : Prop where
  le : ∀ a, a < n → ρ a ≤ a
  idm : ∀ a, a < n → ρ (ρ a) = ρ a
  dom : ∀ r s i, r < n → ρ r = r → D r s = some i → ∃ y, Y[i]? = some y ∧ On y s ∧ ρ (nr y s) = r
  wt : ∀ s i j, (s, i, j) ∈ W → ∃ y z, Y[i]? = some y ∧ Y[j]? = some z ∧ On y s ∧ On z s ∧ ρ (nr y s) = ρ (nr z s)
  cm : ∀ φ : Nat → Nat, (∀ a b, a < n → b < n → ρ a = ρ b → φ a = φ b) → (∀ s i j y z, (s, i, j) ∈ W → Y[i]? = some y → Y[j]? = some z → φ (fr y s) = φ (fr z s)) →
    ∀ i s y, dn i s → Y[i]? = some y → On y s → ∃ j z, D (ρ (nr y s)) s = some j ∧ Y[j]? = some z ∧ φ (fr y s) = φ (fr z s)
  sd : ∀ R : Nat → Nat → Prop, Equivalence R → Cpt Y R → ∀ a, a < n → R a (ρ a)
variable {Y : List Yw} {dn : Nat → Int → Prop} {ρ : Nat → Nat} {D : Nat → Int → Option Nat} {W : Wt}
theorem fs_start : Fs L n Y (fun _ _ => False) id (fun _ _ => none) [] :=
  ⟨fun a _ => Nat.le_refl a, fun a _ => rfl, fun r s i _ _ h => (nomatch h), fun s i j h => (nomatch h), fun φ _ _ i s y h => h.elim, fun R E _ a _ => E.refl a⟩
theorem Fs.lt (F : Fs L n Y dn ρ D W) {a : Nat} (h : a < n) : ρ a < n := Nat.lt_of_le_of_lt (F.le a h) h
theorem fs_drop {s : Int} {i j : Nat} {y z : Yw} (K : YOk L n Y) (F : Fs L n Y dn ρ D (W ++ [(s, i, j)])) (hy : Y[i]? = some y) (hz : Y[j]? = some z) (e : ρ (fr y s) = ρ (fr z s)) : Fs L n Y dn ρ D W := by
  refine ⟨F.le, F.idm, F.dom, fun t a b m => F.wt t a b (List.mem_append_left _ m), fun φ h1 h2 => F.cm φ h1 fun t a b y' z' m k1 k2 => ?_, F.sd⟩
  rcases List.mem_append.mp m with m | m
  · exact h2 t a b y' z' m k1 k2
  · cases List.mem_singleton.mp m
    rw [hy] at k1
    rw [hz] at k2
    cases k1
    cases k2
    exact h1 _ _ (K.fr (List.mem_of_getElem? hy) _) (K.fr (List.mem_of_getElem? hz) _) e
def mg (ρ : Nat → Nat) (kept lost : Nat) : Nat → Nat := fun a => if ρ a = lost then kept else ρ a
def rts (n : Nat) (ρ : Nat → Nat) : Nat := ((List.range n).filter fun r => decide (ρ r = r)).length
theorem rts_mg {kept lost : Nat} (h1 : lost < n) (h2 : kept < lost) (h3 : ρ lost = lost) (h4 : ρ kept = kept) : rts n (mg ρ kept lost) + 1 ≤ rts n ρ := by
  refine flt_lt (a := lost) (fun x _ z => ?_) (List.mem_range.mpr h1) (decide_eq_false fun z => ?_) (decide_eq_true h3)
  · rw [decide_eq_true_eq] at z ⊢
    unfold mg at z
    split at z
    · rename_i c
      exfalso
      rw [← z, h4] at c
      omega
    · exact z
  · unfold mg at z
    rw [if_pos h3] at z
    omega
theorem rts_le : rts n ρ ≤ n := by
  have := List.length_filter_le (fun r => decide (ρ r = r)) (List.range n)
  rwa [List.length_range] at this
theorem fs_join {s : Int} {i j kept lost : Nat} {y z : Yw} {D' : Nat → Int → Option Nat} {M : Wt} (K : YOk L n Y) (F : Fs L n Y dn ρ D (W ++ [(s, i, j)])) (hy : Y[i]? = some y) (hz : Y[j]? = some z)
    (e : (kept = ρ (fr y s) ∧ lost = ρ (fr z s)) ∨ (kept = ρ (fr z s) ∧ lost = ρ (fr y s))) (lt : kept < lost)
    (h1 : ∀ t, D' kept t = (D kept t).or (D lost t)) (h2 : ∀ r t, r ≠ kept → D' r t = D r t) (h3 : ∀ t m l, (t, m, l) ∈ M ↔ D kept t = some m ∧ D lost t = some l) : Fs L n Y dn (mg ρ kept lost) D' (W ++ M) := by
  have hym := List.mem_of_getElem? hy
  have hzm := List.mem_of_getElem? hz
  have fy := K.fr hym s
  have fz := K.fr hzm s
  have kn : kept < n ∧ lost < n ∧ ρ kept = kept ∧ ρ lost = lost := by
    rcases e with ⟨e1, e2⟩ | ⟨e1, e2⟩
    · rw [e1, e2]
      exact ⟨F.lt fy, F.lt fz, F.idm _ fy, F.idm _ fz⟩
    · rw [e1, e2]
      exact ⟨F.lt fz, F.lt fy, F.idm _ fz, F.idm _ fy⟩
  obtain ⟨k1, k2, k3, k4⟩ := kn
  have mgl : ∀ a, ρ a = lost → mg ρ kept lost a = kept := fun a h => if_pos h
  have mgk : ∀ a, ρ a ≠ lost → mg ρ kept lost a = ρ a := fun a h => if_neg h
  have mgs : ∀ a b, ρ a = ρ b → mg ρ kept lost a = mg ρ kept lost b := fun a b h => by
    unfold mg
    rw [h]
  have mfy : mg ρ kept lost (fr y s) = mg ρ kept lost (fr z s) := by
    rcases e with ⟨e1, e2⟩ | ⟨e1, e2⟩
    · rw [mgl _ e2.symm, mgk _ (by omega)]
      exact e1.symm
    · rw [mgl _ e2.symm, mgk _ (by omega)]
      exact e1
  refine ⟨fun a ha => ?_, fun a ha => ?_, fun r t i2 hr er hd => ?_, fun t a b m => ?_, fun φ p1 p2 i2 t y2 hd hy2 o => ?_, fun R E C a ha => ?_⟩
  · have := F.le a ha
    unfold mg
    split <;> omega
  · unfold mg
    by_cases c : ρ a = lost
    · rw [if_pos c, if_neg (by omega)]
      exact k3
    · rw [if_neg c, F.idm a ha, if_neg c]
  · by_cases c : r = kept
    · subst c
      rw [h1] at hd
      cases c2 : D r t with
      | some m =>
        rw [c2] at hd
        cases hd
        obtain ⟨y2, q1, q2, q3⟩ := F.dom r t _ hr k3 c2
        exact ⟨y2, q1, q2, by rw [mgk _ (by omega)]; exact q3⟩
      | none =>
        rw [c2] at hd
        have hd : D lost t = some i2 := hd
        obtain ⟨y2, q1, q2, q3⟩ := F.dom lost t _ k2 k4 hd
        exact ⟨y2, q1, q2, mgl _ q3⟩
    · rw [h2 _ _ c] at hd
      have rl : ρ r ≠ lost := fun z => c (by rw [mgl _ z] at er; exact er.symm)
      rw [mgk _ rl] at er
      obtain ⟨y2, q1, q2, q3⟩ := F.dom r t _ hr er hd
      exact ⟨y2, q1, q2, by rw [mgk _ (by rw [q3, ← er]; exact rl)]; exact q3⟩
  · rcases List.mem_append.mp m with m | m
    · obtain ⟨y2, z2, q1, q2, q3, q4, q5⟩ := F.wt t a b (List.mem_append_left _ m)
      exact ⟨y2, z2, q1, q2, q3, q4, mgs _ _ q5⟩
    · obtain ⟨m1, m2⟩ := (h3 t a b).mp m
      obtain ⟨y2, q1, q2, q3⟩ := F.dom kept t _ k1 k3 m1
      obtain ⟨z2, r1, r2, r3⟩ := F.dom lost t _ k2 k4 m2
      refine ⟨y2, z2, q1, r1, q2, r2, ?_⟩
      rw [mgk _ (by omega), mgl _ r3]
      exact q3
  · have p0 : ∀ a b, a < n → b < n → ρ a = ρ b → φ a = φ b := fun a b ha hb h => p1 a b ha hb (mgs a b h)
    obtain ⟨j2, z2, q1, q2, q3⟩ := F.cm φ p0 (fun t a b y' z' m r1 r2 => by
      rcases List.mem_append.mp m with m | m
      · exact p2 t a b y' z' (List.mem_append_left _ m) r1 r2
      · cases List.mem_singleton.mp m
        rw [hy] at r1
        rw [hz] at r2
        cases r1
        cases r2
        exact p1 _ _ fy fz mfy) i2 t y2 hd hy2 o
    by_cases c : ρ (nr y2 t) = lost
    · rw [mgl _ c, h1]
      rw [c] at q1
      cases c2 : D kept t with
      | none => exact ⟨j2, z2, q1, q2, q3⟩
      | some m =>
        obtain ⟨y3, r1, r2, r3⟩ := F.dom kept t _ k1 k3 c2
        exact ⟨m, y3, rfl, r1, q3.trans (p2 t m j2 y3 z2 (List.mem_append_right _ ((h3 t m j2).mpr ⟨c2, q1⟩)) r1 q2).symm⟩
    · rw [mgk _ c]
      by_cases c3 : ρ (nr y2 t) = kept
      · rw [c3] at q1 ⊢
        exact ⟨j2, z2, by rw [h1, q1]; rfl, q2, q3⟩
      · exact ⟨j2, z2, by rw [h2 _ _ c3]; exact q1, q2, q3⟩
  · have sa := F.sd R E C a ha
    by_cases c : ρ a = lost
    · rw [mgl _ c]
      rw [c] at sa
      obtain ⟨y2, z2, q1, q2, q3, q4, q5⟩ := F.wt s i j (List.mem_append_right _ List.mem_cons_self)
      rw [hy] at q1
      rw [hz] at q2
      cases q1
      cases q2
      have near : R (nr y s) (nr z s) := E.trans (F.sd R E C _ (K.nr hym s)) (by rw [q5]; exact E.symm (F.sd R E C _ (K.nr hzm s)))
      have far := C y z s hym hzm q3 q4 near
      have f1 := F.sd R E C _ fy
      have f2 := F.sd R E C _ fz
      rcases e with ⟨e1, e2⟩ | ⟨e1, e2⟩
      · rw [← e1] at f1
        rw [← e2] at f2
        exact E.trans sa (E.trans (E.symm f2) (E.trans (E.symm far) f1))
      · rw [← e1] at f2
        rw [← e2] at f1
        exact E.trans sa (E.trans (E.symm f1) (E.trans far f2))
    · rw [mgk _ c]
      exact sa
def dnS (dn : Nat → Int → Prop) (k : Nat) (s : Int) : Nat → Int → Prop := fun i t => dn i t ∨ (i = k ∧ t = s)
def setD (D : Nat → Int → Option Nat) (r : Nat) (s : Int) (k : Nat) : Nat → Int → Option Nat := fun x t => if x = r ∧ t = s then some k else D x t
theorem fs_new {s : Int} {k : Nat} {y : Yw} (K : YOk L n Y) (F : Fs L n Y dn ρ D []) (hy : Y[k]? = some y) (o : On y s) (h : D (ρ (nr y s)) s = none) : Fs L n Y (dnS dn k s) ρ (setD D (ρ (nr y s)) s k) [] := by
  refine ⟨F.le, F.idm, fun r t i hr er hd => ?_, fun t a b m => (nomatch m), fun φ p1 p2 i t y2 hd hy2 o2 => ?_, F.sd⟩
  · unfold setD at hd
    by_cases c : r = ρ (nr y s) ∧ t = s
    · rw [if_pos c] at hd
      cases hd
      exact ⟨y, hy, by rw [c.2]; exact o, by rw [c.2]; exact c.1.symm⟩
    · rw [if_neg c] at hd
      exact F.dom r t i hr er hd
  · rcases hd with hd | ⟨rfl, rfl⟩
    · obtain ⟨j, z, q1, q2, q3⟩ := F.cm φ p1 p2 i t y2 hd hy2 o2
      refine ⟨j, z, ?_, q2, q3⟩
      unfold setD
      rw [if_neg, q1]
      intro c
      rw [c.1, c.2, h] at q1
      cases q1
    · rw [hy] at hy2
      cases hy2
      exact ⟨i, y, if_pos ⟨rfl, rfl⟩, hy, rfl⟩
theorem fs_old {s : Int} {k j : Nat} {y : Yw} (K : YOk L n Y) (F : Fs L n Y dn ρ D []) (hy : Y[k]? = some y) (o : On y s) (h : D (ρ (nr y s)) s = some j) : Fs L n Y (dnS dn k s) ρ D [(s, j, k)] := by
  obtain ⟨z, q1, q2, q3⟩ := F.dom _ _ _ (F.lt (K.nr (List.mem_of_getElem? hy) s)) (F.idm _ (K.nr (List.mem_of_getElem? hy) s)) h
  refine ⟨F.le, F.idm, F.dom, fun t a b m => ?_, fun φ p1 p2 i t y2 hd hy2 o2 => ?_, F.sd⟩
  · cases List.mem_singleton.mp m
    exact ⟨z, y, q1, hy, q2, o, q3⟩
  · rcases hd with hd | ⟨rfl, rfl⟩
    · exact F.cm φ p1 (fun _ _ _ _ _ m => nomatch m) i t y2 hd hy2 o2
    · rw [hy] at hy2
      cases hy2
      exact ⟨j, z, h, q1, (p2 t j i z y List.mem_cons_self q1 hy).symm⟩
theorem Fs.dnc {dn' : Nat → Int → Prop} (F : Fs L n Y dn ρ D W) (h : ∀ i s y, Y[i]? = some y → On y s → dn' i s → dn i s) : Fs L n Y dn' ρ D W :=
  ⟨F.le, F.idm, F.dom, F.wt, fun φ p1 p2 i s y hd hy o => F.cm φ p1 p2 i s y (h i s y hy o hd) hy o, F.sd⟩
/-! ### the picture behind it -/
def fd (Y : List Yw) (ρ : Nat → Nat) (D : Nat → Int → Option Nat) (n : Nat) : Gm := fun r s => if r < n ∧ ρ r = r then (D r s).bind fun i => Y[i]?.map fun y => ρ (fr y s) else none
theorem fd_at {i : Nat} {s : Int} {y : Yw} {r : Nat} (h1 : r < n) (h2 : ρ r = r) (h3 : D r s = some i) (h4 : Y[i]? = some y) : fd Y ρ D n r s = some (ρ (fr y s)) := by
  unfold fd
  rw [if_pos ⟨h1, h2⟩, h3]
  show Y[i]?.map _ = _
  rw [h4]
  rfl
theorem fd_of (K : YOk L n Y) (F : Fs L n Y dn ρ D W) {r g : Nat} {s : Int} (h : fd Y ρ D n r s = some g) : r < n ∧ ρ r = r ∧ ∃ i y, D r s = some i ∧ Y[i]? = some y ∧ On y s ∧ ρ (nr y s) = r ∧ ρ (fr y s) = g := by
  unfold fd at h
  by_cases c : r < n ∧ ρ r = r
  · rw [if_pos c] at h
    cases hd : D r s with
    | none => rw [hd] at h; cases h
    | some i =>
      obtain ⟨y, q1, q2, q3⟩ := F.dom r s i c.1 c.2 hd
      rw [hd] at h
      have h : Y[i]?.map _ = some g := h
      rw [q1] at h
      cases h
      exact ⟨c.1, c.2, i, y, rfl, q1, q2, q3, rfl⟩
  · rw [if_neg c] at h
    cases h
def dnA : Nat → Int → Prop := fun _ _ => True
theorem fd_way (K : YOk L n Y) (F : Fs L n Y dnA ρ D []) {y : Yw} (hy : y ∈ Y) {s : Int} (o : On y s) : fd Y ρ D n (ρ (nr y s)) s = some (ρ (fr y s)) := by
  obtain ⟨i, hi⟩ := List.mem_iff_getElem?.mp hy
  obtain ⟨j, z, q1, q2, q3⟩ := F.cm ρ (fun _ _ _ _ h => h) (fun _ _ _ _ _ m => nomatch m) i s y trivial hi o
  rw [fd_at (F.lt (K.nr hy s)) (F.idm _ (K.nr hy s)) q1 q2, q3]
theorem fd_gr (K : YOk L n Y) (F : Fs L n Y dnA ρ D []) : Gr L n (fd Y ρ D n) := by
  refine ⟨fun r s g h => ?_, fun r s g h => ?_⟩
  · obtain ⟨h1, h2, i, y, h3, h4, h5, h6, h7⟩ := fd_of K F h
    have m := List.mem_of_getElem? h4
    exact ⟨h1, by rw [← h7]; exact F.lt (K.fr m s), K.st m h5⟩
  · obtain ⟨h1, h2, i, y, h3, h4, h5, h6, h7⟩ := fd_of K F h
    have m := List.mem_of_getElem? h4
    obtain ⟨n1, n2, n3⟩ := K.neg m h5
    have := fd_way K F m n3
    rwa [n1, n2, h6, h7] at this
theorem fd_bl {GW : List (List Int)} {lab : Nat → List Int} (P : Pet L n Y GW GW lab) (F : Fs L n Y dnA ρ D []) (w : List Int) : Bl (fd Y ρ D n) w ↔ Sg GW w := by
  have G := fd_gr P.ok F
  have r0 : ρ 0 = 0 := Nat.le_zero.mp (F.le 0 P.pos)
  constructor
  · refine bl_sg (fun r s g h => ?_) P.lab0
    obtain ⟨h1, h2, i, y, h3, h4, h5, h6, h7⟩ := fd_of P.ok F h
    have m := List.mem_of_getElem? h4
    have csy : ∀ y ∈ Y, ∀ s, On y s → Cs GW (lab (nr y s) ++ [s]) (lab (fr y s)) := fun y m s o => by
      have ok := P.ok.ok y m
      have c := P.cs y m
      rcases o with o | o
      · unfold nr fr
        rw [o, if_pos (by omega), if_pos (by omega)]
        exact c
      · unfold nr fr
        rw [o, if_neg (by omega), if_neg (by omega)]
        exact c.rev
    have E : Equivalence fun a b => Cs GW (lab a) (lab b) := ⟨fun a => Cs.refl _, fun h => h.symm, fun h k => h.trans k⟩
    have C : Cpt Y fun a b => Cs GW (lab a) (lab b) := fun y z s my mz oy oz h => ((csy y my s oy).symm.trans (h.step [s])).trans (csy z mz s oz)
    have a := F.sd _ E C (nr y s) (P.ok.nr m s)
    have b := F.sd _ E C (fr y s) (P.ok.fr m s)
    rw [h6] at a
    rw [h7] at b
    exact (a.symm.step [s]).trans ((csy y m s h5).trans b)
  · refine sg_bl G (P.rd _ L n ρ G r0 fun y m => ?_)
    have ok := P.ok.ok y m
    have := fd_way P.ok F m (.inl rfl : On y y.2.1)
    unfold nr fr at this
    rwa [if_pos (by omega), if_pos (by omega)] at this
theorem fd_leaf {GW ws : List (List Int)} {lab : Nat → List Int} (P : Pet L n Y GW ws lab) (F : Fs L n Y dnA ρ D []) : ∀ r, 0 < r → r < n → deg L (fd Y ρ D n) r ≠ 1 := by
  intro r h0 hr
  have G := fd_gr P.ok F
  by_cases c : ρ r = r
  · obtain ⟨y, z, s, t, h1, h2, h3, h4, h5, h6, h7⟩ := P.two r h0 hr
    have a := fd_way P.ok F h1 h3
    have b := fd_way P.ok F h2 h4
    rw [h5, c] at a
    rw [h6, c] at b
    intro e
    unfold deg at e
    match e2 : (Od.steps L).filter fun s => (fd Y ρ D n r s).isSome, e with
    | [x], _ =>
      have i1 : s ∈ (Od.steps L).filter fun s => (fd Y ρ D n r s).isSome := List.mem_filter.mpr ⟨(G.dom _ _ _ a).2.2, by rw [a]; rfl⟩
      have i2 : t ∈ (Od.steps L).filter fun s => (fd Y ρ D n r s).isSome := List.mem_filter.mpr ⟨(G.dom _ _ _ b).2.2, by rw [b]; rfl⟩
      rw [e2, List.mem_singleton] at i1 i2
      exact h7 (i1.trans i2.symm)
  · intro e
    unfold deg at e
    match e2 : (Od.steps L).filter fun s => (fd Y ρ D n r s).isSome, e with
    | [x], _ =>
      have i1 : x ∈ (Od.steps L).filter fun s => (fd Y ρ D n r s).isSome := by rw [e2]; exact List.mem_cons_self
      have := (List.mem_filter.mp i1).2
      unfold fd at this
      rw [if_neg fun z => c z.2] at this
      cases this
/-- numbered as it is reached, it has the same walks -/
theorem ren_bl {d' : Gm} (G : Gr L n d') (hn : 0 < n) {e : Gm} (he : ∀ r, r < (bfs L n d' 0).length → ∀ s, e r s = (d' (((bfs L n d' 0).map (·.1)).getD r 0) s).map ((bfs L n d' 0).map (·.1)).idxOf) (w : List Int) : Bl e w ↔ Bl d' w := by
  obtain ⟨ord, ho⟩ : ∃ ord, (bfs L n d' 0).map (·.1) = ord := ⟨_, rfl⟩
  have ok := bfs_ok G hn
  have lm : ord.length = (bfs L n d' 0).length := by rw [← ho, List.length_map]
  have nd : ord.Nodup := ho ▸ ok.nodup
  have cl : ∀ r s g, r ∈ ord → d' r s = some g → g ∈ ord := fun r s g hr hd => by
    rw [← ho] at hr ⊢
    exact bfs_closed G hn hr hd
  rw [ho] at he
  have at_in : ∀ r, r < ord.length → ord.getD r 0 ∈ ord := fun r hr => by
    rw [List.getD_eq_getElem?_getD, List.getElem?_eq_getElem hr]
    exact List.getElem_mem _
  have at_idx : ∀ g ∈ ord, ord.getD (ord.idxOf g) 0 = g := fun g hg => by
    have h1 := List.idxOf_lt_length_of_mem hg
    rw [List.getD_eq_getElem?_getD, List.getElem?_eq_getElem h1, Option.getD_some, List.getElem_idxOf]
  have home : ord.getD 0 0 = 0 ∧ 0 < ord.length := by
    obtain ⟨q, hq, R⟩ := bfs_all (home := 0) G hn
    have h0 := (List.getElem?_eq_some_iff.mp R.hd).1
    refine ⟨?_, by omega⟩
    rw [← ho, List.getD_eq_getElem?_getD, List.getElem?_map, R.hd]
    rfl
  have walk : ∀ (w : List Int) (r : Nat), r < ord.length → go e r w = (go d' (ord.getD r 0) w).map ord.idxOf := fun w => by
    induction w with
    | nil =>
      intro r hr
      show some r = some (ord.idxOf (ord.getD r 0))
      congr 1
      have h1 := List.idxOf_lt_length_of_mem (at_in r hr)
      have a : ord[ord.idxOf (ord.getD r 0)]? = some (ord.getD r 0) := by rw [List.getElem?_eq_getElem h1, List.getElem_idxOf]
      have b : ord[r]? = some (ord.getD r 0) := by
        rw [List.getD_eq_getElem?_getD, List.getElem?_eq_getElem hr]
        rfl
      exact ((List.getElem?_inj h1 nd).mp (a.trans b.symm)).symm
    | cons s w ih =>
      intro r hr
      have h := he r (by omega) s
      cases k : d' (ord.getD r 0) s with
      | none =>
        rw [k] at h
        rw [go_stop k, go_stop h]
        rfl
      | some g =>
        have gm := cl _ _ _ (at_in r hr) k
        rw [k] at h
        have h : e r s = some (ord.idxOf g) := h
        rw [go_cons k, go_cons h, ih _ (List.idxOf_lt_length_of_mem gm), at_idx g gm]
  unfold Bl
  rw [walk _ 0 home.2, home.1]
  cases k : go d' 0 (Fg.rd w) with
  | none => exact ⟨fun z => (nomatch z), fun z => (nomatch z)⟩
  | some g =>
    constructor
    · intro z
      have z : ord.idxOf g = 0 := Option.some.inj z
      have gm : g ∈ ord := by
        have cl2 : ∀ (w : List Int) (r g : Nat), r ∈ ord → go d' r w = some g → g ∈ ord := fun w => by
          induction w with
          | nil => intro r g hr h; cases h; exact hr
          | cons s w ih =>
            intro r g hr h
            cases k : d' r s with
            | none => rw [go_stop k] at h; cases h
            | some x => rw [go_cons k] at h; exact ih x g (cl _ _ _ hr k) h
        have h0 := at_in 0 home.2
        rw [home.1] at h0
        exact cl2 _ _ _ h0 k
      have := at_idx g gm
      rw [z, home.1] at this
      rw [← this]
    · intro z
      cases z
      have := walk [] 0 home.2
      rw [home.1] at this
      exact this.symm
/-- what is kept by all joinings, one by one -/
def JnStep (Y : List Yw) (J : (Nat → Nat) → List (Nat × Nat) → Prop) : Prop := ∀ ρ G s i j y z kept lost, J ρ G → Y[i]? = some y → Y[j]? = some z → On y s → On z s → ρ (nr y s) = ρ (nr z s) →
  ((kept = ρ (fr y s) ∧ lost = ρ (fr z s)) ∨ (kept = ρ (fr z s) ∧ lost = ρ (fr y s))) → kept < lost → J (mg ρ kept lost) (G ++ [(min i j, max i j)])
theorem Fs.keys {L n : Nat} {Y : List Yw} {dn : Nat → Int → Prop} {ρ : Nat → Nat} {D : Nat → Int → Option Nat} {W : Wt} (K : YOk L n Y) (l4 : L ≤ 4) (F : Fs L n Y dn ρ D W) {r : Nat} (h1 : r < n) (h2 : ρ r = r) (s : Int) (h : (D r s).isSome = true) : s ∈ Od.steps 4 := by
  cases e : D r s with
  | none => rw [e] at h; cases h
  | some i =>
    obtain ⟨y, q1, q2, _⟩ := F.dom r s i h1 h2 e
    have := Od.mem_steps.mp (K.st (List.mem_of_getElem? q1) q2)
    rw [Od.mem_steps]
    omega
end Fo
/-! rooms joined, ways folded, as they stand in memory -/
namespace L2
open PySem PySem.Spec PyProof.Rows Evl
structure JoC (K : PySem.W.Frag) (C : Addr) : Prop where
  c : Cls K C
  t : NoAttr K C "toward"
def tws (n : Nat) (t : Nat → Nat) : List Int := (List.range n).map fun i => (t i : Int)
structure JoH (H : Hp) (jo C tl : Addr) (n : Nat) (t : Nat → Nat) : Prop where
  ex : ∃ dx, H jo = some (.ins C dx [("toward", .ref tl)]) ∧ H tl = some (.lst ((tws n t).map V.int))
structure Tw (n : Nat) (t ρ : Nat → Nat) : Prop where
  le : ∀ r, r < n → t r ≤ r
  to : ∀ r, r < n → ρ (t r) = ρ r
  fix : ∀ r, r < n → t r = r → ρ r = r
  ρle : ∀ r, r < n → ρ r ≤ r
  idm : ∀ r, r < n → ρ (ρ r) = ρ r
def setN (t : Nat → Nat) (r x : Nat) : Nat → Nat := fun i => if i = r then x else t i
theorem tws_len (n : Nat) (t : Nat → Nat) : (tws n t).length = n := by unfold tws; rw [List.length_map, List.length_range]
theorem tws_at {n r : Nat} {t : Nat → Nat} (h : r < n) : (tws n t)[r]? = some (t r : Int) := by
  unfold tws
  rw [List.getElem?_map, List.getElem?_range h]
  rfl
theorem tws_set {n r x : Nat} {t : Nat → Nat} (h : r < n) : ((tws n t).map V.int).set r (V.int (x : Int)) = (tws n (setN t r x)).map V.int := by
  refine List.ext_getElem? fun i => ?_
  rw [List.getElem?_set, List.length_map, tws_len]
  by_cases e : r = i
  · subst e
    rw [if_pos rfl, if_pos h, List.getElem?_map, tws_at h]
    unfold setN
    rw [if_pos rfl]
    rfl
  · rw [if_neg e, List.getElem?_map, List.getElem?_map]
    rcases Nat.lt_or_ge i n with lt | ge
    · rw [tws_at lt, tws_at lt]
      unfold setN
      rw [if_neg (fun z => e z.symm)]
    · rw [List.getElem?_eq_none (by rw [tws_len]; exact ge), List.getElem?_eq_none (by rw [tws_len]; exact ge)]
theorem tw_id (n : Nat) : Tw n id id := ⟨fun _ _ => Nat.le_refl _, fun _ _ => rfl, fun _ _ _ => rfl, fun _ _ => Nat.le_refl _, fun _ _ => rfl⟩
theorem tw_half {n r : Nat} {t ρ : Nat → Nat} (T : Tw n t ρ) (h : r < n) : Tw n (setN t r (t (t r))) ρ := by
  have l1 := T.le r h
  have l2 := T.le (t r) (by omega)
  refine ⟨fun x hx => ?_, fun x hx => ?_, fun x hx e => ?_, T.ρle, T.idm⟩
  · unfold setN
    by_cases c : x = r
    · rw [if_pos c]; omega
    · rw [if_neg c]; exact T.le x hx
  · unfold setN
    by_cases c : x = r
    · rw [if_pos c, T.to _ (by omega), T.to _ h, c]
    · rw [if_neg c]; exact T.to x hx
  · unfold setN at e
    by_cases c : x = r
    · rw [if_pos c] at e
      subst c
      exact T.fix x h (by omega)
    · rw [if_neg c] at e
      exact T.fix x hx e
theorem tw_root {n r : Nat} {t ρ : Nat → Nat} (T : Tw n t ρ) (h : r < n) (e : ρ r = r) : t r = r := by
  have a := T.le r h
  have b := T.to r h
  have c := T.ρle (t r) (by omega)
  omega
theorem tw_unite {n a b : Nat} {t ρ : Nat → Nat} (T : Tw n t ρ) (hab : a ≤ b) (hb : b < n) (ea : ρ a = a) (eb : ρ b = b) : Tw n (setN t b a) (Fo.mg ρ a b) := by
  have mb : ∀ x, ρ x = b → Fo.mg ρ a b x = a := fun x h => if_pos h
  have mn : ∀ x, ρ x ≠ b → Fo.mg ρ a b x = ρ x := fun x h => if_neg h
  have ma : Fo.mg ρ a b a = a := by
    by_cases c : ρ a = b
    · exact mb a c
    · rw [mn a c, ea]
  refine ⟨fun x hx => ?_, fun x hx => ?_, fun x hx e => ?_, fun x hx => ?_, fun x hx => ?_⟩
  · unfold setN
    by_cases c : x = b
    · rw [if_pos c]; omega
    · rw [if_neg c]; exact T.le x hx
  · unfold setN
    by_cases c : x = b
    · rw [if_pos c, ma, c, mb b eb]
    · rw [if_neg c]
      have z := T.to x hx
      by_cases c2 : ρ x = b
      · rw [mb x c2, mb _ (z.trans c2)]
      · rw [mn x c2, mn _ (by rw [z]; exact c2), z]
  · unfold setN at e
    by_cases c : x = b
    · rw [if_pos c] at e
      rw [c, mb b eb]
      omega
    · rw [if_neg c] at e
      have z := T.fix x hx e
      rw [mn x (by omega), z]
  · have := T.ρle x hx
    by_cases c : ρ x = b
    · rw [mb x c]; omega
    · rw [mn x c]; exact this
  · by_cases c : ρ x = b
    · rw [mb x c, ma]
    · rw [mn x c, mn _ (by rw [T.idm x hx]; exact c), T.idm x hx]
theorem JoH.ne {H : Hp} {jo C tl : Addr} {n : Nat} {t : Nat → Nat} (h : JoH H jo C tl n t) : jo ≠ tl := by
  obtain ⟨dx, h1, h2⟩ := h.ex
  exact ne_of h1 h2 (by intro z; cases z)
theorem JoH.mono {H H1 : Hp} {jo C tl : Addr} {n : Nat} {t : Nat → Nat} (h : JoH H jo C tl n t) (e : ∀ o, H jo = some o → H1 jo = some o) (e2 : ∀ o, H tl = some o → H1 tl = some o) : JoH H1 jo C tl n t := by
  obtain ⟨dx, h1, h2⟩ := h.ex
  exact ⟨dx, e _ h1, e2 _ h2⟩
/-! ### a fold -/
structure FoC (K : PySem.W.Frag) (C : Addr) : Prop where
  c : Cls K C
  w : NoAttr K C "ways"
  j : NoAttr K C "joined"
  d : NoAttr K C "doors"
  g : NoAttr K C "joinings"
structure Fx where
  wl : Addr
  jo : Addr
  tl : Addr
  dl : Addr
  jl : Addr
  ds : List Addr
abbrev foF (X : Fx) : List (Str × V) := [("ways", .ref X.wl), ("joined", .ref X.jo), ("doors", .ref X.dl), ("joinings", .ref X.jl)]
theorem s_wj : ¬ (("ways" : Str) = "joined") := by decide +kernel
theorem s_wd : ¬ (("ways" : Str) = "doors") := by decide +kernel
theorem s_wg : ¬ (("ways" : Str) = "joinings") := by decide +kernel
theorem s_jd : ¬ (("joined" : Str) = "doors") := by decide +kernel
theorem s_jg : ¬ (("joined" : Str) = "joinings") := by decide +kernel
theorem s_dg : ¬ (("doors" : Str) = "joinings") := by decide +kernel
/-- how two ways were joined -/
def jn (x : Nat × Nat) : List Int := [(x.1 : Int), (x.2 : Int)]
structure FoH (K : PySem.W.Frag) (H : Hp) (C CJ x : Addr) (X : Fx) (n : Nat) (Y : List Fo.Yw) (t : Nat → Nat) (D : Nat → Int → Option Nat) (G : List (Nat × Nat)) : Prop where
  obj : ∃ dx, H x = some (.ins C dx (foF X))
  jo : JoH H X.jo CJ X.tl n t
  ways : ∃ xs, H X.wl = some (.lst xs) ∧ WkA K H xs (Y.map Fo.y3)
  wt : X.wl ≠ X.tl
  wj : X.wl ≠ X.jl
  dl : H X.dl = some (.lst (X.ds.map V.ref))
  dt : X.dl ≠ X.tl
  dj : X.dl ≠ X.jl
  dn : X.ds.length = n
  nd : X.ds.Nodup
  at' : ∀ (i : Nat) (a : Addr), X.ds[i]? = some a → ∃ kvs, H a = some (.dK kvs) ∧ DI kvs fun s => vN (D i s)
  jl : ∃ js, H X.jl = some (.lst js) ∧ WkA K H js (G.map jn)
  jt : X.jl ≠ X.tl
def Fx.own (X : Fx) : List Addr := X.tl :: X.jl :: X.ds
/-- all but some places stay -/
def ExO (ow : List Addr) (H H1 : Hp) : Prop := ∀ a o, H a = some o → a ∉ ow → H1 a = some o
theorem ExO.refl {ow : List Addr} (H : Hp) : ExO ow H H := fun _ _ h _ => h
theorem ExO.trans {ow : List Addr} {H H1 H2 : Hp} (a : ExO ow H H1) (b : ExO ow H1 H2) : ExO ow H H2 := fun x o h n => b x o (a x o h n) n
theorem ExO.of {ow : List Addr} {H H1 : Hp} (e : Ex H H1) : ExO ow H H1 := fun a o h _ => e a o h
theorem ExO.w {ow : List Addr} {a : Addr} {H H1 : Hp} (e : ExW a H H1) (h : a ∈ ow) : ExO ow H H1 := fun x o q n => e x o q fun z => n (z ▸ h)
theorem ExO.tx {ow : List Addr} {H H1 : Hp} (e : ExO ow H H1) (h : ∀ a ∈ ow, ∀ xs, H a ≠ some (.tup xs) ∧ ∀ o, H a ≠ some (.frz o (.tup xs))) : TX H H1 := fun q ys hq => by
  have ne : q ∉ ow := fun z => by
    rcases hq with hq | ⟨o, hq⟩
    · exact (h q z ys).1 hq
    · exact (h q z ys).2 o hq
  rcases hq with hq | ⟨o, hq⟩
  · rw [hq, e _ _ hq ne]
  · rw [hq, e _ _ hq ne]
section
variable {K : PySem.W.Frag} {H H1 : Hp} {C CJ x : Addr} {X : Fx} {n : Nat} {Y : List Fo.Yw} {t t' : Nat → Nat} {D D' : Nat → Int → Option Nat} {G : List (Nat × Nat)}
theorem FoH.ex (h : FoH K H C CJ x X n Y t D G) (e : Ex H H1) : FoH K H1 C CJ x X n Y t D G := by
  obtain ⟨dx, h1⟩ := h.obj
  obtain ⟨xs, w1, w2⟩ := h.ways
  obtain ⟨js, j1, j2⟩ := h.jl
  refine ⟨⟨dx, e _ _ h1⟩, h.jo.mono (fun o => e _ o) (fun o => e _ o), ⟨xs, e _ _ w1, w2.ex e⟩, h.wt, h.wj, e _ _ h.dl, h.dt, h.dj, h.dn, h.nd, fun i a ha => ?_, ⟨js, e _ _ j1, j2.ex e⟩, h.jt⟩
  obtain ⟨kvs, k1, k2⟩ := h.at' i a ha
  exact ⟨kvs, e _ _ k1, k2⟩
theorem FoH.tl (h : FoH K H C CJ x X n Y t D G) (e : ExW X.tl H H1) (J : JoH H1 X.jo CJ X.tl n t') : FoH K H1 C CJ x X n Y t' D G := by
  obtain ⟨dx, h1⟩ := h.obj
  obtain ⟨xs, w1, w2⟩ := h.ways
  obtain ⟨js, j1, j2⟩ := h.jl
  obtain ⟨dx2, o1, o2⟩ := h.jo.ex
  have tx := TX.w2 o2 e
  refine ⟨⟨dx, e _ _ h1 (ne_of h1 o2 (by intro z; cases z))⟩, J, ⟨xs, e _ _ w1 h.wt, w2.tx tx⟩, h.wt, h.wj, e _ _ h.dl h.dt, h.dt, h.dj, h.dn, h.nd, fun i a ha => ?_, ⟨js, e _ _ j1 h.jt, j2.tx tx⟩, h.jt⟩
  obtain ⟨kvs, k1, k2⟩ := h.at' i a ha
  exact ⟨kvs, e _ _ k1 (ne_of k1 o2 (by intro z; cases z)), k2⟩
theorem FoH.js {js' : List V} {G' : List (Nat × Nat)} (h : FoH K H C CJ x X n Y t D G) (e : ExW X.jl H H1) (k : H1 X.jl = some (.lst js')) (w : WkA K H1 js' (G'.map jn)) : FoH K H1 C CJ x X n Y t D G' := by
  obtain ⟨dx, h1⟩ := h.obj
  obtain ⟨xs, w1, w2⟩ := h.ways
  obtain ⟨js, j1, j2⟩ := h.jl
  obtain ⟨dx2, o1, o2⟩ := h.jo.ex
  have tx := TX.w2 j1 e
  refine ⟨⟨dx, e _ _ h1 (ne_of h1 j1 (by intro z; cases z))⟩, h.jo.mono (fun o q => e _ _ q (ne_of o1 j1 (by intro z; cases z))) (fun o q => e _ _ q h.jt.symm), ⟨xs, e _ _ w1 h.wj, w2.tx tx⟩, h.wt, h.wj, e _ _ h.dl h.dj, h.dt, h.dj, h.dn, h.nd, fun i a ha => ?_, ⟨js', k, w⟩, h.jt⟩
  obtain ⟨kvs, k1, k2⟩ := h.at' i a ha
  exact ⟨kvs, e _ _ k1 (ne_of k1 j1 (by intro z; cases z)), k2⟩
/-- the dict of a room -/
theorem FoH.door (h : FoH K H C CJ x X n Y t D G) {i : Nat} (hi : i < n) : ∃ a kvs, X.ds[i]? = some a ∧ H a = some (.dK kvs) ∧ DI kvs fun s => vN (D i s) := by
  have ha := List.getElem?_eq_getElem (l := X.ds) (i := i) (by rw [h.dn]; exact hi)
  obtain ⟨kvs, k1, k2⟩ := h.at' i _ ha
  exact ⟨_, kvs, ha, k1, k2⟩
theorem FoH.put (h : FoH K H C CJ x X n Y t D G) {i : Nat} {a : Addr} {kvs kvs' : List (Key × V)} (ha : X.ds[i]? = some a) (hk : H a = some (.dK kvs)) (e : ExW a H H1) (k : H1 a = some (.dK kvs')) (d : DI kvs' fun s => vN (D' i s)) (same : ∀ j s, j ≠ i → D' j s = D j s) : FoH K H1 C CJ x X n Y t D' G := by
  obtain ⟨dx, h1⟩ := h.obj
  obtain ⟨xs, w1, w2⟩ := h.ways
  obtain ⟨js, j1, j2⟩ := h.jl
  obtain ⟨dx2, o1, o2⟩ := h.jo.ex
  have tx := tx_dk hk e
  refine ⟨⟨dx, e _ _ h1 (ne_of h1 hk (by intro z; cases z))⟩, h.jo.mono (fun o q => e _ _ q (ne_of o1 hk (by intro z; cases z))) (fun o q => e _ _ q (ne_of o2 hk (by intro z; cases z))), ⟨xs, e _ _ w1 (ne_of w1 hk (by intro z; cases z)), w2.tx tx⟩, h.wt, h.wj, e _ _ h.dl (ne_of h.dl hk (by intro z; cases z)), h.dt, h.dj, h.dn, h.nd, fun j b hb => ?_, ⟨js, e _ _ j1 (ne_of j1 hk (by intro z; cases z)), j2.tx tx⟩, h.jt⟩
  by_cases c : j = i
  · subst c
    rw [ha] at hb
    cases hb
    exact ⟨kvs', k, d⟩
  · obtain ⟨kv2, k1, k2⟩ := h.at' j b hb
    have ne : b ≠ a := fun z => by
      subst z
      exact c ((List.getElem?_inj (List.getElem?_eq_some_iff.mp hb).1 h.nd).mp (hb.trans ha.symm))
    exact ⟨kv2, e _ _ k1 ne, k2.congr fun s => by rw [same j s c]⟩
theorem FoH.way (h : FoH K H C CJ x X n Y t D G) {i : Nat} {y : Fo.Yw} (hy : Y[i]? = some y) : ∃ xs p, H X.wl = some (.lst xs) ∧ xs[i]? = some (.ref p) ∧ IT K H p (Fo.y3 y) := by
  obtain ⟨xs, w1, w2⟩ := h.ways
  have hi := (List.getElem?_eq_some_iff.mp hy).1
  have l := w2.len
  rw [List.length_map] at l
  have hx := List.getElem?_eq_getElem (l := xs) (i := i) (by omega)
  obtain ⟨p, e, q⟩ := w2.at' i _ _ hx (by rw [List.getElem?_map, hy]; rfl)
  exact ⟨xs, p, w1, by rw [hx, e], q⟩
theorem FoH.own (h : FoH K H C CJ x X n Y t D G) : ∀ a ∈ X.own, (∃ xs, H a = some (.lst xs)) ∨ ∃ kvs, H a = some (.dK kvs) := fun a m => by
  obtain ⟨js, j1, j2⟩ := h.jl
  obtain ⟨dx2, o1, o2⟩ := h.jo.ex
  rcases List.mem_cons.mp m with z | m
  · exact .inl ⟨_, z ▸ o2⟩
  rcases List.mem_cons.mp m with z | m
  · exact .inl ⟨_, z ▸ j1⟩
  obtain ⟨i, hi⟩ := List.mem_iff_getElem?.mp m
  obtain ⟨kvs, k1, _⟩ := h.at' i a hi
  exact .inr ⟨_, k1⟩
theorem FoH.tx (h : FoH K H C CJ x X n Y t D G) (e : ExO X.own H H1) : TX H H1 := e.tx fun a m xs => by
  rcases h.own a m with ⟨ys, k⟩ | ⟨kvs, k⟩
  · exact ⟨(fun z => by rw [k] at z; cases z), fun o z => by rw [k] at z; cases z⟩
  · exact ⟨(fun z => by rw [k] at z; cases z), fun o z => by rw [k] at z; cases z⟩
theorem FoH.fresh (h : FoH K H C CJ x X n Y t D G) {p : Addr} (hp : H p = none) : p ∉ X.own := fun m => by
  rcases h.own p m with ⟨ys, k⟩ | ⟨kvs, k⟩
  · rw [hp] at k; cases k
  · rw [hp] at k; cases k
end
/-! ### list(d.items()) -/
theorem st_lstIt {td : TE} {σ : L2.St} {H : Hp} {Q : VK} (h : td σ H fun x H1 => LiI.rItemsL x H1 Q) : LiI.tListItems td σ H Q := h
theorem r_litems {K : PySem.W.Frag} {H : Hp} {Q : VK} {d : Addr} {kvs : List (Key × V)} {f : Int → Option Nat} (h : H d = some (.dK kvs)) (k : DI kvs fun s => vN (f s))
    (q : ∀ p us (l : List Int) H1, H p = none → Ex H H1 → H1 p = some (.lst us) → l.Nodup → (∀ x, x ∈ l ↔ (f x).isSome = true) → WkA K H1 us (l.map fun s => [s, (((f s).getD 0 : Nat) : Int)]) → Q (.ref p) H1) : LiI.rItemsL (.ref d) H Q := by
  obtain ⟨l, h1, h2, rfl⟩ := k.dm
  refine ⟨d, _, rfl, h, fun H1 p ts e hp _ _ k1 pr => ?_⟩
  refine q p _ l H1 hp e k1 h1 (fun x => by rw [h2, vN_some]) ?_
  have hl : ts.length = l.length := by
    have := Paired.length pr
    rwa [dm_len] at this
  refine ⟨by rw [List.length_map, List.length_map, hl], fun i x w hx hw => ?_⟩
  rw [List.getElem?_map] at hx hw
  cases ht : ts[i]? with
  | none => rw [ht] at hx; cases hx
  | some a =>
    rw [ht] at hx
    cases hx
    cases hs : l[i]? with
    | none => rw [hs] at hw; cases hw
    | some s =>
      rw [hs] at hw
      cases hw
      obtain ⟨b, hb, ka⟩ := LiI.paired_get pr ht
      unfold dm at hb
      rw [List.getElem?_map, hs] at hb
      cases hb
      refine ⟨a, rfl, t_of ?_⟩
      rw [ka]
      have := (h2 s).mp (List.mem_of_getElem? hs)
      rw [vN_some] at this
      cases e2 : f s with
      | none => rw [e2] at this; cases this
      | some g =>
        dsimp only
        rw [e2]
        rfl
theorem FoH.off {K : PySem.W.Frag} {H H1 : Hp} {C CJ x w : Addr} {X : Fx} {n : Nat} {Y : List Fo.Yw} {t : Nat → Nat} {D : Nat → Int → Option Nat} {G : List (Nat × Nat)} {zs : List V} (h : FoH K H C CJ x X n Y t D G) (hw : H w = some (.lst zs)) (e : ExW w H H1) (n1 : w ∉ X.own) (n2 : w ≠ X.wl) (n3 : w ≠ X.dl) : FoH K H1 C CJ x X n Y t D G := by
  obtain ⟨dx, o1⟩ := h.obj
  obtain ⟨xs, w1, w2⟩ := h.ways
  obtain ⟨js, j1, j2⟩ := h.jl
  obtain ⟨dx2, o2, o3⟩ := h.jo.ex
  have tx := TX.w2 hw e
  have nt : X.tl ≠ w := fun z => n1 (z ▸ List.mem_cons_self)
  have nj : X.jl ≠ w := fun z => n1 (z ▸ List.mem_cons_of_mem _ List.mem_cons_self)
  refine ⟨⟨dx, e _ _ o1 (ne_of o1 hw (by intro z; cases z))⟩, h.jo.mono (fun o q => e _ _ q (ne_of o2 hw (by intro z; cases z))) (fun o q => e _ _ q nt), ⟨xs, e _ _ w1 n2.symm, w2.tx tx⟩, h.wt, h.wj, e _ _ h.dl n3.symm, h.dt, h.dj, h.dn, h.nd, fun j c hc => ?_, ⟨js, e _ _ j1 nj, j2.tx tx⟩, h.jt⟩
  obtain ⟨kv9, k9, d9⟩ := h.at' j c hc
  exact ⟨kv9, e _ _ k9 (ne_of k9 hw (by intro z; cases z)), d9⟩
theorem FoH.offs {K : PySem.W.Frag} {H : Hp} {C CJ x w : Addr} {X : Fx} {n : Nat} {Y : List Fo.Yw} {t : Nat → Nat} {D : Nat → Int → Option Nat} {G : List (Nat × Nat)} (h : FoH K H C CJ x X n Y t D G) (hw : H w = none) : w ∉ X.own ∧ w ≠ X.wl ∧ w ≠ X.dl ∧ w ≠ x := by
  obtain ⟨xs, w1, w2⟩ := h.ways
  obtain ⟨dx, o1⟩ := h.obj
  exact ⟨h.fresh hw, (ne_of_none w1 hw).symm, (ne_of_none h.dl hw).symm, (ne_of_none o1 hw).symm⟩
theorem two_perm {ns : List Int} {x y : Int} (perm : ns.Perm [x, y]) (pw : ns.Pairwise (· ≤ ·)) : ns = [min x y, max x y] := by
  have l := perm.length_eq
  have sm := perm_sum perm
  match ns, l, pw with
  | [u, v], _, pw =>
    have hu : u ∈ [x, y] := perm.mem_iff.mp List.mem_cons_self
    have le : u ≤ v := List.rel_of_pairwise_cons pw List.mem_cons_self
    simp only [List.sum_cons, List.sum_nil] at sm
    simp only [List.mem_cons, List.not_mem_nil, or_false] at hu
    have e1 : u = min x y := by omega
    have e2 : v = max x y := by omega
    rw [e1, e2]
theorem r_sort2 {K : PySem.W.Frag} {H : Hp} {Q : VK} {a : Addr} {x y : Int} (h : SqL K H a [.int x, .int y]) (q : ∀ p H1, H p = none → Ex H H1 → H1 p = some (.lst [.int (min x y), .int (max x y)]) → Q (.ref p) H1) : rSorted K [.ref a] H Q :=
  ⟨a, [x, y], rfl, h, (by simp : [x, y].length < 64), fun ns p perm pw hp => by
    rw [two_perm perm pw]
    exact q p _ hp (Ex.new hp) upd_same⟩
theorem fo_no {X : Fx} {m : Str} (h1 : ¬ (("ways" : Str) = m)) (h2 : ¬ (("joined" : Str) = m)) (h3 : ¬ (("doors" : Str) = m)) (h4 : ¬ (("joinings" : Str) = m)) : (foF X).lookup m = none := by
  rw [lk_skip h1, lk_skip h2, lk_skip h3, lk_skip h4]
  rfl
theorem fo_far {X : Fx} : (foF X).lookup ("far_end" : Str) = none := fo_no (by decide +kernel) (by decide +kernel) (by decide +kernel) (by decide +kernel)
theorem fo_move {X : Fx} : (foF X).lookup ("move_doors" : Str) = none := fo_no (by decide +kernel) (by decide +kernel) (by decide +kernel) (by decide +kernel)
theorem fo_ends {X : Fx} : (foF X).lookup ("join_ends" : Str) = none := fo_no (by decide +kernel) (by decide +kernel) (by decide +kernel) (by decide +kernel)
theorem fo_add {X : Fx} : (foF X).lookup ("add_door" : Str) = none := fo_no (by decide +kernel) (by decide +kernel) (by decide +kernel) (by decide +kernel)
theorem fo_table {X : Fx} : (foF X).lookup ("table" : Str) = none := fo_no (by decide +kernel) (by decide +kernel) (by decide +kernel) (by decide +kernel)
section
variable {K : PySem.W.Frag} {σ : L2.St} {H : Hp} {Q : VK} {D : Ends} {tb : TS} {tv : TE} {vs : List Nat} {j j2 m : Nat} {ns : List Int} {d a : Addr} {k : SK} {k0 : Int} {xs : List V} {g2 : TG}
/-- for i, (..) in enumerate(xs) -/
theorem r_forEN (Pv : Nat → L2.St → Hp → Prop) (h0 : Pv 0 σ H) (hl : ∀ i σ' H', i ≤ xs.length → Pv i σ' H' → k.Sq K H' a xs)
    (hs : ∀ i x σ' H' H1, xs[i]? = some x → Pv i σ' H' → Ex H' H1 → g2 x (σ'.set m (some (.int (k0 + (i : Int))))) H1 fun σ2 H2 => ([] : List V) = [] ∧ tb { D with nx := Pv (i + 1), ct := Pv (i + 1), bk := D.nx } σ2 H2)
    (hd : ∀ σ' H', Pv xs.length σ' H' → D.nx σ' H') : rFor (ItE k K k0 a) (gTup K 2 (gCons (gName m) (gCons g2 gNil))) tb D σ H := by
  refine ⟨fun i d σ H => d = xs.length - i ∧ i ≤ xs.length ∧ Pv i σ H, ⟨_, rfl, Nat.zero_le _, h0⟩, ?_⟩
  rintro i d σ H ⟨rfl, hi, p⟩
  have hq := hl i σ H hi p
  rcases Nat.lt_or_ge i xs.length with lt | ge
  · have hx := List.getElem?_eq_getElem lt
    refine .inr ⟨⟨xs, _, hq, hx⟩, Pv (i + 1), fun σ' H' q => ⟨xs.length - (i + 1), by omega, rfl, lt, q⟩, ?_⟩
    rintro v H' ⟨T, x, rfl, hT, rfl, e⟩
    exact ⟨T, _, rfl, t_of upd_same, rfl, _, [x], rfl, x, [], rfl, hs i x σ H _ (e xs hq) p (Ex.new hT)⟩
  · have e : xs.length = i := by omega
    exact .inl ⟨⟨xs, hq, e⟩, hd σ H (by rw [e]; exact p)⟩
/-- {x: e for x, y in d.items()}, where e changes what stands at w -/
theorem r_dcI2W {i0 : Nat} {f0 : Int → V} (w : Addr) (P : Hp → Prop) (hv : σ[i0]? = some (some (.ref d))) (hd : H d = some (.dK (dm ns f0))) (hdw : d ≠ w) (hn : ns.Nodup) (f : Int → V) (hz : ns.length ≤ 10000) (hw : ∀ x y, wipe (((wipe σ vs).set j (some x)).set j2 (some y)) vs = wipe σ vs) (hj : ∀ x y, (((wipe σ vs).set j (some x)).set j2 (some y))[j]? = some (some x))
    (hP0 : ∀ od, P (upd H d (.frz od (.dK (dm ns f0))))) (hPd : ∀ H1 T o, H T = none → P H1 → P (upd H1 T o)) (hPw : ∀ H1, P H1 → H1 w ≠ none)
    (he : ∀ x, x ∈ ns → ∀ (H1 : Hp) (Q' : VK), P H1 → (∀ H2, P H2 → ExW w H1 H2 → Q' (f x) H2) → tv (((wipe σ vs).set j (some (.int x))).set j2 (some (f0 x))) H1 Q')
    (q : ∀ p H1, H p = none → p ≠ d → P H1 → (∀ b o, H b = some o → b ≠ w → b ≠ d → H1 b = some o) → H1 p = some (.dK (dm ns f)) → Q (.ref p) (upd H1 d (.dK (dm ns f0)))) : tLockE (tDc (iItems (tVar i0)) (gTup K 2 (gCons (gName j) (gCons (gName j2) gNil))) tYes (tVar j) tv vs) σ H Q := by
  refine ⟨d, _, hd, trivial, fun od => ?_⟩
  refine ⟨_, hv, d, od, dm ns f0, rfl, upd_same, fun D hD => ?_⟩
  have p0 := hP0 od
  have hDd : D ≠ d := fun e => by rw [e, upd_same] at hD; cases hD
  have hD0 : H D = none := by rw [upd_ne hDd] at hD; exact hD
  have fr : (upd H d (.frz od (.dK (dm ns f0)))) d = some (.frz od (.dK (dm ns f0))) := upd_same
  have wx : ∀ b o, H b = some o → b ≠ w → b ≠ d → (upd H d (.frz od (.dK (dm ns f0)))) b = some o := fun b o h _ n => by rw [upd_ne n]; exact h
  generalize upd H d (.frz od (.dK (dm ns f0))) = H0 at hD fr wx p0
  have hDw : D ≠ w := fun e => hPw H0 p0 (e ▸ hD)
  refine ⟨fun i m H' => m = ns.length - i ∧ i ≤ ns.length ∧ P H' ∧ (∀ b o, H b = some o → b ≠ w → b ≠ d → H' b = some o) ∧ H' d = some (.frz od (.dK (dm ns f0))) ∧ H' D = some (.dK (dm (ns.take i) f)), ⟨ns.length, by simp, Nat.zero_le _, hPd _ _ _ hD0 p0, fun b o h n1 n2 => ?_, ?_, upd_same⟩, ?_⟩
  · rw [upd_ne (ne_of_none h hD0)]
    exact wx b o h n1 n2
  · rw [upd_ne hDd.symm]
    exact fr
  rintro i m H' ⟨rfl, hi, p, e, fr', h⟩
  rcases Nat.lt_or_ge i ns.length with lt | ge
  · have hx := List.getElem?_eq_getElem lt
    refine .inr ⟨⟨fr', by rw [dm_len]; exact lt⟩, fun H'' => P H'' ∧ (∀ b o, H b = some o → b ≠ w → b ≠ d → H'' b = some o) ∧ H'' d = some (.frz od (.dK (dm ns f0))) ∧ H'' D = some (.dK (dm (ns.take (i + 1)) f)), fun H'' p => ⟨ns.length - (i + 1), by omega, rfl, lt, p⟩, ?_⟩
    rintro y H6 ⟨T, k, v, hy, rfl, hT, rfl⟩
    unfold dm at hy
    rw [List.getElem?_map, hx] at hy
    cases hy
    have hT0 : H T = none := by
      cases c : H T with
      | none => rfl
      | some o =>
        exfalso
        by_cases c1 : T = w
        · exact hPw _ p (c1 ▸ hT)
        · by_cases c2 : T = d
          · rw [c2, fr'] at hT; cases hT
          · rw [e T o c c1 c2] at hT; cases hT
    have nTd : d ≠ T := fun z => by rw [← z, fr'] at hT; cases hT
    have nTD : D ≠ T := fun z => by rw [← z, h] at hT; cases hT
    refine r_tup2 (x := .int ns[i]) (y := f0 ns[i]) (t_of (by rw [upd_same]; rfl)) ?_
    refine ⟨hw _ _, t_yes ?_⟩
    dsimp only
    rw [if_pos rfl]
    refine ⟨_, hj _ _, ?_⟩
    refine he _ (List.mem_of_getElem? hx) _ _ (hPd _ _ _ hT0 p) fun H7 p7 e7 => ?_
    have h7 := e7 _ _ (show (upd H' T _) D = _ by rw [upd_ne nTD]; exact h) hDw
    have d7 := e7 _ _ (show (upd H' T _) d = _ by rw [upd_ne nTd]; exact fr') hdw
    refine ⟨_, Sum.inl ns[i], rfl, h7, sz_lt (by rw [dm_len, List.length_take]; omega), hPd _ _ _ hD0 p7, fun b o hb n1 n2 => ?_, by rw [upd_ne hDd.symm]; exact d7, ?_⟩
    · rw [upd_ne (ne_of_none hb hD0)]
      exact e7 _ _ (by rw [upd_ne (ne_of_none hb hT0)]; exact e b o hb n1 n2) n1
    · have nin : ns[i] ∉ ns.take i := fun hm => by
        obtain ⟨k, hk⟩ := List.mem_iff_getElem?.mp hm
        have hki := (List.getElem?_eq_some_iff.mp hk).1
        rw [List.length_take] at hki
        rw [List.getElem?_take_of_lt (by omega)] at hk
        have := (List.getElem?_inj (by omega) hn).mp (hk.trans hx.symm)
        omega
      rw [upd_same, putK_dm_new nin, take_snoc hx, dm_snoc]
  · have e2 : i = ns.length := by omega
    subst e2
    refine .inl ⟨⟨fr', by rw [dm_len]; exact Nat.le_refl _⟩, fr', ?_⟩
    rw [List.take_length] at h
    exact q D H' hD0 hDd p e h
end
/-- what a far end wants of a fold -/
structure FeH (K : PySem.W.Frag) (H : Hp) (C CJ x : Addr) (X : Fx) (n : Nat) (Y : List Fo.Yw) (t : Nat → Nat) : Prop where
  obj : ∃ dx, H x = some (.ins C dx (foF X))
  jo : JoH H X.jo CJ X.tl n t
  ways : ∃ xs, H X.wl = some (.lst xs) ∧ WkA K H xs (Y.map Fo.y3)
theorem FoH.fe {K : PySem.W.Frag} {H : Hp} {C CJ x : Addr} {X : Fx} {n : Nat} {Y : List Fo.Yw} {t : Nat → Nat} {D : Nat → Int → Option Nat} {G : List (Nat × Nat)} (h : FoH K H C CJ x X n Y t D G) : FeH K H C CJ x X n Y t := ⟨h.obj, h.jo, h.ways⟩
theorem FeH.way {K : PySem.W.Frag} {H : Hp} {C CJ x : Addr} {X : Fx} {n : Nat} {Y : List Fo.Yw} {t : Nat → Nat} (h : FeH K H C CJ x X n Y t) {i : Nat} {y : Fo.Yw} (hy : Y[i]? = some y) : ∃ xs p, H X.wl = some (.lst xs) ∧ xs[i]? = some (.ref p) ∧ IT K H p (Fo.y3 y) := by
  obtain ⟨xs, w1, w2⟩ := h.ways
  have hi := (List.getElem?_eq_some_iff.mp hy).1
  have l := w2.len
  rw [List.length_map] at l
  have hx := List.getElem?_eq_getElem (l := xs) (i := i) (by omega)
  obtain ⟨p, e, q⟩ := w2.at' i _ _ hx (by rw [List.getElem?_map, hy]; rfl)
  exact ⟨xs, p, w1, by rw [hx, e], q⟩
/-- a dict of rooms, each with its steps -/
structure TbD (H : Hp) (D : Addr) (kvs : List (Key × V)) (ks : List Nat) (d : Wb.Gm) : Prop where
  len : kvs.length = ks.length
  at' : ∀ (i g : Nat) kv, ks[i]? = some g → kvs[i]? = some kv → kv.1 = Sum.inl (g : Int) ∧ ∃ p l, kv.2 = .ref p ∧ p ≠ D ∧ H p = some (.dK l) ∧ DI l fun s => vN (d g s)
theorem TbD.nil {H : Hp} {D : Addr} {d : Wb.Gm} : TbD H D [] [] d := ⟨rfl, fun i g kv h => by simp at h⟩
theorem TbD.mono {H H1 : Hp} {D : Addr} {kvs : List (Key × V)} {ks : List Nat} {d : Wb.Gm} (h : TbD H D kvs ks d) (e : ∀ p l, p ≠ D → H p = some (.dK l) → H1 p = some (.dK l)) : TbD H1 D kvs ks d := ⟨h.len, fun i g kv a b => by
  obtain ⟨h1, p, l, h2, h3, h4, h5⟩ := h.at' i g kv a b
  exact ⟨h1, p, l, h2, h3, e p l h3 h4, h5⟩⟩
theorem TbD.keys {H : Hp} {D : Addr} {kvs : List (Key × V)} {ks : List Nat} {d : Wb.Gm} (h : TbD H D kvs ks d) : kvs.map (·.1) = ks.map fun (g : Nat) => (Sum.inl (g : Int) : Key) := by
  refine List.ext_getElem? fun i => ?_
  rw [List.getElem?_map, List.getElem?_map]
  rcases Nat.lt_or_ge i kvs.length with lt | ge
  · have a := List.getElem?_eq_getElem lt
    have b := List.getElem?_eq_getElem (l := ks) (i := i) (by rw [← h.len]; exact lt)
    rw [a, b]
    exact congrArg some (h.at' i _ _ b a).1
  · rw [List.getElem?_eq_none ge, List.getElem?_eq_none (by rw [← h.len]; exact ge)]
    rfl
theorem TbD.snoc {H : Hp} {D p : Addr} {kvs l : List (Key × V)} {ks : List Nat} {d : Wb.Gm} {g : Nat} (h : TbD H D kvs ks d) (hp : p ≠ D) (k : H p = some (.dK l)) (q : DI l fun s => vN (d g s)) : TbD H D (kvs ++ [(Sum.inl (g : Int), .ref p)]) (ks ++ [g]) d := by
  refine ⟨by rw [List.length_append, List.length_append, h.len]; rfl, fun i g' kv a b => ?_⟩
  rcases Nat.lt_or_ge i ks.length with lt | ge
  · rw [List.getElem?_append_left lt] at a
    rw [List.getElem?_append_left (h.len ▸ lt)] at b
    exact h.at' i g' kv a b
  · rw [List.getElem?_append_right ge] at a
    rw [List.getElem?_append_right (h.len ▸ ge)] at b
    have e : i - ks.length = 0 := by
      have := (List.getElem?_eq_some_iff.mp a).1
      simp at this
      omega
    rw [e] at a
    rw [h.len, e] at b
    cases a
    cases b
    exact ⟨rfl, p, l, rfl, hp, k, q⟩
theorem TbD.get {H : Hp} {D : Addr} {kvs : List (Key × V)} {ks : List Nat} {d : Wb.Gm} (h : TbD H D kvs ks d) (hn : ks.Nodup) {g : Nat} (hg : g ∈ ks) : ∃ p l, valV kvs (Sum.inl (g : Int)) = some (.ref p) ∧ H p = some (.dK l) ∧ DI l fun s => vN (d g s) := by
  obtain ⟨i, hi⟩ := List.mem_iff_getElem?.mp hg
  have b := List.getElem?_eq_getElem (l := kvs) (i := i) (by rw [h.len]; exact (List.getElem?_eq_some_iff.mp hi).1)
  obtain ⟨h1, p, l, h2, h3, h4, h5⟩ := h.at' i g _ hi b
  refine ⟨p, l, ?_, h4, h5⟩
  have := valV_at (by rw [h.keys]; exact nodup_keys hn) b
  rw [h1, h2] at this
  exact this
theorem FoH.tlw {K : PySem.W.Frag} {H H1 : Hp} {C CJ x w : Addr} {X : Fx} {n : Nat} {Y : List Fo.Yw} {t t' : Nat → Nat} {D : Nat → Int → Option Nat} {G : List (Nat × Nat)} {kvs : List (Key × V)} (h : FoH K H C CJ x X n Y t D G) (hw : H w = some (.dK kvs)) (e : ∀ b o, H b = some o → b ≠ X.tl → b ≠ w → H1 b = some o) (n1 : w ∉ X.own) (J : JoH H1 X.jo CJ X.tl n t') : FoH K H1 C CJ x X n Y t' D G := by
  obtain ⟨dx, o1⟩ := h.obj
  obtain ⟨xs, w1, w2⟩ := h.ways
  obtain ⟨js, j1, j2⟩ := h.jl
  obtain ⟨dx2, o2, o3⟩ := h.jo.ex
  have tx : TX H H1 := fun q ys hq => by
    rcases hq with hq | ⟨o, hq⟩
    · rw [hq, e _ _ hq (ne_of hq o3 (by intro z; cases z)) (ne_of hq hw (by intro z; cases z))]
    · rw [hq, e _ _ hq (ne_of hq o3 (by intro z; cases z)) (ne_of hq hw (by intro z; cases z))]
  refine ⟨⟨dx, e _ _ o1 (ne_of o1 o3 (by intro z; cases z)) (ne_of o1 hw (by intro z; cases z))⟩, J, ⟨xs, e _ _ w1 h.wt (ne_of w1 hw (by intro z; cases z)), w2.tx tx⟩, h.wt, h.wj, e _ _ h.dl h.dt (ne_of h.dl hw (by intro z; cases z)), h.dt, h.dj, h.dn, h.nd, fun i a ha => ?_, ⟨js, e _ _ j1 h.jt (ne_of j1 hw (by intro z; cases z)), j2.tx tx⟩, h.jt⟩
  obtain ⟨kv, k1, k2⟩ := h.at' i a ha
  exact ⟨kv, e _ _ k1 (ne_of k1 o3 (by intro z; cases z)) fun z => n1 (z ▸ List.mem_cons_of_mem _ (List.mem_cons_of_mem _ (List.mem_of_getElem? ha))), k2⟩
theorem valV_none_of {kvs : List (Key × V)} {k : Key} (h : k ∉ kvs.map (·.1)) : valV kvs k = none := by
  cases e : valV kvs k with
  | none => rfl
  | some v => exact absurd (valV_in e) h
/-- a table of steps: a list of dicts, or a dict of them by the rooms -/
def TabX (H : Hp) (p : Addr) (n : Nat) (d : Wb.Gm) (home : Nat) : Prop := TabH H p n d ∨ ∃ kvs ks, H p = some (.dK kvs) ∧ TbD H p kvs ks d ∧ ks.Nodup ∧ home ∈ ks ∧ ∀ r s g, d r s = some g → g ∈ ks
theorem adv_sub {d : Wb.Gm} {r g : Nat} {s : Int} {fd : Wb.Fd} (h : g ∈ (Wb.adv d r fd s).map (·.1)) : g ∈ fd.map (·.1) ∨ ∃ t, d r t = some g := by
  unfold Wb.adv at h
  cases e : d r s with
  | none => rw [e] at h; exact .inl h
  | some g' =>
    rw [e] at h
    have h : g ∈ (if g' ∈ fd.map (·.1) then fd else fd ++ [(g', some (r, s))]).map (·.1) := h
    split at h
    · exact .inl h
    · rw [List.map_append, List.mem_append] at h
      rcases h with h | h
      · exact .inl h
      · have : g = g' := by simpa using h
        exact .inr ⟨s, by rw [e, this]⟩
theorem look_sub {d : Wb.Gm} {r g : Nat} : ∀ (S : List Int) {fd : Wb.Fd}, g ∈ (Wb.look d r S fd).map (·.1) → g ∈ fd.map (·.1) ∨ ∃ t, d r t = some g
  | [], _, h => .inl h
  | s :: S, fd, h => by
    rcases look_sub S (show g ∈ (Wb.look d r S (Wb.adv d r fd s)).map (·.1) from h) with h | h
    · exact adv_sub h
    · exact .inr h
/-- {x: i for i, x in enumerate(d)}, d a dict that nobody holds but this -/
theorem r_dcED {K : PySem.W.Frag} {σ : L2.St} {H : Hp} {Q : VK} {vs : List Nat} {j j2 : Nat} {d : Addr} {kvs : List (Key × V)} {ord : List Nat} (hd : H d = some (.dK kvs)) (hk : kvs.map (·.1) = ord.map fun (g : Nat) => (Sum.inl (g : Int) : Key)) (hn : ord.Nodup) (hz : ord.length ≤ 10000) (hw : ∀ x y, wipe (((wipe σ vs).set j (some x)).set j2 (some y)) vs = wipe σ vs)
    (hj : ∀ x y, (((wipe σ vs).set j (some x)).set j2 (some y))[j]? = some (some x)) (hj2 : ∀ x y, (((wipe σ vs).set j (some x)).set j2 (some y))[j2]? = some (some y))
    (q : ∀ p H1, H p = none → (∀ b o, H b = some o → b ≠ d → H1 b = some o) → H1 p = some (.dK (dm (nI ord) fun x => .int ((nI ord).idxOf x : Int))) → Q (.ref p) H1) : rItED K [.ref d] (fun J H1 => rDc J (gTup K 2 (gCons (gName j) (gCons (gName j2) gNil))) tYes (tVar j2) (tVar j) vs σ Q H1) H := by
  refine ⟨d, kvs, rfl, hd, fun o D hD => ?_⟩
  have hDd : D ≠ d := fun e => by rw [e, upd_same] at hD; cases hD
  have hD0 : H D = none := by rw [upd_ne hDd] at hD; exact hD
  have fr : (upd H d (.frz o (.dK kvs))) d = some (.frz o (.dK kvs)) := upd_same
  have wx : ∀ b u, H b = some u → b ≠ d → (upd H d (.frz o (.dK kvs))) b = some u := fun b u h n => by rw [upd_ne n]; exact h
  generalize upd H d (.frz o (.dK kvs)) = H0 at hD fr wx
  have lk : kvs.length = ord.length := by have := congrArg List.length hk; rwa [List.length_map, List.length_map] at this
  have ln : (nI ord).length = ord.length := nI_len
  have nd : (nI ord).Nodup := by
    unfold nI
    rw [List.nodup_iff_pairwise_ne, List.pairwise_map]
    exact List.Pairwise.imp (fun h z => h (by omega)) (List.nodup_iff_pairwise_ne.mp hn)
  refine ⟨fun i m H' => m = ord.length - i ∧ i ≤ ord.length ∧ Ex H0 H' ∧ H' D = some (.dK (dm ((nI ord).take i) fun x => .int ((nI ord).idxOf x : Int))), ⟨ord.length, by simp, Nat.zero_le _, Ex.new hD, upd_same⟩, ?_⟩
  rintro i m H' ⟨rfl, hi, e, h⟩
  have fr' := e _ _ fr
  have zs : (kvs.map fun kv => kV kv.1).length = ord.length := by rw [List.length_map, lk]
  rcases Nat.lt_or_ge i ord.length with lt | ge
  · have hx := List.getElem?_eq_getElem lt
    have hxi : (nI ord)[i]? = some (ord[i] : Int) := nI_at hx
    have hkx : (kvs.map fun kv => kV kv.1)[i]? = some (V.int (ord[i] : Int)) := by
      have := congrArg (fun l => l[i]?) hk
      simp only [List.getElem?_map] at this ⊢
      rw [hx] at this
      cases e2 : kvs[i]? with
      | none => rw [e2] at this; cases this
      | some kv =>
        rw [e2] at this
        have := Option.some.inj this
        show some (kV kv.1) = _
        rw [show kv.1 = Sum.inl (ord[i] : Int) from this]
        rfl
    refine .inr ⟨⟨_, _, ⟨kvs, fr', rfl⟩, hkx⟩, fun H'' => Ex H0 H'' ∧ H'' D = some (.dK (dm ((nI ord).take (i + 1)) fun x => .int ((nI ord).idxOf x : Int))), fun H'' p => ⟨ord.length - (i + 1), by omega, rfl, lt, p⟩, ?_⟩
    rintro v H6 ⟨T, x, rfl, hT, rfl, hxx⟩
    have hx2 := hxx _ ⟨kvs, fr', rfl⟩
    rw [hkx] at hx2
    cases hx2
    have e6 : Ex H' (upd H' T (.tup [.int (0 + (i : Int)), .int (ord[i] : Int)])) := Ex.new hT
    refine r_tup2 (t_of upd_same) ⟨hw _ _, t_yes ?_⟩
    dsimp only
    rw [if_pos rfl]
    refine ⟨_, hj2 _ _, _, hj _ _, ?_⟩
    have h7 := e6 _ _ h
    refine ⟨_, Sum.inl (ord[i] : Int), rfl, h7, sz_lt (by rw [dm_len, List.length_take]; omega), Ex.mut (e.trans e6) hD, ?_⟩
    have nin : (ord[i] : Int) ∉ (nI ord).take i := fun hm => by
      obtain ⟨k, hk2⟩ := List.mem_iff_getElem?.mp hm
      have hki := (List.getElem?_eq_some_iff.mp hk2).1
      rw [List.length_take] at hki
      rw [List.getElem?_take_of_lt (by omega)] at hk2
      have := (List.getElem?_inj (by omega) nd).mp (hk2.trans hxi.symm)
      omega
    have ix : (nI ord).idxOf (ord[i] : Int) = i := by
      rw [nI_idx]
      exact hn.idxOf_getElem i lt
    rw [upd_same, Int.zero_add, take_snoc hxi, dm_snoc, ix, putK_dm_new nin]
  · have e2 : i = ord.length := by omega
    subst e2
    refine .inl ⟨⟨_, ⟨kvs, fr', rfl⟩, zs⟩, ?_⟩
    rw [← ln, List.take_length] at h
    exact q D H' hD0 (fun b u hb n => e _ _ (wx b u hb n)) h
end L2
/-! data compared -/
namespace L2
open PySem PySem.Spec PyProof.Rows Evl
def rCmp (K : PySem.W.Frag) (b : PyData → PyData → Bool) : R2 := fun x y H Q => ∃ d e, Dp K H x d ∧ Dp K H y e ∧ PySem.W.alike d e = true ∧ d ≠ .none ∧ d.depth ≤ 30 ∧ Q (.bl (b d e)) H
section
variable {X : Cx}
theorem op_ltD (K : PySem.W.Frag) (hu : X.A.units + 64 < cLine) (hK : X.K = K := by rfl) : OpR X (compareOp .Lt) (rCmp K fun d e => PySem.W.dataLt d e) := by
  cases hK
  intro pins s σ H x y v u Q I rx ry h
  obtain ⟨d, e, hd, he, al, nn, dp, q⟩ := h
  obtain ⟨as, r1⟩ := Dp.reads I _ _ _ hd rx
  obtain ⟨bs, r2⟩ := Dp.reads I _ _ _ he ry
  exact PySem.W.lt_data r1 r2 al nn (by omega) ⟨.bl _, H, I, rfl, q⟩
theorem op_gtD (K : PySem.W.Frag) (hu : X.A.units + 64 < cLine) (hK : X.K = K := by rfl) : OpR X (compareOp .Gt) (rCmp K fun d e => PySem.W.dataLt e d) := by
  cases hK
  intro pins s σ H x y v u Q I rx ry h
  obtain ⟨d, e, hd, he, al, nn, dp, q⟩ := h
  obtain ⟨as, r1⟩ := Dp.reads I _ _ _ hd rx
  obtain ⟨bs, r2⟩ := Dp.reads I _ _ _ he ry
  exact PySem.W.gt_data r1 r2 al nn (by omega) ⟨.bl _, H, I, rfl, q⟩
theorem op_leD (K : PySem.W.Frag) (hu : X.A.units + 64 < cLine) (hK : X.K = K := by rfl) : OpR X (compareOp .LtE) (rCmp K fun d e => !PySem.W.dataLt e d) := by
  cases hK
  intro pins s σ H x y v u Q I rx ry h
  obtain ⟨d, e, hd, he, al, nn, dp, q⟩ := h
  obtain ⟨as, r1⟩ := Dp.reads I _ _ _ hd rx
  obtain ⟨bs, r2⟩ := Dp.reads I _ _ _ he ry
  exact PySem.W.le_data r1 r2 al nn (by omega) ⟨.bl _, H, I, rfl, q⟩
theorem op_geD (K : PySem.W.Frag) (hu : X.A.units + 64 < cLine) (hK : X.K = K := by rfl) : OpR X (compareOp .GtE) (rCmp K fun d e => !PySem.W.dataLt d e) := by
  cases hK
  intro pins s σ H x y v u Q I rx ry h
  obtain ⟨d, e, hd, he, al, nn, dp, q⟩ := h
  obtain ⟨as, r1⟩ := Dp.reads I _ _ _ hd rx
  obtain ⟨bs, r2⟩ := Dp.reads I _ _ _ he ry
  exact PySem.W.ge_data r1 r2 al nn (by omega) ⟨.bl _, H, I, rfl, q⟩
end
/-- a number and ints -/
def kd (i : Int) (ns : List Int) : PyData := .tuple [.int i, .list (ns.map .int)]
open PySem.W in
theorem alike_ints : ∀ ns ms : List Int, alikeAll (ns.map PyData.int) (ms.map .int) = true
  | [], _ => by rw [List.map_nil, alikeAll]
  | _ :: _, [] => by rw [List.map_cons, List.map_nil, alikeAll]
  | x :: ns, y :: ms => by
    rw [List.map_cons, List.map_cons, alikeAll, alike_ints ns ms, alike]
    rfl
open PySem.W in
theorem dataLt_ints : ∀ ns ms : List Int, PyProof.Rows.lexLt itemOrd (keyToksAll (ns.map PyData.int)) (keyToksAll (ms.map .int)) = HT.lexLt ns ms
  | [], [] => by decide
  | [], y :: ms => by
    rw [List.map_nil, List.map_cons, HT.lexLt_nil_cons, keyToksAll, keyToksAll, lex_atom (by decide)]
    decide
  | x :: ns, [] => by
    rw [List.map_nil, List.map_cons, HT.lexLt_cons_nil, keyToksAll, keyToksAll, lex_atom (by decide)]
    decide
  | x :: ns, y :: ms => by
    rw [List.map_cons, List.map_cons, HT.lexLt_cons]
    by_cases c : x = y
    · rw [if_pos c, dataLt_all_yes (by rw [alike]) (by rw [PyData.eqv, c]; exact beq_self_eq_true y)]
      exact dataLt_ints ns ms
    · rw [if_neg c, dataLt_all_no (by rw [alike]) (by rw [PyData.eqv]; exact beq_eq_false_iff_ne.mpr c), dataLt_int]
open PySem.W in
theorem dataLt_kd (i j : Int) (ns ms : List Int) : dataLt (kd i ns) (kd j ms) = if i = j then (if ns = ms then false else HT.lexLt ns ms) else decide (i < j) := by
  unfold kd
  rw [dataLt_tuple]
  by_cases c : i = j
  · rw [if_pos c, dataLt_all_yes (by rw [alike]) (by rw [PyData.eqv, c]; exact beq_self_eq_true j)]
    by_cases c2 : ns = ms
    · rw [if_pos c2, dataLt_all_yes (by rw [alike, alike_ints]) (by rw [eqv_lints]; exact decide_eq_true c2)]
      decide
    · rw [if_neg c2, dataLt_all_no (by rw [alike, alike_ints]) (by rw [eqv_lints]; exact decide_eq_false c2), dataLt_list, dataLt_ints]
  · rw [if_neg c, dataLt_all_no (by rw [alike]) (by rw [PyData.eqv]; exact beq_eq_false_iff_ne.mpr c), dataLt_int]
theorem alike_kd (i j : Int) (ns ms : List Int) : PySem.W.alike (kd i ns) (kd j ms) = true := by
  unfold kd
  rw [PySem.W.alike, PySem.W.alikeAll, PySem.W.alikeAll, PySem.W.alikeAll, PySem.W.alike, PySem.W.alike, alike_ints]
  rfl
theorem depth_kd (i : Int) (ns : List Int) : (kd i ns).depth ≤ 30 := by
  unfold kd
  simp only [PyData.depth, PyData.depthAll, depth_ints]
  omega
theorem dp_kd {K : PySem.W.Frag} {H : Hp} {a p : Addr} {i : Int} {ns : List Int} (ha : SqT K H a [.int i, .ref p]) (hp : IL K H p ns) : Dp K H (.ref a) (kd i ns) := .tup ha (.cons (.int _) (.cons (dp_l hp) .nil))
/-- keys compared -/
theorem r_cmpK {K : PySem.W.Frag} {H : Hp} {Q : VK} {b : PyData → PyData → Bool} {a a2 p p2 : Addr} {i j : Int} {ns ms : List Int} (ha : SqT K H a [.int i, .ref p]) (hp : IL K H p ns) (hb : SqT K H a2 [.int j, .ref p2]) (hp2 : IL K H p2 ms) (q : Q (.bl (b (kd i ns) (kd j ms))) H) : rCmp K b (.ref a) (.ref a2) H Q :=
  ⟨_, _, dp_kd ha hp, dp_kd hb hp2, alike_kd _ _ _ _, (fun z => nomatch z), depth_kd _ _, q⟩
end L2
/-! all walks that turn one into another; the least of them -/
namespace Fg
theorem bk_cons (s : Int) (u : Wk) : bk (s :: u) = bk u ++ [-s] := by simp [bk]
theorem bk_snoc (u : Wk) (s : Int) : bk (u ++ [s]) = -s :: bk u := by simp [bk]
theorem bk_rep (u : Wk) : ∀ k, bk (rep k u) = rep k (bk u)
  | 0 => rfl
  | k + 1 => by
    show bk (rep k u ++ u) = rep k (bk u) ++ bk u
    rw [bk_app, bk_rep u k, rep_comm]
/-- a walk turned -/
def tn (u o : Wk) : Wk := rd (bk o ++ u ++ o)
theorem tn_rd (u o : Wk) : tn (rd u) o = tn u o := by
  unfold tn
  refine rd_eq (((Eqv.refl _).app (eqv_rd _ u rfl)).app (.refl _))
theorem tn_rd_r (u o : Wk) : tn u (rd o) = tn u o := by
  unfold tn
  refine rd_eq ((((eqv_rd _ o rfl).bk).app (Eqv.refl _)).app (eqv_rd _ o rfl))
theorem tn_tn (u o p : Wk) : tn (tn u o) p = tn u (o ++ p) := by
  unfold tn
  rw [bk_app]
  refine rd_eq ?_
  have := ((Eqv.refl (bk p)).app (eqv_rd _ (bk o ++ u ++ o) rfl)).app (Eqv.refl p)
  refine this.trans ?_
  rw [show bk p ++ (bk o ++ u ++ o) ++ p = bk p ++ bk o ++ u ++ (o ++ p) by simp]
  exact .refl _
theorem tn_eqv {u o p : Wk} (h : Eqv o p) : tn u o = tn u p := by
  unfold tn
  exact rd_eq ((h.bk.app (.refl _)).app h)
theorem tn_nil {u : Wk} (h : Str u) : tn u [] = u := by
  unfold tn
  show rd ([] ++ u ++ []) = u
  rw [List.nil_append, List.append_nil, rd_str h]
theorem tn_str (u o : Wk) : Str (tn u o) := str_rd _
theorem tn_ne {u o : Wk} (h : Str u) (hn : u ≠ []) : tn u o ≠ [] := fun z => by
  have a := congrArg (fun w => tn w (bk o)) z
  rw [tn_tn, tn_eqv (eqv_bk o), tn_nil h] at a
  unfold tn at a
  rw [List.append_nil, rd_app_bk' ] at a
  exact hn a
where
  rd_app_bk' : rd (bk (bk o) ++ bk o) = [] := rd_bk_app (bk o)
theorem tn_mem {u o : Wk} {x : Int} (h : x ∈ tn u o) : x ∈ u ∨ x ∈ o ∨ -x ∈ o := by
  have h := mem_rd h
  rcases List.mem_append.mp h with h | h
  · rcases List.mem_append.mp h with h | h
    · exact .inr (.inr (mem_bk h))
    · exact .inl h
  · exact .inr (.inl h)
theorem tn_nz {u o : Wk} (nu : ∀ x ∈ u, x ≠ 0) (no : ∀ x ∈ o, x ≠ 0) : ∀ x ∈ tn u o, x ≠ 0 := fun x hx => by
  rcases tn_mem hx with h | h | h
  · exact nu x h
  · exact no x h
  · have := no _ h
    omega
theorem conj_one {u : Wk} {s : Int} (h : Str u) (hn : u ≠ []) (nz : ∀ x ∈ u, x ≠ 0) (s0 : s ≠ 0) : ∃ k, k ≤ (mid u).length ∧ mid (tn u [s]) = rotn (mid u) k := by
  obtain ⟨e, hm, cm⟩ := core_parts h hn nz
  obtain ⟨a, ha⟩ : ∃ a, lead u = a := ⟨_, rfl⟩
  obtain ⟨m, hmm⟩ : ∃ m, mid u = m := ⟨_, rfl⟩
  rw [ha, hmm] at e
  rw [hmm] at hm cm ⊢
  have sb : bk [s] = [-s] := rfl
  unfold tn
  rw [sb]
  cases a with
  | nil =>
    have e : u = m := by rw [e]; simp [bk]
    rw [e]
    rw [e] at h
    by_cases c1 : m.head? = some s
    · obtain ⟨m', rfl⟩ : ∃ m', m = s :: m' := by
        cases m with
        | nil => cases c1
        | cons y m' => cases c1; exact ⟨m', rfl⟩
      refine ⟨1, by simp, ?_⟩
      have r1 : rotn (s :: m') 1 = m' ++ [s] := by simp [rotn]
      have cr := cyc_rotn cm 1
      rw [r1] at cr ⊢
      have : rd ([-s] ++ s :: m' ++ [s]) = m' ++ [s] := by
        have z := eqv_cut [] (m' ++ [s]) (-s)
        rw [List.nil_append, List.nil_append, Int.neg_neg] at z
        rw [show [-s] ++ s :: m' ++ [s] = [-s, s] ++ (m' ++ [s]) by simp, rd_eq z, rd_str cr.str]
      rw [this]
      exact (lead_mid_of (a := []) (by simp [bk]) cr (by simp)).2
    · by_cases c2 : m.getLast? = some (-s)
      · obtain ⟨m', rfl⟩ : ∃ m', m = m' ++ [-s] := by
          have := List.getLast?_eq_some_iff.mp c2
          exact this
        refine ⟨m'.length, by simp, ?_⟩
        have r1 : rotn (m' ++ [-s]) m'.length = [-s] ++ m' := rotn_split m' [-s]
        have cr := cyc_rotn cm m'.length
        rw [r1] at cr ⊢
        have : rd ([-s] ++ (m' ++ [-s]) ++ [s]) = [-s] ++ m' := by
          have z := eqv_cut ([-s] ++ m') [] (-s)
          rw [List.append_nil, List.append_nil, Int.neg_neg] at z
          rw [show [-s] ++ (m' ++ [-s]) ++ [s] = [-s] ++ m' ++ [-s, s] by simp, rd_eq z, rd_str cr.str]
        rw [this]
        exact (lead_mid_of (a := []) (by simp [bk]) cr (by simp)).2
      · refine ⟨0, Nat.zero_le _, ?_⟩
        rw [rotn_zero]
        have st : Str ([-s] ++ m ++ [s]) := by
          refine str_app (str_app (L2.str_one _) cm.str fun x y hx hy => ?_) (L2.str_one _) fun x y hx hy => ?_
          · have hx : -s = x := by simpa using hx
            intro z
            exact c1 (by rw [hy, z, ← hx, Int.neg_neg])
          · cases hy
            intro z
            rw [List.getLast?_append] at hx
            cases hl : m.getLast? with
            | none => exact hm (List.getLast?_eq_none_iff.mp hl)
            | some w =>
              rw [hl] at hx
              cases hx
              exact c2 (by rw [hl, z, Int.neg_neg])
        rw [rd_str st]
        exact (lead_mid_of (a := [-s]) (by simp [bk]) cm hm).2
  | cons t a =>
    refine ⟨0, Nat.zero_le _, ?_⟩
    rw [rotn_zero]
    by_cases c : s = t
    · subst c
      have e2 : u = [s] ++ (a ++ m ++ bk a) ++ [-s] := by rw [e, bk_cons]; simp
      have st : Str (a ++ m ++ bk a) := str_r (str_l (e2 ▸ h))
      have : rd ([-s] ++ u ++ [s]) = a ++ m ++ bk a := by
        have z1 := eqv_cut [] ((a ++ m ++ bk a) ++ [-s, s]) (-s)
        have z2 := eqv_cut (a ++ m ++ bk a) [] (-s)
        rw [List.nil_append, List.nil_append, Int.neg_neg] at z1
        rw [List.append_nil, List.append_nil, Int.neg_neg] at z2
        rw [e2, show [-s] ++ ([s] ++ (a ++ m ++ bk a) ++ [-s]) ++ [s] = [-s, s] ++ (a ++ m ++ bk a ++ [-s, s]) by simp, rd_eq (z1.trans z2), rd_str st]
      rw [this]
      exact (lead_mid_of rfl cm hm).2
    · have hu : u.head? = some t := by rw [e]; rfl
      have lu : u.getLast? = some (-t) := by rw [e, bk_cons, ← List.append_assoc, List.getLast?_concat]
      have st : Str ([-s] ++ u ++ [s]) := by
        refine str_app (str_app (L2.str_one _) h fun x y hx hy => ?_) (L2.str_one _) fun x y hx hy => ?_
        · have hx : -s = x := by simpa using hx
          rw [hu] at hy
          cases hy
          omega
        · cases hy
          rw [List.getLast?_append, lu] at hx
          have hx : -t = x := Option.some.inj hx
          omega
      rw [rd_str st]
      exact (lead_mid_of (a := -s :: t :: a) (by rw [bk_cons, e]; simp) cm hm).2
/-- turned walks have their cores begun at other steps -/
theorem core_conj : ∀ (o : Wk) {u : Wk}, Str u → u ≠ [] → (∀ x ∈ u, x ≠ 0) → (∀ x ∈ o, x ≠ 0) → ∃ k, k ≤ (mid u).length ∧ mid (tn u o) = rotn (mid u) k
  | [], u, h, _, _, _ => ⟨0, Nat.zero_le _, by rw [tn_nil h, rotn_zero]⟩
  | s :: o, u, h, hn, nz, no => by
    obtain ⟨i, hi, e1⟩ := conj_one h hn nz (no s List.mem_cons_self)
    have no1 : ∀ x ∈ [s], x ≠ 0 := fun x hx => by rw [List.mem_singleton.mp hx]; exact no s List.mem_cons_self
    obtain ⟨j, hj, e2⟩ := core_conj o (u := tn u [s]) (tn_str _ _) (tn_ne h hn) (tn_nz nz no1) fun x hx => no x (List.mem_cons_of_mem _ hx)
    rw [tn_tn] at e2
    rw [e1, rotn_len] at hj
    obtain ⟨k, hk, e3⟩ := rotn_rotn (m := mid u) hi hj
    exact ⟨k, hk, by rw [show s :: o = [s] ++ o from rfl, e2, e1, e3]⟩
/-! ### the order of walks -/
def kl (u v : Wk) : Bool := if u.length = v.length then HT.lexLt (u.map Od.cd) (v.map Od.cd) else decide (u.length < v.length)
end Fg
/-! min(xs, key=f), f a def; data that stay -/
namespace L2
open PySem PySem.Spec PyProof.Rows Evl
mutual
theorem dp_ex {K : PySem.W.Frag} {H H1 : Hp} (e : Ex H H1) : ∀ {v : V} {d : PyData}, Dp K H v d → Dp K H1 v d
  | _, _, .non => .non
  | _, _, .bl b => .bl b
  | _, _, .int i => .int i
  | _, _, .str x => .str x
  | _, _, .lst h k => .lst (ex_l e h) (dpa_ex e k)
  | _, _, .tup h k => .tup (ex_t e h) (dpa_ex e k)
theorem dpa_ex {K : PySem.W.Frag} {H H1 : Hp} (e : Ex H H1) : ∀ {vs : List V} {ds : List PyData}, DpAll K H vs ds → DpAll K H1 vs ds
  | _, _, .nil => .nil
  | _, _, .cons h k => .cons (dp_ex e h) (dpa_ex e k)
end
/-- which is the first that none is less than -/
def best (bt : Nat → Nat → Bool) : Nat → Nat
  | 0 => 0
  | j + 1 => if bt (j + 1) (best bt j) = true then j + 1 else best bt j
theorem best_le (bt : Nat → Nat → Bool) : ∀ j, best bt j ≤ j
  | 0 => Nat.le_refl 0
  | j + 1 => by
    have := best_le bt j
    unfold best
    split <;> omega
/-- an address that is the loop's own -/
structure OwnA (X : Cx) (pins : List (Addr × Obj)) (I : Addr) : Prop where
  a : X.s_0.heap.objs.size ≤ I
  l : I ≠ X.env.locals
  f : I ∉ X.fs
  c : ∀ x c, X.env.cells.lookup x = some c → c ≠ I
  p : ∀ p ∈ X.pn ++ pins, p.1 ≠ I
theorem Inv.ownA {X : Cx} {pins : List (Addr × Obj)} {σ : L2.St} {H : Hp} {s : Shared} {I : Addr} (v : Inv X pins σ H s) (h : s.heap.objs.size ≤ I) : OwnA X pins I := by
  obtain ⟨_, h2, h3, h4, h5, h6⟩ := v.fpOk (H' := H) h (v.hok.fresh h)
  refine ⟨Nat.le_trans v.sz h, h2, h3, h5, h6⟩
theorem own_notex {X : Cx} {pins : List (Addr × Obj)} {I : Addr} (o : OwnA X pins I) : I ∈ X.ex ∨ X.s_0.heap.objs.size ≤ I := .inr o.a
/-- two objects of the loop's own, tracked as pins -/
structure Two (X : Cx) (pins : List (Addr × Obj)) (σ : L2.St) (H : Hp) (s : Shared) (S I : Addr) (oS oI : Obj) : Prop where
  inv : Inv X pins σ H s
  hS : s.heap.get? S = some oS
  hI : s.heap.get? I = some oI
  nS : H S = none
  nI : H I = none
  cS : ∀ v, oS.data ≠ .cell v
  cI : ∀ v, oI.data ≠ .cell v
section
variable {X : Cx} {pins : List (Addr × Obj)} {σ : L2.St} {H : Hp} {s : Shared} {S I : Addr} {oS oI : Obj}
theorem Two.pinned (t : Two X pins σ H s S I oS oI) (ownS : OwnA X pins S) (ownI : OwnA X pins I) : Inv X ((S, oS) :: (I, oI) :: pins) σ H s := by
  refine t.inv.pins_of fun p hp => ?_
  rcases List.mem_cons.mp hp with rfl | hp
  · exact ⟨t.hS, t.nS, ownS.l, ownS.f, t.cS⟩
  · rcases List.mem_cons.mp hp with rfl | hp
    · exact ⟨t.hI, t.nI, ownI.l, ownI.f, t.cI⟩
    · exact t.inv.pin p (List.mem_append_right _ hp)
theorem Two.of (v : Inv X ((S, oS) :: (I, oI) :: pins) σ H s) : Two X pins σ H s S I oS oI := by
  have a := v.pin (S, oS) (List.mem_append_right _ List.mem_cons_self)
  have b := v.pin (I, oI) (List.mem_append_right _ (List.mem_cons_of_mem _ List.mem_cons_self))
  exact ⟨v.pins_of fun p hp => v.pin p (List.mem_append_right _ (List.mem_cons_of_mem _ (List.mem_cons_of_mem _ hp))), a.1, b.1, a.2.1, b.2.1, a.2.2.2.2, b.2.2.2.2⟩
/-- the iterator moves -/
theorem Two.turnI (t : Two X pins σ H s S I oS oI) (ownI : OwnA X pins I) (ne : S ≠ I) {h' : Heap} {tk : Nat} {oI' : Obj} (k : ∀ b o, b ≠ I → s.heap.get? b = some o → h'.get? b = some o) (hI : h'.get? I = some oI') (cI : ∀ v, oI'.data ≠ .cell v) : Two X pins σ H { s with heap := h', toks := tk } S I oS oI' :=
  ⟨t.inv.turned k t.nI ownI.l (own_notex ownI) ownI.c ownI.p, k S _ ne t.hS, hI, t.nS, t.nI, t.cS, cI⟩
theorem Two.turnS (t : Two X pins σ H s S I oS oI) (ownS : OwnA X pins S) (ne : S ≠ I) {h' : Heap} {tk : Nat} {oS' : Obj} (k : ∀ b o, b ≠ S → s.heap.get? b = some o → h'.get? b = some o) (hS : h'.get? S = some oS') (cS : ∀ v, oS'.data ≠ .cell v) : Two X pins σ H { s with heap := h', toks := tk } S I oS' oI :=
  ⟨t.inv.turned k t.nS ownS.l (own_notex ownS) ownS.c ownS.p, hS, k I _ ne.symm t.hI, t.nS, t.nI, cS, t.cI⟩
end
section
variable {X : Cx} {k : Nat} {f : Addr} {fd : FuncData} {pn : Str} {sp : Sp} {pins : List (Addr × Obj)} {σ : L2.St} {Hs : Hp} {l S I : Addr} {xs : List V} {d : Nat → PyData}
/-- the key of an item -/
theorem key_call (F : FnOk X.prog X.w X.K X.mg X.base CX0 k f fd [pn] sp) (hr : Room (k + 1) X.A) (hb : Binds X.K fd [pn] []) (ownS : OwnA X pins S) (ownI : OwnA X pins I) {H : Hp} {s : Shared} {oS oI : Obj} {x : V} {v : Value} {dx : PyData} (t : Two X pins σ H s S I oS oI) (rx : RelV x v)
    (turn : ∀ Q' : VK, (∀ kv H2, Ex H H2 → Dp X.K H2 kv dx → Q' kv H2) → sp [x] H Q' E0) {Q : Value → Shared → Prop} {E : Value → Shared → Prop}
    (q : ∀ kv u s' H2, Two X pins σ H2 s' S I oS oI → Ex H H2 → RelV kv u → Dp X.K H2 kv dx → Q u s') : wpAny (model X.prog X.w) X.A.in1 (call (.ref f) [v]) Q E s := by
  have I3 := t.pinned ownS ownI
  have r2 : Vals [x] [v] := .cons rx .nil
  refine wpAny_call (codeAny_mono (F.run X.A.in1 X.stack s H ⟨[v], []⟩ [v] [x] (fun kv H2 => Ex H H2 ∧ Dp X.K H2 kv dx) E0 hr.in1 I3.env0.in1 (hb s [v] I3.kIn rfl) r2 (turn _ fun kv H2 a b => ⟨a, b⟩)) fun r s' hq => ?_)
  cases r with
  | error e => exact (show False from hq).elim
  | ok fl =>
    cases fl with
    | ret u =>
      obtain ⟨kv, H2, I4, r4, e4, d4⟩ := I3.after hq
      exact q kv u s' H2 (Two.of I4) e4 r4 d4
    | next => exact False.elim hq
    | brk => exact False.elim hq
    | cont => exact False.elim hq
theorem min_loop (F : FnOk X.prog X.w X.K X.mg X.base CX0 k f fd [pn] sp) (hr : Room (k + 1) X.A) (hb : Binds X.K fd [pn] []) (ownS : OwnA X pins S) (ownI : OwnA X pins I) (hlI : l ≠ I) (hSI : S ≠ I)
    (turn : ∀ j x H1, xs[j]? = some x → Ex Hs H1 → ∀ Q' : VK, (∀ kv H2, Ex H1 H2 → Dp X.K H2 kv (d j) → Q' kv H2) → sp [x] H1 Q' E0)
    (al : ∀ i j, i < xs.length → j < xs.length → PySem.W.alike (d i) (d j) = true ∧ d i ≠ .none ∧ (d i).depth ≤ 30) (hl : SqL X.K Hs l xs) (kw : List (Str × Value)) {R : Result → Shared → Prop}
    (hR : ∀ x u s' H', xs[best (fun i j => PySem.W.dataLt (d i) (d j)) (xs.length - 1)]? = some x → RelV x u → Inv X pins σ H' s' → Ex Hs H' → R (.ok (.ret u)) s') :
    ∀ (r j : Nat) (s : Shared) (H : Hp) (xb : V) (vb kb : Value) (kV : V) (c : Nat) (oI : Obj), xs.length - (j + 1) = r → j + 1 ≤ xs.length → Two X pins σ H s S I (seqObj "list" #[vb, kb] c) oI → Ex Hs H → s.heap.IsListIter I l (j + 1) →
      xs[best (fun i j => PySem.W.dataLt (d i) (d j)) j]? = some xb → RelV xb vb → RelV kV kb → Dp X.K H kV (d (best (fun i j => PySem.W.dataLt (d i) (d j)) j)) → codeAny (model X.prog X.w) X.A (.builtin "min.loop" ⟨[.ref I, .ref f, .ref S], kw⟩) R s := by
  have hname : (toString "min" ++ toString ".loop" : String) = "min.loop" := by decide
  have hh : X.A.in1.handled = none := hr.hd
  intro r
  induction r with
  | zero =>
    intro j s H xb vb kb kV c oI hr0 hj t e hit hx rx rk dk
    have hin : j + 1 = xs.length := by omega
    obtain ⟨its, rv, hls, hz⟩ := t.inv.list (ex_l e hl)
    have hlen : its.length = xs.length := rv.length.symm
    have W := Walks.list (prog := X.prog) (w := X.w) (A := X.A.in1) hh I l hlI its.toArray
    have hsz : its.toArray.size = its.length := List.size_toArray ..
    refine codeAny_builtin PySem.F.entry_min_loop ?_
    rw [Around.under_plainId PySem.F.plain_min_loop _]
    show wpAny _ X.A.in1 (seqItems? (.ref S) >>= _) _ _ _
    refine wpAny_bind (wpAny_seqItems t.hS rfl ?_)
    show wpAny _ X.A.in1 (tryCatch (pyNext (.ref I)) _ >>= _) _ _ _
    refine wpAny_bind (wpAny_tryCatch (W.done _ _ _ ⟨by rw [hsz, hlen, ← hin]; exact hit, hls.isList⟩ fun h' tk' hk' => ?_))
    have k1 : ∀ b o, b ≠ I → s.heap.get? b = some o → h'.get? b = some o := fun b o hb q => hk' b o (by simpa using hb) q
    have v1 := t.inv.turned (t' := tk') k1 t.nI ownI.l (own_notex ownI) ownI.c ownI.p
    have hS1 := k1 S _ hSI t.hS
    show wpAny _ X.A.in1 (updateSeq S (fun _ => #[]) >>= _) _ _ _
    refine wpAny_bind ?_
    refine wpAny_updateSeq hS1 rfl (wpAny_bind (wpAny_letGo (wpAny_pure ?_)))
    have s1 := Heap.SameBut.update h' S (Obj.mapSeq fun _ => (#[] : Array Value))
    have v2 := v1.turned (h' := h'.update S (Obj.mapSeq fun _ => (#[] : Array Value))) (t' := tk') (fun b o hb q => (s1.2 b hb).trans q) t.nS ownS.l (own_notex ownS) ownS.c ownS.p
    exact hR xb vb _ H (by rw [← hin]; exact hx) rx v2 e
  | succ r ih =>
    intro j s H xb vb kb kV c oI hr0 hj t e hit hx rx rk dk
    have hlt : j + 1 < xs.length := by omega
    obtain ⟨its, rv, hls, hz⟩ := t.inv.list (ex_l e hl)
    have hlen : its.length = xs.length := rv.length.symm
    have W := Walks.list (prog := X.prog) (w := X.w) (A := X.A.in1) hh I l hlI its.toArray
    have hsz : its.toArray.size = its.length := List.size_toArray ..
    refine codeAny_builtin PySem.F.entry_min_loop ?_
    rw [Around.under_plainId PySem.F.plain_min_loop _]
    show wpAny _ X.A.in1 (seqItems? (.ref S) >>= _) _ _ _
    refine wpAny_bind (wpAny_seqItems t.hS rfl ?_)
    show wpAny _ X.A.in1 (tryCatch (pyNext (.ref I)) _ >>= _) _ _ _
    refine wpAny_bind (wpAny_tryCatch (W.item (j + 1) _ _ _ (by rw [hsz, hlen]; exact hlt) ⟨hit, hls.isList⟩ fun v h' tk' hP hst' hk' => ?_))
    have hv : its[j + 1]? = some v := by simpa using hP
    obtain ⟨xv, hxv⟩ : ∃ xv, xs[j + 1]? = some xv := ⟨_, List.getElem?_eq_getElem hlt⟩
    have rxv : RelV xv v := by
      obtain ⟨u, hu, ru⟩ := rv.get hxv
      rw [hv] at hu
      cases hu
      exact ru
    obtain ⟨oI', hoI', hoc, hod⟩ := id hst'.1
    have k1 : ∀ b o, b ≠ I → s.heap.get? b = some o → h'.get? b = some o := fun b o hb q => hk' b o (by simpa using hb) q
    have t1 : Two X pins σ H { s with heap := h', toks := tk' } S I (seqObj "list" #[vb, kb] c) oI' := t.turnI ownI hSI k1 hoI' fun v q => nomatch hod.symm.trans q
    show wpAny _ X.A.in1 (tryCatch (holding [v] (call (.ref f) [v])) _ >>= _) _ _ _
    refine wpAny_bind (wpAny_tryCatch (wpAny_holding (key_call F hr hb ownS ownI t1 rxv (turn (j + 1) xv H hxv e) fun kv u s'' H2 t2 e2 r2 d2 => ?_)))
    have hit2 : s''.heap.IsListIter I l (j + 1 + 1) := ⟨oI', t2.hI, hoc, hod⟩
    have bl := best_le (fun i j => PySem.W.dataLt (d i) (d j)) j
    obtain ⟨al1, al2, al3⟩ := al (j + 1) (best (fun i j => PySem.W.dataLt (d i) (d j)) j) hlt (by omega)
    obtain ⟨as, q1⟩ := Dp.reads t2.inv _ _ _ d2 r2
    obtain ⟨bs, q2⟩ := Dp.reads t2.inv _ _ _ (dp_ex e2 dk) rk
    have hu := hr.un
    show wpAny _ X.A.in1 (tryCatch (holding [v, u] (richCompare .Lt u kb >>= _)) _ >>= _) _ _ _
    refine wpAny_bind (wpAny_tryCatch (wpAny_holding (wpAny_bind (PySem.W.lt_data q1 q2 al1 al2 (by show X.A.units + 1 + _ < _; omega) ?_))))
    refine wpAny_bind (wpAny_holding (wpAny_truthy_bool ?_))
    refine wpAny_bind (wpAny_letGo (wpAny_pure ?_))
    cases hb' : PySem.W.dataLt (d (j + 1)) (d (best (fun i j => PySem.W.dataLt (d i) (d j)) j)) with
    | true =>
      have bj : best (fun i j => PySem.W.dataLt (d i) (d j)) (j + 1) = j + 1 := by
        show (if PySem.W.dataLt (d (j + 1)) (d (best (fun i j => PySem.W.dataLt (d i) (d j)) j)) = true then j + 1 else _) = _
        rw [if_pos hb']
      have s1 := Heap.SameBut.update s''.heap S (Obj.mapSeq fun _ => #[v, u])
      obtain ⟨c2, hc2⟩ : ∃ c2, (s''.heap.update S (Obj.mapSeq fun _ => #[v, u])).get? S = some (seqObj "list" #[v, u] c2) := ⟨_, get?_update_seq t2.hS fun _ => #[v, u]⟩
      simp only [if_true]
      refine wpAny_bind ?_
      refine wpAny_updateSeq t2.hS rfl (wpAny_bind (wpAny_letGo ?_))
      rw [hname]
      have t3 : Two X pins σ H2 { s'' with heap := s''.heap.update S (Obj.mapSeq fun _ => #[v, u]), toks := s''.toks } S I (seqObj "list" #[v, u] c2) oI' := t2.turnS ownS hSI (fun b o hb q => (s1.2 b hb).trans q) hc2 fun v q => nomatch q
      refine wpAny_pure ⟨plainId_quiet PySem.F.plain_min_loop _, ih (j + 1) _ H2 xv v u kv c2 oI' (by omega) hlt t3 (e.trans e2) ⟨oI', t3.hI, hoc, hod⟩ (by rw [bj]; exact hxv) rxv r2 (by rw [bj]; exact d2)⟩
    | false =>
      have bj : best (fun i j => PySem.W.dataLt (d i) (d j)) (j + 1) = best (fun i j => PySem.W.dataLt (d i) (d j)) j := by
        show (if PySem.W.dataLt (d (j + 1)) (d (best (fun i j => PySem.W.dataLt (d i) (d j)) j)) = true then j + 1 else _) = _
        rw [if_neg (by rw [hb']; exact Bool.false_ne_true)]
      simp only [Bool.false_eq_true, if_false]
      refine wpAny_bind (wpAny_letGo ?_)
      rw [hname]
      exact wpAny_pure ⟨plainId_quiet PySem.F.plain_min_loop _, ih (j + 1) _ H2 xb vb kb kV c oI' (by omega) hlt t2 (e.trans e2) hit2 (by rw [bj]; exact hx) rx rk (by rw [bj]; exact dp_ex e2 dk)⟩
theorem min_first (F : FnOk X.prog X.w X.K X.mg X.base CX0 k f fd [pn] sp) (hr : Room (k + 1) X.A) (hb : Binds X.K fd [pn] []) (ownS : OwnA X pins S) (ownI : OwnA X pins I) (hlI : l ≠ I) (hSI : S ≠ I)
    (turn : ∀ j x H1, xs[j]? = some x → Ex Hs H1 → ∀ Q' : VK, (∀ kv H2, Ex H1 H2 → Dp X.K H2 kv (d j) → Q' kv H2) → sp [x] H1 Q' E0)
    (al : ∀ i j, i < xs.length → j < xs.length → PySem.W.alike (d i) (d j) = true ∧ d i ≠ .none ∧ (d i).depth ≤ 30) (hl : SqL X.K Hs l xs) (kw : List (Str × Value)) {R : Result → Shared → Prop} (hn : 0 < xs.length)
    (hR : ∀ x u s' H', xs[best (fun i j => PySem.W.dataLt (d i) (d j)) (xs.length - 1)]? = some x → RelV x u → Inv X pins σ H' s' → Ex Hs H' → R (.ok (.ret u)) s') {s : Shared} {c : Nat} {oI : Obj}
    (t : Two X pins σ Hs s S I (seqObj "list" #[] c) oI) (hit : s.heap.IsListIter I l 0) : codeAny (model X.prog X.w) X.A (.builtin "min.loop" ⟨[.ref I, .ref f, .ref S], kw⟩) R s := by
  have hname : (toString "min" ++ toString ".loop" : String) = "min.loop" := by decide
  have hh : X.A.in1.handled = none := hr.hd
  obtain ⟨its, rv, hls, hz⟩ := t.inv.list hl
  have hlen : its.length = xs.length := rv.length.symm
  have W := Walks.list (prog := X.prog) (w := X.w) (A := X.A.in1) hh I l hlI its.toArray
  have hsz : its.toArray.size = its.length := List.size_toArray ..
  refine codeAny_builtin PySem.F.entry_min_loop ?_
  rw [Around.under_plainId PySem.F.plain_min_loop _]
  show wpAny _ X.A.in1 (seqItems? (.ref S) >>= _) _ _ _
  refine wpAny_bind (wpAny_seqItems t.hS rfl ?_)
  show wpAny _ X.A.in1 (tryCatch (pyNext (.ref I)) _ >>= _) _ _ _
  refine wpAny_bind (wpAny_tryCatch (W.item 0 _ _ _ (by rw [hsz, hlen]; exact hn) ⟨hit, hls.isList⟩ fun v h' tk' hP hst' hk' => ?_))
  have hv : its[0]? = some v := by simpa using hP
  obtain ⟨xv, hxv⟩ : ∃ xv, xs[0]? = some xv := ⟨_, List.getElem?_eq_getElem hn⟩
  have rxv : RelV xv v := by
    obtain ⟨u, hu, ru⟩ := rv.get hxv
    rw [hv] at hu
    cases hu
    exact ru
  obtain ⟨oI', hoI', hoc, hod⟩ := id hst'.1
  have k1 : ∀ b o, b ≠ I → s.heap.get? b = some o → h'.get? b = some o := fun b o hb q => hk' b o (by simpa using hb) q
  have t1 : Two X pins σ Hs { s with heap := h', toks := tk' } S I (seqObj "list" #[] c) oI' := t.turnI ownI hSI k1 hoI' fun v q => nomatch hod.symm.trans q
  show wpAny _ X.A.in1 (tryCatch (holding [v] (call (.ref f) [v])) _ >>= _) _ _ _
  refine wpAny_bind (wpAny_tryCatch (wpAny_holding (key_call F hr hb ownS ownI t1 rxv (turn 0 xv Hs hxv (Ex.refl Hs)) fun kv u s'' H2 t2 e2 r2 d2 => ?_)))
  have s1 := Heap.SameBut.update s''.heap S (Obj.mapSeq fun _ => #[v, u])
  obtain ⟨c2, hc2⟩ : ∃ c2, (s''.heap.update S (Obj.mapSeq fun _ => #[v, u])).get? S = some (seqObj "list" #[v, u] c2) := ⟨_, get?_update_seq t2.hS fun _ => #[v, u]⟩
  show wpAny _ X.A.in1 (updateSeq S (fun _ => #[v, u]) >>= _) _ _ _
  refine wpAny_bind ?_
  refine wpAny_updateSeq t2.hS rfl ?_
  rw [hname]
  have t3 : Two X pins σ H2 { s'' with heap := s''.heap.update S (Obj.mapSeq fun _ => #[v, u]), toks := s''.toks } S I (seqObj "list" #[v, u] c2) oI' := t2.turnS ownS hSI (fun b o hb q => (s1.2 b hb).trans q) hc2 fun v q => nomatch q
  exact wpAny_pure ⟨plainId_quiet PySem.F.plain_min_loop _, min_loop F hr hb ownS ownI hlI hSI turn al hl kw hR _ 0 _ H2 xv v u kv c2 oI' rfl hn t3 e2 ⟨oI', t3.hI, hoc, hod⟩ hxv rxv r2 d2⟩
/-- min(xs, key=f) -/
def rMinKey (K : PySem.W.Frag) (sp : Sp) (f : Addr) : List V → List V → Hp → VK → Prop := fun vs zs H Q => ∃ (a : Addr) (xs : List V) (d : Nat → PyData), vs = [.ref a] ∧ zs = [.ref f] ∧ SqL K H a xs ∧ 0 < xs.length ∧
  (∀ j x H1, xs[j]? = some x → Ex H H1 → ∀ Q' : VK, (∀ kv H2, Ex H1 H2 → Dp K H2 kv (d j) → Q' kv H2) → sp [x] H1 Q' E0) ∧
  (∀ i j, i < xs.length → j < xs.length → PySem.W.alike (d i) (d j) = true ∧ d i ≠ .none ∧ (d i).depth ≤ 30) ∧
  ∀ x H', xs[best (fun i j => PySem.W.dataLt (d i) (d j)) (xs.length - 1)]? = some x → Ex H H' → Q x H'
/-- min(xs, key=f, default=z) -/
def rMinKeyD (K : PySem.W.Frag) (sp : Sp) (f : Addr) : List V → List V → Hp → VK → Prop := fun vs zs H Q => ∃ (a : Addr) (xs : List V) (d : Nat → PyData) (z : V), vs = [.ref a] ∧ zs = [.ref f, z] ∧ SqL K H a xs ∧
  (∀ j x H1, xs[j]? = some x → Ex H H1 → ∀ Q' : VK, (∀ kv H2, Ex H1 H2 → Dp K H2 kv (d j) → Q' kv H2) → sp [x] H1 Q' E0) ∧
  (∀ i j, i < xs.length → j < xs.length → PySem.W.alike (d i) (d j) = true ∧ d i ≠ .none ∧ (d i).depth ≤ 30) ∧
  (xs = [] → Q z H) ∧ ∀ x H', xs[best (fun i j => PySem.W.dataLt (d i) (d j)) (xs.length - 1)]? = some x → Ex H H' → Q x H'
/-- the loop's two objects, laid -/
theorem two_new {H : Hp} {s : Shared} (v : Inv X pins σ H s) (hla : l < s.heap.objs.size) : Two X pins σ H { s with heap := (s.heap.push { cls := .type "list_iterator", data := .fields #[.ref l, .int 0 0] }).push (seqObj "list" #[] 0) } (s.heap.objs.size + 1) s.heap.objs.size (seqObj "list" #[] 0) { cls := .type "list_iterator", data := .fields #[.ref l, .int 0 0] } := by
  have hS : (s.heap.push { cls := .type "list_iterator", data := .fields #[.ref l, .int 0 0] }).objs.size = s.heap.objs.size + 1 := size_push' ..
  refine ⟨v.kept (t' := s.toks) fun b u q => Heap.get?_push_of_some _ (Heap.get?_push_of_some _ q), ?_, Heap.get?_push_of_some _ (Heap.get?_push_size _ rfl), v.hok.fresh (Nat.le_succ _), v.hok.fresh (Nat.le_refl _), fun v q => (nomatch q), fun v q => nomatch q⟩
  have := Heap.get?_push_size (h := s.heap.push { cls := .type "list_iterator", data := .fields #[.ref l, .int 0 0] }) (o := seqObj "list" #[] 0) rfl
  rw [hS] at this
  exact this
theorem cr_minKey (F : FnOk X.prog X.w X.K X.mg X.base CX0 k f fd [pn] sp) (hr : Room (k + 1) X.A) (hb : Binds X.K fd [pn] []) : CallRK X (.builtin "min") [Str.ofString "key"] (rMinKey X.K sp f) := by
  intro pins s σ H vs zs us ws Q v r rz h
  obtain ⟨a, xs, d, rfl, rfl, hl, hn, turn, al, q⟩ := h
  obtain rfl := Vals.ref1 r
  obtain ⟨w1, rfl, e1⟩ := vals1 rz
  obtain rfl : w1 = Value.ref f := e1
  have hname : (toString "min" ++ toString ".loop" : String) = "min.loop" := by decide
  obtain ⟨its, rv, hls, hz⟩ := v.list hl
  obtain ⟨ol, hol, _⟩ := id hls.isList
  have hla : a < s.heap.objs.size := Heap.lt_size hol
  refine kmk_tree PySem.F.kind_min PySem.F.plain_min PySem.F.entry_min (kmk_min_key _ _) ?_
  show wpAny _ X.A.in1 (Builtin.Builtins.bindParams "min" ["key", "default"] 0 ⟨[], [(Str.ofString "key", .ref f)]⟩ >>= _) _ _ s
  refine wpAny_bind (wpAny_of_eq (show Builtin.Builtins.bindParams "min" ["key", "default"] 0 ⟨[], [(Str.ofString "key", .ref f)]⟩ = pure [some (.ref f), none] from rfl) ?_)
  refine wpAny_bind (wpAny_pure ?_)
  refine wpAny_bind (wpAny_pyIter_list hls.isList ?_)
  refine wpAny_bind (wpAny_newList ?_ (Nat.zero_le _))
  rw [hname]
  refine wpAny_pure ⟨plainId_quiet PySem.F.plain_min_loop _, ?_⟩
  have hS : (s.heap.push { cls := .type "list_iterator", data := .fields #[.ref a, .int 0 0] }).objs.size = s.heap.objs.size + 1 := size_push' ..
  rw [hS]
  have t := two_new v hla
  exact min_first F hr hb (v.ownA (Nat.le_succ _)) (v.ownA (Nat.le_refl _)) (Nat.ne_of_lt hla) (Nat.succ_ne_self _) turn al hl _ hn (fun x u s' H' hx rx v' e' => ⟨x, H', v', rx, q x H' hx e'⟩) t ⟨_, t.hI, rfl, rfl⟩
theorem cr_minKeyD (F : FnOk X.prog X.w X.K X.mg X.base CX0 k f fd [pn] sp) (hr : Room (k + 1) X.A) (hb : Binds X.K fd [pn] []) : CallRK X (.builtin "min") [Str.ofString "key", Str.ofString "default"] (rMinKeyD X.K sp f) := by
  intro pins s σ H vs zs us ws Q v r rz h
  obtain ⟨a, xs, d, z, rfl, rfl, hl, turn, al, q0, q⟩ := h
  obtain rfl := Vals.ref1 r
  obtain ⟨w1, w2, rfl, e1, e2⟩ := vals2 rz
  obtain rfl : w1 = Value.ref f := e1
  have hname : (toString "min" ++ toString ".loop" : String) = "min.loop" := by decide
  obtain ⟨its, rv, hls, hz⟩ := v.list hl
  obtain ⟨ol, hol, _⟩ := id hls.isList
  have hla : a < s.heap.objs.size := Heap.lt_size hol
  refine kmk_tree PySem.F.kind_min PySem.F.plain_min PySem.F.entry_min (args_min_key_default _ _ _) ?_
  show wpAny _ X.A.in1 (Builtin.Builtins.bindParams "min" ["key", "default"] 0 ⟨[], [(Str.ofString "key", .ref f), (Str.ofString "default", w2)]⟩ >>= _) _ _ s
  refine wpAny_bind (wpAny_of_eq (show Builtin.Builtins.bindParams "min" ["key", "default"] 0 ⟨[], [(Str.ofString "key", .ref f), (Str.ofString "default", w2)]⟩ = pure [some (.ref f), some w2] from rfl) ?_)
  refine wpAny_bind (wpAny_pure ?_)
  refine wpAny_bind (wpAny_pyIter_list hls.isList ?_)
  refine wpAny_bind (wpAny_newList ?_ (Nat.zero_le _))
  rw [hname]
  refine wpAny_pure ⟨plainId_quiet PySem.F.plain_min_loop _, ?_⟩
  have hS : (s.heap.push { cls := .type "list_iterator", data := .fields #[.ref a, .int 0 0] }).objs.size = s.heap.objs.size + 1 := size_push' ..
  rw [hS]
  have t := two_new v hla
  have ownS : OwnA X pins (s.heap.objs.size + 1) := v.ownA (Nat.le_succ _)
  have ownI : OwnA X pins s.heap.objs.size := v.ownA (Nat.le_refl _)
  rcases Nat.eq_zero_or_pos xs.length with hn | hn
  · have hxs : xs = [] := List.length_eq_zero_iff.mp hn
    have hits : its = [] := List.length_eq_zero_iff.mp (by rw [← rv.length]; exact hn)
    have hh : X.A.in1.handled = none := hr.hd
    have W := Walks.list (prog := X.prog) (w := X.w) (A := X.A.in1) hh s.heap.objs.size a (Nat.ne_of_lt hla) its.toArray
    refine codeAny_builtin PySem.F.entry_min_loop ?_
    rw [Around.under_plainId PySem.F.plain_min_loop _]
    show wpAny _ X.A.in1 (seqItems? (.ref (s.heap.objs.size + 1)) >>= _) _ _ _
    refine wpAny_bind (wpAny_seqItems t.hS rfl ?_)
    show wpAny _ X.A.in1 (tryCatch (pyNext (.ref s.heap.objs.size)) _ >>= _) _ _ _
    refine wpAny_bind (wpAny_tryCatch (W.done _ _ _ ⟨by rw [hits]; exact ⟨_, t.hI, rfl, rfl⟩, (hls.isList).at fun o q => Heap.get?_push_of_some _ (Heap.get?_push_of_some _ q)⟩ fun h' tk' hk' => ?_))
    show wpAny _ X.A.in1 (rule _ >>= _) _ _ _
    refine wpAny_bind (wpAny_rule (wpAny_pure ?_))
    exact ⟨z, H, t.inv.turned (t' := tk') (fun b o hb q => hk' b o (by simpa using hb) q) t.nI ownI.l (own_notex ownI) ownI.c ownI.p, e2, q0 hxs⟩
  · exact min_first F hr hb ownS ownI (Nat.ne_of_lt hla) (Nat.succ_ne_self _) turn al hl _ hn (fun x u s' H' hx rx v' e' => ⟨x, H', v', rx, q x H' hx e'⟩) t ⟨_, t.hI, rfl, rfl⟩
end
theorem st_ckw {r : List V → List V → Hp → VK → Prop} {t tk : TA} {σ : L2.St} {H : Hp} {Q : VK} (h : t σ H fun vs H1 => tk σ H1 fun zs H2 => r vs zs H2 Q) : tCKw r t tk σ H Q := h
end L2
/-! the order of walks; all that turns one into another -/
namespace Fg
theorem lex_irr : ∀ u : List Int, HT.lexLt u u = false
  | [] => rfl
  | x :: u => by rw [HT.lexLt_cons, if_pos rfl]; exact lex_irr u
theorem lex_trans : ∀ {u v w : List Int}, HT.lexLt u v = true → HT.lexLt v w = true → HT.lexLt u w = true
  | _, [], w, h, k => by
    rename_i u
    cases u <;> cases h
  | [], y :: v, [], h, k => by cases k
  | [], y :: v, z :: w, h, k => rfl
  | x :: u, y :: v, [], h, k => by cases k
  | x :: u, y :: v, z :: w, h, k => by
    rw [HT.lexLt_cons] at h k ⊢
    by_cases c1 : x = y
    · subst c1
      rw [if_pos rfl] at h
      by_cases c2 : x = z
      · rw [if_pos c2] at k ⊢
        exact lex_trans h k
      · rw [if_neg c2] at k ⊢
        exact k
    · rw [if_neg c1] at h
      have h := of_decide_eq_true h
      by_cases c2 : y = z
      · subst c2
        rw [if_neg c1]
        exact decide_eq_true h
      · rw [if_neg c2] at k
        have k := of_decide_eq_true k
        rw [if_neg (by omega)]
        exact decide_eq_true (by omega)
theorem lex_tot : ∀ {u v : List Int}, u ≠ v → HT.lexLt u v = true ∨ HT.lexLt v u = true
  | [], [], h => absurd rfl h
  | [], _ :: _, _ => .inl rfl
  | _ :: _, [], _ => .inr rfl
  | x :: u, y :: v, h => by
    rw [HT.lexLt_cons, HT.lexLt_cons]
    by_cases c : x = y
    · subst c
      rw [if_pos rfl, if_pos rfl]
      exact lex_tot fun z => h (by rw [z])
    · rw [if_neg c, if_neg fun z => c z.symm, decide_eq_true_eq, decide_eq_true_eq]
      omega
theorem cds_inj {u v : Wk} (h : u.map Od.cd = v.map Od.cd) : u = v := (List.map_inj_right fun _ _ z => Od.cd_inj z).mp h
theorem kl_irr (u : Wk) : kl u u = false := by
  unfold kl
  rw [if_pos rfl, lex_irr]
theorem kl_le {u v : Wk} (h : kl u v = true) : u.length ≤ v.length := by
  unfold kl at h
  by_cases c : u.length = v.length
  · omega
  · rw [if_neg c] at h
    have := of_decide_eq_true h
    omega
theorem kl_lt {u v : Wk} (h : u.length < v.length) : kl u v = true := by
  unfold kl
  rw [if_neg (by omega)]
  exact decide_eq_true h
theorem kl_trans {u v w : Wk} (h : kl u v = true) (k : kl v w = true) : kl u w = true := by
  have h1 := kl_le h
  have k1 := kl_le k
  by_cases c : u.length = w.length
  · unfold kl at h k ⊢
    rw [if_pos (by omega)] at h k ⊢
    exact lex_trans h k
  · exact kl_lt (by omega)
theorem kl_tot {u v : Wk} (h : u ≠ v) : kl u v = true ∨ kl v u = true := by
  by_cases c : u.length = v.length
  · unfold kl
    rw [if_pos c, if_pos c.symm]
    exact lex_tot fun z => h (cds_inj z)
  · rcases Nat.lt_or_gt_of_ne c with l | g
    · exact .inl (kl_lt l)
    · exact .inr (kl_lt g)
theorem kl_anti {u v : Wk} (h : kl u v = false) (k : kl v u = false) : u = v := Classical.byContradiction fun z => by
  rcases kl_tot z with e | e
  · rw [h] at e; cases e
  · rw [k] at e; cases e
theorem kl_asym {u v : Wk} (h : kl u v = true) : kl v u = false := by
  cases k : kl v u with
  | false => rfl
  | true => have := kl_trans h k; rw [kl_irr] at this; cases this
/-- the first that none is less than -/
structure Lst (ws : List Wk) (x : Wk) : Prop where
  mem : x ∈ ws
  le : ∀ y ∈ ws, kl y x = false
theorem lst_same {ws us : List Wk} {x y : Wk} (h : Lst ws x) (k : Lst us y) (e : ∀ z, z ∈ ws ↔ z ∈ us) : x = y := kl_anti (k.le x ((e x).mp h.mem)) (h.le y ((e y).mpr k.mem))
theorem best_lst {ws : List Wk} {bt : Nat → Nat → Bool} (hb : ∀ i j u v, ws[i]? = some u → ws[j]? = some v → bt i j = kl u v) : ∀ (n : Nat), n < ws.length → ∀ x, ws[L2.best bt n]? = some x → x ∈ ws ∧ ∀ j y, j ≤ n → ws[j]? = some y → kl y x = false
  | 0, _, x, hx => ⟨List.mem_of_getElem? hx, fun j y hj hy => by
    have : j = 0 := by omega
    subst this
    have hx : ws[0]? = some x := hx
    rw [hx] at hy
    cases hy
    exact kl_irr x⟩
  | n + 1, hn, x, hx => by
    obtain ⟨z, hz⟩ : ∃ z, ws[n + 1]? = some z := ⟨_, List.getElem?_eq_getElem hn⟩
    have bl := L2.best_le bt n
    obtain ⟨y, hy⟩ : ∃ y, ws[L2.best bt n]? = some y := ⟨_, List.getElem?_eq_getElem (by omega)⟩
    obtain ⟨m, le⟩ := best_lst hb n (by omega) y hy
    have e := hb _ _ _ _ hz hy
    by_cases c : bt (n + 1) (L2.best bt n) = true
    · have bj : L2.best bt (n + 1) = n + 1 := if_pos c
      rw [bj, hz] at hx
      cases hx
      rw [c] at e
      refine ⟨List.mem_of_getElem? hz, fun j w hj hw => ?_⟩
      rcases Nat.lt_or_ge j (n + 1) with l | g
      · have := le j w (by omega) hw
        cases k : kl w x with
        | false => rfl
        | true => rw [kl_trans k e.symm] at this; cases this
      · have : j = n + 1 := by omega
        subst this
        rw [hz] at hw
        cases hw
        exact kl_irr _
    · have bj : L2.best bt (n + 1) = L2.best bt n := if_neg c
      rw [bj, hy] at hx
      cases hx
      refine ⟨m, fun j w hj hw => ?_⟩
      rcases Nat.lt_or_ge j (n + 1) with l | g
      · exact le j w (by omega) hw
      · have : j = n + 1 := by omega
        subst this
        rw [hz] at hw
        cases hw
        rw [← e]
        simpa using c
theorem best_is {ws : List Wk} {bt : Nat → Nat → Bool} (hb : ∀ i j u v, ws[i]? = some u → ws[j]? = some v → bt i j = kl u v) (h0 : 0 < ws.length) {x : Wk} (hx : ws[L2.best bt (ws.length - 1)]? = some x) : Lst ws x := by
  obtain ⟨m, le⟩ := best_lst hb (ws.length - 1) (by omega) x hx
  refine ⟨m, fun y hy => ?_⟩
  obtain ⟨j, hj⟩ := List.mem_iff_getElem?.mp hy
  exact le j y (by have := (List.getElem?_eq_some_iff.mp hj).1; omega) hj
/-! ### words as moves -/
theorem run_inv {st : Wk} (u : Wk) (r : Red st) : run (run st u) (bk u) = st := by
  have := eqv_bk u st r
  rwa [run_append] at this
theorem run_vni {st : Wk} (u : Wk) (r : Red st) : run (run st (bk u)) u = st := by
  have := eqv_kb u st r
  rwa [run_append] at this
theorem eqv_rdr (u : Wk) : Eqv u (rd u) := (eqv_rd _ u rfl).symm
/-- two walks, their cores turned into one another -/
structure Tp (u v a b m c n : Wk) (l k : Nat) : Prop where
  su : Str u
  sv : Str v
  eu : u = a ++ m ++ bk a
  ev : v = b ++ n ++ bk b
  cm : Cyc m
  om : Om m l
  hc : m.take l = c
  hn : n = rotn m k
  hk : k < l
section
variable {u v a b m c n : Wk} {l k : Nat}
theorem Tp.lc (T : Tp u v a b m c n l k) : c.length = l := by rw [← T.hc]; exact om_len T.om
theorem Tp.rep (T : Tp u v a b m c n l k) : ∃ t, m = c ++ Fg.rep t c := by
  obtain ⟨t, t0, e⟩ := om_rep T.om
  rw [T.hc] at e
  obtain ⟨j, rfl⟩ : ∃ j, t = j + 1 := ⟨t - 1, by omega⟩
  exact ⟨j, e.trans (rep_comm c j)⟩
theorem Tp.pr (T : Tp u v a b m c n l k) : c = c.take k ++ c.drop k := (List.take_append_drop k c).symm
theorem Tp.rne (T : Tp u v a b m c n l k) : c.drop k ≠ [] := fun z => by
  have z2 := congrArg List.length z
  rw [List.length_drop, T.lc] at z2
  have := T.hk
  simp only [List.length_nil] at z2
  omega
theorem Tp.cm_c (T : Tp u v a b m c n l k) : c ++ m = m ++ c := by
  obtain ⟨t, e⟩ := T.rep
  rw [e, List.append_assoc, rep_comm]
theorem Tp.nn (T : Tp u v a b m c n l k) : ∃ t, n = c.drop k ++ Fg.rep t c ++ c.take k := by
  obtain ⟨t, e⟩ := T.rep
  have hk := T.hk
  have lc := T.lc
  refine ⟨t, ?_⟩
  rw [T.hn]
  unfold rotn
  rw [e, List.drop_append_of_le_length (by omega), List.take_append_of_le_length (by omega)]
theorem head_app {x y : Wk} (h : x ≠ []) : (x ++ y).head? = x.head? := by
  cases x with
  | nil => exact absurd rfl h
  | cons => rfl
theorem last_app {x y : Wk} (h : y ≠ []) : (x ++ y).getLast? = y.getLast? := by
  rw [List.getLast?_append]
  cases e : y.getLast? with
  | none => exact absurd (List.getLast?_eq_none_iff.mp e) h
  | some z => rfl
theorem rep_last {x : Wk} {j : Nat} (hx : x ≠ []) (h : 0 < j) : (Fg.rep j x).getLast? = x.getLast? := by
  obtain ⟨i, rfl⟩ : ∃ i, j = i + 1 := ⟨j - 1, by omega⟩
  exact last_app hx
theorem rep_ne {x : Wk} {j : Nat} (hx : x ≠ []) (h : 0 < j) : Fg.rep j x ≠ [] := fun z => by
  have := congrArg List.length z
  rw [rep_len] at this
  have := Nat.mul_pos h (List.length_pos_iff.mpr hx)
  simp_all
theorem rep_head {x : Wk} {j : Nat} (hx : x ≠ []) (h : 0 < j) : (Fg.rep j x).head? = x.head? := by
  obtain ⟨i, rfl⟩ : ∃ i, j = i + 1 := ⟨j - 1, by omega⟩
  show (Fg.rep i x ++ x).head? = _
  rw [rep_comm, head_app hx]
theorem Tp.cne (T : Tp u v a b m c n l k) : c ≠ [] := fun z => by
  have z2 := T.lc
  rw [z] at z2
  have := T.hk
  simp only [List.length_nil] at z2
  omega
theorem Tp.m_head (T : Tp u v a b m c n l k) : m.head? = c.head? := by
  obtain ⟨t, e⟩ := T.rep
  rw [e, head_app T.cne]
theorem Tp.m_last (T : Tp u v a b m c n l k) : m.getLast? = c.getLast? := by
  obtain ⟨t, e⟩ := T.rep
  rw [e, ← rep_comm, last_app T.cne]
theorem Tp.cyc_c (T : Tp u v a b m c n l k) : Cyc c := ⟨T.hc ▸ str_take _ T.cm.str, fun x y hx hy => T.cm.ends x y (T.m_last.trans hx) (T.m_head.trans hy)⟩
theorem str_rep {c : Wk} (h : Cyc c) (hn : c ≠ []) : ∀ j, Str (Fg.rep j c)
  | 0 => str_nil
  | j + 1 => by
    refine str_app (str_rep h hn j) h.str fun x y hx hy => ?_
    rcases Nat.eq_zero_or_pos j with z | z
    · rw [z] at hx; cases hx
    · rw [rep_last hn z] at hx
      exact h.ends x y hx hy
/-- what stands between the leads: forward -/
def xp (c : Wk) (k j : Nat) : Wk := Fg.rep j c ++ c.take k
/-- and back -/
def xn (c : Wk) (k j : Nat) : Wk := bk (c.drop k ++ Fg.rep j c)
theorem Tp.str_xp (T : Tp u v a b m c n l k) (j : Nat) : Str (xp c k j) := by
  have := str_rep T.cyc_c T.cne (j + 1)
  have e : Fg.rep (j + 1) c = xp c k j ++ c.drop k := by
    show Fg.rep j c ++ c = Fg.rep j c ++ c.take k ++ c.drop k
    rw [List.append_assoc, List.take_append_drop]
  exact str_l (e ▸ this)
theorem Tp.str_xn (T : Tp u v a b m c n l k) (j : Nat) : Str (xn c k j) := by
  have := str_rep T.cyc_c T.cne (j + 1)
  have e : Fg.rep (j + 1) c = c.take k ++ (c.drop k ++ Fg.rep j c) := by
    show Fg.rep j c ++ c = _
    rw [rep_comm, ← List.append_assoc, List.take_append_drop]
  exact str_bk (str_r (e ▸ this))
theorem Tp.a_m (T : Tp u v a b m c n l k) : ∀ x y, a.getLast? = some x → m.head? = some y → y ≠ -x := str_meet (str_l (T.eu ▸ T.su))
theorem Tp.m_a (T : Tp u v a b m c n l k) : ∀ x y, m.getLast? = some x → (bk a).head? = some y → y ≠ -x := str_meet (str_r (u := a) (by rw [← List.append_assoc]; exact T.eu ▸ T.su))
theorem Tp.b_n (T : Tp u v a b m c n l k) : ∀ x y, b.getLast? = some x → n.head? = some y → y ≠ -x := str_meet (str_l (T.ev ▸ T.sv))
theorem Tp.n_b (T : Tp u v a b m c n l k) : ∀ x y, n.getLast? = some x → (bk b).head? = some y → y ≠ -x := str_meet (str_r (u := b) (by rw [← List.append_assoc]; exact T.ev ▸ T.sv))
theorem Tp.n_head (T : Tp u v a b m c n l k) : n.head? = (c.drop k).head? := by
  obtain ⟨t, e⟩ := T.nn
  rw [e, List.append_assoc, head_app T.rne]
theorem Tp.str_p (T : Tp u v a b m c n l k) {j : Nat} (h : 1 ≤ j ∨ 1 ≤ k) : Str (a ++ xp c k j ++ bk b) := by
  have cne := T.cne
  have lc := T.lc
  have hk := T.hk
  have kne : 1 ≤ k → c.take k ≠ [] := fun h z => by
    have z2 := congrArg List.length z
    rw [List.length_take, lc] at z2
    simp only [List.length_nil] at z2
    omega
  have k0 : k = 0 → c.take k = [] := fun z => by rw [z]; rfl
  have xne : xp c k j ≠ [] := fun z => by
    have := List.append_eq_nil_iff.mp z
    rcases h with h | h
    · exact rep_ne cne h this.1
    · exact kne h this.2
  have hh : (xp c k j).head? = c.head? := by
    unfold xp
    rcases Nat.eq_zero_or_pos j with z | z
    · rw [z]
      show (c.take k).head? = _
      rw [List.head?_take, if_neg (by omega)]
    · rw [head_app (rep_ne cne z), rep_head cne z]
  have hl : (xp c k j).getLast? = n.getLast? := by
    obtain ⟨t, e⟩ := T.nn
    rw [e]
    unfold xp
    rcases Nat.eq_zero_or_pos k with z | z
    · rw [k0 z, List.append_nil, List.append_nil, rep_last cne (by omega)]
      have : c.drop k ++ Fg.rep t c = Fg.rep t c ++ c := by rw [z, List.drop_zero, rep_comm]
      rw [this, last_app cne]
    · rw [last_app (kne z), last_app (kne z)]
  refine str_app (str_app (str_take (ld u) T.su |> fun _ => ?_) (T.str_xp j) fun x y hx hy => T.a_m x y hx (by rw [T.m_head, ← hh]; exact hy)) (str_bk ?_) fun x y hx hy => T.n_b x y (by rw [← hl, ← last_app (x := a) xne]; exact hx) hy
  · exact str_l (str_l (T.eu ▸ T.su))
  · exact str_l (str_l (T.ev ▸ T.sv))
theorem Tp.str_n (T : Tp u v a b m c n l k) (j : Nat) : Str (a ++ xn c k j ++ bk b) := by
  have cne := T.cne
  have rne := T.rne
  have zne : c.drop k ++ Fg.rep j c ≠ [] := fun z => rne (List.append_eq_nil_iff.mp z).1
  have xne : xn c k j ≠ [] := fun z => zne (by have := congrArg bk z; unfold xn at this; rwa [bk_bk] at this)
  have hh : (xn c k j).head? = c.getLast?.map fun x => -x := by
    unfold xn
    rw [head_bk]
    congr 1
    rcases Nat.eq_zero_or_pos j with z | z
    · rw [z]
      show (c.drop k ++ []).getLast? = _
      rw [List.append_nil]
      conv => rhs; rw [T.pr, last_app rne]
    · rw [last_app (rep_ne cne z), rep_last cne z]
  have hl : (xn c k j).getLast? = n.head?.map fun x => -x := by
    unfold xn
    rw [last_bk, head_app rne, T.n_head]
  refine str_app (str_app (str_l (str_l (T.eu ▸ T.su))) (T.str_xn j) fun x y hx hy => ?_) (str_bk (str_l (str_l (T.ev ▸ T.sv)))) fun x y hx hy => ?_
  · rw [hh] at hy
    cases e : c.getLast? with
    | none => rw [e] at hy; cases hy
    | some z =>
      rw [e] at hy
      have hy : -z = y := Option.some.inj hy
      have := T.m_a z (-x) (T.m_last.trans e) (by rw [head_bk, hx]; rfl)
      omega
  · rw [last_app xne, hl] at hx
    cases e : n.head? with
    | none => rw [e] at hx; cases hx
    | some z =>
      rw [e] at hx
      have hx : -z = x := Option.some.inj hx
      rw [head_bk] at hy
      cases e2 : b.getLast? with
      | none => rw [e2] at hy; cases hy
      | some w =>
        rw [e2] at hy
        have hy : -w = y := Option.some.inj hy
        have := T.b_n w z e2 e
        omega
theorem Tp.len_p (T : Tp u v a b m c n l k) (j : Nat) : (a ++ xp c k j ++ bk b).length = a.length + j * l + k + b.length := by
  have := T.lc
  have := T.hk
  unfold xp
  rw [List.length_append, List.length_append, List.length_append, rep_len, List.length_take, bk_len, T.lc, Nat.min_eq_left (by omega)]
  omega
theorem Tp.len_n (T : Tp u v a b m c n l k) (j : Nat) : (a ++ xn c k j ++ bk b).length = a.length + j * l + (l - k) + b.length := by
  unfold xn
  rw [List.length_append, List.length_append, bk_len, List.length_append, rep_len, List.length_drop, bk_len, T.lc]
  omega
theorem del1 (x u y : Wk) : Eqv (x ++ (u ++ (bk u ++ y))) (x ++ y) := by
  have := (Eqv.refl x).app ((eqv_bk u).app (Eqv.refl y))
  rwa [List.append_assoc, List.nil_append] at this
theorem del2 (x u y : Wk) : Eqv (x ++ (bk u ++ (u ++ y))) (x ++ y) := by
  have := (Eqv.refl x).app ((eqv_kb u).app (Eqv.refl y))
  rwa [List.append_assoc, List.nil_append] at this
theorem Eqv.of_eq {x y : Wk} (h : x = y) : Eqv x y := h ▸ .refl x
/-- the root of a walk -/
theorem Tp.tn_root (T : Tp u v a b m c n l k) : tn u (a ++ c ++ bk a) = u := by
  have cm2 : ∀ x, m ++ (c ++ x) = c ++ (m ++ x) := fun x => by rw [← List.append_assoc, ← T.cm_c, List.append_assoc]
  have h : Eqv (bk (a ++ c ++ bk a) ++ u ++ (a ++ c ++ bk a)) u := by
    refine (Eqv.of_eq ?_).trans ((del2 (a ++ bk c) a (m ++ bk a ++ a ++ c ++ bk a)).trans ((Eqv.of_eq ?_).trans ((del2 (a ++ bk c ++ m) a (c ++ bk a)).trans ((Eqv.of_eq ?_).trans ((del2 a c (m ++ bk a)).trans (Eqv.of_eq ?_))))))
    · rw [T.eu]; simp [bk_app, bk_bk]
    · simp
    · simp [cm2]
    · rw [T.eu]; simp
  unfold tn
  rw [rd_eq h, rd_str T.su]
theorem Tp.tn_root_rep (T : Tp u v a b m c n l k) : ∀ j, tn u (Fg.rep j (a ++ c ++ bk a)) = u
  | 0 => tn_nil T.su
  | j + 1 => by
    show tn u (Fg.rep j (a ++ c ++ bk a) ++ (a ++ c ++ bk a)) = u
    rw [← tn_tn, T.tn_root_rep j, T.tn_root]
theorem tn_back {x o : Wk} (h : Str x) (e : tn x o = x) : tn x (bk o) = x := by
  have := congrArg (fun w => tn w (bk o)) e
  simp only [tn_tn] at this
  rw [tn_eqv (eqv_bk o), tn_nil h] at this
  exact this.symm
/-- forward, it turns the one into the other -/
theorem Tp.tn_p (T : Tp u v a b m c n l k) : tn u (a ++ c.take k ++ bk b) = v := by
  obtain ⟨t, hn⟩ := T.nn
  obtain ⟨t2, hm⟩ := T.rep
  have e : m ++ c.take k = c.take k ++ n := by
    have hk := T.hk
    have lc := T.lc
    rw [T.hn, hm]
    unfold rotn
    rw [List.drop_append_of_le_length (by omega), List.take_append_of_le_length (by omega), ← List.append_assoc, ← List.append_assoc, List.take_append_drop]
  have h : Eqv (bk (a ++ c.take k ++ bk b) ++ u ++ (a ++ c.take k ++ bk b)) v := by
    have e2 : ∀ x, m ++ (c.take k ++ x) = c.take k ++ (n ++ x) := fun x => by rw [← List.append_assoc, e, List.append_assoc]
    refine (Eqv.of_eq ?_).trans ((del2 (b ++ bk (c.take k)) a (m ++ bk a ++ a ++ c.take k ++ bk b)).trans ((Eqv.of_eq ?_).trans ((del2 (b ++ bk (c.take k) ++ m) a (c.take k ++ bk b)).trans ((Eqv.of_eq ?_).trans ((del2 b (c.take k) (n ++ bk b)).trans (Eqv.of_eq ?_))))))
    · rw [T.eu]; simp [bk_app, bk_bk]
    · simp
    · simp [e2]
    · rw [T.ev]; simp
  unfold tn
  rw [rd_eq h, rd_str T.sv]
/-- backward, too -/
theorem Tp.root_n (T : Tp u v a b m c n l k) : Eqv (a ++ bk (c.drop k) ++ bk b) (bk (a ++ c ++ bk a) ++ (a ++ c.take k ++ bk b)) := by
  have e : bk c = bk (c.drop k) ++ bk (c.take k) := by rw [← bk_app, List.take_append_drop]
  refine Eqv.symm ((Eqv.of_eq ?_).trans ((del2 (a ++ bk c) a (c.take k ++ bk b)).trans ((Eqv.of_eq ?_).trans ((del2 (a ++ bk (c.drop k)) (c.take k) (bk b)).trans (Eqv.of_eq ?_)))))
  · simp [bk_app, bk_bk]
  · rw [e]; simp
  · simp
theorem Tp.tn_n (T : Tp u v a b m c n l k) : tn u (a ++ bk (c.drop k) ++ bk b) = v := by
  rw [tn_eqv T.root_n, ← tn_tn, tn_back T.su T.tn_root, T.tn_p]
theorem Tp.tn_more (T : Tp u v a b m c n l k) {g : Wk} (h : tn u g = v) : tn u (rd ((a ++ c ++ bk a) ++ g)) = v ∧ tn u (rd (bk (a ++ c ++ bk a) ++ g)) = v := by
  rw [tn_rd_r, tn_rd_r, ← tn_tn u (a ++ c ++ bk a), ← tn_tn u (bk (a ++ c ++ bk a)), T.tn_root, tn_back T.su T.tn_root]
  exact ⟨h, h⟩
theorem Tp.rootrep (T : Tp u v a b m c n l k) : ∀ j, Eqv (Fg.rep j (a ++ c ++ bk a)) (a ++ Fg.rep j c ++ bk a)
  | 0 => by
    show Eqv [] (a ++ [] ++ bk a)
    rw [List.append_nil]
    exact (eqv_bk a).symm
  | j + 1 => by
    refine ((T.rootrep j).app (Eqv.refl _)).trans ((Eqv.of_eq ?_).trans ((del2 (a ++ Fg.rep j c) a (c ++ bk a)).trans (Eqv.of_eq ?_)))
    · simp
    · show _ = a ++ (Fg.rep j c ++ c) ++ bk a
      simp
/-- the root done some times is no walk of no steps -/
theorem Tp.root_moves (T : Tp u v a b m c n l k) {j : Nat} (hj : 0 < j) {g : Wk} : ¬ Eqv (Fg.rep j (a ++ c ++ bk a) ++ g) g := fun h => by
  have h1 : Eqv (Fg.rep j (a ++ c ++ bk a)) [] := by
    have z := h.app (Eqv.refl (bk g))
    refine Eqv.trans ?_ (z.trans (eqv_bk g))
    have := del1 (Fg.rep j (a ++ c ++ bk a)) g []
    rw [List.append_nil, List.append_nil] at this
    exact this.symm.trans (Eqv.of_eq (List.append_assoc _ _ _).symm)
  have h2 := (T.rootrep j).symm.trans h1
  have h3 : Eqv (Fg.rep j c) [] := by
    have z := ((Eqv.refl (bk a)).app h2).app (Eqv.refl a)
    refine Eqv.trans ?_ (z.trans ?_)
    · refine Eqv.symm ((Eqv.of_eq ?_).trans ((del2 [] a (Fg.rep j c ++ bk a ++ a)).trans ((Eqv.of_eq ?_).trans ((del2 (Fg.rep j c) a []).trans (Eqv.of_eq (List.append_nil _))))))
      · simp
      · simp
    · rw [List.append_nil]
      exact eqv_kb a
  have := rd_eq h3
  rw [rd_str (str_rep T.cyc_c T.cne j)] at this
  exact rep_ne T.cne hj this
/-- all that turns the one into the other -/
theorem Tp.all (T : Tp u v a b m c n l k) {w : Wk} (sw : Str w) (h : tn u w = v) : ∃ j, w = rd (a ++ xp c k j ++ bk b) ∨ w = rd (a ++ xn c k j ++ bk b) := by
  obtain ⟨F, hF⟩ : ∃ F, a ++ c.take k ++ bk b = F := ⟨_, rfl⟩
  have hf : tn u F = v := hF ▸ T.tn_p
  have H : Eqv (bk w ++ u ++ w) (bk F ++ u ++ F) := eqv_of_rd (h.trans hf.symm)
  obtain ⟨z0, hz0⟩ : ∃ z0, bk a ++ w ++ bk F ++ a = z0 := ⟨_, rfl⟩
  have K : Eqv (z0 ++ m) (m ++ z0) := fun st r => by
    have r1 := red_run w (red_run (bk a) r)
    have key := H _ r1
    simp only [run_append] at key
    rw [run_inv w (red_run (bk a) r)] at key
    have key2 := congrArg (fun x => run (run x (bk F)) a) key
    rw [run_inv F (red_run u (red_run (bk F) r1))] at key2
    -- m is u between
    have mu : ∀ y, Red y → run y m = run (run (run y (bk a)) u) a := fun y ry => by
      rw [T.eu, run_append, run_append, run_vni a ry, run_vni a (red_run m ry)]
    rw [← hz0]
    simp only [run_append]
    rw [mu _ (red_run a (red_run (bk F) r1)), mu _ r, run_inv a (red_run (bk F) r1), run_inv a (red_run u (red_run (bk a) r))]
    exact key2.symm
  have W : Eqv w (a ++ rd z0 ++ bk a ++ F) := fun st r => by
    simp only [run_append]
    rw [eqv_rd _ z0 rfl _ (red_run a r), ← hz0]
    simp only [run_append]
    rw [run_inv a r, run_inv a (red_run (bk F) (red_run w r)), run_vni F (red_run w r)]
  have com : rd (rd z0 ++ m) = rd (m ++ rd z0) := by rw [rd_app_l, rd_app_r]; exact rd_eq K
  have e1 : w = rd (a ++ rd z0 ++ bk a ++ F) := (rd_str sw).symm.trans (rd_eq W)
  have up : ∀ s, rd (a ++ Fg.rep s c ++ bk a ++ F) = rd (a ++ xp c k s ++ bk b) := fun s => by
    rw [← hF]
    refine rd_eq ((Eqv.of_eq ?_).trans ((del2 (a ++ Fg.rep s c) a (c.take k ++ bk b)).trans (Eqv.of_eq ?_)))
    · simp
    · simp [xp]
  rcases comm_cyc (str_rd z0) T.cm (om_ne T.om) com with h1 | h1
  · obtain ⟨s, hs⟩ := comm_root T.om h1
    rw [T.hc] at hs
    exact ⟨s, .inl (by rw [e1, hs, up])⟩
  · obtain ⟨s, hs⟩ := comm_root T.om h1
    rw [T.hc] at hs
    have hs : rd z0 = bk (Fg.rep s c) := by rw [← hs, bk_bk]
    cases s with
    | zero => exact ⟨0, .inl (by rw [e1, hs, ← up]; rfl)⟩
    | succ s =>
      refine ⟨s, .inr ?_⟩
      rw [e1, hs, ← hF]
      have e : bk (Fg.rep (s + 1) c) = xn c k s ++ bk (c.take k) := by
        unfold xn
        rw [← bk_app, ← List.append_assoc, List.take_append_drop, ← rep_comm]
        rfl
      rw [e]
      refine rd_eq ((Eqv.of_eq ?_).trans ((del2 (a ++ (xn c k s ++ bk (c.take k))) a (c.take k ++ bk b)).trans ((Eqv.of_eq ?_).trans ((del2 (a ++ xn c k s) (c.take k) (bk b)).trans (Eqv.of_eq ?_)))))
      · simp
      · simp
      · simp
/-- the least of all that turn the one into the other -/
structure LeastT (u v f : Wk) : Prop where
  str : Str f
  on : tn u f = v
  le : ∀ g, Str g → tn u g = v → g ≠ f → kl f g = true
theorem Tp.least (T : Tp u v a b m c n l k) {f0 f1 f : Wk} (h0 : f0 = rd (a ++ c.take k ++ bk b)) (h1 : f1 = rd (a ++ bk (c.drop k) ++ bk b)) (hf : (f = f1 ∧ kl f1 f0 = true) ∨ (f = f0 ∧ kl f1 f0 = false)) : LeastT u v f := by
  have l0 : f0.length ≤ a.length + k + b.length := by
    have := rd_len (a ++ c.take k ++ bk b)
    rw [← h0, List.length_append, List.length_append, List.length_take, bk_len] at this
    omega
  have x0 : xp c k 0 = c.take k := rfl
  have y0 : xn c k 0 = bk (c.drop k) := by
    unfold xn
    show bk (c.drop k ++ []) = _
    rw [List.append_nil]
  have e1 : f1 = a ++ xn c k 0 ++ bk b := by rw [y0, h1, ← y0, rd_str (T.str_n 0)]
  have l1 : f1.length = a.length + (l - k) + b.length := by rw [e1, T.len_n]; omega
  have lpos : 1 ≤ l := T.om.pos
  have le0 : ∀ g, kl f0 g = true → kl f g = true := fun g hg => by
    rcases hf with ⟨rfl, h⟩ | ⟨rfl, _⟩
    · exact kl_trans h hg
    · exact hg
  refine ⟨?_, ?_, fun g sg hg ne => ?_⟩
  · rcases hf with ⟨rfl, _⟩ | ⟨rfl, _⟩
    · rw [h1]; exact str_rd _
    · rw [h0]; exact str_rd _
  · rcases hf with ⟨rfl, _⟩ | ⟨rfl, _⟩
    · rw [h1, tn_rd_r]; exact T.tn_n
    · rw [h0, tn_rd_r]; exact T.tn_p
  · obtain ⟨j, hj | hj⟩ := T.all sg hg
    · cases j with
      | zero =>
        have e : g = f0 := by rw [hj, x0, ← h0]
        rcases hf with ⟨rfl, h⟩ | ⟨rfl, _⟩
        · rw [e]; exact h
        · exact absurd e ne
      | succ j =>
        refine le0 g (kl_lt ?_)
        rw [hj, rd_str (T.str_p (.inl (by omega))), T.len_p]
        have : 1 * l ≤ (j + 1) * l := Nat.mul_le_mul_right l (by omega)
        omega
    · cases j with
      | zero =>
        have e : g = f1 := by rw [hj, rd_str (T.str_n 0), ← e1]
        rcases hf with ⟨rfl, _⟩ | ⟨rfl, h⟩
        · exact absurd e ne
        · rw [e] at ne ⊢
          rcases kl_tot ne with z | z
          · rw [h] at z; cases z
          · exact z
      | succ j =>
        have lg : f1.length < g.length := by
          rw [hj, rd_str (T.str_n _), T.len_n, l1]
          have : 1 * l ≤ (j + 1) * l := Nat.mul_le_mul_right l (by omega)
          omega
        have k1 := kl_lt lg
        rcases hf with ⟨rfl, _⟩ | ⟨rfl, h⟩
        · exact k1
        · by_cases c : f1 = f
          · rw [← c]; exact k1
          · rcases kl_tot c with z | z
            · rw [h] at z; cases z
            · exact kl_trans z k1
end
/-- the first place of a rotation lies within the root -/
theorem rot_per {m : Wk} {l k : Nat} (h : Om m l) (h1 : l ≤ k) (h2 : k ≤ m.length) : rotn m (k - l) = rotn m k := by
  obtain ⟨t, t0, e⟩ := om_rep h
  obtain ⟨c, hc⟩ : ∃ c, m.take l = c := ⟨_, rfl⟩
  have lc : c.length = l := hc ▸ om_len h
  rw [hc] at e
  obtain ⟨j, rfl⟩ : ∃ j, t = j + 1 := ⟨t - 1, by omega⟩
  have ea : m = Fg.rep j c ++ c := e
  have eb : m = c ++ Fg.rep j c := e.trans (rep_comm c j)
  have lm : m.length = (Fg.rep j c).length + l := by rw [ea, List.length_append, lc]
  have a1 : rotn m (k - l) = (Fg.rep j c).drop (k - l) ++ c ++ (Fg.rep j c).take (k - l) := by
    unfold rotn
    rw [ea, List.drop_append_of_le_length (by omega), List.take_append_of_le_length (by omega)]
  have a2 : rotn m k = (Fg.rep j c).drop (k - l) ++ (c ++ (Fg.rep j c).take (k - l)) := by
    unfold rotn
    rw [eb, List.drop_append, List.take_append, lc, List.drop_of_length_le (by omega), List.take_of_length_le (by omega), List.nil_append]
  rw [a1, a2, List.append_assoc]
end Fg
/-! roots of what is turned, of powers; what commutes -/
namespace Fg
theorem om_some {u : Wk} (h : u ≠ []) : ∃ l, Om u l := by
  have go : ∀ (d k : Nat), u.length - k = d → 1 ≤ k → k ≤ u.length → (∀ j, 1 ≤ j → j < k → ¬ Per u j) → ∃ l, Om u l := by
    intro d
    induction d with
    | zero =>
      intro k hd h1 h2 h3
      have e : k = u.length := by omega
      refine ⟨k, h1, h2, ?_, h3⟩
      rw [e]
      exact per_full u h
    | succ d ih =>
      intro k hd h1 h2 h3
      by_cases hp : Per u k
      · exact ⟨k, h1, h2, hp, h3⟩
      · refine ih (k + 1) (by omega) (by omega) (by omega) fun j a b => ?_
        rcases Nat.lt_or_ge j k with z | z
        · exact h3 j a z
        · have : j = k := by omega
          rw [this]
          exact hp
  have hp : 0 < u.length := List.length_pos_iff.mpr h
  exact go _ 1 rfl (Nat.le_refl _) hp fun j a b => absurd b (by omega)
/-- no power of a shorter one -/
structure Prim (c : Wk) : Prop where
  ne : c ≠ []
  one : ∀ e i, c = rep i e → i = 1
theorem prim_om {m : Wk} {l : Nat} (h : Om m l) : Prim (m.take l) := by
  obtain ⟨t, t0, e⟩ := om_rep h
  have lc := om_len h
  have hp := h.pos
  obtain ⟨c, hc⟩ : ∃ c, m.take l = c := ⟨_, rfl⟩
  rw [hc] at e lc ⊢
  refine ⟨fun z => ?_, fun d i hd => ?_⟩
  · rw [z] at lc
    simp only [List.length_nil] at lc
    omega
  · have ld : i * d.length = l := by rw [← rep_len, ← hd, lc]
    rcases Nat.lt_trichotomy i 1 with z | z | z
    · have : i = 0 := by omega
      rw [this] at ld
      omega
    · exact z
    · exfalso
      have d0 : 0 < d.length := Nat.pos_of_ne_zero fun z => by rw [z] at ld; omega
      have e2 : m = rep (i * t) d := by rw [e, hd, rep_mul]
      have lm : m.length = i * t * d.length := by rw [e2, rep_len]
      refine h.least d.length d0 ?_ ?_
      · have : 2 * d.length ≤ i * d.length := Nat.mul_le_mul_right _ z
        omega
      · unfold Per
        have it : 0 < i * t := Nat.mul_pos (by omega) t0
        have tk : m.take d.length = d := by rw [e2]; exact rep_take d it
        rw [tk, lm, Nat.mul_div_cancel _ d0, ← e2]
theorem om_prim {c : Wk} {t : Nat} (h : Prim c) (ht : 1 ≤ t) : Om (rep t c) c.length := by
  have ne := rep_ne h.ne ht
  obtain ⟨l, om⟩ := om_some ne
  have cm : c ++ rep t c = rep t c ++ c := (rep_comm c t).symm
  obtain ⟨s, hs⟩ := comm_root om cm
  have s1 := h.one _ _ hs
  rw [s1, rep_one] at hs
  have := om_len om
  rw [← hs] at this
  rw [this]
  exact om
/-- slid by a part -/
theorem rep_slide (p q : Wk) : ∀ i, rep i (p ++ q) ++ p = p ++ rep i (q ++ p)
  | 0 => by show [] ++ p = p ++ []; simp
  | i + 1 => by
    show rep i (p ++ q) ++ (p ++ q) ++ p = p ++ (rep i (q ++ p) ++ (q ++ p))
    rw [← List.append_assoc p, ← rep_slide p q i]
    simp
theorem rot_rep {p q : Wk} {i a b : Nat} (h : i = a + 1 + b) : rotn (rep i (p ++ q)) (rep a (p ++ q) ++ p).length = rep i (q ++ p) := by
  have e : rep i (p ++ q) = (rep a (p ++ q) ++ p) ++ (q ++ rep b (p ++ q)) := by
    rw [h, rep_add, rep_add, rep_one]
    simp
  rw [e, rotn_split, h]
  have e2 : rep (a + 1 + b) (q ++ p) = (q ++ p) ++ rep (b + a) (q ++ p) := by
    rw [show a + 1 + b = (b + a) + 1 by omega]
    exact rep_comm _ _
  have e3 : (q ++ rep b (p ++ q)) ++ (rep a (p ++ q) ++ p) = q ++ (rep (b + a) (p ++ q) ++ p) := by
    rw [rep_add]
    simp
  rw [e2, e3, rep_slide, List.append_assoc q p]
/-- any rotation of a power is a power of a rotation -/
theorem rotn_rep {e : Wk} {i j : Nat} (hj : j ≤ (rep i e).length) : ∃ k, k ≤ e.length ∧ rotn (rep i e) j = rep i (rotn e k) := by
  rw [rep_len] at hj
  by_cases c : j = i * e.length
  · refine ⟨0, Nat.zero_le _, ?_⟩
    rw [c, ← rep_len, rotn_full, rotn_zero]
  · have e0 : 0 < e.length := Nat.pos_of_ne_zero fun z => by rw [z] at hj c; omega
    have lt : j < i * e.length := by omega
    have ha : j / e.length < i := Nat.div_lt_of_lt_mul (by rwa [Nat.mul_comm])
    have hb := Nat.mod_lt j e0
    have hs := Nat.div_add_mod j e.length
    refine ⟨j % e.length, Nat.le_of_lt hb, ?_⟩
    have pe : e = e.take (j % e.length) ++ e.drop (j % e.length) := (List.take_append_drop _ _).symm
    have := rot_rep (p := e.take (j % e.length)) (q := e.drop (j % e.length)) (i := i) (a := j / e.length) (b := i - j / e.length - 1) (by omega)
    rw [← pe, List.length_append, rep_len, List.length_take, Nat.min_eq_left (Nat.le_of_lt hb), Nat.mul_comm, hs] at this
    exact this
theorem rep_rotn {e : Wk} {i k : Nat} (hi : 1 ≤ i) (hk : k ≤ e.length) : rep i (rotn e k) = rotn (rep i e) k := by
  have pe : e = e.take k ++ e.drop k := (List.take_append_drop _ _).symm
  have := rot_rep (p := e.take k) (q := e.drop k) (i := i) (a := 0) (b := i - 1) (by omega)
  rw [← pe] at this
  have e2 : (rep 0 e ++ e.take k).length = k := by
    show ([] ++ e.take k).length = k
    rw [List.nil_append, List.length_take, Nat.min_eq_left hk]
  rw [e2] at this
  exact this.symm
theorem rotn_back {m : Wk} {k : Nat} (hk : k ≤ m.length) : rotn (rotn m k) (m.length - k) = m := by
  have h1 : rotn m k = m.drop k ++ m.take k := rfl
  have h2 : m.length - k = (m.drop k).length := by rw [List.length_drop]
  rw [h1, h2, rotn_split, List.take_append_drop]
theorem prim_rotn {c : Wk} (h : Prim c) {k : Nat} (hk : k ≤ c.length) : Prim (rotn c k) := by
  have ln := rotn_len c k
  refine ⟨fun z => h.ne ?_, fun e i he => ?_⟩
  · rw [z] at ln
    exact List.length_eq_zero_iff.mp ln.symm
  · have b := rotn_back hk
    rw [he] at b
    obtain ⟨j, _, hj⟩ := rotn_rep (e := e) (i := i) (j := c.length - k) (by rw [← he, ln]; omega)
    rw [hj] at b
    exact h.one _ _ b.symm
theorem prim_bk {c : Wk} (h : Prim c) : Prim (bk c) := ⟨fun z => h.ne (by have := congrArg bk z; rwa [bk_bk] at this), fun e i he => h.one (bk e) i (by rw [← bk_rep, ← he, bk_bk])⟩
theorem cyc_bk {c : Wk} (h : Cyc c) : Cyc (bk c) := ⟨str_bk h.str, fun x y hx hy => by
  rw [last_bk] at hx
  rw [head_bk] at hy
  cases e1 : c.head? with
  | none => rw [e1] at hx; cases hx
  | some p =>
    cases e2 : c.getLast? with
    | none => rw [e2] at hy; cases hy
    | some q =>
      rw [e1] at hx
      rw [e2] at hy
      have hx : -p = x := Option.some.inj hx
      have hy : -q = y := Option.some.inj hy
      have := h.ends q p e2 e1
      omega⟩
theorem cyc_rep {c : Wk} (h : Cyc c) (hn : c ≠ []) {j : Nat} (hj : 1 ≤ j) : Cyc (rep j c) := ⟨str_rep h hn j, fun x y hx hy => by
  rw [rep_last hn hj] at hx
  rw [rep_head hn hj] at hy
  exact h.ends x y hx hy⟩
/-- a lead, a core so many times -/
structure Nf (v a c : Wk) (t : Nat) : Prop where
  eq : v = a ++ rep t c ++ bk a
  prim : Prim c
  cyc : Cyc c
  pos : 1 ≤ t
  str : Str (a ++ c ++ bk a)
theorem nf_str {a c : Wk} (p : c ≠ []) (cy : Cyc c) (h : Str (a ++ c ++ bk a)) {t : Nat} (ht : 1 ≤ t) : Str (a ++ rep t c ++ bk a) := by
  have s1 := str_l h
  refine str_app (str_app (str_l s1) (str_rep cy p t) fun x y hx hy => ?_) (str_bk (str_l s1)) fun x y hx hy => ?_
  · rw [rep_head p ht] at hy
    exact str_meet s1 x y hx hy
  · rw [last_app (rep_ne p ht), rep_last p ht, ← last_app (x := a) p] at hx
    exact str_meet h x y hx hy
theorem Nf.st {v a c : Wk} {t : Nat} (N : Nf v a c t) : Str v := N.eq ▸ nf_str N.prim.ne N.cyc N.str N.pos
theorem Nf.ne {v a c : Wk} {t : Nat} (N : Nf v a c t) : v ≠ [] := fun z => by
  have e := N.eq
  rw [z] at e
  have e := e.symm
  exact rep_ne N.prim.ne N.pos (List.append_eq_nil_iff.mp (List.append_eq_nil_iff.mp e).1).2
theorem Nf.lm {v a c : Wk} {t : Nat} (N : Nf v a c t) : lead v = a ∧ mid v = rep t c := lead_mid_of N.eq (cyc_rep N.cyc N.prim.ne N.pos) (rep_ne N.prim.ne N.pos)
theorem Nf.lm1 {v a c : Wk} {t : Nat} (N : Nf v a c t) : lead (a ++ c ++ bk a) = a ∧ mid (a ++ c ++ bk a) = c := lead_mid_of rfl N.cyc N.prim.ne
theorem Nf.many {v a c : Wk} {t k : Nat} (N : Nf v a c t) (hk : 1 ≤ k) : Nf (a ++ rep k c ++ bk a) a c k := ⟨rfl, N.prim, N.cyc, hk, N.str⟩
theorem Nf.back {v a c : Wk} {t : Nat} (N : Nf v a c t) : Nf (bk v) a (bk c) t := by
  refine ⟨?_, prim_bk N.prim, cyc_bk N.cyc, N.pos, ?_⟩
  · rw [N.eq, bk_app, bk_app, bk_bk, bk_rep, List.append_assoc]
  · have := str_bk N.str
    rw [bk_app, bk_app, bk_bk] at this
    rwa [List.append_assoc]
theorem nf_of {u : Wk} (h : Str u) (hn : u ≠ []) (nz : ∀ x ∈ u, x ≠ 0) : ∃ c t, Nf u (lead u) c t := by
  obtain ⟨e, mn, cy⟩ := core_parts h hn nz
  obtain ⟨l, om⟩ := om_some mn
  obtain ⟨t, t0, ht⟩ := om_rep om
  have pc := prim_om om
  have lc := om_len om
  generalize mid u = m at e mn cy om ht lc pc
  generalize m.take l = c at ht lc pc
  obtain ⟨t, rfl⟩ : ∃ s, t = s + 1 := ⟨t - 1, by omega⟩
  have e1 : m = rep t c ++ c := ht
  have e2 : m = c ++ rep t c := by rw [ht]; exact rep_comm c t
  have hl : m.getLast? = c.getLast? := by rw [e1, last_app pc.ne]
  have hh : m.head? = c.head? := by rw [e2, head_app pc.ne]
  have cc : Cyc c := ⟨str_r (e1 ▸ cy.str), fun x y hx hy => cy.ends x y (hl.trans hx) (hh.trans hy)⟩
  refine ⟨c, t + 1, by rw [← ht]; exact e, pc, cc, by omega, ?_⟩
  have hu : Str (lead u ++ m ++ bk (lead u)) := e ▸ h
  have s1 := str_l hu
  refine str_app (str_app (str_l s1) cc.str fun x y hx hy => str_meet s1 x y hx (hh.trans hy)) (str_bk (str_l s1)) fun x y hx hy => ?_
  rw [last_app pc.ne, ← hl, ← last_app (x := lead u) mn] at hx
  exact str_meet hu x y hx hy
theorem Nf.root {v a c : Wk} {t : Nat} (N : Nf v a c t) : L2.RootIs v (a ++ c ++ bk a) (t : Int) := by
  obtain ⟨e1, e2⟩ := N.lm
  have pc := List.length_pos_iff.mpr N.prim.ne
  refine .inr ⟨by rw [e2]; exact rep_ne N.prim.ne N.pos, c.length, by rw [e2]; exact om_prim N.prim N.pos, ?_, ?_⟩
  · rw [e1, e2, rep_take c N.pos]
  · rw [e2, rep_len, Nat.mul_div_cancel _ pc]
theorem root_nil : L2.RootIs [] [] 0 := .inl ⟨rfl, rfl, rfl⟩
/-! ### powers -/
theorem rep_conj (o w : Wk) : ∀ n, Eqv (rep n (bk o ++ w ++ o)) (bk o ++ rep n w ++ o)
  | 0 => by
    show Eqv [] (bk o ++ [] ++ o)
    rw [List.append_nil]
    exact (eqv_kb o).symm
  | n + 1 => by
    show Eqv (rep n (bk o ++ w ++ o) ++ (bk o ++ w ++ o)) (bk o ++ (rep n w ++ w) ++ o)
    refine ((rep_conj o w n).app (Eqv.refl _)).trans ((Eqv.of_eq ?_).trans ((del1 (bk o ++ rep n w) o (w ++ o)).trans (Eqv.of_eq ?_)))
    · simp
    · simp
theorem rep_lead (a c : Wk) (n : Nat) : Eqv (rep n (a ++ c ++ bk a)) (a ++ rep n c ++ bk a) := by
  have := rep_conj (bk a) c n
  rwa [bk_bk] at this
theorem Nf.pow {v a c : Wk} {t : Nat} (N : Nf v a c t) (k : Nat) : Eqv (rep k v) (a ++ rep (t * k) c ++ bk a) := by
  rw [N.eq]
  refine (rep_lead a (rep t c) k).trans (Eqv.of_eq ?_)
  rw [rep_mul]
theorem Nf.asroot {v a c : Wk} {t : Nat} (N : Nf v a c t) : Eqv v (rep t (a ++ c ++ bk a)) := by
  rw [N.eq]
  exact (rep_lead a c t).symm
/-- a walk so many times, turned back for a negative number -/
def Z (w : Wk) (k : Int) : Wk := rep k.natAbs (if 0 ≤ k then w else bk w)
theorem z_nat (w : Wk) (n : Nat) : Z w (n : Int) = rep n w := by
  unfold Z
  rw [if_pos (Int.natCast_nonneg n), Int.natAbs_natCast]
theorem z_neg (w : Wk) (n : Nat) : Z w (-(n : Int)) = rep n (bk w) := by
  unfold Z
  rcases Nat.eq_zero_or_pos n with z | z
  · rw [z]
    rfl
  · rw [if_neg (by omega), Int.natAbs_neg, Int.natAbs_natCast]
theorem int_two (k : Int) : (∃ n : Nat, k = (n : Int)) ∨ ∃ n : Nat, k = -((n + 1 : Nat) : Int) := by
  by_cases h : k < 0
  · exact .inr ⟨(-k - 1).toNat, by omega⟩
  · exact .inl ⟨k.toNat, by omega⟩
theorem z_succ (w : Wk) (k : Int) : Eqv (Z w (k + 1)) (Z w k ++ w) := by
  rcases int_two k with ⟨n, rfl⟩ | ⟨n, rfl⟩
  · rw [show ((n : Int) + 1) = ((n + 1 : Nat) : Int) by omega, z_nat, z_nat]
    exact .refl _
  · rw [show -((n + 1 : Nat) : Int) + 1 = -(n : Int) by omega, z_neg, z_neg]
    refine Eqv.symm ((Eqv.of_eq ?_).trans ((del2 (rep n (bk w)) w []).trans (Eqv.of_eq (List.append_nil _))))
    show rep n (bk w) ++ bk w ++ w = _
    simp
theorem z_pred (w : Wk) (k : Int) : Eqv (Z w (k - 1)) (Z w k ++ bk w) := by
  have h := (z_succ w (k - 1)).app (Eqv.refl (bk w))
  rw [show k - 1 + 1 = k by omega] at h
  refine Eqv.symm (h.trans ((Eqv.of_eq ?_).trans ((del1 (Z w (k - 1)) w []).trans (Eqv.of_eq (List.append_nil _)))))
  simp
theorem z_zero (w : Wk) : Z w 0 = [] := rfl
theorem int_ind {P : Int → Prop} (h0 : P 0) (hs : ∀ k, P k → P (k + 1)) (hp : ∀ k, P k → P (k - 1)) (k : Int) : P k := by
  have up : ∀ n : Nat, P (n : Int) := fun n => by
    induction n with
    | zero => exact h0
    | succ n ih => rw [show ((n + 1 : Nat) : Int) = (n : Int) + 1 by omega]; exact hs _ ih
  have dn : ∀ n : Nat, P (-(n : Int)) := fun n => by
    induction n with
    | zero => exact h0
    | succ n ih => rw [show (-((n + 1 : Nat) : Int)) = -(n : Int) - 1 by omega]; exact hp _ ih
  rcases int_two k with ⟨n, rfl⟩ | ⟨n, rfl⟩
  · exact up n
  · exact dn _
theorem z_add (w : Wk) (i j : Int) : Eqv (Z w (i + j)) (Z w i ++ Z w j) := by
  refine int_ind (P := fun j => Eqv (Z w (i + j)) (Z w i ++ Z w j)) ?_ (fun k ih => ?_) (fun k ih => ?_) j
  · rw [Int.add_zero, z_zero, List.append_nil]
    exact .refl _
  · rw [← Int.add_assoc]
    refine (z_succ w (i + k)).trans ((ih.app (.refl w)).trans ?_)
    rw [List.append_assoc]
    exact (Eqv.refl _).app (z_succ w k).symm
  · rw [show i + (k - 1) = i + k - 1 by omega]
    refine (z_pred w (i + k)).trans ((ih.app (.refl _)).trans ?_)
    rw [List.append_assoc]
    exact (Eqv.refl _).app (z_pred w k).symm
theorem z_bk (w : Wk) (k : Int) : Z w (-k) = bk (Z w k) := by
  rcases int_two k with ⟨n, rfl⟩ | ⟨n, rfl⟩
  · rw [z_neg, z_nat, bk_rep]
  · rw [Int.neg_neg, z_nat, z_neg, bk_rep, bk_bk]
theorem z_mul (w : Wk) (i j : Int) : Eqv (Z (Z w i) j) (Z w (i * j)) := by
  refine int_ind (P := fun j => Eqv (Z (Z w i) j) (Z w (i * j))) ?_ (fun k ih => ?_) (fun k ih => ?_) j
  · rw [Int.mul_zero]
    exact .refl _
  · refine (z_succ (Z w i) k).trans ((ih.app (.refl _)).trans ?_)
    rw [Int.mul_add, Int.mul_one]
    exact (z_add w (i * k) i).symm
  · refine (z_pred (Z w i) k).trans ((ih.app (.refl _)).trans ?_)
    rw [← z_bk, Int.mul_sub, Int.mul_one, Int.sub_eq_add_neg]
    exact (z_add w (i * k) (-i)).symm
theorem z_eqv {u v : Wk} (h : Eqv u v) (k : Int) : Eqv (Z u k) (Z v k) := by
  unfold Z
  split
  · exact eqv_rep h _
  · exact eqv_rep h.bk _
theorem z_conj (o w : Wk) (k : Int) : Eqv (Z (bk o ++ w ++ o) k) (bk o ++ Z w k ++ o) := by
  unfold Z
  split
  · exact rep_conj o w _
  · have : bk (bk o ++ w ++ o) = bk o ++ bk w ++ o := by rw [bk_app, bk_app, bk_bk, List.append_assoc]
    rw [this]
    exact rep_conj o (bk w) _
/-- turned, then so many times -/
theorem tn_z (w o : Wk) (k : Int) : tn (rd (Z w k)) o = rd (Z (tn w o) k) := by
  rw [tn_rd]
  unfold tn
  refine rd_eq ((z_conj o w k).symm.trans (z_eqv (eqv_rdr _) k))
theorem Nf.z {v a c : Wk} {t : Nat} (N : Nf v a c t) {k : Int} (hk : k ≠ 0) : ∃ d, Nf (rd (Z v k)) a d (t * k.natAbs) ∧ a ++ d ++ bk a = (if k < 0 then bk (a ++ c ++ bk a) else a ++ c ++ bk a) := by
  have key : ∀ {v c : Wk}, Nf v a c t → ∀ n : Nat, 1 ≤ n → Nf (rd (rep n v)) a c (t * n) := fun {v c} N n hn => by
    have tn1 : 1 ≤ t * n := Nat.mul_pos N.pos hn
    have M := N.many tn1
    have : rd (rep n v) = a ++ rep (t * n) c ++ bk a := by rw [rd_eq (N.pow n), rd_str M.st]
    rw [this]
    exact M
  rcases int_two k with ⟨n, rfl⟩ | ⟨n, rfl⟩
  · refine ⟨c, ?_, by rw [if_neg (by omega)]⟩
    rw [z_nat, Int.natAbs_natCast]
    exact key N n (by omega)
  · refine ⟨bk c, ?_, ?_⟩
    · rw [z_neg, Int.natAbs_neg, Int.natAbs_natCast]
      exact key N.back (n + 1) (by omega)
    · rw [if_pos (by omega), bk_app, bk_app, bk_bk, List.append_assoc]
/-- the root of what is turned is the root turned -/
theorem Nf.turn {v a c o : Wk} {t : Nat} (N : Nf v a c t) (nr : ∀ x ∈ a ++ c ++ bk a, x ≠ 0) (no : ∀ x ∈ o, x ≠ 0) : ∃ b d, Nf (tn v o) b d t ∧ b ++ d ++ bk b = tn (a ++ c ++ bk a) o := by
  obtain ⟨r, hr⟩ : ∃ r, a ++ c ++ bk a = r := ⟨_, rfl⟩
  have sr := N.str
  have mr := N.lm1.2
  have ar := N.asroot
  rw [hr] at nr sr mr ar ⊢
  have rn : r ≠ [] := fun z => by
    rw [z] at mr
    exact N.prim.ne mr.symm
  obtain ⟨k, hk, hc⟩ := core_conj o sr rn nr no
  rw [mr] at hk hc
  have n2 : tn r o ≠ [] := tn_ne sr rn
  have nz2 := tn_nz nr no
  obtain ⟨e, mn, cy⟩ := core_parts (tn_str r o) n2 nz2
  rw [hc] at e cy
  have M : Nf (lead (tn r o) ++ rep t (rotn c k) ++ bk (lead (tn r o))) (lead (tn r o)) (rotn c k) t := ⟨rfl, prim_rotn N.prim hk, cy, N.pos, e ▸ tn_str r o⟩
  refine ⟨lead (tn r o), rotn c k, ?_, e.symm⟩
  have : tn v o = lead (tn r o) ++ rep t (rotn c k) ++ bk (lead (tn r o)) := by
    have h1 : tn v o = tn (rd (Z r (t : Int))) o := by
      rw [tn_rd, z_nat]
      unfold tn
      exact rd_eq (((Eqv.refl _).app ar).app (.refl _))
    have h2 : Eqv (tn r o) (lead (tn r o) ++ rotn c k ++ bk (lead (tn r o))) := Eqv.of_eq e
    rw [h1, tn_z, z_nat, rd_eq (eqv_rep h2 t), rd_eq (rep_lead _ _ t), rd_str M.st]
  rw [this]
  exact M
/-! ### roots are unique -/
theorem z_inj {x y : Wk} (sx : Str x) (sy : Str y) (nx : ∀ i ∈ x, i ≠ 0) (ny : ∀ i ∈ y, i ≠ 0) {k : Int} (hk : k ≠ 0) (h : rd (Z x k) = rd (Z y k)) : x = y := by
  have zn : ∀ k, Z [] k = [] := fun k => by
    unfold Z
    have e : (if 0 ≤ k then ([] : Wk) else bk []) = [] := by split <;> rfl
    rw [e, rep_nil]
  by_cases cx : x = []
  · by_cases cy : y = []
    · rw [cx, cy]
    · obtain ⟨c, t, N⟩ := nf_of sy cy ny
      obtain ⟨d, M, _⟩ := N.z hk
      rw [cx, zn] at h
      exact absurd h.symm M.ne
  · by_cases cy : y = []
    · obtain ⟨c, t, N⟩ := nf_of sx cx nx
      obtain ⟨d, M, _⟩ := N.z hk
      rw [cy, zn] at h
      exact absurd h M.ne
    · obtain ⟨c, t, N⟩ := nf_of sx cx nx
      obtain ⟨d, s, M⟩ := nf_of sy cy ny
      obtain ⟨c2, N2, e2⟩ := N.z hk
      obtain ⟨d2, M2, e3⟩ := M.z hk
      rw [h] at N2
      obtain ⟨r1, r2⟩ := L2.rootIs_unique N2.root M2.root
      rw [e2, e3] at r1
      have ts : t = s := by
        have : t * k.natAbs = s * k.natAbs := by omega
        exact Nat.eq_of_mul_eq_mul_right (by omega) this
      have rr : lead x ++ c ++ bk (lead x) = lead y ++ d ++ bk (lead y) := by
        by_cases c0 : k < 0
        · rw [if_pos c0, if_pos c0] at r1
          have := congrArg bk r1
          rwa [bk_bk, bk_bk] at this
        · rwa [if_neg c0, if_neg c0] at r1
      have ex := N.asroot
      have ey := M.asroot
      rw [rr, ts] at ex
      have := rd_eq (ex.trans ey.symm)
      rwa [rd_str sx, rd_str sy] at this
/-! ### what commutes -/
theorem comm_bk {u v : Wk} (h : Eqv (u ++ v) (v ++ u)) : Eqv (bk u ++ v) (v ++ bk u) := by
  have h1 := ((Eqv.refl (bk u)).app h).app (Eqv.refl (bk u))
  have a1 : Eqv (bk u ++ (u ++ v) ++ bk u) (v ++ bk u) := (Eqv.of_eq (by simp)).trans ((del2 [] u (v ++ bk u)).trans (Eqv.of_eq (by simp)))
  have a2 : Eqv (bk u ++ (v ++ u) ++ bk u) (bk u ++ v) := (Eqv.of_eq (by simp)).trans ((del1 (bk u ++ v) u []).trans (Eqv.of_eq (by simp)))
  exact a2.symm.trans (h1.symm.trans a1)
theorem comm_roots {u v a c b d : Wk} {t s : Nat} (N : Nf u a c t) (M : Nf v b d s) : rd (u ++ v) = rd (v ++ u) ↔ (a ++ c ++ bk a = b ++ d ++ bk b ∨ a ++ c ++ bk a = bk (b ++ d ++ bk b)) := by
  constructor
  · intro h
    have H : Eqv (u ++ v) (v ++ u) := eqv_of_rd h
    obtain ⟨z0, hz0⟩ : ∃ z0, bk a ++ v ++ a = z0 := ⟨_, rfl⟩
    have mu : ∀ y, Red y → run y (rep t c) = run (run (run y (bk a)) u) a := fun y ry => by
      rw [N.eq, run_append, run_append, run_vni a ry, run_vni a (red_run _ ry)]
    have K : Eqv (z0 ++ rep t c) (rep t c ++ z0) := fun st r => by
      have r1 := red_run (bk a) r
      have key := H _ r1
      simp only [run_append] at key
      rw [← hz0]
      simp only [run_append]
      rw [mu _ (red_run a (red_run v r1)), mu _ r, run_inv a (red_run v r1), run_inv a (red_run u r1), key]
    have W : Eqv v (a ++ rd z0 ++ bk a) := by
      have h1 : Eqv (a ++ rd z0 ++ bk a) (a ++ z0 ++ bk a) := ((Eqv.refl a).app (eqv_rdr z0).symm).app (.refl _)
      refine Eqv.symm (h1.trans ?_)
      rw [← hz0]
      refine (Eqv.of_eq ?_).trans ((del1 [] a (v ++ (a ++ bk a))).trans ((Eqv.of_eq ?_).trans ((del1 v a []).trans (Eqv.of_eq (List.append_nil _)))))
      · simp
      · simp
    have com : rd (rd z0 ++ rep t c) = rd (rep t c ++ rd z0) := by rw [rd_app_l, rd_app_r]; exact rd_eq K
    have e1 : v = rd (a ++ rd z0 ++ bk a) := (rd_str M.st).symm.trans (rd_eq W)
    have om := om_prim N.prim N.pos
    have tk : (rep t c).take c.length = c := rep_take c N.pos
    have nil0 : rd z0 ≠ [] := fun z => M.ne (by rw [e1, z, List.append_nil]; exact rd_app_bk a)
    rcases comm_cyc (str_rd z0) (cyc_rep N.cyc N.prim.ne N.pos) (rep_ne N.prim.ne N.pos) com with h1 | h1
    · obtain ⟨i, hi⟩ := comm_root om h1
      rw [tk] at hi
      have i1 : 1 ≤ i := Nat.pos_of_ne_zero fun z => nil0 (by rw [hi, z]; rfl)
      have L := N.many i1
      rw [hi, rd_str L.st] at e1
      rw [← e1] at L
      exact .inl (L2.rootIs_unique L.root M.root).1
    · obtain ⟨i, hi⟩ := comm_root om h1
      rw [tk] at hi
      have hi : rd z0 = rep i (bk c) := by rw [← bk_rep, ← hi, bk_bk]
      have i1 : 1 ≤ i := Nat.pos_of_ne_zero fun z => nil0 (by rw [hi, z]; rfl)
      have L := N.back.many i1
      rw [hi, rd_str L.st] at e1
      rw [← e1] at L
      refine .inr ?_
      have := (L2.rootIs_unique L.root M.root).1
      rw [← this, bk_app, bk_app, bk_bk, bk_bk, List.append_assoc]
  · intro h
    have eu : Eqv u (Z (a ++ c ++ bk a) (t : Int)) := by rw [z_nat]; exact N.asroot
    have ev : ∃ k : Int, Eqv v (Z (a ++ c ++ bk a) k) := by
      rcases h with h | h
      · refine ⟨(s : Int), ?_⟩
        rw [h, z_nat]
        exact M.asroot
      · refine ⟨-(s : Int), ?_⟩
        rw [h, z_neg, bk_bk]
        exact M.asroot
    obtain ⟨k, ev⟩ := ev
    refine rd_eq ((eu.app ev).trans ((z_add _ _ _).symm.trans ?_))
    rw [Int.add_comm]
    exact (z_add _ _ _).trans (ev.app eu).symm
/-! ### the order of powers -/
theorem lex_app : ∀ {x w : List Int} {p q : List Int}, x.length = w.length → x ≠ w → HT.lexLt (x ++ p) (w ++ q) = HT.lexLt x w
  | [], [], _, _, _, h => absurd rfl h
  | [], _ :: _, _, _, l, _ => by cases l
  | _ :: _, [], _, _, l, _ => by cases l
  | x :: u, y :: v, p, q, l, h => by
    rw [List.cons_append, List.cons_append, HT.lexLt_cons, HT.lexLt_cons]
    by_cases c : x = y
    · subst c
      rw [if_pos rfl, if_pos rfl]
      exact lex_app (Nat.succ.inj l) fun z => h (by rw [z])
    · rw [if_neg c, if_neg c]
theorem kl_rep {x w : Wk} (l : x.length = w.length) {t : Nat} (ht : 1 ≤ t) : kl (rep t x) (rep t w) = kl x w := by
  by_cases c : x = w
  · rw [c, kl_irr, kl_irr]
  · obtain ⟨s, rfl⟩ : ∃ s, t = s + 1 := ⟨t - 1, by omega⟩
    have e : ∀ z : Wk, rep (s + 1) z = z ++ rep s z := fun z => rep_comm z s
    have cd : x.map Od.cd ≠ w.map Od.cd := fun z => c (cds_inj z)
    unfold kl
    rw [if_pos l, if_pos (by rw [rep_len, rep_len, l]), e, e, List.map_append, List.map_append, lex_app (by rw [List.length_map, List.length_map, l]) cd]
/-! ### the least that turns -/
theorem leastT_uniq {u v u2 v2 f g : Wk} (h : LeastT u v f) (k : LeastT u2 v2 g) (e : ∀ x, x = f ∨ x = g → (tn u x = v ↔ tn u2 x = v2)) : f = g := Classical.byContradiction fun c => by
  have h1 := h.le g k.str ((e g (.inr rfl)).mpr k.on) fun z => c z.symm
  have h2 := k.le f h.str ((e f (.inl rfl)).mp h.on) c
  rw [kl_asym h1] at h2
  cases h2
theorem leastT_len {u v f g : Wk} (su : Str u) (sv : Str v) (h : LeastT u v f) (k : LeastT v u g) : f.length = g.length := by
  have key : ∀ {u v f g : Wk}, Str u → LeastT u v f → LeastT v u g → g.length ≤ f.length := fun {u v f g} su h k => by
    have on : tn v (bk f) = u := by rw [← h.on, tn_tn, tn_eqv (eqv_bk f), tn_nil su]
    by_cases c : bk f = g
    · rw [← c, bk_len]
      exact Nat.le_refl _
    · have := kl_le (k.le (bk f) (str_bk h.str) on c)
      rwa [bk_len] at this
  exact Nat.le_antisymm (key sv k h) (key su h k)
theorem leastT_key {u v f o : Wk} (h : LeastT u v f) (so : Str o) (on : tn u o = v) : kl o f = false := by
  by_cases c : o = f
  · rw [c, kl_irr]
  · exact kl_asym (h.le o so on c)
/-- what turns the one into the other as another does, commutes with the one behind it -/
theorem comm_of_tn {u o f : Wk} (h : tn u o = tn u f) : Eqv (u ++ (o ++ bk f)) ((o ++ bk f) ++ u) := fun st r => by
  have H : Eqv (bk o ++ u ++ o) (bk f ++ u ++ f) := eqv_of_rd h
  have key := H _ (red_run o r)
  simp only [run_append] at key ⊢
  rw [run_inv o r] at key
  rw [key, run_inv f (red_run u (red_run (bk f) (red_run o r)))]
end Fg
/-! keys of walks as data; list.index of data; rounds -/
namespace L2
open PySem PySem.Spec PyProof.Rows Evl
theorem mt_indexDK {X : Cx} (K : PySem.W.Frag) {k : Nat} (hr : Room k X.A) (h : X.K = K := by rfl) : MtR X "list.index" (rIndexD K) := h ▸ mt_indexD (by have := hr.un; omega)
/-- a number and a tuple of ints -/
def kT (i : Int) (ns : List Int) : PyData := .tuple [.int i, .tuple (ns.map .int)]
open PySem.W in
theorem dataLt_kT (i j : Int) (ns ms : List Int) : dataLt (kT i ns) (kT j ms) = if i = j then (if ns = ms then false else HT.lexLt ns ms) else decide (i < j) := by
  unfold kT
  rw [dataLt_tuple]
  by_cases c : i = j
  · rw [if_pos c, dataLt_all_yes (by rw [alike]) (by rw [PyData.eqv, c]; exact beq_self_eq_true j)]
    by_cases c2 : ns = ms
    · rw [if_pos c2, dataLt_all_yes (by rw [alike, alike_ints]) (by rw [eqv_tints]; exact decide_eq_true c2)]
      decide
    · rw [if_neg c2, dataLt_all_no (by rw [alike, alike_ints]) (by rw [eqv_tints]; exact decide_eq_false c2), dataLt_tuple, dataLt_ints]
  · rw [if_neg c, dataLt_all_no (by rw [alike]) (by rw [PyData.eqv]; exact beq_eq_false_iff_ne.mpr c), dataLt_int]
theorem alike_kT (i j : Int) (ns ms : List Int) : PySem.W.alike (kT i ns) (kT j ms) = true := by
  unfold kT
  rw [PySem.W.alike, PySem.W.alikeAll, PySem.W.alikeAll, PySem.W.alikeAll, PySem.W.alike, PySem.W.alike, alike_ints]
  rfl
theorem depth_kT (i : Int) (ns : List Int) : (kT i ns).depth ≤ 30 := by
  unfold kT
  simp only [PyData.depth, PyData.depthAll, depth_ints]
  omega
theorem dp_kT {K : PySem.W.Frag} {H : Hp} {a p : Addr} {i : Int} {ns : List Int} (ha : SqT K H a [.int i, .ref p]) (hp : IT K H p ns) : Dp K H (.ref a) (kT i ns) := .tup ha (.cons (.int _) (.cons (dp_t hp) .nil))
theorem r_cmpT {K : PySem.W.Frag} {H : Hp} {Q : VK} {b : PyData → PyData → Bool} {a a2 p p2 : Addr} {i j : Int} {ns ms : List Int} (ha : SqT K H a [.int i, .ref p]) (hp : IT K H p ns) (hb : SqT K H a2 [.int j, .ref p2]) (hp2 : IT K H p2 ms) (q : Q (.bl (b (kT i ns) (kT j ms))) H) : rCmp K b (.ref a) (.ref a2) H Q :=
  ⟨_, _, dp_kT ha hp, dp_kT hb hp2, alike_kT _ _ _ _, (fun z => nomatch z), depth_kT _ _, q⟩
theorem kl_of (u v : List Int) : (if (u.length : Int) = (v.length : Int) then (if u.map Od.cd = v.map Od.cd then false else HT.lexLt (u.map Od.cd) (v.map Od.cd)) else decide ((u.length : Int) < (v.length : Int))) = Fg.kl u v := by
  unfold Fg.kl
  by_cases c : u.length = v.length
  · rw [if_pos (by omega), if_pos c]
    by_cases c2 : u.map Od.cd = v.map Od.cd
    · rw [if_pos c2, c2, Fg.lex_irr]
    · rw [if_neg c2]
  · rw [if_neg (by omega), if_neg c]
    exact decide_eq_decide.mpr (by omega)
theorem dataLt_kl (u v : List Int) : PySem.W.dataLt (kT u.length (u.map Od.cd)) (kT v.length (v.map Od.cd)) = Fg.kl u v := by rw [dataLt_kT, kl_of]
/-- the place of a step among all steps -/
def spl (x : Int) : Int := if x > 0 then 2 * x - 2 else -2 * x - 1
theorem spl_cd {x : Int} (h : x ≠ 0) : spl x = Od.cd x - 2 := by
  unfold spl Od.cd
  split <;> split <;> omega
theorem lex_spl : ∀ {u v : List Int}, (∀ x ∈ u, x ≠ 0) → (∀ x ∈ v, x ≠ 0) → HT.lexLt (u.map spl) (v.map spl) = HT.lexLt (u.map Od.cd) (v.map Od.cd)
  | [], [], _, _ => rfl
  | [], _ :: _, _, _ => rfl
  | _ :: _, [], _, _ => rfl
  | x :: u, y :: v, hu, hv => by
    rw [List.map_cons, List.map_cons, List.map_cons, List.map_cons, HT.lexLt_cons, HT.lexLt_cons, spl_cd (hu x List.mem_cons_self), spl_cd (hv y List.mem_cons_self), lex_spl (fun z hz => hu z (List.mem_cons_of_mem _ hz)) fun z hz => hv z (List.mem_cons_of_mem _ hz)]
    by_cases c : Od.cd x = Od.cd y
    · rw [if_pos (by omega), if_pos c]
    · rw [if_neg (by omega), if_neg c]
      exact decide_eq_decide.mpr (by omega)
theorem dataLt_kls {u v : List Int} (hu : ∀ x ∈ u, x ≠ 0) (hv : ∀ x ∈ v, x ≠ 0) : PySem.W.dataLt (kd u.length (u.map spl)) (kd v.length (v.map spl)) = Fg.kl u v := by
  rw [dataLt_kd, ← kl_of]
  have e : u.map spl = v.map spl ↔ u.map Od.cd = v.map Od.cd := by
    have a : u.map spl = (u.map Od.cd).map (· - 2) := by rw [List.map_map]; exact List.map_congr_left fun x hx => spl_cd (hu x hx)
    have b : v.map spl = (v.map Od.cd).map (· - 2) := by rw [List.map_map]; exact List.map_congr_left fun x hx => spl_cd (hv x hx)
    rw [a, b]
    exact List.map_inj_right fun x y h => by omega
  by_cases c : u.map Od.cd = v.map Od.cd
  · rw [if_pos c, if_pos (e.mpr c)]
  · rw [if_neg c, if_neg fun z => c (e.mp z), lex_spl hu hv]
end L2
namespace Lw
open PySem PySem.Spec PyProof.Rows L2 Evl

/-! ### the text -/
def topS (i : Nat) : Stmt := PySem.Challenge.pw_walkclubs_k51_whole_powers_roots_and_tur.main.body.getD i (.Pass ⟨0, 0, 0, 0⟩)
abbrev s_is_integer : Stmt := topS 6
abbrev N_is_integer : List Str := ["value"]
abbrev P_is_integer : List Str := ["value"]
theorem sc_is_integer : FnScope N_is_integer P_is_integer (defScope s_is_integer) := ⟨rfl, rfl, rfl, by decide +kernel, rfl, by decide +kernel, by decide +kernel⟩
abbrev s_step_place : Stmt := topS 14
abbrev N_step_place : List Str := ["step"]
abbrev P_step_place : List Str := ["step"]
theorem sc_step_place : FnScope N_step_place P_step_place (defScope s_step_place) := ⟨rfl, rfl, rfl, by decide +kernel, rfl, by decide +kernel, by decide +kernel⟩
abbrev s_straightened : Stmt := topS 16
abbrev N_straightened : List Str := ["walk", "kept", "step"]
abbrev P_straightened : List Str := ["walk"]
theorem sc_straightened : FnScope N_straightened P_straightened (defScope s_straightened) := ⟨rfl, rfl, rfl, by decide +kernel, rfl, by decide +kernel, by decide +kernel⟩
abbrev s_turned_back : Stmt := topS 17
abbrev N_turned_back : List Str := ["walk", "step"]
abbrev P_turned_back : List Str := ["walk"]
theorem sc_turned_back : FnScope N_turned_back P_turned_back (defScope s_turned_back) := ⟨rfl, rfl, rfl, by decide +kernel, rfl, by decide +kernel, by decide +kernel⟩
abbrev s_lead_and_core : Stmt := topS 18
abbrev N_lead_and_core : List Str := ["walk", "length"]
abbrev P_lead_and_core : List Str := ["walk"]
theorem sc_lead_and_core : FnScope N_lead_and_core P_lead_and_core (defScope s_lead_and_core) := ⟨rfl, rfl, rfl, by decide +kernel, rfl, by decide +kernel, by decide +kernel⟩
abbrev s_once_round : Stmt := topS 19
abbrev N_once_round : List Str := ["steps", "length"]
abbrev P_once_round : List Str := ["steps"]
theorem sc_once_round : FnScope N_once_round P_once_round (defScope s_once_round) := ⟨rfl, rfl, rfl, by decide +kernel, rfl, by decide +kernel, by decide +kernel⟩
abbrev s_rounds_of : Stmt := topS 20
abbrev N_rounds_of : List Str := ["steps", "begun"]
abbrev P_rounds_of : List Str := ["steps"]
theorem sc_rounds_of : FnScope N_rounds_of P_rounds_of (defScope s_rounds_of) := ⟨rfl, rfl, rfl, by decide +kernel, rfl, by decide +kernel, by decide +kernel⟩
abbrev s__law_well : Stmt := topS 32
abbrev N__law_well : List Str := ["_law_script", "_law_k", "_law_cell", "_law_total", "_law_seed", "_law_one"]
abbrev P__law_well : List Str := ["_law_script", "_law_k"]
theorem sc__law_well : FnScope N__law_well P__law_well (defScope s__law_well) := ⟨rfl, rfl, rfl, by decide +kernel, rfl, by decide +kernel, by decide +kernel⟩
abbrev s__law_take : Stmt := topS 33
abbrev N__law_take : List Str := ["_law_well_here", "_law_many", "_law_found", "_law_mixed"]
abbrev P__law_take : List Str := ["_law_well_here", "_law_many"]
theorem sc__law_take : FnScope N__law_take P__law_take (defScope s__law_take) := ⟨rfl, rfl, rfl, by decide +kernel, rfl, by decide +kernel, by decide +kernel⟩
abbrev s__law_key : Stmt := topS 35
abbrev N__law_key : List Str := ["_law_walk_here", "_law_step"]
abbrev P__law_key : List Str := ["_law_walk_here"]
theorem sc__law_key : FnScope N__law_key P__law_key (defScope s__law_key) := ⟨rfl, rfl, rfl, by decide +kernel, rfl, by decide +kernel, by decide +kernel⟩
abbrev s_is_step_of : Stmt := topS 7
abbrev N_is_step_of : List Str := ["letters", "value"]
abbrev P_is_step_of : List Str := ["letters", "value"]
theorem sc_is_step_of : FnScope N_is_step_of P_is_step_of (defScope s_is_step_of) := ⟨rfl, rfl, rfl, by decide +kernel, rfl, by decide +kernel, by decide +kernel⟩
abbrev s_check_within : Stmt := topS 11
abbrev N_check_within : List Str := ["number", "least", "greatest"]
abbrev P_check_within : List Str := ["number", "least", "greatest"]
theorem sc_check_within : FnScope N_check_within P_check_within (defScope s_check_within) := ⟨rfl, rfl, rfl, by decide +kernel, rfl, by decide +kernel, by decide +kernel⟩
abbrev s_walk_order : Stmt := topS 15
abbrev N_walk_order : List Str := ["walk", "step"]
abbrev P_walk_order : List Str := ["walk"]
theorem sc_walk_order : FnScope N_walk_order P_walk_order (defScope s_walk_order) := ⟨rfl, rfl, rfl, by decide +kernel, rfl, by decide +kernel, by decide +kernel⟩
abbrev s__law_walk : Stmt := topS 34
abbrev N__law_walk : List Str := ["_law_well_here", "_law_letters", "_law_most", "_law_way", "_law_size", "_law_steps", "_law_third", "_law_turn", "_law_step"]
abbrev P__law_walk : List Str := ["_law_well_here", "_law_letters", "_law_most"]
theorem sc__law_walk : FnScope N__law_walk P__law_walk (defScope s__law_walk) := ⟨rfl, rfl, rfl, by decide +kernel, rfl, by decide +kernel, by decide +kernel⟩
abbrev s_is_walk_of : Stmt := topS 8
abbrev N_is_walk_of : List Str := ["letters", "value", "step"]
abbrev P_is_walk_of : List Str := ["letters", "value"]
theorem sc_is_walk_of : FnScope N_is_walk_of P_is_walk_of (defScope s_is_walk_of) := ⟨rfl, rfl, rfl, by decide +kernel, rfl, by decide +kernel, by decide +kernel⟩
abbrev s_check_walk : Stmt := topS 10
abbrev N_check_walk : List Str := ["letters", "walk"]
abbrev P_check_walk : List Str := ["letters", "walk"]
theorem sc_check_walk : FnScope N_check_walk P_check_walk (defScope s_check_walk) := ⟨rfl, rfl, rfl, by decide +kernel, rfl, by decide +kernel, by decide +kernel⟩
abbrev s_straight : Stmt := topS 21
abbrev N_straight : List Str := ["walk"]
abbrev P_straight : List Str := ["walk"]
theorem sc_straight : FnScope N_straight P_straight (defScope s_straight) := ⟨rfl, rfl, rfl, by decide +kernel, rfl, by decide +kernel, by decide +kernel⟩
abbrev s_behind : Stmt := topS 22
abbrev N_behind : List Str := ["one", "other"]
abbrev P_behind : List Str := ["one", "other"]
theorem sc_behind : FnScope N_behind P_behind (defScope s_behind) := ⟨rfl, rfl, rfl, by decide +kernel, rfl, by decide +kernel, by decide +kernel⟩
abbrev s_back : Stmt := topS 23
abbrev N_back : List Str := ["walk"]
abbrev P_back : List Str := ["walk"]
theorem sc_back : FnScope N_back P_back (defScope s_back) := ⟨rfl, rfl, rfl, by decide +kernel, rfl, by decide +kernel, by decide +kernel⟩
abbrev s_power : Stmt := topS 24
abbrev N_power : List Str := ["walk", "times", "once"]
abbrev P_power : List Str := ["walk", "times"]
theorem sc_power : FnScope N_power P_power (defScope s_power) := ⟨rfl, rfl, rfl, by decide +kernel, rfl, by decide +kernel, by decide +kernel⟩
abbrev s_core : Stmt := topS 25
abbrev N_core : List Str := ["walk"]
abbrev P_core : List Str := ["walk"]
theorem sc_core : FnScope N_core P_core (defScope s_core) := ⟨rfl, rfl, rfl, by decide +kernel, rfl, by decide +kernel, by decide +kernel⟩
abbrev s_root : Stmt := topS 26
abbrev N_root : List Str := ["walk", "lead", "middle", "once"]
abbrev P_root : List Str := ["walk"]
theorem sc_root : FnScope N_root P_root (defScope s_root) := ⟨rfl, rfl, rfl, by decide +kernel, rfl, by decide +kernel, by decide +kernel⟩
abbrev s_commute : Stmt := topS 27
abbrev N_commute : List Str := ["one", "other"]
abbrev P_commute : List Str := ["one", "other"]
theorem sc_commute : FnScope N_commute P_commute (defScope s_commute) := ⟨rfl, rfl, rfl, by decide +kernel, rfl, by decide +kernel, by decide +kernel⟩
abbrev s_turned : Stmt := topS 28
abbrev N_turned : List Str := ["walk", "other"]
abbrev P_turned : List Str := ["walk", "other"]
theorem sc_turned : FnScope N_turned P_turned (defScope s_turned) := ⟨rfl, rfl, rfl, by decide +kernel, rfl, by decide +kernel, by decide +kernel⟩
abbrev s_turned_onto : Stmt := topS 29
abbrev N_turned_onto : List Str := ["one", "other", "lead", "middle", "other_lead", "other_middle", "rounds", "begun", "once", "ends", "forward", "backward"]
abbrev P_turned_onto : List Str := ["one", "other"]
theorem sc_turned_onto : FnScope N_turned_onto P_turned_onto (defScope s_turned_onto) := ⟨rfl, rfl, rfl, by decide +kernel, rfl, by decide +kernel, by decide +kernel⟩
abbrev s_least_turned : Stmt := topS 30
abbrev N_least_turned : List Str := ["walk", "middle"]
abbrev P_least_turned : List Str := ["walk"]
theorem sc_least_turned : FnScope N_least_turned P_least_turned (defScope s_least_turned) := ⟨rfl, rfl, rfl, by decide +kernel, rfl, by decide +kernel, by decide +kernel⟩
abbrev s__law_added : Stmt := topS 36
abbrev N__law_added : List Str := ["_law_walk_here", "_law_first", "_law_second", "_law_once", "_law_twice"]
abbrev P__law_added : List Str := ["_law_walk_here", "_law_first", "_law_second"]
theorem sc__law_added : FnScope N__law_added P__law_added (defScope s__law_added) := ⟨rfl, rfl, rfl, by decide +kernel, rfl, by decide +kernel, by decide +kernel⟩
abbrev s__law_rooted : Stmt := topS 37
abbrev N__law_rooted : List Str := ["_law_walk_here", "_law_other", "_law_times", "_law_part", "_law_many", "_law_moved", "_law_lead", "_law_middle", "_law_made", "_law_due"]
abbrev P__law_rooted : List Str := ["_law_walk_here", "_law_other", "_law_times"]
theorem sc__law_rooted : FnScope N__law_rooted P__law_rooted (defScope s__law_rooted) := ⟨rfl, rfl, rfl, by decide +kernel, rfl, by decide +kernel, by decide +kernel⟩
abbrev s__law_commuting : Stmt := topS 38
abbrev N__law_commuting : List Str := ["_law_one", "_law_other", "_law_first", "_law_second", "_law_due"]
abbrev P__law_commuting : List Str := ["_law_one", "_law_other"]
theorem sc__law_commuting : FnScope N__law_commuting P__law_commuting (defScope s__law_commuting) := ⟨rfl, rfl, rfl, by decide +kernel, rfl, by decide +kernel, by decide +kernel⟩
abbrev s__law_turning : Stmt := topS 39
abbrev N__law_turning : List Str := ["_law_one", "_law_other", "_law_by", "_law_moved", "_law_found", "_law_again"]
abbrev P__law_turning : List Str := ["_law_one", "_law_other", "_law_by"]
theorem sc__law_turning : FnScope N__law_turning P__law_turning (defScope s__law_turning) := ⟨rfl, rfl, rfl, by decide +kernel, rfl, by decide +kernel, by decide +kernel⟩
abbrev s__law_behind : Stmt := topS 40
abbrev N__law_behind : List Str := ["_law_one", "_law_other", "_law_third"]
abbrev P__law_behind : List Str := ["_law_one", "_law_other", "_law_third"]
theorem sc__law_behind : FnScope N__law_behind P__law_behind (defScope s__law_behind) := ⟨rfl, rfl, rfl, by decide +kernel, rfl, by decide +kernel, by decide +kernel⟩
abbrev s__law_long : Stmt := topS 41
abbrev N__law_long : List Str := ["_law_walk_here", "_law_by", "_law_times", "_law_made", "_law_moved"]
abbrev P__law_long : List Str := ["_law_walk_here", "_law_by", "_law_times"]
theorem sc__law_long : FnScope N__law_long P__law_long (defScope s__law_long) := ⟨rfl, rfl, rfl, by decide +kernel, rfl, by decide +kernel, by decide +kernel⟩
abbrev s__law_right : Stmt := topS 42
abbrev N__law_right : List Str := ["_law_well_here", "_law_letters", "_law_short", "_law_long_here", "_law_by", "_law_third", "_law_first", "_law_second", "_law_made", "_law_also", "_law_walks", "_law_walk_here", "_law_other"]
abbrev P__law_right : List Str := ["_law_well_here"]
theorem sc__law_right : FnScope N__law_right P__law_right (defScope s__law_right) := ⟨rfl, rfl, rfl, by decide +kernel, rfl, by decide +kernel, by decide +kernel⟩
abbrev s_law : Stmt := topS 43
abbrev N_law : List Str := ["_law_script", "_law_k"]
abbrev P_law : List Str := ["_law_script"]
theorem sc_law : FnScope N_law P_law (defScope s_law) := ⟨rfl, rfl, rfl, by decide +kernel, rfl, by decide +kernel, by decide +kernel⟩
/-- where the defs stand -/
structure Ad where
  a_is_integer : Addr
  f_is_integer : FuncData
  a_step_place : Addr
  f_step_place : FuncData
  a_straightened : Addr
  f_straightened : FuncData
  a_turned_back : Addr
  f_turned_back : FuncData
  a_lead_and_core : Addr
  f_lead_and_core : FuncData
  a_once_round : Addr
  f_once_round : FuncData
  a_rounds_of : Addr
  f_rounds_of : FuncData
  a__law_well : Addr
  f__law_well : FuncData
  a__law_take : Addr
  f__law_take : FuncData
  a__law_key : Addr
  f__law_key : FuncData
  a_is_step_of : Addr
  f_is_step_of : FuncData
  a_check_within : Addr
  f_check_within : FuncData
  a_walk_order : Addr
  f_walk_order : FuncData
  a__law_walk : Addr
  f__law_walk : FuncData
  a_is_walk_of : Addr
  f_is_walk_of : FuncData
  a_check_walk : Addr
  f_check_walk : FuncData
  a_straight : Addr
  f_straight : FuncData
  a_behind : Addr
  f_behind : FuncData
  a_back : Addr
  f_back : FuncData
  a_power : Addr
  f_power : FuncData
  a_core : Addr
  f_core : FuncData
  a_root : Addr
  f_root : FuncData
  a_commute : Addr
  f_commute : FuncData
  a_turned : Addr
  f_turned : FuncData
  a_turned_onto : Addr
  f_turned_onto : FuncData
  a_least_turned : Addr
  f_least_turned : FuncData
  a__law_added : Addr
  f__law_added : FuncData
  a__law_rooted : Addr
  f__law_rooted : FuncData
  a__law_commuting : Addr
  f__law_commuting : FuncData
  a__law_turning : Addr
  f__law_turning : FuncData
  a__law_behind : Addr
  f__law_behind : FuncData
  a__law_long : Addr
  f__law_long : FuncData
  a__law_right : Addr
  f__law_right : FuncData
  a_law : Addr
  f_law : FuncData
structure Tx (K : PySem.W.Frag) (mg : Str → Option Value) (A : Ad) : Prop where
  g_is_integer : mg "is_integer" = some (.ref A.a_is_integer)
  F_is_integer : Fun K "is_integer" "is_integer" s_is_integer A.a_is_integer A.f_is_integer
  b_is_integer : Binds K A.f_is_integer P_is_integer []
  g_step_place : mg "step_place" = some (.ref A.a_step_place)
  F_step_place : Fun K "step_place" "step_place" s_step_place A.a_step_place A.f_step_place
  b_step_place : Binds K A.f_step_place P_step_place []
  g_straightened : mg "straightened" = some (.ref A.a_straightened)
  F_straightened : Fun K "straightened" "straightened" s_straightened A.a_straightened A.f_straightened
  b_straightened : Binds K A.f_straightened P_straightened []
  g_turned_back : mg "turned_back" = some (.ref A.a_turned_back)
  F_turned_back : Fun K "turned_back" "turned_back" s_turned_back A.a_turned_back A.f_turned_back
  b_turned_back : Binds K A.f_turned_back P_turned_back []
  g_lead_and_core : mg "lead_and_core" = some (.ref A.a_lead_and_core)
  F_lead_and_core : Fun K "lead_and_core" "lead_and_core" s_lead_and_core A.a_lead_and_core A.f_lead_and_core
  b_lead_and_core : Binds K A.f_lead_and_core P_lead_and_core []
  g_once_round : mg "once_round" = some (.ref A.a_once_round)
  F_once_round : Fun K "once_round" "once_round" s_once_round A.a_once_round A.f_once_round
  b_once_round : Binds K A.f_once_round P_once_round []
  g_rounds_of : mg "rounds_of" = some (.ref A.a_rounds_of)
  F_rounds_of : Fun K "rounds_of" "rounds_of" s_rounds_of A.a_rounds_of A.f_rounds_of
  b_rounds_of : Binds K A.f_rounds_of P_rounds_of []
  g__law_well : mg "_law_well" = some (.ref A.a__law_well)
  F__law_well : Fun K "_law_well" "_law_well" s__law_well A.a__law_well A.f__law_well
  b__law_well : Binds K A.f__law_well P__law_well []
  g__law_take : mg "_law_take" = some (.ref A.a__law_take)
  F__law_take : Fun K "_law_take" "_law_take" s__law_take A.a__law_take A.f__law_take
  b__law_take : Binds K A.f__law_take P__law_take []
  g__law_key : mg "_law_key" = some (.ref A.a__law_key)
  F__law_key : Fun K "_law_key" "_law_key" s__law_key A.a__law_key A.f__law_key
  b__law_key : Binds K A.f__law_key P__law_key []
  g_is_step_of : mg "is_step_of" = some (.ref A.a_is_step_of)
  F_is_step_of : Fun K "is_step_of" "is_step_of" s_is_step_of A.a_is_step_of A.f_is_step_of
  b_is_step_of : Binds K A.f_is_step_of P_is_step_of []
  g_check_within : mg "check_within" = some (.ref A.a_check_within)
  F_check_within : Fun K "check_within" "check_within" s_check_within A.a_check_within A.f_check_within
  b_check_within : Binds K A.f_check_within P_check_within []
  g_walk_order : mg "walk_order" = some (.ref A.a_walk_order)
  F_walk_order : Fun K "walk_order" "walk_order" s_walk_order A.a_walk_order A.f_walk_order
  b_walk_order : Binds K A.f_walk_order P_walk_order []
  g__law_walk : mg "_law_walk" = some (.ref A.a__law_walk)
  F__law_walk : Fun K "_law_walk" "_law_walk" s__law_walk A.a__law_walk A.f__law_walk
  b__law_walk : Binds K A.f__law_walk P__law_walk []
  g_is_walk_of : mg "is_walk_of" = some (.ref A.a_is_walk_of)
  F_is_walk_of : Fun K "is_walk_of" "is_walk_of" s_is_walk_of A.a_is_walk_of A.f_is_walk_of
  b_is_walk_of : Binds K A.f_is_walk_of P_is_walk_of []
  g_check_walk : mg "check_walk" = some (.ref A.a_check_walk)
  F_check_walk : Fun K "check_walk" "check_walk" s_check_walk A.a_check_walk A.f_check_walk
  b_check_walk : Binds K A.f_check_walk P_check_walk []
  g_straight : mg "straight" = some (.ref A.a_straight)
  F_straight : Fun K "straight" "straight" s_straight A.a_straight A.f_straight
  b_straight : Binds K A.f_straight P_straight []
  g_behind : mg "behind" = some (.ref A.a_behind)
  F_behind : Fun K "behind" "behind" s_behind A.a_behind A.f_behind
  b_behind : Binds K A.f_behind P_behind []
  g_back : mg "back" = some (.ref A.a_back)
  F_back : Fun K "back" "back" s_back A.a_back A.f_back
  b_back : Binds K A.f_back P_back []
  g_power : mg "power" = some (.ref A.a_power)
  F_power : Fun K "power" "power" s_power A.a_power A.f_power
  b_power : Binds K A.f_power P_power []
  g_core : mg "core" = some (.ref A.a_core)
  F_core : Fun K "core" "core" s_core A.a_core A.f_core
  b_core : Binds K A.f_core P_core []
  g_root : mg "root" = some (.ref A.a_root)
  F_root : Fun K "root" "root" s_root A.a_root A.f_root
  b_root : Binds K A.f_root P_root []
  g_commute : mg "commute" = some (.ref A.a_commute)
  F_commute : Fun K "commute" "commute" s_commute A.a_commute A.f_commute
  b_commute : Binds K A.f_commute P_commute []
  g_turned : mg "turned" = some (.ref A.a_turned)
  F_turned : Fun K "turned" "turned" s_turned A.a_turned A.f_turned
  b_turned : Binds K A.f_turned P_turned []
  g_turned_onto : mg "turned_onto" = some (.ref A.a_turned_onto)
  F_turned_onto : Fun K "turned_onto" "turned_onto" s_turned_onto A.a_turned_onto A.f_turned_onto
  b_turned_onto : Binds K A.f_turned_onto P_turned_onto []
  g_least_turned : mg "least_turned" = some (.ref A.a_least_turned)
  F_least_turned : Fun K "least_turned" "least_turned" s_least_turned A.a_least_turned A.f_least_turned
  b_least_turned : Binds K A.f_least_turned P_least_turned []
  g__law_added : mg "_law_added" = some (.ref A.a__law_added)
  F__law_added : Fun K "_law_added" "_law_added" s__law_added A.a__law_added A.f__law_added
  b__law_added : Binds K A.f__law_added P__law_added []
  g__law_rooted : mg "_law_rooted" = some (.ref A.a__law_rooted)
  F__law_rooted : Fun K "_law_rooted" "_law_rooted" s__law_rooted A.a__law_rooted A.f__law_rooted
  b__law_rooted : Binds K A.f__law_rooted P__law_rooted []
  g__law_commuting : mg "_law_commuting" = some (.ref A.a__law_commuting)
  F__law_commuting : Fun K "_law_commuting" "_law_commuting" s__law_commuting A.a__law_commuting A.f__law_commuting
  b__law_commuting : Binds K A.f__law_commuting P__law_commuting []
  g__law_turning : mg "_law_turning" = some (.ref A.a__law_turning)
  F__law_turning : Fun K "_law_turning" "_law_turning" s__law_turning A.a__law_turning A.f__law_turning
  b__law_turning : Binds K A.f__law_turning P__law_turning []
  g__law_behind : mg "_law_behind" = some (.ref A.a__law_behind)
  F__law_behind : Fun K "_law_behind" "_law_behind" s__law_behind A.a__law_behind A.f__law_behind
  b__law_behind : Binds K A.f__law_behind P__law_behind []
  g__law_long : mg "_law_long" = some (.ref A.a__law_long)
  F__law_long : Fun K "_law_long" "_law_long" s__law_long A.a__law_long A.f__law_long
  b__law_long : Binds K A.f__law_long P__law_long []
  g__law_right : mg "_law_right" = some (.ref A.a__law_right)
  F__law_right : Fun K "_law_right" "_law_right" s__law_right A.a__law_right A.f__law_right
  b__law_right : Binds K A.f__law_right P__law_right []
  g_law : mg "law" = some (.ref A.a_law)
  F_law : Fun K "law" "law" s_law A.a_law A.f_law
  b_law : Binds K A.f_law P_law []
  n_abs : mg "abs" = none
  n_all : mg "all" = none
  n_bool : mg "bool" = none
  n_int : mg "int" = none
  n_isinstance : mg "isinstance" = none
  n_len : mg "len" = none
  n_max : mg "max" = none
  n_min : mg "min" = none
  n_range : mg "range" = none
  n_sum : mg "sum" = none
  n_tuple : mg "tuple" = none
  c_MOST_LETTERS : ∃ t, mg "MOST_LETTERS" = some (.int 4 t)
  c_MOST_TIMES : ∃ t, mg "MOST_TIMES" = some (.int 20 t)

local macro_rules | `(tactic| walk_at "go") => `(tactic| repeat (first
  | with_reducible refine st_seq ?_ | with_reducible refine st_set ?_ | with_reducible refine st_asg ?_ | with_reducible refine st_ret ?_ | with_reducible refine st_drop ?_ | with_reducible refine st_if ?_
  | with_reducible refine st_c ?_ | ((with_reducible refine' st_v ?h ?_); (case h => exact rfl)) | with_reducible refine st_n ?_ | with_reducible refine st_cons ?_ | with_reducible refine st_op ?_ | with_reducible refine st_un ?_
  | with_reducible refine st_cb ?_ | with_reducible refine st_test ?_ | with_reducible refine st_call ?_ | with_reducible refine st_callK ?_ | with_reducible refine st_sl ?_ | with_reducible refine st_par ?_ | with_reducible refine st_par3 ?_ | with_reducible refine st_tru ?_
  | with_reducible refine st_and ?_ | with_reducible refine st_or ?_ | with_reducible refine st_not ?_ | with_reducible refine st_B ?_ | with_reducible refine st_andV ?_ | with_reducible refine st_orV ?_ | with_reducible refine st_notV ?_ | with_reducible refine st_ifE ?_
  | with_reducible refine st_part ?_ | with_reducible refine st_nop ?_ | with_reducible refine st_sub ?_ | with_reducible refine st_chain ?_ | with_reducible refine st_bl ?_ | with_reducible refine st_in ?_ | with_reducible refine r_truB ?_
  | with_reducible refine st_nameG ?_ | with_reducible refine if_T ?_ | with_reducible refine if_F ?_ | with_reducible refine if_nT ?_ | with_reducible refine if_nF ?_
  | with_reducible refine r_add ?_ | with_reducible refine r_0 ?_ | with_reducible refine r_neg ?_ | with_reducible refine r_intI ?_ | with_reducible refine r_intB ?_ | with_reducible refine r_abs ?_ | with_reducible refine r_max2 ?_ | with_reducible refine r_min2 ?_ | with_reducible refine r_eqI ?_ | with_reducible refine r_neI ?_
  | with_reducible refine st_nxt ?_ | with_reducible refine st_cnt ?_ | with_reducible refine st_brk ?_ | with_reducible refine st_retn ?_
  | with_reducible refine st_lstN ?_ | with_reducible refine st_tupN ?_
  | with_reducible refine st_for ?_ | with_reducible refine st_lc ?_ | with_reducible refine st_lc2 ?_ | with_reducible refine st_rng1 ?_ | with_reducible refine st_rng2 ?_ | with_reducible refine st_rng3 ?_ | with_reducible refine st_itL ?_ | with_reducible refine st_itT ?_ | with_reducible refine st_rev ?_ | with_reducible refine st_enumE ?_ | with_reducible refine st_zip3 ?_ | with_reducible refine st_lvals ?_ | with_reducible refine st_fld ?_ | with_reducible refine st_sfld ?_ | with_reducible refine st_meth ?_ | with_reducible refine st_make ?_ | with_reducible refine st_rg1 ?_ | with_reducible refine st_enumS ?_ | with_reducible refine st_enumD ?_ | with_reducible refine st_lstIt ?_ | with_reducible refine st_dg1 ?_ | with_reducible refine st_dg2 ?_ | with_reducible refine st_dpop ?_ | with_reducible refine st_dset ?_ | with_reducible refine st_ckw ?_ | with_reducible refine st_dsetT ?_ | with_reducible refine st_dnewT ?_ | with_reducible refine st_dc ?_ | with_reducible refine st_keys ?_ | with_reducible refine st_dget ?_ | with_reducible refine st_din ?_ | with_reducible refine st_dnin ?_ | with_reducible refine st_dput ?_ | with_reducible refine st_dnew ?_ | with_reducible refine st_lstRg ?_ | with_reducible refine st_rg2 ?_ | with_reducible refine r_twoI ?_ | with_reducible refine st_bm ?_ | with_reducible refine st_bm0 ?_
  | ((with_reducible refine' st_aug ?h ?_); (case h => exact rfl)) | with_reducible refine r_augI ?_ | with_reducible refine r_eqB ?_
  | dsimp only))
section
variable {P : Program} {w : World} {K : PySem.W.Frag} {mg : Str → Option Value} {base : Heap} {A : Ad}

def sp_is_integer (K : PySem.W.Frag) : Sp := fun vs H Q _ => ∃ i, vs = [.int i] ∧ Q (.bl true) H
theorem ok_is_integer (T : Tx K mg A) : FnOk P w K mg base CX0 1 A.a_is_integer A.f_is_integer P_is_integer (sp_is_integer K) := by
  refine T.F_is_integer.ok sc_is_integer (fun vs H Q E h => ?_) (fun cdv A' outer s H vs Q E hr h => ?_)
  · obtain ⟨i, rfl, _⟩ := h
    rfl
  · obtain ⟨i, rfl, q⟩ := h
    refine ⟨_, (pss_one (ps_ret (pe_and (pe_callB (isi_K K) (by rfl) T.n_isinstance (by decide +kernel) (pa_cons (pv 0) (pa_cons (pe_bltn (v := .ty "int") (by rfl) T.n_int (by decide +kernel) rfl) pa_nil))) (pe_one (pe_not (pe_callB (isi_K K) (by rfl) T.n_isinstance (by decide +kernel) (pa_cons (pv 0) (pa_cons (pe_bltn (v := .ty "bool") (by rfl) T.n_bool (by decide +kernel) rfl) pa_nil)))))))), ?_⟩
    refine ⟨_, rfl, .int i, .ty "int", _, _, true, rfl, .ty _, .base (.int i), kit_ty (by decide +kernel), true, rfl, iteT ?_⟩
    exact ⟨_, rfl, .int i, .ty "bool", _, _, false, rfl, .ty _, .base (.int i), kit_ty (by decide +kernel), false, rfl, q⟩
def sp_is_step_of (K : PySem.W.Frag) : Sp := fun vs H Q _ => ∃ l i, vs = [.int l, .int i] ∧ Q (.bl (decide (i ≠ 0 ∧ -l ≤ i ∧ i ≤ l))) H
theorem ok_is_step_of (T : Tx K mg A) : FnOk P w K mg base CX0 2 A.a_is_step_of A.f_is_step_of P_is_step_of (sp_is_step_of K) := by
  refine T.F_is_step_of.ok sc_is_step_of (fun vs H Q E h => ?_) (fun cdv A' outer s H vs Q E hr h => ?_)
  · obtain ⟨l, i, rfl, _⟩ := h
    rfl
  · obtain ⟨l, i, rfl, q⟩ := h
    refine ⟨_, (pss_one (ps_ret (pe_and (pe_call (ok_is_integer T) (hr.mono (by decide)) (by rfl) T.g_is_integer T.F_is_integer.kp T.b_is_integer .nil pass0 (pa_cons (pv 1) pa_nil)) (pe_and (pe_cmpR (op_neK K hr.units) (pv 1) pe_int (nomark _)) (pe_one (pe_chain op_le op_le (pe_un un_neg (pv 0)) (pv 1) (pv 0))))))), ?_⟩
    refine ⟨_, rfl, i, rfl, true, rfl, iteT ⟨_, rfl, r_neI ⟨_, rfl, ?_⟩⟩⟩
    by_cases h0 : i = 0
    · rw [show (!decide (i = 0)) = false by rw [h0]; rfl]
      refine iteF ?_
      rw [decide_eq_false (by omega)] at q
      exact q
    · rw [show (!decide (i = 0)) = true by rw [decide_eq_false h0]; rfl]
      refine iteT ⟨_, rfl, _, rfl, _, rfl, _, _, rfl, rfl, _, rfl, ?_⟩
      by_cases h1 : -l ≤ i
      · rw [decide_eq_true h1]
        refine iteT ⟨_, rfl, _, _, rfl, rfl, ?_⟩
        have e : decide (i ≤ l) = decide (i ≠ 0 ∧ -l ≤ i ∧ i ≤ l) := decide_eq_decide.mpr ⟨fun z => ⟨h0, h1, z⟩, fun z => z.2.2⟩
        show Q (.bl (decide (i ≤ l))) H
        rw [e]
        exact q
      · rw [decide_eq_false h1]
        refine iteF ?_
        rw [decide_eq_false (by omega)] at q
        exact q
def sp_is_walk_of (K : PySem.W.Frag) : Sp := fun vs H Q _ => ∃ l a ns, vs = [.int l, .ref a] ∧ IT K H a ns ∧ ns.length ≤ 5000 ∧ Stp l ns ∧ ∀ H1, Ex H H1 → Q (.bl true) H1
theorem ok_is_walk_of (T : Tx K mg A) : FnOk P w K mg base CX0 3 A.a_is_walk_of A.f_is_walk_of P_is_walk_of (sp_is_walk_of K) := by
  refine T.F_is_walk_of.ok sc_is_walk_of (fun vs H Q E h => ?_) (fun cdv A' outer s H vs Q E hr h => ?_)
  · obtain ⟨l, a, ns, rfl, _⟩ := h
    rfl
  · obtain ⟨l, a, ns, rfl, ht, hz, hs, q⟩ := h
    refine ⟨_, (pss_one (ps_ret (pe_and (pe_callB (isi_K K) (by rfl) T.n_isinstance (by decide +kernel) (pa_cons (pv 1) (pa_cons (pe_bltn (v := .ty "tuple") (by rfl) T.n_tuple (by decide +kernel) rfl) pa_nil))) (pe_one (pe_callB (all_K K rfl) (by rfl) T.n_all (by decide +kernel) (pa_cons (pe_lc (own := [("step", 2)]) rfl sc_is_walk_of.nd (pi_tupK K (pv 1)) (blkOk_by (own := [("step", 2)]) (N := N_is_walk_of) (sc := defScope s_is_walk_of) (by decide +kernel)) (fun _ _ _ _ _ => (pg_name (i := 2) sc_is_walk_of.nd rfl (Or.inl rfl))) (fun _ _ _ _ _ => pts_nil) (fun _ _ _ _ _ => (pe_call (ok_is_step_of T) (hr.mono (by decide)) (by rfl) T.g_is_step_of T.F_is_step_of.kp T.b_is_step_of .nil pass0 (pa_cons (pv 0) (pa_cons (pv 2) pa_nil))))) pa_nil)))))), ?_⟩
    refine ⟨_, rfl, .ref a, .ty "tuple", _, _, true, rfl, .ty _, ty_t ht, kit_ty (by decide +kernel), true, rfl, iteT ?_⟩
    refine st_cb (st_cons (cm_tup (ys := (ns.map fun _ => true).map V.bl) (xs := ns.map V.int) (fun R r => ⟨_, rfl, r a H (Ex.refl H) ht⟩) (by simp) (by simp; omega) (fun _ => rfl) (fun i x y H1 hx hy e1 Q' k => ?_) (fun D H1 hD e1 h1 => ?_)))
    · rw [List.getElem?_map] at hx
      rw [List.getElem?_map, List.getElem?_map] at hy
      cases hn : ns[i]? with
      | none => rw [hn] at hx; cases hx
      | some z =>
        rw [hn] at hx hy
        cases hx
        cases hy
        refine ⟨_, rfl, _, rfl, l, z, rfl, ?_⟩
        rw [decide_eq_true (hs z (List.mem_of_getElem? hn))]
        exact k H1 (Ex.refl H1)
    · refine ⟨D, _, rfl, l_of h1, ?_⟩
      have e : ((ns.map fun _ => true).all id) = true := by simp
      show Q (.bl ((ns.map fun _ => true).all id)) H1
      rw [e]
      exact q H1 e1
def sp_check_walk (K : PySem.W.Frag) : Sp := fun vs H Q _ => ∃ l a ns, vs = [.int l, .ref a] ∧ IT K H a ns ∧ ns.length ≤ 5000 ∧ Stp l ns ∧ ∀ H1, Ex H H1 → Q .non H1
theorem ok_check_walk (T : Tx K mg A) : FnOk P w K mg base CX0 4 A.a_check_walk A.f_check_walk P_check_walk (sp_check_walk K) := by
  refine T.F_check_walk.ok sc_check_walk (fun vs H Q E h => ?_) (fun cdv A' outer s H vs Q E hr h => ?_)
  · obtain ⟨l, a, ns, rfl, _⟩ := h
    rfl
  · obtain ⟨l, a, ns, rfl, ht, hz, hs, q⟩ := h
    refine ⟨_, (pss_one (ps_if (pt_not (pt_truK K (pe_call (ok_is_walk_of T) (hr.mono (by decide)) (by rfl) T.g_is_walk_of T.F_is_walk_of.kp T.b_is_walk_of .nil pass0 (pa_cons (pv 0) (pa_cons (pv 1) pa_nil))))) (pss_one ps_never) pss_nil)), ?_⟩
    refine ⟨_, rfl, _, rfl, l, a, ns, rfl, ht, hz, hs, fun H1 e1 => ⟨true, rfl, ?_⟩⟩
    exact iteF (q H1 e1)
def sp_check_within (K : PySem.W.Frag) : Sp := fun vs H Q _ => ∃ i l g, vs = [.int i, .int l, .int g] ∧ l ≤ i ∧ i ≤ g ∧ Q .non H
theorem ok_check_within (T : Tx K mg A) : FnOk P w K mg base CX0 2 A.a_check_within A.f_check_within P_check_within (sp_check_within K) := by
  refine T.F_check_within.ok sc_check_within (fun vs H Q E h => ?_) (fun cdv A' outer s H vs Q E hr h => ?_)
  · obtain ⟨i, l, g, rfl, _⟩ := h
    rfl
  · obtain ⟨i, l, g, rfl, h1, h2, q⟩ := h
    refine ⟨_, (pss_one (ps_if (PW.pt (pw_or (pt_not (pt_truK K (pe_call (ok_is_integer T) (hr.mono (by decide)) (by rfl) T.g_is_integer T.F_is_integer.kp T.b_is_integer .nil pass0 (pa_cons (pv 0) pa_nil)))) (pw_or (pt_cmpR op_lt (pv 0) (pv 1) (nomark _)) (pw_or1 (pt_cmpR op_gt (pv 0) (pv 2) (nomark _)))))) (pss_one ps_never) pss_nil)), ?_⟩
    refine ⟨_, rfl, i, rfl, true, rfl, iteF ⟨_, rfl, _, rfl, _, _, rfl, rfl, _, rfl, ?_⟩⟩
    rw [decide_eq_false (by omega)]
    refine iteF ⟨_, rfl, _, rfl, _, _, rfl, rfl, _, rfl, ?_⟩
    rw [decide_eq_false (by omega)]
    exact iteF q
def sp_straightened (K : PySem.W.Frag) : Sp := fun vs H Q _ => ∃ a ns, vs = [.ref a] ∧ IT K H a ns ∧ ns.length ≤ 5000 ∧ ∀ p H1, Ex H H1 → IT K H1 p (Fg.rd ns) → Q (.ref p) H1
theorem ok_straightened (T : Tx K mg A) : FnOk P w K mg base CX0 1 A.a_straightened A.f_straightened P_straightened (sp_straightened K) := by
  refine T.F_straightened.ok sc_straightened (fun vs H Q E h => ?_) (fun cdv A' outer s H vs Q E hr h => ?_)
  · obtain ⟨a, ns, rfl, _⟩ := h
    rfl
  · obtain ⟨a, ns, rfl, ht, hz, q⟩ := h
    refine ⟨_, (pss_cons (ps_set (i := 1) sc_straightened.nd rfl (Or.inl rfl) (pe_lst pa_nil))
      (pss_cons (ps_for PassesOwn.never rfl (pi_tupK K (pv 0)) (pg_name (i := 2) sc_straightened.nd rfl (Or.inl rfl)) (pss_one (ps_if (PW.pt (pw_and (pt_truK K (pv 1)) (pw_and1 (pt_cmpR (op_eqK K hr.units) (pe_ix (ix_K K) (pv 1) (pe_un un_neg pe_int) (fun _ _ => rfl)) (pe_un un_neg (pv 2)) (nomark _))))) (pss_one (ps_expr (pe_bm0U K PySem.F.plainAttrs_list PySem.F.slot_list_pop PySem.F.type_list_pop mt_pop (pv 1)))) (pss_one (ps_expr (pe_bmU K PySem.F.plainAttrs_list PySem.F.slot_list_append PySem.F.type_list_append mt_append (pv 1) (pa_cons (pv 2) pa_nil)))))))
      (pss_one (ps_ret (pe_callTy (tuple_K K) (by rfl) T.n_tuple (by decide +kernel) (pa_cons (pv 1) pa_nil)))))), ?_⟩
    refine st_seq (st_set (st_nil fun l H1 hl e1 h1 => ?_))
    refine ⟨_, rfl, a, rfl, ⟨_, ex_t e1 ht⟩, for_tup (K := K) (a := a) (xs := ns.map V.int) (fun i σ H' => ∃ v, σ = [some (.ref a), some (.ref l), v] ∧ Ex H H' ∧ H' l = some (.lst ((Fg.rd (ns.take i)).map V.int)))
      ⟨none, rfl, e1, h1⟩ (fun i σ H' _ p => ex_t p.choose_spec.2.1 ht) (fun i x σ H' hx p => ?_) (fun σ H' p => ?_)⟩
    · obtain ⟨v, rfl, e2, h2⟩ := p
      rw [List.getElem?_map] at hx
      cases hn : ns[i]? with
      | none => rw [hn] at hx; cases hx
      | some z =>
        rw [hn] at hx
        cases hx
        have hi := (List.getElem?_eq_some_iff.mp hn).1
        have step : Fg.rd (ns.take (i + 1)) = (Fg.stp (Fg.rd (ns.take i)).reverse z).reverse := by rw [take_snoc hn, Fg.rd_snoc]
        have hlen : (Fg.rd (ns.take i)).length ≤ 5000 := Nat.le_trans (Fg.rd_len _) (by rw [List.length_take]; omega)
        generalize hq : Fg.rd (ns.take i) = q at h2 step hlen
        refine ⟨_, rfl, _, .inl ⟨_, l_of h2, rfl⟩, ?_⟩
        rcases List.eq_nil_or_concat q with e | ⟨r, y, e⟩
        · subst e
          refine iteF (iteF ?_)
          rw [show Fg.rd (ns.take (i + 1)) = [z] from step]
          exact ⟨_, rfl, .inl ⟨rfl, _, l_of h2⟩, _, rfl, l, _, _, rfl, rfl, h2, sz_lt (by simp), _, rfl, Ex.mut e2 hl, upd_same⟩
        · rw [List.concat_eq_append] at e
          subst e
          have e3 : (!((r ++ [y]).map V.int).isEmpty) = true := by simp
          rw [e3]
          refine iteT ⟨_, rfl, 1, rfl, .inl ⟨l, _, -1, .int y, rfl, rfl, l_of h2, at_last (by simp), _, rfl, z, rfl, r_eqI ⟨_, rfl, ?_⟩⟩⟩
          by_cases hy : y = -z
          · rw [decide_eq_true hy]
            have e4 : Fg.rd (ns.take (i + 1)) = r := by
              rw [step, List.reverse_append]
              show (if y = -z then r.reverse else z :: y :: r.reverse).reverse = r
              rw [if_pos hy, List.reverse_reverse]
            refine iteT ⟨_, rfl, .inl ⟨rfl, _, l_of h2⟩, l, _, .int y, rfl, rfl, h2, ?_, _, rfl, Ex.mut e2 hl, ?_⟩
            · rw [List.length_map, List.length_append, List.map_append]
              simp
            · rw [upd_same, e4, List.map_append]
              simp
          · rw [decide_eq_false hy]
            have e4 : Fg.rd (ns.take (i + 1)) = (r ++ [y]) ++ [z] := by
              rw [step, List.reverse_append]
              show (if y = -z then r.reverse else z :: y :: r.reverse).reverse = r ++ [y] ++ [z]
              rw [if_neg hy, List.reverse_cons, List.reverse_cons, List.reverse_reverse]
            refine iteF ⟨_, rfl, .inl ⟨rfl, _, l_of h2⟩, _, rfl, l, _, _, rfl, rfl, h2, sz_lt (by rw [List.length_map]; omega), _, rfl, Ex.mut e2 hl, ?_⟩
            rw [upd_same, e4, List.map_append (l₁ := r ++ [y])]
            rfl
    · obtain ⟨v, rfl, e2, h2⟩ := p
      rw [List.length_map, List.take_length] at h2
      exact ⟨_, rfl, r_tuL (l_of h2) fun p H3 _ e3 h3 => q p H3 (e2.trans e3) h3⟩
def sp_turned_back (K : PySem.W.Frag) : Sp := fun vs H Q _ => ∃ a ns, vs = [.ref a] ∧ IT K H a ns ∧ ns.length ≤ 5000 ∧ ∀ p H1, Ex H H1 → IT K H1 p (Fg.bk ns) → Q (.ref p) H1
theorem ok_turned_back (T : Tx K mg A) : FnOk P w K mg base CX0 1 A.a_turned_back A.f_turned_back P_turned_back (sp_turned_back K) := by
  refine T.F_turned_back.ok sc_turned_back (fun vs H Q E h => ?_) (fun cdv A' outer s H vs Q E hr h => ?_)
  · obtain ⟨a, ns, rfl, _⟩ := h
    rfl
  · obtain ⟨a, ns, rfl, ht, hz, q⟩ := h
    refine ⟨_, (pss_one (ps_ret (pe_callTy (tuple_K K) (by rfl) T.n_tuple (by decide +kernel) (pa_cons (pe_lc (own := [("step", 1)]) rfl sc_turned_back.nd (pi_tupK K (pe_revK K (pv 0))) (blkOk_by (own := [("step", 1)]) (N := N_turned_back) (sc := defScope s_turned_back) (by decide +kernel)) (fun _ _ _ _ _ => (pg_name (i := 1) sc_turned_back.nd rfl (Or.inl rfl))) (fun _ _ _ _ _ => pts_nil) (fun _ _ _ _ _ => (pe_un un_neg (pv 1)))) pa_nil)))), ?_⟩
    refine st_ret (st_cb (st_cons (cm_tup (ys := (Fg.bk ns).map V.int) (xs := (ns.map V.int).reverse) (fun R r => st_revT (he_var rfl) ht fun b H1 _ e1 h1 => r b H1 e1 (t_of h1)) (by simp [Fg.bk_len]) (by simp [Fg.bk_len]; omega) (fun _ => rfl) (fun k x y H1 hx hy e1 Q' k' => ?_) fun D H1 _ e1 h1 => ?_)))
    · obtain ⟨z, rfl, rfl⟩ := bk_get hx hy
      exact ⟨_, rfl, z, rfl, k' H1 (Ex.refl H1)⟩
    · exact r_tuL (l_of h1) fun l H3 _ e3 h3 => q l H3 (e1.trans e3) h3
def sp_lead_and_core (K : PySem.W.Frag) : Sp := fun vs H Q _ => ∃ a ns, vs = [.ref a] ∧ IT K H a ns ∧ ns.length ≤ 5000 ∧ ∀ q H1, Ex H H1 → P2 K H1 q (Fg.lead ns) (Fg.mid ns) → Q (.ref q) H1
theorem ok_lead_and_core (T : Tx K mg A) : FnOk P w K mg base CX0 1 A.a_lead_and_core A.f_lead_and_core P_lead_and_core (sp_lead_and_core K) := by
  refine T.F_lead_and_core.ok sc_lead_and_core (fun vs H Q E h => ?_) (fun cdv A' outer s H vs Q E hr h => ?_)
  · obtain ⟨a, ns, rfl, _⟩ := h
    rfl
  · obtain ⟨a, ns, rfl, ha, hz, q⟩ := h
    refine ⟨_, (pss_cons (ps_set (i := 1) sc_lead_and_core.nd rfl (Or.inl rfl) pe_int)
      (pss_cons (ps_while PassesOwn.never (PW.pt (pw_and (pt_cmpR op_lt (pv 1) (pe_op op_fdivW (pe_callB (len_K K) (by rfl) T.n_len (by decide +kernel) (pa_cons (pv 0) pa_nil)) pe_int) (nomark _)) (pw_and1 (pt_cmpR (op_eqK K hr.units) (pe_ix (ix_K K) (pv 0) (pv 1) (fun _ _ => rfl)) (pe_un un_neg (pe_ix (ix_K K) (pv 0) (pe_op op_sub (pe_un un_neg pe_int) (pv 1)) (fun _ _ => rfl))) (nomark _))))) (pss_one (ps_aug (i := 1) sc_lead_and_core.nd rfl (Or.inl rfl) pe_int ip_add)))
      (pss_one (ps_ret (pe_tup (pa_cons (pe_slice (sl_K K) (pv 0) po_none (po_some (pv 1))) (pa_cons (pe_slice (sl_K K) (pv 0) (po_some (pv 1)) (po_some (pe_op op_sub (pe_callB (len_K K) (by rfl) T.n_len (by decide +kernel) (pa_cons (pv 0) pa_nil)) (pv 1)))) pa_nil))))))), ?_⟩
    walk_at "go"
    refine st_while (fun m σ' H' => ∃ k : Nat, H' = H ∧ σ' = [some (.ref a), some (.int (k : Int))] ∧ m + k = ns.length / 2 ∧ ∀ j, j < k → Fg.mt ns j = true) (ns.length / 2) ⟨0, rfl, rfl, rfl, fun j h => absurd h (Nat.not_lt_zero j)⟩ ?_
    rintro m σ' H' ⟨k, rfl, rfl, hm, ho⟩
    have tail : (k < ns.length / 2 → Fg.mt ns k = false) →
        tRet (tTup (tCons (tSl (rSlU K) (tVar 0) tNoPart (tPart (tVar 1))) (tCons (tSl (rSlU K) (tVar 0) (tPart (tVar 1)) (tPart (tOp (rI0 fun i j => .int (i - j)) (tCB (rLenU K) (tCons (tVar 0) tNil)) (tVar 1)))) tNil))) { nx := fun _ H' => Q .non H', rt := Q } [some (.ref a), some (.int (k : Int))] H' := by
      intro hend
      have hld := Fg.ld_eq (u := ns) (s := k) (by omega) ho hend
      walk_at "go"
      refine r_slT ha fun c H1 e1 h1 => ?_
      walk_at "go"
      refine r_lenT (ex_t e1 ha) ?_
      walk_at "go"
      rw [List.length_map]
      refine r_slT (ex_t e1 ha) fun d H2 e2 h2 => ?_
      rw [cut_to (by omega)] at h1
      rw [cut_mid (by omega) (by omega) (by omega)] at h2
      walk_at "go"
      refine r_newT (by simp) fun p H3 _ e3 h3 => ?_
      have k1 : ((k : Nat) : Int).toNat = k := by omega
      have k2 : ((ns.length : Int) - (k : Int)).toNat - ((k : Nat) : Int).toNat = ns.length - k - k := by omega
      rw [k2, k1] at h2
      rw [k1] at h1
      refine q p H3 ((e1.trans e2).trans e3) ⟨c, d, t_of h3, ?_, ?_⟩
      · unfold Fg.lead
        rw [hld]
        exact ex_t (e2.trans e3) h1
      · unfold Fg.mid
        rw [hld]
        exact ex_t e3 h2
    walk_at "go"
    refine r_lenT ha ?_
    walk_at "go"
    rw [List.length_map]
    refine r_div (b := 2) (by decide) (by decide) (by decide) (by decide) ?_
    walk_at "go"
    refine if_2 (fun h1 => ?_) fun h1 => ?_
    · have h1' : k < ns.length / 2 := by omega
      have l1 : k < ns.length := by omega
      have l2 : ns.length - 1 - k < ns.length := by omega
      walk_at "go"
      refine r_ixT ha (at_int (x := ns[k]) (by omega) (by rw [show ((k : Nat) : Int).toNat = k by omega]; exact List.getElem?_eq_getElem l1)) ?_
      walk_at "go"
      refine r_ixT ha (at_negI (x := ns[ns.length - 1 - k]) l1 (List.getElem?_eq_getElem l2)) ?_
      have hmt := Fg.mt_of (List.getElem?_eq_getElem l1) (List.getElem?_eq_getElem l2)
      walk_at "go"
      refine if_2 (fun h2 => ?_) fun h2 => ?_
      · refine ⟨_, fun _ _ h => h, ?_⟩
        walk_at "go"
        refine ⟨m - 1, by omega, k + 1, rfl, rfl, by omega, fun j hj => ?_⟩
        rcases Nat.lt_or_ge j k with z | z
        · exact ho j z
        · have : j = k := by omega
          rw [this, hmt]
          exact decide_eq_true h2
      · exact tail fun _ => by rw [hmt]; exact decide_eq_false h2
    · exact tail fun z => absurd z (by omega)
def sp__law_take (K : PySem.W.Frag) : Sp := spTake
theorem ok__law_take (T : Tx K mg A) : FnOk P w K mg base CX0 1 A.a__law_take A.f__law_take P__law_take (sp__law_take K) := by
  refine T.F__law_take.ok sc__law_take (fun vs H Q E h => ?_) (fun cdv A' outer s H vs Q E hr h => ?_)
  · obtain ⟨w, n, m, rfl, _⟩ := h
    rfl
  · obtain ⟨w, n, m, rfl, hm, hm2, ⟨a, b, c, hw, ha, hb, hb2, hc, hc2⟩, hn, q⟩ := h
    refine ⟨_, (pss_cons (ps_if (pt_cmpR op_gt (pe_ix (ix_K K) (pv 0) pe_int (fun _ _ => rfl)) pe_int (nomark _)) (pss_cons (ps_set (i := 2) sc__law_take.nd rfl (Or.inl rfl) (pe_op op_mod (pe_callTy int_K (by rfl) T.n_int (by decide +kernel) (pa_cons (pe_ix (ix_K K) (pv 0) pe_int (fun _ _ => rfl)) pa_nil)) (pv 1)))
      (pss_cons (ps_asg (pe_op op_fdivW (pe_ix (ix_K K) (pv 0) pe_int (fun _ _ => rfl)) (pv 1)) (pg_sub (pv 0) pe_int set_list))
      (pss_one (ps_ret (pv 2))))) pss_nil)
      (pss_cons (ps_asg (pe_op (op_addK K) (pe_ix (ix_K K) (pv 0) pe_int (fun _ _ => rfl)) pe_int) (pg_sub (pv 0) pe_int set_list))
      (pss_cons (ps_set (i := 3) sc__law_take.nd rfl (Or.inl rfl) (pe_op op_mod (pe_callTy int_K (by rfl) T.n_int (by decide +kernel) (pa_cons (pe_op (op_addK K) (pe_op op_powW (pe_op (op_addK K) (pe_ix (ix_K K) (pv 0) pe_int (fun _ _ => rfl)) (pe_op (op_mulK K) pe_int (pe_ix (ix_K K) (pv 0) pe_int (fun _ _ => rfl)))) pe_int) (pe_op (op_mulK K) pe_int (pe_ix (ix_K K) (pv 0) pe_int (fun _ _ => rfl)))) pa_nil)) (pe_op (op_addK K) (pe_op op_powW pe_int pe_int) pe_int)))
      (pss_one (ps_ret (pe_op op_mod (pe_op op_fdivW (pe_op op_mod (pe_callTy int_K (by rfl) T.n_int (by decide +kernel) (pa_cons (pe_op (op_mulK K) (pv 3) (pe_op (op_addK K) (pv 3) pe_int)) pa_nil)) (pe_op (op_addK K) (pe_op op_powW pe_int pe_int) pe_int)) pe_int) (pv 1))))))), ?_⟩
    have w0 : SqL K H w [.int a, .int b, .int c] := l_of hw
    walk_at "go"
    refine r_ixL w0 rfl ?_
    walk_at "go"
    refine if_2 (fun h0 => ?_) fun h0 => ?_
    · walk_at "go"
      refine r_ixL w0 rfl ?_
      walk_at "go"
      refine r_mod hm ?_
      walk_at "go"
      refine r_ixL w0 rfl ?_
      walk_at "go"
      refine r_div hm (by omega : m.natAbs < 2 ^ 60) (by decide) (by decide) ?_
      walk_at "go"
      refine r_setG hw rfl fun H1 e1 h1 => ?_
      walk_at "go"
      exact q (a % m) H1 (Int.emod_nonneg _ (by omega)) (Int.emod_lt_of_pos _ hm) e1 ⟨a / m, b, c, h1, Int.ediv_nonneg ha (by omega), hb, hb2, hc, by omega⟩
    · walk_at "go"
      refine r_ixL w0 rfl ?_
      walk_at "go"
      refine r_setG hw rfl fun H1 e1 hw1 => ?_
      have w1 : SqL K H1 w [.int a, .int b, .int (c + 1)] := l_of hw1
      have bd : (b + 314159 * (c + 1)).natAbs < 2 ^ 161 := by omega
      walk_at "go"
      refine r_ixL w1 rfl ?_
      walk_at "go"
      refine r_ixL w1 rfl (r_mul (.inl ⟨by decide, by decide⟩) ?_)
      walk_at "go"
      refine r_pow (k := 3) (by decide) bd (by decide) ?_
      walk_at "go"
      refine r_ixL w1 rfl (r_mul (.inl ⟨by decide, by decide⟩) ?_)
      walk_at "go"
      refine r_pow (k := 33) (a := 4) (by decide) (by decide) (by decide) ?_
      walk_at "go"
      refine r_mod (by decide) ?_
      generalize hx : ((b + 314159 * (c + 1)) ^ (((3 : Nat) : Int)).toNat + 2718281 * (c + 1)) % (10 ^ (((33 : Nat) : Int)).toNat + 73) = x
      have x0 : 0 ≤ x := by rw [← hx]; exact Int.emod_nonneg _ (by decide)
      have x1 : x < 10 ^ (((33 : Nat) : Int)).toNat + 73 := by rw [← hx]; exact Int.emod_lt_of_pos _ (by decide)
      have x2 : x < 2 ^ 110 := Int.lt_trans x1 (by decide)
      walk_at "go"
      refine r_mulW (wide_mul (a := 110) (b := 111) (by omega) (by omega) (by decide) (by decide) (by decide)) ?_
      walk_at "go"
      refine r_pow (k := 34) (a := 4) (by decide) (by decide) (by decide) ?_
      walk_at "go"
      refine r_mod (by decide) ?_
      walk_at "go"
      refine r_div (b := 14) (by decide) (by decide) (by decide) (by decide) ?_
      walk_at "go"
      refine r_mod hm ?_
      exact q _ H1 (Int.emod_nonneg _ (by omega)) (Int.emod_lt_of_pos _ hm) e1 ⟨a, b, c + 1, hw1, ha, hb, hb2, by omega, by omega⟩
def sp__law_well (K : PySem.W.Frag) : Sp := fun vs H Q _ => ∃ a ns k, vs = [.ref a, .int k] ∧ IL K H a ns ∧ ns.length ≤ 63 ∧ 0 ≤ k ∧ k ≤ 100 ∧ ∀ p H1, H p = none → Ex H H1 → Well H1 p 0 → Q (.ref p) H1
theorem ok__law_well (T : Tx K mg A) : FnOk P w K mg base CX0 1 A.a__law_well A.f__law_well P__law_well (sp__law_well K) := by
  refine T.F__law_well.ok sc__law_well (fun vs H Q E h => ?_) (fun cdv A' outer s H vs Q E hr h => ?_)
  · obtain ⟨a, ns, k, rfl, _⟩ := h
    rfl
  · obtain ⟨a, ns, k, rfl, hS, hlen, hk0, hk, q⟩ := h
    refine ⟨_, (pss_cons (ps_set (i := 2) sc__law_well.nd rfl (Or.inl rfl) (pe_op (op_addK K) (pe_op (op_mulK K) pe_int (pv 1)) pe_int))
      (Evl.pss_cut (ps_if (pt_cmpR op_lt (pv 1) (pe_callB (len_K K) (by rfl) T.n_len (by decide +kernel) (pa_cons (pv 0) pa_nil)) (nomark _)) (pss_one (ps_set (i := 2) sc__law_well.nd rfl (Or.inl rfl) (pe_ix (ix_K K) (pv 0) (pv 1) (fun _ _ => rfl)))) pss_nil)
      (pss_cons (ps_set (i := 3) sc__law_well.nd rfl (Or.inl rfl) (pe_callB (sum_K K rfl) (by rfl) T.n_sum (by decide +kernel) (pa_cons (pe_lc (own := [("_law_one", 5)]) rfl sc__law_well.nd (pi_listK K (pv 0)) (blkOk_by (own := [("_law_one", 5)]) (N := N__law_well) (sc := defScope s__law_well) (by decide +kernel)) (fun _ _ _ _ _ => (pg_name (i := 5) sc__law_well.nd rfl (Or.inl rfl))) (fun _ _ _ _ _ => pts_nil) (fun _ _ _ _ _ => (pe_op op_mod (pe_callTy int_K (by rfl) T.n_int (by decide +kernel) (pa_cons (pv 5) pa_nil)) (pe_op (op_addK K) (pe_op op_powW pe_int pe_int) pe_int)))) pa_nil)))
      (pss_cons (ps_set (i := 4) sc__law_well.nd rfl (Or.inl rfl) (pe_op op_mod (pe_callTy int_K (by rfl) T.n_int (by decide +kernel) (pa_cons (pe_op (op_addK K) (pe_op (op_addK K) (pe_op (op_addK K) (pe_op (op_mulK K) (pe_callB abs_K (by rfl) T.n_abs (by decide +kernel) (pa_cons (pv 2) pa_nil)) pe_int) (pe_op (op_mulK K) pe_int (pv 3))) (pe_op (op_mulK K) pe_int (pv 1))) (pe_callTy int_K (by rfl) T.n_int (by decide +kernel) (pa_cons (pe_cmpR op_lt (pv 2) pe_int (nomark _)) pa_nil))) pa_nil)) (pe_op (op_addK K) (pe_op op_powW pe_int pe_int) pe_int)))
      (pss_one (ps_ret (pe_lst (pa_cons (pe_callB (max2_K rfl) (by rfl) T.n_max (by decide +kernel) (pa_cons pe_int (pa_cons (pe_op op_sub (pv 2) (pe_op op_powW pe_int pe_int)) pa_nil))) (pa_cons (pv 4) (pa_cons pe_int pa_nil)))))))))), ?_⟩
    walk_at "go"
    refine r_mul (.inl ⟨by decide, by decide⟩) ?_
    walk_at "go"
    refine q_cut (M := fun σ' H' => ∃ cell : Int, H' = H ∧ σ' = [some (.ref a), some (.int k), some (.int cell), none, none, none]) ?_ ?_
    · walk_at "go"
      refine r_lenL hS ?_
      walk_at "go"
      refine if_2 (fun h0 => ?_) fun h0 => ?_
      · rw [List.length_map] at h0
        walk_at "go"
        have hi : k.toNat < ns.length := by omega
        refine r_ixL hS (at_int hk0 (List.getElem?_eq_getElem hi)) ?_
        walk_at "go"
        exact ⟨_, rfl, rfl⟩
      · walk_at "go"
        exact ⟨_, rfl, rfl⟩
    · rintro σ' H' ⟨cell, rfl, rfl⟩
      walk_at "go"
      refine r_itL hS (r_cmL (xs := ns.map V.int) (ys := (ns.map fun x => x % (10 ^ (((27 : Nat) : Int)).toNat + 103)).map V.int) hS (by simp) (by simp; omega) (fun _ => rfl) (fun i x y H1 hx hy e1 Q' k' => ?_) (fun D H1 hD e1 h1 => ?_))
      · rw [List.getElem?_map] at hx
        rw [List.getElem?_map, List.getElem?_map] at hy
        cases hn : ns[i]? with
        | none => rw [hn] at hx; cases hx
        | some z =>
          rw [hn] at hx hy
          cases hx
          cases hy
          walk_at "go"
          refine r_pow (k := 27) (a := 4) (by decide) (by decide) (by decide) ?_
          walk_at "go"
          refine r_mod (by decide) ?_
          exact k' H1 (Ex.refl H1)
      · walk_at "go"
        refine r_sum (l_of h1) ?_
        generalize (ns.map fun x => x % (10 ^ (((27 : Nat) : Int)).toNat + 103)).sum = total
        walk_at "go"
        refine r_mul (.inr ⟨by decide, by decide⟩) ?_
        walk_at "go"
        refine r_mul (.inl ⟨by decide, by decide⟩) ?_
        walk_at "go"
        refine r_mul (.inl ⟨by decide, by decide⟩) ?_
        walk_at "go"
        refine r_pow (k := 31) (a := 4) (by decide) (by decide) (by decide) ?_
        walk_at "go"
        refine r_mod (by decide) ?_
        generalize hx : (((cell.natAbs : Nat) : Int) * 8929 + 61 * total + 2 * k + (if decide (cell < 0) = true then 1 else 0)) % (10 ^ (((31 : Nat) : Int)).toNat + 33) = x
        have x0 : 0 ≤ x := by rw [← hx]; exact Int.emod_nonneg _ (by decide)
        have x1 : x < 10 ^ (((31 : Nat) : Int)).toNat + 33 := by rw [← hx]; exact Int.emod_lt_of_pos _ (by decide)
        have x2 : x < 2 ^ 160 := Int.lt_trans x1 (by decide)
        walk_at "go"
        refine r_pow (k := 18) (a := 4) (by decide) (by decide) (by decide) ?_
        walk_at "go"
        refine r_newL (by simp) fun p H2 hp e2 h2 => ?_
        exact q p H2 (fresh_back e1 hp) (e1.trans e2) ⟨_, x, 0, h2, by omega, x0, by omega, by omega, by omega⟩
def sp__law_walk (K : PySem.W.Frag) : Sp := fun vs H Q _ => ∃ w n l m, vs = [.ref w, .int l, .int m] ∧ Well H w n ∧ n < 2 ^ 20 ∧ 1 ≤ l ∧ l ≤ 4 ∧ 0 ≤ m ∧ m ≤ 60 ∧ ∀ p ns H1, DrS w H (n + 130) H1 → IT K H1 p ns → Stp l ns → (ns.length : Int) ≤ m → Q (.ref p) H1
theorem ok__law_walk (T : Tx K mg A) : FnOk P w K mg base CX0 2 A.a__law_walk A.f__law_walk P__law_walk (sp__law_walk K) := by
  refine T.F__law_walk.ok sc__law_walk (fun vs H Q E h => ?_) (fun cdv A' outer s H vs Q E hr h => ?_)
  · obtain ⟨w, n, l, m, rfl, _⟩ := h
    rfl
  · obtain ⟨w, n, l, m, rfl, hw, hn, hl1, hl4, hm0, hm, q⟩ := h
    refine ⟨_, (pss_cons (ps_par (i := 3) (j := 4) (by rfl) sc__law_walk.nd rfl rfl (by decide) rfl rfl (pa_cons (pe_call (ok__law_take T) (hr.mono (by decide)) (by rfl) T.g__law_take T.F__law_take.kp T.b__law_take .nil pass0 (pa_cons (pv 0) (pa_cons pe_int pa_nil))) (pa_cons (pe_ix (ix_K K) (pe_lst (pa_cons (pe_call (ok__law_take T) (hr.mono (by decide)) (by rfl) T.g__law_take T.F__law_take.kp T.b__law_take .nil pass0 (pa_cons (pv 0) (pa_cons (pe_op (op_addK K) (pv 2) pe_int) pa_nil))) (pa_cons (pv 2) pa_nil))) (pe_callTy int_K (by rfl) T.n_int (by decide +kernel) (pa_cons (pe_cmpR (op_eqK K hr.units) (pe_call (ok__law_take T) (hr.mono (by decide)) (by rfl) T.g__law_take T.F__law_take.kp T.b__law_take .nil pass0 (pa_cons (pv 0) (pa_cons pe_int pa_nil))) pe_int (nomark _)) pa_nil)) (fun _ _ => rfl)) pa_nil)) (by rfl))
      (pss_cons (ps_setLc (i := 5) (own := [("_law_turn", 7)]) rfl sc__law_walk.nd rfl rfl (sw_true rfl rfl rfl (by decide +kernel)) (pi_range1 (by rfl) T.n_range (pa_cons (pv 4) pa_nil)) (blkOk_by (own := [("_law_turn", 7)]) (N := N__law_walk) (sc := defScope s__law_walk) (by decide +kernel)) (fun _ _ _ _ _ => (pg_name (i := 7) sc__law_walk.nd rfl (Or.inl rfl))) (fun _ _ _ _ _ => pts_nil) (fun _ _ _ _ _ => (pe_op (op_mulK K) (pe_op (op_addK K) pe_int (pe_call (ok__law_take T) (hr.mono (by decide)) (by rfl) T.g__law_take T.F__law_take.kp T.b__law_take .nil pass0 (pa_cons (pv 0) (pa_cons (pv 1) pa_nil)))) (pe_op op_sub pe_int (pe_op (op_mulK K) pe_int (pe_call (ok__law_take T) (hr.mono (by decide)) (by rfl) T.g__law_take T.F__law_take.kp T.b__law_take .nil pass0 (pa_cons (pv 0) (pa_cons pe_int pa_nil))))))))
      (Evl.pss_cut (ps_if (pt_cmpR (op_eqK K hr.units) (pv 3) pe_int (nomark _)) (pss_one (ps_set (i := 5) sc__law_walk.nd rfl (Or.inl rfl) (pe_slice (sl_K K) (pe_op (op_mulK K) (pe_slice (sl_K K) (pv 5) po_none (po_some (pe_op (op_addK K) pe_int (pe_call (ok__law_take T) (hr.mono (by decide)) (by rfl) T.g__law_take T.F__law_take.kp T.b__law_take .nil pass0 (pa_cons (pv 0) (pa_cons pe_int pa_nil)))))) (pv 4)) po_none (po_some (pv 4))))) pss_nil)
      (Evl.pss_cut (ps_if (pt_cmpR (op_eqK K hr.units) (pv 3) pe_int (nomark _)) (pss_cons (ps_set (i := 6) sc__law_walk.nd rfl (Or.inl rfl) (pe_op op_fdivW (pv 4) pe_int))
      (pss_one (ps_set (i := 5) sc__law_walk.nd rfl (Or.inl rfl) (pe_op (op_addK K) (pe_slice (sl_K K) (pv 5) po_none (po_some (pe_op op_sub (pv 4) (pv 6)))) (pe_lc (own := [("_law_step", 8)]) rfl sc__law_walk.nd (pi_listK K (pe_revK K (pe_slice (sl_K K) (pv 5) po_none (po_some (pv 6))))) (blkOk_by (own := [("_law_step", 8)]) (N := N__law_walk) (sc := defScope s__law_walk) (by decide +kernel)) (fun _ _ _ _ _ => (pg_name (i := 8) sc__law_walk.nd rfl (Or.inl rfl))) (fun _ _ _ _ _ => pts_nil) (fun _ _ _ _ _ => (pe_un un_neg (pv 8)))))))) pss_nil)
      (Evl.pss_cut (ps_if (pt_cmpR (op_eqK K hr.units) (pv 3) pe_int (nomark _)) (pss_one (ps_setLc (i := 5) (own := [("_law_step", 8)]) rfl sc__law_walk.nd rfl rfl (sw_true rfl rfl rfl (by decide +kernel)) (pi_listK K (pv 5)) (blkOk_by (own := [("_law_step", 8)]) (N := N__law_walk) (sc := defScope s__law_walk) (by decide +kernel)) (fun _ _ _ _ _ => (pg_name (i := 8) sc__law_walk.nd rfl (Or.inl rfl))) (fun _ _ _ _ _ => pts_nil) (fun _ _ _ _ _ => (pe_callB abs_K (by rfl) T.n_abs (by decide +kernel) (pa_cons (pv 8) pa_nil))))) pss_nil)
      (pss_one (ps_ret (pe_callTy (tuple_K K) (by rfl) T.n_tuple (by decide +kernel) (pa_cons (pv 5) pa_nil))))))))), ?_⟩
    walk_at "go"
    refine ⟨w, n, 4, rfl, by omega, by omega, hw, by omega, fun way H1 w0 w4 e1 d1 => ?_⟩
    have s1 : DrS w H (n + 1) H1 := ⟨e1, d1⟩
    clear e1 d1
    walk_at "go"
    refine ⟨w, n + 1, m + 1, rfl, by omega, by omega, s1.well, by omega, fun r5 H2 r50 r5m e2 d2 => ?_⟩
    have s2 := s1.on e2 d2
    clear e2 d2 s1
    walk_at "go"
    refine r_newL (by simp) fun c H3 hc e3 h3 => ?_
    have s3 := s2.ext e3
    have hcw : c ≠ w := s2.well.ne hc
    clear e3 s2
    walk_at "go"
    refine ⟨w, n + 2, 6, rfl, by omega, by omega, s3.well, by omega, fun r6 H4 r60 r66 e4 d4 => ?_⟩
    have s4 := s3.on e4 d4
    have h4 := e4 c _ h3 hcw
    clear e4 d4 s3 h3 hc
    walk_at "go"
    obtain ⟨sz, hsz, sz0, szm⟩ : ∃ sz : Int, atI [V.int r5, V.int m] (if decide (r6 = 0) = true then 1 else 0) = some (.int sz) ∧ 0 ≤ sz ∧ sz ≤ m := by
      by_cases h6 : r6 = 0
      · rw [decide_eq_true h6]
        exact ⟨m, rfl, hm0, by omega⟩
      · rw [decide_eq_false h6]
        exact ⟨r5, rfl, r50, by omega⟩
    refine r_ixL (l_of h4) hsz ?_
    walk_at "go"
    refine ⟨_, _, rfl, ?_⟩
    clear h4 hsz hcw
    walk_at "go"
    -- the steps
    refine r_rng1 (by omega) (by omega) (r_cmRS (m := sz.toNat) (fun i H' => DrS w H (n + 3 + 2 * i) H') (fun y => ∃ z, y = .int z ∧ (z ≠ 0 ∧ -l ≤ z ∧ z ≤ l)) (by omega) (fun _ => rfl) s4 (fun i H1 D o h hD => h.new hD) (fun i H5 D acc hi s5 h5 u5 Q' k => ?_) fun D H5 ys hD hy1 hy2 s5 h5 => ?_)
    · obtain ⟨hDw, hD0⟩ := DrS.at u5
      walk_at "go"
      refine ⟨w, n + 3 + 2 * i, l, rfl, by omega, by omega, s5.well, by omega, fun r7 H6 r70 r7l e6 d6 => ?_⟩
      have s6 := s5.on e6 d6
      have h6 := e6 D _ h5 hDw
      walk_at "go"
      refine ⟨w, n + 3 + 2 * i + 1, 2, rfl, by omega, by omega, s6.well, by omega, fun r8 H7 r80 r82 e7 d7 => ?_⟩
      have s7 := s6.on e7 d7
      have h7 := e7 D _ h6 hDw
      walk_at "go"
      refine r_mul (.inl ⟨by omega, by omega⟩) ?_
      walk_at "go"
      refine r_mul (.inl ⟨by omega, by omega⟩) ?_
      have hr8 : r8 = 0 ∨ r8 = 1 := by omega
      refine k _ H7 ⟨_, rfl, ?_⟩ h7 fun o => DrS.put s7 hDw hD0
      rcases hr8 with e | e
      · subst e
        rw [show (1 : Int) - 2 * 0 = 1 by decide, Int.mul_one]
        omega
      · subst e
        rw [show (1 : Int) - 2 * 1 = -1 by decide, Int.mul_neg, Int.mul_one]
        omega
    obtain ⟨ns, rfl, hns⟩ := intsOf ys hy2
    have hDw : D ≠ w := s4.well.ne hD
    rw [List.length_map] at hy1
    clear hy2 hD s4
    have hsz : (sz.toNat : Int) = sz := by omega
    have szn : sz.toNat ≤ 60 := by omega
    walk_at "go"
    -- the list of steps, in whatever way it was made
    have start : ∃ (L : Addr) (ms : List Int), DrS w H (n + 123) H5 ∧ H5 L = some (.lst (ms.map V.int)) ∧ L ≠ w ∧ Stp l ms ∧ ms.length ≤ sz.toNat ∧ L = D := ⟨D, ns, s5.more (by omega), h5, hDw, hns, by omega, rfl⟩
    refine q_cut (M := fun σ' H' => ∃ (L : Addr) (ms : List Int), DrS w H (n + 124) H' ∧ H' L = some (.lst (ms.map V.int)) ∧ L ≠ w ∧ Stp l ms ∧ ms.length ≤ sz.toNat ∧
        σ' = [some (.ref w), some (.int l), some (.int m), some (.int way), some (.int sz), some (.ref L), none, none, none]) ?_ ?_
    · walk_at "go"
      refine if_2 (fun h0 => ?_) fun h0 => ?_
      · walk_at "go"
        refine ⟨w, n + 123, 4, rfl, by omega, by omega, s5.well.more (by omega), by omega, fun r9 H6 r90 r94 e6 d6 => ?_⟩
        have s6 := s5.on e6 d6
        have h6 := e6 D _ h5 hDw
        walk_at "go"
        refine r_slL (l_of h6) fun c2 H7 hc2 e7 h7 => ?_
        rw [cut_to (by omega)] at h7
        walk_at "go"
        refine r_repL h7 sz0 (by omega) ?_ fun c3 H8 hc3 e8 h8 => ?_
        · rw [List.length_map, List.length_take]
          exact Nat.le_trans (Nat.mul_le_mul (by omega : min (1 + r9).toNat ns.length ≤ 60) szn) (by decide)
        walk_at "go"
        have e9 : (List.replicate sz.toNat ((ns.take (1 + r9).toNat).map V.int)).flatten = ((List.replicate sz.toNat (ns.take (1 + r9).toNat)).flatten).map V.int := by simp [List.map_flatten]
        rw [e9] at h8
        refine r_slL (l_of h8) fun c4 H9 hc4 e9 h9 => ?_
        rw [cut_to sz0] at h9
        walk_at "go"
        have s9 := ((s6.ext e7).ext e8).ext e9
        refine ⟨c4, _, s9, h9, (s6.ext (e7.trans e8)).well.ne hc4, stp_of_mem hns fun x hx => ?_, by rw [List.length_take]; omega, rfl⟩
        have hx2 := List.mem_of_mem_take hx
        rw [List.mem_flatten] at hx2
        obtain ⟨y, hy, hxy⟩ := hx2
        rw [(List.mem_replicate.mp hy).2] at hxy
        exact List.mem_of_mem_take hxy
      · walk_at "go"
        exact ⟨D, ns, s5.more (by omega), h5, hDw, hns, by omega, rfl⟩
    rintro σ' H6 ⟨L, ms, s6, h6, hLw, hms, hml, rfl⟩
    clear s5 h5 hDw hns hy1 start ns
    refine q_cut (M := fun σ' H' => ∃ (L : Addr) (ms : List Int) (v : Option V), DrS w H (n + 124) H' ∧ H' L = some (.lst (ms.map V.int)) ∧ L ≠ w ∧ Stp l ms ∧ ms.length ≤ sz.toNat ∧
        σ' = [some (.ref w), some (.int l), some (.int m), some (.int way), some (.int sz), some (.ref L), v, none, none]) ?_ ?_
    · walk_at "go"
      refine if_2 (fun h0 => ?_) fun h0 => ?_
      · walk_at "go"
        refine r_div (b := 2) (by decide) (by decide) (by decide) (by decide) ?_
        walk_at "go"
        refine r_slL (l_of h6) fun c1 H7 hc1 e7 h7 => ?_
        rw [cut_to (by omega)] at h7
        walk_at "go"
        refine r_slL (l_of (e7 _ _ h6)) fun c2 H8 hc2 e8 h8 => ?_
        rw [cut_to (by omega)] at h8
        walk_at "go"
        refine r_revL (l_of h8) fun c3 H9 hc3 e9 h9 => ?_
        rw [← List.map_reverse] at h9
        refine r_itL (l_of h9) (r_cmL (ys := (((ms.take (sz / 3).toNat).reverse).map fun x => -x).map V.int) (l_of h9) (by simp) (by simp; omega) (fun _ => rfl) (fun i x y H10 hx hy e10 Q' k => ?_) fun c4 H10 hc4 e10 h10 => ?_)
        · rw [List.getElem?_map] at hx
          rw [List.getElem?_map, List.getElem?_map] at hy
          cases hz : ((ms.take (sz / 3).toNat).reverse)[i]? with
          | none => rw [hz] at hx; cases hx
          | some z =>
            rw [hz] at hx hy
            cases hx
            cases hy
            walk_at "go"
            exact k H10 (Ex.refl H10)
        · walk_at "go"
          refine r_catL (e10 _ _ (e9 _ _ (e8 _ _ h7))) h10 (by simp; omega) fun c5 H11 hc5 e11 h11 => ?_
          walk_at "go"
          have ee : Ex H6 H11 := ((((e7.trans e8).trans e9).trans e10).trans e11)
          rw [← List.map_append] at h11
          refine ⟨c5, _, _, s6.ext ee, h11, (s6.ext (((e7.trans e8).trans e9).trans e10)).well.ne hc5, ?_, by simp only [List.length_append, List.length_map, List.length_reverse, List.length_take]; omega, rfl⟩
          intro x hx
          rcases List.mem_append.mp hx with hx | hx
          · exact hms x (List.mem_of_mem_take hx)
          · obtain ⟨y, hy, rfl⟩ := List.mem_map.mp hx
            have := hms y (List.mem_of_mem_take (List.mem_reverse.mp hy))
            omega
      · walk_at "go"
        exact ⟨L, ms, none, s6, h6, hLw, hms, hml, rfl⟩
    rintro σ' H7 ⟨L2, ms2, v, s7, h7, hLw2, hms2, hml2, rfl⟩
    refine q_cut (M := fun σ' H' => ∃ (L : Addr) (ms : List Int), DrS w H (n + 124) H' ∧ H' L = some (.lst (ms.map V.int)) ∧ Stp l ms ∧ ms.length ≤ sz.toNat ∧
        σ' = [some (.ref w), some (.int l), some (.int m), some (.int way), some (.int sz), some (.ref L), v, none, none]) ?_ ?_
    · walk_at "go"
      refine if_2 (fun h0 => ?_) fun h0 => ?_
      · walk_at "go"
        refine r_itL (l_of h7) (r_cmL (ys := (ms2.map fun x => ((x.natAbs : Nat) : Int)).map V.int) (l_of h7) (by simp) (by simp; omega) (fun _ => rfl) (fun i x y H10 hx hy e10 Q' k => ?_) fun c4 H10 hc4 e10 h10 => ?_)
        · rw [List.getElem?_map] at hx
          rw [List.getElem?_map, List.getElem?_map] at hy
          cases hz : ms2[i]? with
          | none => rw [hz] at hx; cases hx
          | some z =>
            rw [hz] at hx hy
            cases hx
            cases hy
            walk_at "go"
            exact k H10 (Ex.refl H10)
        · walk_at "go"
          refine ⟨c4, _, s7.ext e10, h10, fun x hx => ?_, by rw [List.length_map]; omega, rfl⟩
          obtain ⟨y, hy, rfl⟩ := List.mem_map.mp hx
          have := hms2 y hy
          omega
      · walk_at "go"
        exact ⟨L2, ms2, s7, h7, hms2, hml2, rfl⟩
    rintro σ' H8 ⟨L3, ms3, s8, h8, hms3, hml3, rfl⟩
    walk_at "go"
    refine r_tupL (l_of h8) fun p H9 hp e9 h9 => ?_
    exact q p ms3 H9 ((s8.ext e9).more (by omega)) h9 hms3 (by omega)
def sp__law_key (K : PySem.W.Frag) : Sp := fun vs H Q _ => ∃ (a : Addr) (w : List Int), vs = [.ref a] ∧ IT K H a w ∧ w.length ≤ 5000 ∧ ∀ p b H1, Ex H H1 → SqT K H1 p [.int (w.length : Int), .ref b] → IT K H1 b (w.map Od.cd) → Q (.ref p) H1
theorem ok__law_key (T : Tx K mg A) : FnOk P w K mg base CX0 1 A.a__law_key A.f__law_key P__law_key (sp__law_key K) := by
  refine T.F__law_key.ok sc__law_key (fun vs H Q E h => ?_) (fun cdv A' outer s H vs Q E hr h => ?_)
  · obtain ⟨a, w, rfl, _⟩ := h
    rfl
  · obtain ⟨a, w, rfl, ha, zw, q⟩ := h
    refine ⟨_, (pss_one (ps_ret (pe_tup (pa_cons (pe_callB (len_K K) (by rfl) T.n_len (by decide +kernel) (pa_cons (pv 0) pa_nil)) (pa_cons (pe_callTy (tuple_K K) (by rfl) T.n_tuple (by decide +kernel) (pa_cons (pe_lc (own := [("_law_step", 1)]) rfl sc__law_key.nd (pi_tupK K (pv 0)) (blkOk_by (own := [("_law_step", 1)]) (N := N__law_key) (sc := defScope s__law_key) (by decide +kernel)) (fun _ _ _ _ _ => (pg_name (i := 1) sc__law_key.nd rfl (Or.inl rfl))) (fun _ _ _ _ _ => pts_nil) (fun _ _ _ _ _ => (pe_op (op_addK K) (pe_op (op_mulK K) pe_int (pe_callB abs_K (by rfl) T.n_abs (by decide +kernel) (pa_cons (pv 1) pa_nil))) (pe_callTy int_K (by rfl) T.n_int (by decide +kernel) (pa_cons (pe_cmpR op_lt (pv 1) pe_int (nomark _)) pa_nil))))) pa_nil)) pa_nil))))), ?_⟩
    walk_at "go"
    refine r_lenT ha ?_
    rw [List.length_map]
    walk_at "go"
    refine r_itT ha (r_cmT (ys := (w.map Od.cd).map V.int) ha (by simp) (by simp; omega) (fun _ => rfl) (fun i x y H1 hx hy e1 Q' k => ?_) fun p H1 hp e1 h1 => ?_)
    · rw [List.getElem?_map] at hx
      rw [List.getElem?_map, List.getElem?_map] at hy
      cases hn : w[i]? with
      | none => rw [hn] at hx; cases hx
      | some z =>
        rw [hn] at hx hy
        cases hx
        cases hy
        walk_at "go"
        refine r_mul (.inl ⟨by decide, by decide⟩) ?_
        walk_at "go"
        have e : (2 * ((z.natAbs : Nat) : Int) + (if decide (z < 0) = true then 1 else 0)) = Od.cd z := by
          unfold Od.cd
          simp
        rw [e]
        exact k H1 (Ex.refl H1)
    · walk_at "go"
      refine r_tupL (l_of h1) fun b H2 hb e2 h2 => ?_
      walk_at "go"
      refine r_newT (by simp) fun p2 H3 hp2 e3 h3 => ?_
      exact q p2 b H3 ((e1.trans e2).trans e3) (t_of h3) (ex_t e3 h2)
def sp_straight (K : PySem.W.Frag) : Sp := fun vs H Q _ => ∃ a ns, vs = [.ref a] ∧ IT K H a ns ∧ ns.length ≤ 5000 ∧ Stp 4 ns ∧ ∀ p H1, Ex H H1 → IT K H1 p (Fg.rd ns) → Q (.ref p) H1
theorem ok_straight (T : Tx K mg A) : FnOk P w K mg base CX0 5 A.a_straight A.f_straight P_straight (sp_straight K) := by
  refine T.F_straight.ok sc_straight (fun vs H Q E h => ?_) (fun cdv A' outer s H vs Q E hr h => ?_)
  · obtain ⟨a, ns, rfl, _⟩ := h
    rfl
  · obtain ⟨a, ns, rfl, ht, hz, hs, q⟩ := h
    refine ⟨_, (pss_cons (ps_expr (pe_call (ok_check_walk T) (hr.mono (by decide)) (by rfl) T.g_check_walk T.F_check_walk.kp T.b_check_walk .nil pass0 (pa_cons (pe_glob (v := .int 4) (by rfl) T.c_MOST_LETTERS.choose_spec ⟨_, rfl⟩) (pa_cons (pv 0) pa_nil))))
      (pss_one (ps_ret (pe_call (ok_straightened T) (hr.mono (by decide)) (by rfl) T.g_straightened T.F_straightened.kp T.b_straightened .nil pass0 (pa_cons (pv 0) pa_nil))))), ?_⟩
    refine ⟨_, rfl, 4, a, ns, rfl, ht, hz, hs, fun H1 e1 => ?_⟩
    exact ⟨_, rfl, a, ns, rfl, ex_t e1 ht, hz, fun p H2 e2 h2 => q p H2 (e1.trans e2) h2⟩
def sp_behind (K : PySem.W.Frag) : Sp := fun vs H Q _ => ∃ a ns b ms, vs = [.ref a, .ref b] ∧ IT K H a ns ∧ IT K H b ms ∧ ns.length ≤ 2000 ∧ ms.length ≤ 2000 ∧ Stp 4 ns ∧ Stp 4 ms ∧ ∀ p H1, Ex H H1 → IT K H1 p (Fg.rd (ns ++ ms)) → Q (.ref p) H1
theorem ok_behind (T : Tx K mg A) : FnOk P w K mg base CX0 5 A.a_behind A.f_behind P_behind (sp_behind K) := by
  refine T.F_behind.ok sc_behind (fun vs H Q E h => ?_) (fun cdv A' outer s H vs Q E hr h => ?_)
  · obtain ⟨a, ns, b, ms, rfl, _⟩ := h
    rfl
  · obtain ⟨a, ns, b, ms, rfl, ha, hb, ha2, hb2, hsa, hsb, q⟩ := h
    refine ⟨_, (pss_cons (ps_expr (pe_call (ok_check_walk T) (hr.mono (by decide)) (by rfl) T.g_check_walk T.F_check_walk.kp T.b_check_walk .nil pass0 (pa_cons (pe_glob (v := .int 4) (by rfl) T.c_MOST_LETTERS.choose_spec ⟨_, rfl⟩) (pa_cons (pv 0) pa_nil))))
      (pss_cons (ps_expr (pe_call (ok_check_walk T) (hr.mono (by decide)) (by rfl) T.g_check_walk T.F_check_walk.kp T.b_check_walk .nil pass0 (pa_cons (pe_glob (v := .int 4) (by rfl) T.c_MOST_LETTERS.choose_spec ⟨_, rfl⟩) (pa_cons (pv 1) pa_nil))))
      (pss_one (ps_ret (pe_call (ok_straightened T) (hr.mono (by decide)) (by rfl) T.g_straightened T.F_straightened.kp T.b_straightened .nil pass0 (pa_cons (pe_op (op_addK K) (pv 0) (pv 1)) pa_nil)))))), ?_⟩
    refine ⟨_, rfl, 4, a, ns, rfl, ha, by omega, hsa, fun H1 e1 => ?_⟩
    refine ⟨_, rfl, 4, b, ms, rfl, ex_t e1 hb, by omega, hsb, fun H2 e2 => ?_⟩
    dsimp only
    refine st_ret (st_call (st_cons (st_op ?_)))
    refine ⟨_, rfl, _, rfl, r_catT (ex_t (e1.trans e2) ha) (ex_t (e1.trans e2) hb) (by simp; omega) fun c H3 e3 h3 => ?_⟩
    refine ⟨c, ns ++ ms, rfl, ?_, by rw [List.length_append]; omega, fun p H4 e4 h4 => q p H4 (((e1.trans e2).trans e3).trans e4) h4⟩
    show SqT K H3 c ((ns ++ ms).map V.int)
    rw [List.map_append]
    exact h3
def sp_back (K : PySem.W.Frag) : Sp := fun vs H Q _ => ∃ a ns, vs = [.ref a] ∧ IT K H a ns ∧ ns.length ≤ 5000 ∧ Stp 4 ns ∧ ∀ p H1, Ex H H1 → IT K H1 p (Fg.rd (Fg.bk ns)) → Q (.ref p) H1
theorem ok_back (T : Tx K mg A) : FnOk P w K mg base CX0 5 A.a_back A.f_back P_back (sp_back K) := by
  refine T.F_back.ok sc_back (fun vs H Q E h => ?_) (fun cdv A' outer s H vs Q E hr h => ?_)
  · obtain ⟨a, ns, rfl, _⟩ := h
    rfl
  · obtain ⟨a, ns, rfl, ht, hz, hs, q⟩ := h
    refine ⟨_, (pss_cons (ps_expr (pe_call (ok_check_walk T) (hr.mono (by decide)) (by rfl) T.g_check_walk T.F_check_walk.kp T.b_check_walk .nil pass0 (pa_cons (pe_glob (v := .int 4) (by rfl) T.c_MOST_LETTERS.choose_spec ⟨_, rfl⟩) (pa_cons (pv 0) pa_nil))))
      (pss_one (ps_ret (pe_call (ok_straightened T) (hr.mono (by decide)) (by rfl) T.g_straightened T.F_straightened.kp T.b_straightened .nil pass0 (pa_cons (pe_call (ok_turned_back T) (hr.mono (by decide)) (by rfl) T.g_turned_back T.F_turned_back.kp T.b_turned_back .nil pass0 (pa_cons (pv 0) pa_nil)) pa_nil))))), ?_⟩
    refine ⟨_, rfl, 4, a, ns, rfl, ht, hz, hs, fun H1 e1 => ?_⟩
    refine ⟨_, rfl, a, ns, rfl, ex_t e1 ht, hz, fun p H2 e2 h2 => ?_⟩
    exact ⟨p, _, rfl, h2, by rw [Fg.bk_len]; exact hz, fun p2 H3 e3 h3 => q p2 H3 ((e1.trans e2).trans e3) h3⟩
def sp_core (K : PySem.W.Frag) : Sp := fun vs H Q _ => ∃ a ns, vs = [.ref a] ∧ IT K H a ns ∧ ns.length ≤ 5000 ∧ Stp 4 ns ∧ ∀ p H1, Ex H H1 → P2 K H1 p (Fg.lead (Fg.rd ns)) (Fg.mid (Fg.rd ns)) → Q (.ref p) H1
theorem ok_core (T : Tx K mg A) : FnOk P w K mg base CX0 5 A.a_core A.f_core P_core (sp_core K) := by
  refine T.F_core.ok sc_core (fun vs H Q E h => ?_) (fun cdv A' outer s H vs Q E hr h => ?_)
  · obtain ⟨a, ns, rfl, _⟩ := h
    rfl
  · obtain ⟨a, ns, rfl, ht, hz, hs, q⟩ := h
    refine ⟨_, (pss_cons (ps_expr (pe_call (ok_check_walk T) (hr.mono (by decide)) (by rfl) T.g_check_walk T.F_check_walk.kp T.b_check_walk .nil pass0 (pa_cons (pe_glob (v := .int 4) (by rfl) T.c_MOST_LETTERS.choose_spec ⟨_, rfl⟩) (pa_cons (pv 0) pa_nil))))
      (pss_one (ps_ret (pe_call (ok_lead_and_core T) (hr.mono (by decide)) (by rfl) T.g_lead_and_core T.F_lead_and_core.kp T.b_lead_and_core .nil pass0 (pa_cons (pe_call (ok_straightened T) (hr.mono (by decide)) (by rfl) T.g_straightened T.F_straightened.kp T.b_straightened .nil pass0 (pa_cons (pv 0) pa_nil)) pa_nil))))), ?_⟩
    walk_at "go"
    refine ⟨4, a, ns, rfl, ht, hz, hs, fun H1 e1 => ?_⟩
    walk_at "go"
    refine ⟨a, ns, rfl, ex_t e1 ht, hz, fun p H2 e2 h2 => ?_⟩
    walk_at "go"
    exact ⟨p, _, rfl, h2, Nat.le_trans (Fg.rd_len _) hz, fun p2 H3 e3 h3 => q p2 H3 ((e1.trans e2).trans e3) h3⟩
def sp_commute (K : PySem.W.Frag) : Sp := fun vs H Q _ => ∃ a ns b ms, vs = [.ref a, .ref b] ∧ IT K H a ns ∧ IT K H b ms ∧ ns.length ≤ 2000 ∧ ms.length ≤ 2000 ∧ Stp 4 ns ∧ Stp 4 ms ∧ ∀ H1, Ex H H1 → Q (.bl (decide (Fg.rd (ns ++ ms) = Fg.rd (ms ++ ns)))) H1
theorem ok_commute (T : Tx K mg A) : FnOk P w K mg base CX0 5 A.a_commute A.f_commute P_commute (sp_commute K) := by
  refine T.F_commute.ok sc_commute (fun vs H Q E h => ?_) (fun cdv A' outer s H vs Q E hr h => ?_)
  · obtain ⟨a, ns, b, ms, rfl, _⟩ := h
    rfl
  · obtain ⟨a, ns, b, ms, rfl, ha, hb, ha2, hb2, hsa, hsb, q⟩ := h
    refine ⟨_, (pss_cons (ps_expr (pe_call (ok_check_walk T) (hr.mono (by decide)) (by rfl) T.g_check_walk T.F_check_walk.kp T.b_check_walk .nil pass0 (pa_cons (pe_glob (v := .int 4) (by rfl) T.c_MOST_LETTERS.choose_spec ⟨_, rfl⟩) (pa_cons (pv 0) pa_nil))))
      (pss_cons (ps_expr (pe_call (ok_check_walk T) (hr.mono (by decide)) (by rfl) T.g_check_walk T.F_check_walk.kp T.b_check_walk .nil pass0 (pa_cons (pe_glob (v := .int 4) (by rfl) T.c_MOST_LETTERS.choose_spec ⟨_, rfl⟩) (pa_cons (pv 1) pa_nil))))
      (pss_one (ps_ret (pe_cmpR (op_eqK K hr.units) (pe_call (ok_straightened T) (hr.mono (by decide)) (by rfl) T.g_straightened T.F_straightened.kp T.b_straightened .nil pass0 (pa_cons (pe_op (op_addK K) (pv 0) (pv 1)) pa_nil)) (pe_call (ok_straightened T) (hr.mono (by decide)) (by rfl) T.g_straightened T.F_straightened.kp T.b_straightened .nil pass0 (pa_cons (pe_op (op_addK K) (pv 1) (pv 0)) pa_nil)) (nomark _)))))), ?_⟩
    walk_at "go"
    refine ⟨4, a, ns, rfl, ha, by omega, hsa, fun H1 e1 => ?_⟩
    walk_at "go"
    refine ⟨4, b, ms, rfl, ex_t e1 hb, by omega, hsb, fun H2 e2 => ?_⟩
    have e := e1.trans e2
    walk_at "go"
    refine r_catT (ex_t e ha) (ex_t e hb) (by simp; omega) fun c H3 e3 h3 => ?_
    rw [← List.map_append] at h3
    walk_at "go"
    refine ⟨c, ns ++ ms, rfl, h3, by rw [List.length_append]; omega, fun p H4 e4 h4 => ?_⟩
    have e' := (e.trans e3).trans e4
    walk_at "go"
    refine r_catT (ex_t e' hb) (ex_t e' ha) (by simp; omega) fun d H5 e5 h5 => ?_
    rw [← List.map_append] at h5
    walk_at "go"
    refine ⟨d, ms ++ ns, rfl, h5, by rw [List.length_append]; omega, fun p2 H6 e6 h6 => ?_⟩
    exact r_eqT (ex_t (e5.trans e6) h4) h6 (q H6 (e'.trans (e5.trans e6)))
def sp_power (K : PySem.W.Frag) : Sp := fun vs H Q _ => ∃ a ns k, vs = [.ref a, .int k] ∧ IT K H a ns ∧ ns.length ≤ 1000 ∧ ns.length * k.natAbs ≤ 5000 ∧ Stp 4 ns ∧ -20 ≤ k ∧ k ≤ 20 ∧ ∀ p H1, Ex H H1 → IT K H1 p (pw ns k) → Q (.ref p) H1
theorem ok_power (T : Tx K mg A) : FnOk P w K mg base CX0 5 A.a_power A.f_power P_power (sp_power K) := by
  refine T.F_power.ok sc_power (fun vs H Q E h => ?_) (fun cdv A' outer s H vs Q E hr h => ?_)
  · obtain ⟨a, ns, k, rfl, _⟩ := h
    rfl
  · obtain ⟨a, ns, k, rfl, ht, hz, hzk, hs, hlo, hhi, q⟩ := h
    refine ⟨_, (pss_cons (ps_expr (pe_call (ok_check_walk T) (hr.mono (by decide)) (by rfl) T.g_check_walk T.F_check_walk.kp T.b_check_walk .nil pass0 (pa_cons (pe_glob (v := .int 4) (by rfl) T.c_MOST_LETTERS.choose_spec ⟨_, rfl⟩) (pa_cons (pv 0) pa_nil))))
      (pss_cons (ps_expr (pe_call (ok_check_within T) (hr.mono (by decide)) (by rfl) T.g_check_within T.F_check_within.kp T.b_check_within .nil pass0 (pa_cons (pv 1) (pa_cons (pe_un un_neg (pe_glob (v := .int 20) (by rfl) T.c_MOST_TIMES.choose_spec ⟨_, rfl⟩)) (pa_cons (pe_glob (v := .int 20) (by rfl) T.c_MOST_TIMES.choose_spec ⟨_, rfl⟩) pa_nil)))))
      (pss_cons (ps_set (i := 2) sc_power.nd rfl (Or.inl rfl) (pe_ifExp (pt_cmpR op_ge (pv 1) pe_int (nomark _)) (pv 0) (pe_call (ok_turned_back T) (hr.mono (by decide)) (by rfl) T.g_turned_back T.F_turned_back.kp T.b_turned_back .nil pass0 (pa_cons (pv 0) pa_nil))))
      (pss_one (ps_ret (pe_call (ok_straightened T) (hr.mono (by decide)) (by rfl) T.g_straightened T.F_straightened.kp T.b_straightened .nil pass0 (pa_cons (pe_op (op_mulK K) (pv 2) (pe_callB abs_K (by rfl) T.n_abs (by decide +kernel) (pa_cons (pv 1) pa_nil))) pa_nil))))))), ?_⟩
    refine ⟨_, rfl, 4, a, ns, rfl, ht, by omega, hs, fun H1 e1 => ?_⟩
    refine ⟨_, rfl, 20, rfl, k, -20, 20, rfl, hlo, hhi, ?_⟩
    -- behind once = .. : the walk or it turned back
    have tail : ∀ (b : Addr) (ms : List Int) (H2 : Hp), Ex H1 H2 → IT K H2 b ms → ms.length = ns.length → pw ns k = Fg.rd (Fg.rep k.natAbs ms) →
        tOp (rMulU K) (tVar 2) (tCB rAbs (tCons (tVar 1) tNil)) [some (.ref a), some (.int k), some (.ref b)] H2 fun x H3 => sp_straightened K [x] H3 Q E := by
      intro b ms H2 e2 h2 hl e
      walk_at "go"
      refine r_repT h2 (by omega) (by omega) (by rw [List.length_map]; omega) fun c H3 e3 h3 => ?_
      have hf : (List.replicate ((k.natAbs : Nat) : Int).toNat (ms.map V.int)).flatten = (Fg.rep k.natAbs ms).map V.int := by
        rw [← Fg.rep_flat, Int.toNat_natCast]
        simp [List.map_flatten]
      rw [hf] at h3
      refine ⟨c, _, rfl, h3, ?_, fun p H4 e4 h4 => q p H4 ((e1.trans e2).trans (e3.trans e4)) (by rw [e]; exact h4)⟩
      rw [Fg.rep_len, hl]
      rw [Nat.mul_comm]
      exact hzk
    refine ⟨_, rfl, _, _, rfl, rfl, _, rfl, ?_⟩
    by_cases hk : 0 ≤ k
    · rw [decide_eq_true hk]
      refine iteT ⟨_, rfl, ?_⟩
      exact tail a ns H1 (Ex.refl H1) (ex_t e1 ht) rfl (by unfold pw; rw [if_pos hk])
    · rw [decide_eq_false hk]
      refine iteF ⟨_, rfl, a, ns, rfl, ex_t e1 ht, by omega, fun b H2 e2 h2 => ?_⟩
      exact tail b _ H2 e2 h2 (Fg.bk_len ns) (by unfold pw; rw [if_neg hk])
end
end Lw
namespace Lw
open PySem PySem.Spec PyProof.Rows L2 Evl

local macro_rules | `(tactic| walk_at "go") => `(tactic| repeat (first
  | with_reducible refine st_seq ?_ | with_reducible refine st_set ?_ | with_reducible refine st_asg ?_ | with_reducible refine st_ret ?_ | with_reducible refine st_drop ?_ | with_reducible refine st_if ?_
  | with_reducible refine st_c ?_ | ((with_reducible refine' st_v ?h ?_); (case h => exact rfl)) | with_reducible refine st_n ?_ | with_reducible refine st_cons ?_ | with_reducible refine st_op ?_ | with_reducible refine st_un ?_
  | with_reducible refine st_cb ?_ | with_reducible refine st_test ?_ | with_reducible refine st_call ?_ | with_reducible refine st_callK ?_ | with_reducible refine st_sl ?_ | with_reducible refine st_par ?_ | with_reducible refine st_par3 ?_ | with_reducible refine st_tru ?_
  | with_reducible refine st_and ?_ | with_reducible refine st_or ?_ | with_reducible refine st_not ?_ | with_reducible refine st_B ?_ | with_reducible refine st_andV ?_ | with_reducible refine st_orV ?_ | with_reducible refine st_notV ?_ | with_reducible refine st_ifE ?_
  | with_reducible refine st_part ?_ | with_reducible refine st_nop ?_ | with_reducible refine st_sub ?_ | with_reducible refine st_chain ?_ | with_reducible refine st_bl ?_ | with_reducible refine st_in ?_ | with_reducible refine r_truB ?_
  | with_reducible refine st_nameG ?_ | with_reducible refine if_T ?_ | with_reducible refine if_F ?_ | with_reducible refine if_nT ?_ | with_reducible refine if_nF ?_
  | with_reducible refine r_add ?_ | with_reducible refine r_0 ?_ | with_reducible refine r_neg ?_ | with_reducible refine r_intI ?_ | with_reducible refine r_intB ?_ | with_reducible refine r_abs ?_ | with_reducible refine r_max2 ?_ | with_reducible refine r_min2 ?_ | with_reducible refine r_eqI ?_ | with_reducible refine r_neI ?_
  | with_reducible refine st_nxt ?_ | with_reducible refine st_cnt ?_ | with_reducible refine st_brk ?_ | with_reducible refine st_retn ?_
  | with_reducible refine st_lstN ?_ | with_reducible refine st_tupN ?_
  | with_reducible refine st_for ?_ | with_reducible refine st_lc ?_ | with_reducible refine st_lc2 ?_ | with_reducible refine st_rng1 ?_ | with_reducible refine st_rng2 ?_ | with_reducible refine st_rng3 ?_ | with_reducible refine st_itL ?_ | with_reducible refine st_itT ?_ | with_reducible refine st_rev ?_ | with_reducible refine st_enumE ?_ | with_reducible refine st_zip3 ?_ | with_reducible refine st_lvals ?_ | with_reducible refine st_fld ?_ | with_reducible refine st_sfld ?_ | with_reducible refine st_meth ?_ | with_reducible refine st_make ?_ | with_reducible refine st_rg1 ?_ | with_reducible refine st_enumS ?_ | with_reducible refine st_enumD ?_ | with_reducible refine st_lstIt ?_ | with_reducible refine st_dg1 ?_ | with_reducible refine st_dg2 ?_ | with_reducible refine st_dpop ?_ | with_reducible refine st_dset ?_ | with_reducible refine st_ckw ?_ | with_reducible refine st_dsetT ?_ | with_reducible refine st_dnewT ?_ | with_reducible refine st_dc ?_ | with_reducible refine st_keys ?_ | with_reducible refine st_dget ?_ | with_reducible refine st_din ?_ | with_reducible refine st_dnin ?_ | with_reducible refine st_dput ?_ | with_reducible refine st_dnew ?_ | with_reducible refine st_lstRg ?_ | with_reducible refine st_rg2 ?_ | with_reducible refine r_twoI ?_ | with_reducible refine st_bm ?_ | with_reducible refine st_bm0 ?_
  | ((with_reducible refine' st_aug ?h ?_); (case h => exact rfl)) | with_reducible refine r_augI ?_ | with_reducible refine r_eqB ?_
  | dsimp only))
section
variable {P : Program} {w : World} {K : PySem.W.Frag} {mg : Str → Option Value} {base : Heap} {A : Ad}

/-- pairs of walks, a walk and a number, as data -/
def dP (u v : List Int) : PyData := .tuple [.tuple (u.map .int), .tuple (v.map .int)]
def dN (u : List Int) (t : Int) : PyData := .tuple [.tuple (u.map .int), .int t]
theorem shaped_P (u v : List Int) : SeqAt.shaped (dP u v) = true := by
  unfold SeqAt.shaped dP
  simp [PyData.canLay0, PyData.canLayAll0, canLay_ints, PyData.depth, PyData.depthAll, depth_ints]
theorem shaped_N (u : List Int) (t : Int) : SeqAt.shaped (dN u t) = true := by
  unfold SeqAt.shaped dN
  simp [PyData.canLay0, PyData.canLayAll0, canLay_ints, PyData.depth, PyData.depthAll, depth_ints]
theorem eqv_P (u v : List Int) : PyData.eqv (dP u v) (dP u v) = true := by
  unfold dP
  rw [PyData.eqv, PyData.eqvAll, PyData.eqvAll, PyData.eqvAll, eqv_tints, eqv_tints]
  simp
theorem eqv_N (u : List Int) (t : Int) : PyData.eqv (dN u t) (dN u t) = true := by
  unfold dN
  rw [PyData.eqv, PyData.eqvAll, PyData.eqvAll, PyData.eqvAll, eqv_tints]
  simp [PyData.eqv]
theorem dp_P {K : PySem.W.Frag} {H : Hp} {p : Addr} {u v : List Int} (h : P2 K H p u v) : Dp K H (.ref p) (dP u v) := by
  obtain ⟨a, b, h1, h2, h3⟩ := h.ex
  exact .tup h1 (.cons (dp_t h2) (.cons (dp_t h3) .nil))
theorem dp_N {K : PySem.W.Frag} {H : Hp} {p : Addr} {u : List Int} {t : Int} (h : P1N K H p u t) : Dp K H (.ref p) (dN u t) := by
  obtain ⟨a, h1, h2⟩ := h.ex
  exact .tup h1 (.cons (dp_t h2) (.cons (.int _) .nil))
theorem r_neP {K : PySem.W.Frag} {H : Hp} {Q : VK} {p r : Addr} {u v : List Int} (h : P2 K H p u v) (k : P2 K H r u v) (q : Q (.bl false) H) : rNeU K (.ref p) (.ref r) H Q :=
  .inr ⟨_, _, dp_P h, dp_P k, shaped_P u v, shaped_P u v, by rw [eqv_P]; exact q⟩
theorem r_neN {K : PySem.W.Frag} {H : Hp} {Q : VK} {p r : Addr} {u : List Int} {t : Int} (h : P1N K H p u t) (k : P1N K H r u t) (q : Q (.bl false) H) : rNeU K (.ref p) (.ref r) H Q :=
  .inr ⟨_, _, dp_N h, dp_N k, shaped_N u t, shaped_N u t, by rw [eqv_N]; exact q⟩
theorem r_eqN {K : PySem.W.Frag} {H : Hp} {Q : VK} {p r : Addr} {u : List Int} {t : Int} (h : P1N K H p u t) (k : P1N K H r u t) (q : Q (.bl true) H) : rEqU K (.ref p) (.ref r) H Q :=
  .inr ⟨_, _, dp_N h, dp_N k, shaped_N u t, shaped_N u t, by rw [eqv_N]; exact q⟩
theorem same_neT {K : PySem.W.Frag} {H : Hp} {Q : VK} {a b : Addr} {ns ms : List Int} (ha : IT K H a ns) (hb : IT K H b ms) (e : ns = ms) (q : Q (.bl false) H) : rNeU K (.ref a) (.ref b) H Q := r_neT ha hb (by rw [decide_eq_true e]; exact q)
theorem same_eqT {K : PySem.W.Frag} {H : Hp} {Q : VK} {a b : Addr} {ns ms : List Int} (ha : IT K H a ns) (hb : IT K H b ms) (e : ns = ms) (q : Q (.bl true) H) : rEqU K (.ref a) (.ref b) H Q := r_eqT ha hb (by rw [decide_eq_true e]; exact q)
def sp_step_place (K : PySem.W.Frag) : Sp := fun vs H Q _ => ∃ x : Int, vs = [.int x] ∧ -4 ≤ x ∧ x ≤ 4 ∧ Q (.int (spl x)) H
theorem ok_step_place (T : Tx K mg A) : FnOk P w K mg base CX0 1 A.a_step_place A.f_step_place P_step_place (sp_step_place K) := by
  refine T.F_step_place.ok sc_step_place (fun vs H Q E h => ?_) (fun cdv A' outer s H vs Q E hr h => ?_)
  · obtain ⟨x, rfl, _⟩ := h
    rfl
  · obtain ⟨x, rfl, h1, h2, q⟩ := h
    refine ⟨_, (pss_one (ps_ret (pe_ifExp (pt_cmpR op_gt (pv 0) pe_int (nomark _)) (pe_op op_sub (pe_op (op_mulK K) pe_int (pv 0)) pe_int) (pe_op op_sub (pe_op (op_mulK K) (pe_un un_neg pe_int) (pv 0)) pe_int)))), ?_⟩
    walk_at "go"
    refine if_2 (fun h0 => ?_) fun h0 => ?_
    · walk_at "go"
      refine r_mul (.inl ⟨by decide, by decide⟩) ?_
      walk_at "go"
      have e : spl x = 2 * x - 2 := if_pos h0
      rw [← e]
      exact q
    · walk_at "go"
      refine r_mul (.inl ⟨by decide, by decide⟩) ?_
      walk_at "go"
      have e : spl x = -2 * x - 1 := if_neg h0
      rw [← e]
      exact q
def sp_walk_order (K : PySem.W.Frag) : Sp := fun vs H Q _ => ∃ (a : Addr) (w : List Int), vs = [.ref a] ∧ IT K H a w ∧ w.length ≤ 5000 ∧ Stp 4 w ∧ ∀ p H1, Ex H H1 → Dp K H1 (.ref p) (kd w.length (w.map spl)) → Q (.ref p) H1
theorem ok_walk_order (T : Tx K mg A) : FnOk P w K mg base CX0 2 A.a_walk_order A.f_walk_order P_walk_order (sp_walk_order K) := by
  refine T.F_walk_order.ok sc_walk_order (fun vs H Q E h => ?_) (fun cdv A' outer s H vs Q E hr h => ?_)
  · obtain ⟨a, w, rfl, _⟩ := h
    rfl
  · obtain ⟨a, w, rfl, ha, zw, sw, q⟩ := h
    refine ⟨_, (pss_one (ps_ret (pe_tup (pa_cons (pe_callB (len_K K) (by rfl) T.n_len (by decide +kernel) (pa_cons (pv 0) pa_nil)) (pa_cons (pe_lc (own := [("step", 1)]) rfl sc_walk_order.nd (pi_tupK K (pv 0)) (blkOk_by (own := [("step", 1)]) (N := N_walk_order) (sc := defScope s_walk_order) (by decide +kernel)) (fun _ _ _ _ _ => (pg_name (i := 1) sc_walk_order.nd rfl (Or.inl rfl))) (fun _ _ _ _ _ => pts_nil) (fun _ _ _ _ _ => (pe_call (ok_step_place T) (hr.mono (by decide)) (by rfl) T.g_step_place T.F_step_place.kp T.b_step_place .nil pass0 (pa_cons (pv 1) pa_nil)))) pa_nil))))), ?_⟩
    walk_at "go"
    refine r_lenT ha ?_
    rw [List.length_map]
    walk_at "go"
    refine r_itT ha (r_cmT (ys := (w.map spl).map V.int) ha (by simp) (by simp; omega) (fun _ => rfl) (fun i x y H1 hx hy e1 Q' k => ?_) fun p H1 hp e1 h1 => ?_)
    · rw [List.getElem?_map] at hx
      rw [List.getElem?_map, List.getElem?_map] at hy
      cases hn : w[i]? with
      | none => rw [hn] at hx; cases hx
      | some z =>
        rw [hn] at hx hy
        cases hx
        cases hy
        have := sw z (List.mem_of_getElem? hn)
        walk_at "go"
        exact ⟨z, rfl, by omega, by omega, k H1 (Ex.refl H1)⟩
    · walk_at "go"
      refine r_newT (by simp) fun p2 H3 hp2 e3 h3 => ?_
      exact q p2 H3 (e1.trans e3) (dp_kd (t_of h3) (ex_l e3 (l_of h1)))
/-- m begun at each of its steps -/
def rots (m : List Int) (k : Nat) : List (List Int) := (List.range k).map (Fg.rotn m)
theorem rots_len (m : List Int) (k : Nat) : (rots m k).length = k := by unfold rots; rw [List.length_map, List.length_range]
theorem rots_at {m : List Int} {k i : Nat} (h : i < k) : (rots m k)[i]? = some (Fg.rotn m i) := by unfold rots; rw [List.getElem?_map, List.getElem?_range h]; rfl
theorem mem_rots {m w : List Int} {k : Nat} : w ∈ rots m k ↔ ∃ i, i < k ∧ w = Fg.rotn m i := by
  unfold rots
  rw [List.mem_map]
  constructor
  · rintro ⟨i, h, e⟩
    exact ⟨i, List.mem_range.mp h, e.symm⟩
  · rintro ⟨i, h, e⟩
    exact ⟨i, List.mem_range.mpr h, e.symm⟩
def sp_rounds_of (K : PySem.W.Frag) : Sp := fun vs H Q _ => ∃ (a : Addr) (m : List Int), vs = [.ref a] ∧ IT K H a m ∧ m.length ≤ 1000 ∧ ∀ p xs H1, Ex H H1 → H p = none → H1 p = some (.lst xs) → WkA K H1 xs (rots m (max 1 m.length)) → Q (.ref p) H1
theorem ok_rounds_of (T : Tx K mg A) : FnOk P w K mg base CX0 1 A.a_rounds_of A.f_rounds_of P_rounds_of (sp_rounds_of K) := by
  refine T.F_rounds_of.ok sc_rounds_of (fun vs H Q E h => ?_) (fun cdv A' outer s H vs Q E hr h => ?_)
  · obtain ⟨a, m, rfl, _⟩ := h
    rfl
  · obtain ⟨a, m, rfl, ha, hz, q⟩ := h
    refine ⟨_, (pss_one (ps_ret (pe_lc (own := [("begun", 1)]) rfl sc_rounds_of.nd (pi_range1 (by rfl) T.n_range (pa_cons (pe_callB (max2_K rfl) (by rfl) T.n_max (by decide +kernel) (pa_cons pe_int (pa_cons (pe_callB (len_K K) (by rfl) T.n_len (by decide +kernel) (pa_cons (pv 0) pa_nil)) pa_nil))) pa_nil)) (blkOk_by (own := [("begun", 1)]) (N := N_rounds_of) (sc := defScope s_rounds_of) (by decide +kernel)) (fun _ _ _ _ _ => (pg_name (i := 1) sc_rounds_of.nd rfl (Or.inl rfl))) (fun _ _ _ _ _ => pts_nil) (fun _ _ _ _ _ => (pe_op (op_addK K) (pe_slice (sl_K K) (pv 0) (po_some (pv 1)) po_none) (pe_slice (sl_K K) (pv 0) po_none (po_some (pv 1)))))))), ?_⟩
    walk_at "go"
    refine r_lenT ha ?_
    rw [List.length_map]
    walk_at "go"
    obtain ⟨k, hk⟩ : ∃ k, max 1 m.length = k := ⟨_, rfl⟩
    rw [show max (1 : Int) (m.length : Int) = (k : Int) by omega]
    refine r_rng1 (by omega) (by omega) ?_
    rw [show ((k : Nat) : Int).toNat = k from rfl]
    refine r_cmRA (lo := 0) (m := k) (fun i acc H' => Ex H H' ∧ WkA K H' acc ((rots m k).take i)) (by omega) (fun _ => rfl) (fun D hD o => ⟨Ex.new hD, WkA.nil⟩) (fun i H1 D acc hi hza hacc hall Q' kk => ?_) fun p H1 ys hp zy k1 hall => ?_
    · have z := hall (.lst acc)
      rw [upd_id hacc] at z
      obtain ⟨e1, wacc⟩ := z
      have hD0 : H D = none := ex_none fun o => (hall o).1
      walk_at "go"
      rw [show (0 : Int) + (i : Int) = (i : Int) by omega]
      refine r_slT (ex_t e1 ha) fun p1 H2 e2 k2 => ?_
      rw [cut_from (by omega), Int.toNat_natCast] at k2
      walk_at "go"
      refine r_slT (ex_t (e1.trans e2) ha) fun p2 H3 e3 k3 => ?_
      rw [cut_to (by omega), Int.toNat_natCast] at k3
      refine r_catT (ex_t e3 k2) k3 (by simp; omega) fun p3 H4 e4 k4 => ?_
      rw [← List.map_append] at k4
      have e24 := (e2.trans e3).trans e4
      refine kk _ H4 (e24 _ _ hacc) fun o => ⟨ex_put (e1.trans e24) hD0, ?_⟩
      rw [L2.take_snoc (rots_at hi)]
      exact ((wacc.ex e24).tx (TX.upd (e24 _ _ hacc))).snoc ⟨p3, rfl, tx_t (TX.upd (e24 _ _ hacc)) k4⟩
    have z := hall (.lst ys)
    rw [upd_id k1] at z
    obtain ⟨e1, wys⟩ := z
    rw [List.take_of_length_le (by rw [rots_len]; exact Nat.le_refl _)] at wys
    exact q p ys H1 e1 hp k1 (hk ▸ wys)
def sp_turned (K : PySem.W.Frag) : Sp := fun vs H Q _ => ∃ a ns b ms, vs = [.ref a, .ref b] ∧ IT K H a ns ∧ IT K H b ms ∧ ns.length ≤ 1500 ∧ ms.length ≤ 1500 ∧ Stp 4 ns ∧ Stp 4 ms ∧ ∀ p H1, Ex H H1 → IT K H1 p (Fg.tn ns ms) → Q (.ref p) H1
theorem ok_turned (T : Tx K mg A) : FnOk P w K mg base CX0 5 A.a_turned A.f_turned P_turned (sp_turned K) := by
  refine T.F_turned.ok sc_turned (fun vs H Q E h => ?_) (fun cdv A' outer s H vs Q E hr h => ?_)
  · obtain ⟨a, ns, b, ms, rfl, _⟩ := h
    rfl
  · obtain ⟨a, ns, b, ms, rfl, ha, hb, za, zb, sa, sb, q⟩ := h
    refine ⟨_, (pss_cons (ps_expr (pe_call (ok_check_walk T) (hr.mono (by decide)) (by rfl) T.g_check_walk T.F_check_walk.kp T.b_check_walk .nil pass0 (pa_cons (pe_glob (v := .int 4) (by rfl) T.c_MOST_LETTERS.choose_spec ⟨_, rfl⟩) (pa_cons (pv 0) pa_nil))))
      (pss_cons (ps_expr (pe_call (ok_check_walk T) (hr.mono (by decide)) (by rfl) T.g_check_walk T.F_check_walk.kp T.b_check_walk .nil pass0 (pa_cons (pe_glob (v := .int 4) (by rfl) T.c_MOST_LETTERS.choose_spec ⟨_, rfl⟩) (pa_cons (pv 1) pa_nil))))
      (pss_one (ps_ret (pe_call (ok_straightened T) (hr.mono (by decide)) (by rfl) T.g_straightened T.F_straightened.kp T.b_straightened .nil pass0 (pa_cons (pe_op (op_addK K) (pe_op (op_addK K) (pe_call (ok_turned_back T) (hr.mono (by decide)) (by rfl) T.g_turned_back T.F_turned_back.kp T.b_turned_back .nil pass0 (pa_cons (pv 1) pa_nil)) (pv 0)) (pv 1)) pa_nil)))))), ?_⟩
    walk_at "go"
    refine ⟨4, a, ns, rfl, ha, by omega, sa, fun H1 e1 => ?_⟩
    walk_at "go"
    refine ⟨4, b, ms, rfl, ex_t e1 hb, by omega, sb, fun H2 e2 => ?_⟩
    have e12 := e1.trans e2
    walk_at "go"
    refine ⟨b, ms, rfl, ex_t e12 hb, by omega, fun p3 H3 e3 k3 => ?_⟩
    have e13 := e12.trans e3
    walk_at "go"
    refine r_catT k3 (ex_t e13 ha) (by simp [Fg.bk_len]; omega) fun p4 H4 e4 k4 => ?_
    rw [← List.map_append] at k4
    have e14 := e13.trans e4
    walk_at "go"
    refine r_catT k4 (ex_t e14 hb) (by simp [Fg.bk_len]; omega) fun p5 H5 e5 k5 => ?_
    rw [← List.map_append] at k5
    walk_at "go"
    exact ⟨p5, _, rfl, k5, by simp [Fg.bk_len]; omega, fun p6 H6 e6 k6 => q p6 H6 ((e14.trans e5).trans e6) k6⟩
theorem stp_rd {l : Int} {u : List Int} (h : Stp l u) : Stp l (Fg.rd u) := fun x hx => h x (Fg.mem_rd hx)
theorem stp_nz {l : Int} {u : List Int} (h : Stp l u) : ∀ x ∈ u, x ≠ 0 := fun x hx => (h x hx).1
theorem mid_sub {u : List Int} {x : Int} (h : x ∈ Fg.mid u) : x ∈ u := by
  unfold Fg.mid at h
  exact List.mem_of_mem_drop (List.mem_of_mem_take h)
theorem lead_sub {u : List Int} {x : Int} (h : x ∈ Fg.lead u) : x ∈ u := by
  unfold Fg.lead at h
  exact List.mem_of_mem_take h
theorem rots_st {l : Int} {m w : List Int} {k : Nat} (h : Stp l m) (hw : w ∈ rots m k) : Stp l w := by
  obtain ⟨i, _, rfl⟩ := mem_rots.mp hw
  exact fun x hx => h x (Fg.mem_rotn.mp hx)
theorem rots_ln {m w : List Int} {k : Nat} (hw : w ∈ rots m k) : w.length = m.length := by
  obtain ⟨i, _, rfl⟩ := mem_rots.mp hw
  exact Fg.rotn_len m i
/-- min of walks by their order -/
theorem r_minW {K : PySem.W.Frag} {H : Hp} {Q : VK} {f a : Addr} {xs : List V} {ws : List (List Int)} (ha : SqL K H a xs) (wa : WkA K H xs ws) (h0 : 0 < ws.length) (hz : ∀ w ∈ ws, w.length ≤ 5000 ∧ Stp 4 w) (q : ∀ p w H1, Ex H H1 → IT K H1 p w → Fg.Lst ws w → Q (.ref p) H1) : rMinKey K (sp_walk_order K) f [.ref a] [.ref f] H Q := by
  have zx : xs.length = ws.length := wa.len
  have bt : ∀ i j u v, ws[i]? = some u → ws[j]? = some v → (fun i j => PySem.W.dataLt ((fun i => kd (ws.getD i []).length ((ws.getD i []).map spl)) i) ((fun i => kd (ws.getD i []).length ((ws.getD i []).map spl)) j)) i j = Fg.kl u v := fun i j u v hu hv => by
    show PySem.W.dataLt (kd (ws.getD i []).length ((ws.getD i []).map spl)) (kd (ws.getD j []).length ((ws.getD j []).map spl)) = _
    rw [List.getD_eq_getElem?_getD, hu, List.getD_eq_getElem?_getD, hv]
    exact dataLt_kls (stp_nz (hz u (List.mem_of_getElem? hu)).2) (stp_nz (hz v (List.mem_of_getElem? hv)).2)
  refine ⟨a, xs, fun i => kd (ws.getD i []).length ((ws.getD i []).map spl), rfl, rfl, ha, by omega, fun j x H1 hx e1 Q' k => ?_, fun i j _ _ => ⟨alike_kd _ _ _ _, (fun z => nomatch z), depth_kd _ _⟩, fun x H1 hx e1 => ?_⟩
  · obtain ⟨w, hw, p, rfl, hp⟩ := (wa.ex e1).get hx
    have := hz w (List.mem_of_getElem? hw)
    refine ⟨p, w, rfl, hp, this.1, this.2, fun p2 H2 e2 d2 => k _ H2 e2 ?_⟩
    dsimp only
    rw [List.getD_eq_getElem?_getD, hw]
    exact d2
  · obtain ⟨w, hw, p, rfl, hp⟩ := (wa.ex e1).get hx
    rw [zx] at hw
    exact q p w H1 e1 hp (Fg.best_is bt h0 hw)
def sp_least_turned (K : PySem.W.Frag) : Sp := fun vs H Q _ => ∃ a ns, vs = [.ref a] ∧ IT K H a ns ∧ ns.length ≤ 1000 ∧ Stp 4 ns ∧ ∀ p w H1, Ex H H1 → IT K H1 p w → Fg.Lst (rots (Fg.mid (Fg.rd ns)) (max 1 (Fg.mid (Fg.rd ns)).length)) w → Q (.ref p) H1
theorem ok_least_turned (T : Tx K mg A) : FnOk P w K mg base CX0 5 A.a_least_turned A.f_least_turned P_least_turned (sp_least_turned K) := by
  refine T.F_least_turned.ok sc_least_turned (fun vs H Q E h => ?_) (fun cdv A' outer s H vs Q E hr h => ?_)
  · obtain ⟨a, ns, rfl, _⟩ := h
    rfl
  · obtain ⟨a, ns, rfl, ha, za, sa, q⟩ := h
    refine ⟨_, (pss_cons (ps_expr (pe_call (ok_check_walk T) (hr.mono (by decide)) (by rfl) T.g_check_walk T.F_check_walk.kp T.b_check_walk .nil pass0 (pa_cons (pe_glob (v := .int 4) (by rfl) T.c_MOST_LETTERS.choose_spec ⟨_, rfl⟩) (pa_cons (pv 0) pa_nil))))
      (pss_cons (ps_set (i := 1) sc_least_turned.nd rfl (Or.inl rfl) (pe_ix (ix_K K) (pe_call (ok_lead_and_core T) (hr.mono (by decide)) (by rfl) T.g_lead_and_core T.F_lead_and_core.kp T.b_lead_and_core .nil pass0 (pa_cons (pe_call (ok_straightened T) (hr.mono (by decide)) (by rfl) T.g_straightened T.F_straightened.kp T.b_straightened .nil pass0 (pa_cons (pv 0) pa_nil)) pa_nil)) pe_int (fun _ _ => rfl)))
      (pss_one (ps_ret (pe_callBK (cr_minKey (ok_walk_order T) (hr.mono (by decide)) T.b_walk_order) (by rfl) T.n_min (by decide +kernel) (pa_cons (pe_call (ok_rounds_of T) (hr.mono (by decide)) (by rfl) T.g_rounds_of T.F_rounds_of.kp T.b_rounds_of .nil pass0 (pa_cons (pv 1) pa_nil)) pa_nil) (pk_cons (pe_glob (v := .ref A.a_walk_order) (by rfl) T.g_walk_order rfl) pk_nil)))))), ?_⟩
    have zr := Fg.rd_len ns
    have zm := mid_len (Fg.rd ns)
    have sm : Stp 4 (Fg.mid (Fg.rd ns)) := fun x hx => sa x (Fg.mem_rd (mid_sub hx))
    walk_at "go"
    refine ⟨4, a, ns, rfl, ha, by omega, sa, fun H1 e1 => ?_⟩
    walk_at "go"
    refine ⟨a, ns, rfl, ex_t e1 ha, by omega, fun p2 H2 e2 k2 => ?_⟩
    walk_at "go"
    refine ⟨p2, _, rfl, k2, by omega, fun p3 H3 e3 k3 => ?_⟩
    obtain ⟨b, c, hp, hb, hc⟩ := k3.ex
    walk_at "go"
    refine r_ixT hp rfl ?_
    walk_at "go"
    refine ⟨c, _, rfl, hc, by omega, fun p4 xs H4 e4 hp4 k4 wa => ?_⟩
    have e14 := ((e1.trans e2).trans e3).trans e4
    walk_at "go"
    refine r_minW (l_of k4) wa (by rw [rots_len]; omega) (fun w hw => ⟨by rw [rots_ln hw]; omega, rots_st sm hw⟩) fun p w H5 e5 k5 ls => ?_
    exact q p w H5 (e14.trans e5) k5 ls
def sp_once_round (K : PySem.W.Frag) : Sp := fun vs H Q _ => ∃ a ns, vs = [.ref a] ∧ IT K H a ns ∧ ns.length ≤ 1000 ∧ ∀ l p H1, (ns = [] ∨ Fg.Om ns l) → Ex H H1 → IT K H1 p (ns.take l) → Q (.ref p) H1
theorem ok_once_round (T : Tx K mg A) : FnOk P w K mg base CX0 1 A.a_once_round A.f_once_round P_once_round (sp_once_round K) := by
  refine T.F_once_round.ok sc_once_round (fun vs H Q E h => ?_) (fun cdv A' outer s H vs Q E hr h => ?_)
  · obtain ⟨a, ns, rfl, _⟩ := h
    rfl
  · obtain ⟨a, ns, rfl, ha, hz, q0⟩ := h
    refine ⟨_, (pss_cons (ps_set (i := 1) sc_once_round.nd rfl (Or.inl rfl) pe_int)
      (pss_cons (ps_while PassesOwn.never (pt_cmpR (op_neK K hr.units) (pe_op (op_mulK K) (pe_slice (sl_K K) (pv 0) po_none (po_some (pv 1))) (pe_op op_fdivW (pe_callB (len_K K) (by rfl) T.n_len (by decide +kernel) (pa_cons (pv 0) pa_nil)) (pv 1))) (pv 0) (nomark _)) (pss_one (ps_aug (i := 1) sc_once_round.nd rfl (Or.inl rfl) pe_int ip_add)))
      (pss_one (ps_ret (pe_slice (sl_K K) (pv 0) po_none (po_some (pv 1))))))), ?_⟩
    by_cases hne : ns = []
    · subst hne
      walk_at "go"
      refine st_while (fun m σ' H' => Ex H H' ∧ σ' = [some (.ref a), some (.int 1)]) 0 ⟨Ex.refl H, rfl⟩ ?_
      rintro m σ' H' ⟨e0, rfl⟩
      walk_at "go"
      refine r_slT (ex_t e0 ha) fun c H1 e1 h1 => ?_
      walk_at "go"
      refine r_lenT (ex_t (e0.trans e1) ha) ?_
      walk_at "go"
      refine r_div (b := 20) (by omega) (by omega) (by decide) (by decide) ?_
      walk_at "go"
      refine r_repT h1 (by decide) (by decide) (by simp [cutV]) fun d H2 e2 h2 => ?_
      walk_at "go"
      have h2 : IT K H2 d [] := h2
      refine r_neT h2 (ex_t ((e0.trans e1).trans e2) ha) ?_
      rw [decide_eq_true (rfl : ([] : List Int) = [])]
      walk_at "go"
      refine r_slT (ex_t ((e0.trans e1).trans e2) ha) fun f H3 e3 h3 => ?_
      exact q0 1 f H3 (.inl rfl) (((e0.trans e1).trans e2).trans e3) h3
    have q : ∀ l p H1, Fg.Om ns l → Ex H H1 → IT K H1 p (ns.take l) → Q (.ref p) H1 := fun l p H1 h => q0 l p H1 (.inr h)
    have hpos : 0 < ns.length := List.length_pos_iff.mpr hne
    walk_at "go"
    refine st_while (fun m σ' H' => ∃ k : Nat, Ex H H' ∧ σ' = [some (.ref a), some (.int (k : Int))] ∧ m + k = ns.length ∧ 1 ≤ k ∧ ∀ j, 1 ≤ j → j < k → ¬ Fg.Per ns j) (ns.length - 1) ⟨1, Ex.refl H, rfl, by omega, Nat.le_refl _, fun j h1 h2 => absurd h2 (by omega)⟩ ?_
    rintro m σ' H' ⟨k, e0, rfl, hm, hk1, ho⟩
    have k1 : ((k : Nat) : Int).toNat = k := by omega
    walk_at "go"
    refine r_slT (ex_t e0 ha) fun c H1 e1 h1 => ?_
    rw [cut_to (by omega), k1] at h1
    walk_at "go"
    refine r_lenT (ex_t (e0.trans e1) ha) ?_
    walk_at "go"
    rw [List.length_map]
    refine r_div (b := 20) (by omega) (by omega) (by decide) (by decide) ?_
    walk_at "go"
    have hd : ((ns.length : Int) / (k : Int)) = ((ns.length / k : Nat) : Int) := by rw [← Int.natCast_ediv]
    rw [hd]
    have hdl : ns.length / k ≤ ns.length := Nat.div_le_self _ _
    have hq0 : (0 : Int) ≤ ((ns.length / k : Nat) : Int) := Int.natCast_nonneg _
    have hq1 : ((ns.length / k : Nat) : Int) ≤ 1000 := by
      have : ns.length / k ≤ 1000 := by generalize ns.length / k = t at hdl; omega
      exact Int.ofNat_le.mpr this
    refine r_repT h1 hq0 hq1 (by rw [List.length_map, List.length_take]; omega) fun d H2 e2 h2 => ?_
    have hf : (List.replicate ((ns.length / k : Nat) : Int).toNat ((ns.take k).map V.int)).flatten = (Fg.rep (ns.length / k) (ns.take k)).map V.int := by
      rw [← Fg.rep_flat, Int.toNat_natCast]
      simp [List.map_flatten]
    rw [hf] at h2
    walk_at "go"
    refine r_neT h2 (ex_t ((e0.trans e1).trans e2) ha) ?_
    walk_at "go"
    refine ifn_2 (fun h3 => ?_) fun h3 => ?_
    · refine ⟨_, fun _ _ h => h, ?_⟩
      walk_at "go"
      have hkn : k < ns.length := by
        refine Nat.lt_of_le_of_ne (by omega) fun e => h3 ?_
        have := Fg.per_full ns hne
        unfold Fg.Per at this
        rw [e]
        exact this
      refine ⟨m - 1, by omega, k + 1, (e0.trans e1).trans e2, rfl, by omega, by omega, fun j hj1 hj2 => ?_⟩
      rcases Nat.lt_or_ge j k with z | z
      · exact ho j hj1 z
      · have : j = k := by omega
        rw [this]
        exact h3
    · walk_at "go"
      refine r_slT (ex_t ((e0.trans e1).trans e2) ha) fun p H3 e3 h4 => ?_
      rw [cut_to (by omega), k1] at h4
      exact q k p H3 ⟨hk1, by omega, h3, ho⟩ (((e0.trans e1).trans e2).trans e3) h4
def sp_root (K : PySem.W.Frag) : Sp := fun vs H Q _ => ∃ a ns, vs = [.ref a] ∧ IT K H a ns ∧ ns.length ≤ 1000 ∧ Stp 4 ns ∧ ∀ p u t H1, Ex H H1 → RootIs (Fg.rd ns) u t → P1N K H1 p u t → Q (.ref p) H1
theorem ok_root (T : Tx K mg A) : FnOk P w K mg base CX0 5 A.a_root A.f_root P_root (sp_root K) := by
  refine T.F_root.ok sc_root (fun vs H Q E h => ?_) (fun cdv A' outer s H vs Q E hr h => ?_)
  · obtain ⟨a, ns, rfl, _⟩ := h
    rfl
  · obtain ⟨a, ns, rfl, ht, hz, hs, q⟩ := h
    refine ⟨_, (pss_cons (ps_expr (pe_call (ok_check_walk T) (hr.mono (by decide)) (by rfl) T.g_check_walk T.F_check_walk.kp T.b_check_walk .nil pass0 (pa_cons (pe_glob (v := .int 4) (by rfl) T.c_MOST_LETTERS.choose_spec ⟨_, rfl⟩) (pa_cons (pv 0) pa_nil))))
      (pss_cons (ps_asg (pe_call (ok_lead_and_core T) (hr.mono (by decide)) (by rfl) T.g_lead_and_core T.F_lead_and_core.kp T.b_lead_and_core .nil pass0 (pa_cons (pe_call (ok_straightened T) (hr.mono (by decide)) (by rfl) T.g_straightened T.F_straightened.kp T.b_straightened .nil pass0 (pa_cons (pv 0) pa_nil)) pa_nil)) (pg_tupK K (by rfl) (pgs_cons (pg_name (i := 1) sc_root.nd rfl (Or.inl rfl)) (pgs_cons (pg_name (i := 2) sc_root.nd rfl (Or.inl rfl)) pgs_nil))))
      (pss_cons (ps_if (pt_not (pt_truK K (pv 2))) (pss_one (ps_ret (pe_tup (pa_cons (pe_tup pa_nil) (pa_cons pe_int pa_nil))))) pss_nil)
      (pss_cons (ps_set (i := 3) sc_root.nd rfl (Or.inl rfl) (pe_call (ok_once_round T) (hr.mono (by decide)) (by rfl) T.g_once_round T.F_once_round.kp T.b_once_round .nil pass0 (pa_cons (pv 2) pa_nil)))
      (pss_one (ps_ret (pe_tup (pa_cons (pe_op (op_addK K) (pe_op (op_addK K) (pv 1) (pv 3)) (pe_call (ok_turned_back T) (hr.mono (by decide)) (by rfl) T.g_turned_back T.F_turned_back.kp T.b_turned_back .nil pass0 (pa_cons (pv 1) pa_nil))) (pa_cons (pe_op op_fdivW (pe_callB (len_K K) (by rfl) T.n_len (by decide +kernel) (pa_cons (pv 2) pa_nil)) (pe_callB (len_K K) (by rfl) T.n_len (by decide +kernel) (pa_cons (pv 3) pa_nil))) pa_nil))))))))), ?_⟩
    walk_at "go"
    refine ⟨4, a, ns, rfl, ht, by omega, hs, fun H1 e1 => ?_⟩
    walk_at "go"
    refine ⟨a, ns, rfl, ex_t e1 ht, by omega, fun p H2 e2 h2 => ?_⟩
    have hl : (Fg.rd ns).length ≤ 1000 := Nat.le_trans (Fg.rd_len _) hz
    walk_at "go"
    refine ⟨p, _, rfl, h2, by omega, fun p2 H3 e3 h3 => ?_⟩
    obtain ⟨b, c, hp2, hb, hc⟩ := h3.ex
    walk_at "go"
    refine r_tup2 hp2 ?_
    walk_at "go"
    refine r_truT hc ?_
    have e := (e1.trans e2).trans e3
    have hll := lead_len (Fg.rd ns)
    have hml := mid_len (Fg.rd ns)
    by_cases hm : Fg.mid (Fg.rd ns) = []
    · rw [show (!((Fg.mid (Fg.rd ns)).map V.int).isEmpty) = false by rw [hm]; rfl]
      walk_at "go"
      refine r_newT (by simp) fun z H4 _ e4 h4 => ?_
      walk_at "go"
      refine r_newT (by simp) fun y H5 _ e5 h5 => ?_
      exact q y [] 0 H5 (e.trans (e4.trans e5)) (.inl ⟨hm, rfl, rfl⟩) ⟨z, t_of h5, t_of (e5 _ _ h4)⟩
    · have hne := hm
      rw [show (!((Fg.mid (Fg.rd ns)).map V.int).isEmpty) = true by simp [hm]]
      walk_at "go"
      refine ⟨c, _, rfl, hc, by omega, fun l d H4 ho e4 h4 => ?_⟩
      have ho := ho.resolve_left hne
      walk_at "go"
      refine r_catT (ex_t e4 hb) h4 (by simp; omega) fun f H5 e5 h5 => ?_
      walk_at "go"
      refine ⟨b, _, rfl, ex_t (e4.trans e5) hb, by omega, fun g H6 e6 h6 => ?_⟩
      refine r_catT (ex_t e6 h5) h6 (by simp [Fg.bk_len]; omega) fun k H7 e7 h7 => ?_
      walk_at "go"
      refine r_lenT (ex_t (((e4.trans e5).trans e6).trans e7) hc) ?_
      walk_at "go"
      refine r_lenT (ex_t ((e5.trans e6).trans e7) h4) ?_
      walk_at "go"
      rw [List.length_map, List.length_map, List.length_take, Nat.min_eq_left ho.le]
      have hl1 := ho.pos
      have hl2 := ho.le
      refine r_div (b := 20) (by omega) (by omega) (by decide) (by decide) ?_
      walk_at "go"
      refine r_newT (by simp) fun y H8 _ e8 h8 => ?_
      have hd : (((Fg.mid (Fg.rd ns)).length : Int) / (l : Int)) = (((Fg.mid (Fg.rd ns)).length / l : Nat) : Int) := by rw [← Int.natCast_ediv]
      rw [hd] at h8
      refine q y (Fg.lead (Fg.rd ns) ++ (Fg.mid (Fg.rd ns)).take l ++ Fg.bk (Fg.lead (Fg.rd ns))) _ H8 (e.trans ((((e4.trans e5).trans e6).trans e7).trans e8)) (.inr ⟨hne, l, ho, rfl, rfl⟩) ⟨k, t_of h8, ?_⟩
      rw [← List.map_append, ← List.map_append] at h7
      exact ex_t e8 h7
theorem first_at {w : List Int} : ∀ {ws : List (List Int)}, w ∈ ws → ∃ j : Nat, ws[j]? = some w ∧ ∀ i, i < j → ws[i]? ≠ some w
  | v :: ws, h => by
    by_cases c : v = w
    · exact ⟨0, by rw [c]; rfl, fun i hi => by omega⟩
    · rcases List.mem_cons.mp h with h | h
      · exact absurd h.symm c
      · obtain ⟨j, h1, h2⟩ := first_at h
        refine ⟨j + 1, h1, fun i hi z => ?_⟩
        cases i with
        | zero => exact c (Option.some.inj z)
        | succ i => exact h2 i (by omega) z
theorem dWs_at {ws : List (List Int)} {i : Nat} {w : List Int} (h : ws[i]? = some w) : (dWs ws)[i]? = some (.tuple (w.map .int)) := by
  unfold dWs
  rw [List.getElem?_map, h]
  rfl
/-- list.index of a walk -/
theorem r_indexW {K : PySem.W.Frag} {H : Hp} {Q : VK} {a b : Addr} {xs : List V} {ws : List (List Int)} {w : List Int} (hl : SqL K H a xs) (wa : WkA K H xs ws) (hw : IT K H b w) (hm : w ∈ ws) (q : ∀ j : Nat, ws[j]? = some w → (∀ i, i < j → ws[i]? ≠ some w) → Q (.int (j : Int)) H) : rIndexD K (.ref a) [.ref b] H Q := by
  obtain ⟨j, h1, h2⟩ := first_at hm
  refine ⟨a, _, _, dWs ws, j, _, rfl, rfl, dp_wl hl wa, dp_t hw, shaped_dWs ws, shaped_t w, dWs_at h1, by rw [eqv_tints]; exact decide_eq_true rfl, fun i z hi hz => ?_, q j h1 h2⟩
  cases e : ws[i]? with
  | none =>
    unfold dWs at hz
    rw [List.getElem?_map, e] at hz
    cases hz
  | some v =>
    rw [dWs_at e] at hz
    cases hz
    rw [eqv_tints]
    exact decide_eq_false fun z => h2 i hi (by rw [e, z])
/-- what turned_onto tells -/
def Onto (K : PySem.W.Frag) (H : Hp) (x : V) (u v : List Int) : Prop :=
  (Fg.mid v ∉ rots (Fg.mid u) (max 1 (Fg.mid u).length) ∧ x = .non) ∨ (Fg.mid v ∈ rots (Fg.mid u) (max 1 (Fg.mid u).length) ∧ ∃ p f, x = .ref p ∧ IT K H p f ∧ Fg.LeastT u v f ∧ Stp 4 f ∧ f.length ≤ 2 * u.length + v.length)
theorem mid_nil {u : List Int} (h : Fg.Str u) (hs : Stp 4 u) : Fg.mid u = [] ↔ u = [] := by
  constructor
  · intro e
    by_cases c : u = []
    · exact c
    · exact absurd e (Fg.core_parts h c (stp_nz hs)).2.1
  · rintro rfl
    rfl
theorem least_nil : Fg.LeastT [] [] [] := ⟨Fg.str_nil, rfl, fun g _ _ hg => Fg.kl_lt (List.length_pos_iff.mpr hg)⟩
theorem lst_two {f0 f1 f : List Int} (h : Fg.Lst [f0, f1] f) : (f = f1 ∧ Fg.kl f1 f0 = true) ∨ (f = f0 ∧ Fg.kl f1 f0 = false) := by
  have l0 := h.le f0 (by simp)
  have l1 := h.le f1 (by simp)
  rcases List.mem_cons.mp h.mem with rfl | m
  · exact .inr ⟨rfl, l1⟩
  · obtain rfl := List.mem_singleton.mp m
    by_cases c : f = f0
    · rw [← c]
      exact .inr ⟨rfl, Fg.kl_irr f⟩
    · rcases Fg.kl_tot c with z | z
      · exact .inl ⟨rfl, z⟩
      · rw [l0] at z; cases z
def sp_turned_onto (K : PySem.W.Frag) : Sp := fun vs H Q _ => ∃ a ns b ms, vs = [.ref a, .ref b] ∧ IT K H a ns ∧ IT K H b ms ∧ ns.length ≤ 800 ∧ ms.length ≤ 800 ∧ Stp 4 ns ∧ Stp 4 ms ∧ ∀ x H1, Ex H H1 → Onto K H1 x (Fg.rd ns) (Fg.rd ms) → Q x H1
theorem ok_turned_onto (T : Tx K mg A) : FnOk P w K mg base CX0 5 A.a_turned_onto A.f_turned_onto P_turned_onto (sp_turned_onto K) := by
  refine T.F_turned_onto.ok sc_turned_onto (fun vs H Q E h => ?_) (fun cdv A' outer s H vs Q E hr h => ?_)
  · obtain ⟨a, ns, b, ms, rfl, _⟩ := h
    rfl
  · obtain ⟨a, ns, b, ms, rfl, ha, hb, za, zb, sa, sb, q⟩ := h
    refine ⟨_, (pss_cons (ps_expr (pe_call (ok_check_walk T) (hr.mono (by decide)) (by rfl) T.g_check_walk T.F_check_walk.kp T.b_check_walk .nil pass0 (pa_cons (pe_glob (v := .int 4) (by rfl) T.c_MOST_LETTERS.choose_spec ⟨_, rfl⟩) (pa_cons (pv 0) pa_nil))))
      (pss_cons (ps_expr (pe_call (ok_check_walk T) (hr.mono (by decide)) (by rfl) T.g_check_walk T.F_check_walk.kp T.b_check_walk .nil pass0 (pa_cons (pe_glob (v := .int 4) (by rfl) T.c_MOST_LETTERS.choose_spec ⟨_, rfl⟩) (pa_cons (pv 1) pa_nil))))
      (pss_cons (ps_asg (pe_call (ok_lead_and_core T) (hr.mono (by decide)) (by rfl) T.g_lead_and_core T.F_lead_and_core.kp T.b_lead_and_core .nil pass0 (pa_cons (pe_call (ok_straightened T) (hr.mono (by decide)) (by rfl) T.g_straightened T.F_straightened.kp T.b_straightened .nil pass0 (pa_cons (pv 0) pa_nil)) pa_nil)) (pg_tupK K (by rfl) (pgs_cons (pg_name (i := 2) sc_turned_onto.nd rfl (Or.inl rfl)) (pgs_cons (pg_name (i := 3) sc_turned_onto.nd rfl (Or.inl rfl)) pgs_nil))))
      (pss_cons (ps_asg (pe_call (ok_lead_and_core T) (hr.mono (by decide)) (by rfl) T.g_lead_and_core T.F_lead_and_core.kp T.b_lead_and_core .nil pass0 (pa_cons (pe_call (ok_straightened T) (hr.mono (by decide)) (by rfl) T.g_straightened T.F_straightened.kp T.b_straightened .nil pass0 (pa_cons (pv 1) pa_nil)) pa_nil)) (pg_tupK K (by rfl) (pgs_cons (pg_name (i := 4) sc_turned_onto.nd rfl (Or.inl rfl)) (pgs_cons (pg_name (i := 5) sc_turned_onto.nd rfl (Or.inl rfl)) pgs_nil))))
      (pss_cons (ps_set (i := 6) sc_turned_onto.nd rfl (Or.inl rfl) (pe_call (ok_rounds_of T) (hr.mono (by decide)) (by rfl) T.g_rounds_of T.F_rounds_of.kp T.b_rounds_of .nil pass0 (pa_cons (pv 3) pa_nil)))
      (pss_cons (ps_if (pt_cmpR (op_ninD K hr) (pv 5) (pv 6) (by rfl)) (pss_one (ps_ret pe_non)) pss_nil)
      (pss_cons (ps_set (i := 7) sc_turned_onto.nd rfl (Or.inl rfl) (pe_bmU K PySem.F.plainAttrs_list PySem.F.slot_list_index PySem.F.type_list_index (mt_indexDK K hr) (pv 6) (pa_cons (pv 5) pa_nil)))
      (pss_cons (ps_set (i := 8) sc_turned_onto.nd rfl (Or.inl rfl) (pe_call (ok_once_round T) (hr.mono (by decide)) (by rfl) T.g_once_round T.F_once_round.kp T.b_once_round .nil pass0 (pa_cons (pv 3) pa_nil)))
      (pss_cons (ps_set (i := 9) sc_turned_onto.nd rfl (Or.inl rfl) (pe_call (ok_turned_back T) (hr.mono (by decide)) (by rfl) T.g_turned_back T.F_turned_back.kp T.b_turned_back .nil pass0 (pa_cons (pv 4) pa_nil)))
      (pss_cons (ps_set (i := 10) sc_turned_onto.nd rfl (Or.inl rfl) (pe_call (ok_straightened T) (hr.mono (by decide)) (by rfl) T.g_straightened T.F_straightened.kp T.b_straightened .nil pass0 (pa_cons (pe_op (op_addK K) (pe_op (op_addK K) (pv 2) (pe_slice (sl_K K) (pv 8) po_none (po_some (pv 7)))) (pv 9)) pa_nil)))
      (pss_cons (ps_set (i := 11) sc_turned_onto.nd rfl (Or.inl rfl) (pe_call (ok_straightened T) (hr.mono (by decide)) (by rfl) T.g_straightened T.F_straightened.kp T.b_straightened .nil pass0 (pa_cons (pe_op (op_addK K) (pe_op (op_addK K) (pv 2) (pe_call (ok_turned_back T) (hr.mono (by decide)) (by rfl) T.g_turned_back T.F_turned_back.kp T.b_turned_back .nil pass0 (pa_cons (pe_slice (sl_K K) (pv 8) (po_some (pv 7)) po_none) pa_nil))) (pv 9)) pa_nil)))
      (pss_one (ps_ret (pe_callBK (cr_minKey (ok_walk_order T) (hr.mono (by decide)) T.b_walk_order) (by rfl) T.n_min (by decide +kernel) (pa_cons (pe_lst (pa_cons (pv 10) (pa_cons (pv 11) pa_nil))) pa_nil) (pk_cons (pe_glob (v := .ref A.a_walk_order) (by rfl) T.g_walk_order rfl) pk_nil))))))))))))))), ?_⟩
    walk_at "go"
    refine ⟨4, a, ns, rfl, ha, by omega, sa, fun H1 e1 => ?_⟩
    walk_at "go"
    refine ⟨4, b, ms, rfl, ex_t e1 hb, by omega, sb, fun H2 e2 => ?_⟩
    have e12 := e1.trans e2
    walk_at "go"
    refine ⟨a, ns, rfl, ex_t e12 ha, by omega, fun p3 H3 e3 k3 => ?_⟩
    have zr := Fg.rd_len ns
    have zs := Fg.rd_len ms
    have su := Fg.str_rd ns
    have sv := Fg.str_rd ms
    have tu : Stp 4 (Fg.rd ns) := stp_rd sa
    have tv : Stp 4 (Fg.rd ms) := stp_rd sb
    obtain ⟨u, hu⟩ : ∃ u, Fg.rd ns = u := ⟨_, rfl⟩
    obtain ⟨v, hv⟩ : ∃ v, Fg.rd ms = v := ⟨_, rfl⟩
    rw [hu] at k3 zr su tu q
    rw [hv] at zs sv tv q
    have zm := mid_len u
    have zn := mid_len v
    have zl := lead_len u
    have zk := lead_len v
    walk_at "go"
    refine ⟨p3, u, rfl, k3, by omega, fun p4 H4 e4 k4 => ?_⟩
    obtain ⟨pa, pm, hp, hpa, hpm⟩ := k4.ex
    walk_at "go"
    refine r_tup2 hp ?_
    have e14 := (e12.trans e3).trans e4
    walk_at "go"
    refine ⟨b, ms, rfl, ex_t e14 hb, by omega, fun p5 H5 e5 k5 => ?_⟩
    rw [hv] at k5
    walk_at "go"
    refine ⟨p5, v, rfl, k5, by omega, fun p6 H6 e6 k6 => ?_⟩
    obtain ⟨pb, pn, hp2, hpb, hpn⟩ := k6.ex
    walk_at "go"
    refine r_tup2 hp2 ?_
    have e46 := e5.trans e6
    have hpa := ex_t e46 hpa
    have hpm := ex_t e46 hpm
    walk_at "go"
    refine ⟨pm, _, rfl, hpm, by omega, fun p7 xs H7 e7 hp7 k7 wa => ?_⟩
    have e17 := (e14.trans e46).trans e7
    have hpn7 := ex_t e7 hpn
    walk_at "go"
    refine r_ninW hpn7 (l_of k7) wa ?_
    walk_at "go"
    refine ifn_2 (fun h0 => ?_) fun h0 => ?_
    · walk_at "go"
      exact q .non H7 e17 (.inl ⟨h0, rfl⟩)
    walk_at "go"
    refine r_met (l_of k7) ?_
    walk_at "go"
    refine r_indexW (l_of k7) wa hpn7 h0 fun k hk1 hk2 => ?_
    have lk : k < max 1 (Fg.mid u).length := by
      have := (List.getElem?_eq_some_iff.mp hk1).1
      rwa [rots_len] at this
    rw [rots_at lk] at hk1
    have hn : Fg.mid v = Fg.rotn (Fg.mid u) k := (Option.some.inj hk1).symm
    walk_at "go"
    refine ⟨pm, _, rfl, ex_t e7 hpm, by omega, fun l pc H8 om e8 k8 => ?_⟩
    have e78 := e7.trans e8
    have e18 := e17.trans e8
    have hpa8 := ex_t e78 hpa
    walk_at "go"
    refine ⟨pb, _, rfl, ex_t e78 hpb, by omega, fun pe H9 e9 k9 => ?_⟩
    have e19 := e18.trans e9
    walk_at "go"
    have zc : ((Fg.mid u).take l).length ≤ (Fg.mid u).length := by rw [List.length_take]; omega
    have zt : ∀ j, (((Fg.mid u).take l).take j).length ≤ (Fg.mid u).length := fun j => by rw [List.length_take]; omega
    have zd : ∀ j, (((Fg.mid u).take l).drop j).length ≤ (Fg.mid u).length := fun j => by rw [List.length_drop]; omega
    refine r_slT (ex_t e9 k8) fun q1 G1 x1 y1 => ?_
    rw [cut_to (by omega), Int.toNat_natCast] at y1
    have zt' := zt k
    refine r_catT (ex_t (e9.trans x1) hpa8) y1 (by rw [List.length_map, List.length_map]; omega) fun q2 G2 x2 y2 => ?_
    rw [← List.map_append] at y2
    walk_at "go"
    refine r_catT y2 (ex_t (x1.trans x2) k9) (by simp only [List.length_map, List.length_append, Fg.bk_len]; omega) fun q3 G3 x3 y3 => ?_
    rw [← List.map_append] at y3
    walk_at "go"
    refine ⟨q3, _, rfl, y3, by simp only [List.length_append, Fg.bk_len]; omega, fun q4 G4 x4 y4 => ?_⟩
    have x14 := ((x1.trans x2).trans x3).trans x4
    walk_at "go"
    refine r_slT (ex_t (e9.trans x14) k8) fun q5 G5 x5 y5 => ?_
    rw [cut_from (by omega), Int.toNat_natCast] at y5
    have zd' := zd k
    walk_at "go"
    refine ⟨q5, _, rfl, y5, by omega, fun q6 G6 x6 y6 => ?_⟩
    have x16 := (x14.trans x5).trans x6
    refine r_catT (ex_t (e9.trans x16) hpa8) y6 (by simp only [List.length_map, Fg.bk_len]; omega) fun q7 G7 x7 y7 => ?_
    rw [← List.map_append] at y7
    walk_at "go"
    refine r_catT y7 (ex_t (x16.trans x7) k9) (by simp only [List.length_map, List.length_append, Fg.bk_len]; omega) fun q8 G8 x8 y8 => ?_
    rw [← List.map_append] at y8
    walk_at "go"
    refine ⟨q8, _, rfl, y8, by simp only [List.length_append, Fg.bk_len]; omega, fun q9 G9 x9 y9 => ?_⟩
    have x49 := (((x5.trans x6).trans x7).trans x8).trans x9
    walk_at "go"
    refine r_newL (by simp) fun q10 G10 _ x10 y10 => ?_
    have w4 := ex_t (x49.trans x10) y4
    have w9 := ex_t x10 y9
    have wl : WkA K G10 [V.ref q4, V.ref q9] [_, _] := (WkA.snoc (ws := []) (xs := []) WkA.nil ⟨q4, rfl, w4⟩).snoc ⟨q9, rfl, w9⟩
    have cst : ∀ x ∈ Fg.mid u, x ≠ 0 ∧ -4 ≤ x ∧ x ≤ 4 := fun x hx => tu x (mid_sub hx)
    have s0 : Stp 4 (Fg.rd (Fg.lead u ++ ((Fg.mid u).take l).take k ++ Fg.bk (Fg.lead v))) := stp_rd fun x hx => by
      rcases List.mem_append.mp hx with hx | hx
      · rcases List.mem_append.mp hx with hx | hx
        · exact tu x (lead_sub hx)
        · exact cst x (List.mem_of_mem_take (List.mem_of_mem_take hx))
      · have := tv _ (lead_sub (Fg.mem_bk hx))
        omega
    have s1 : Stp 4 (Fg.rd (Fg.lead u ++ Fg.bk (((Fg.mid u).take l).drop k) ++ Fg.bk (Fg.lead v))) := stp_rd fun x hx => by
      rcases List.mem_append.mp hx with hx | hx
      · rcases List.mem_append.mp hx with hx | hx
        · exact tu x (lead_sub hx)
        · have := cst _ (List.mem_of_mem_take (List.mem_of_mem_drop (Fg.mem_bk hx)))
          omega
      · have := tv _ (lead_sub (Fg.mem_bk hx))
        omega
    have z0 := Fg.rd_len (Fg.lead u ++ ((Fg.mid u).take l).take k ++ Fg.bk (Fg.lead v))
    have z1 := Fg.rd_len (Fg.lead u ++ Fg.bk (((Fg.mid u).take l).drop k) ++ Fg.bk (Fg.lead v))
    simp only [List.length_append, Fg.bk_len] at z0 z1
    walk_at "go"
    refine r_minW (l_of y10) wl (by simp) (fun w hw => ?_) fun p f G11 x11 y11 ls => ?_
    · rcases List.mem_cons.mp hw with rfl | hw
      · exact ⟨by omega, s0⟩
      · rw [List.mem_singleton.mp hw]
        exact ⟨by omega, s1⟩
    have two := lst_two ls
    have sf : Stp 4 f := by
      rcases two with ⟨rfl, _⟩ | ⟨rfl, _⟩
      · exact s1
      · exact s0
    have zf : f.length ≤ 2 * u.length + v.length := by
      rcases two with ⟨rfl, _⟩ | ⟨rfl, _⟩
      · omega
      · omega
    refine q (.ref p) G11 (((e19.trans x14).trans x49).trans (x10.trans x11)) (.inr ⟨h0, p, f, rfl, y11, ?_, sf, zf⟩)
    by_cases hm : Fg.mid u = []
    · have u0 := (mid_nil su tu).mp hm
      have v0 : v = [] := (mid_nil sv tv).mp (by rw [hn, hm]; simp [Fg.rotn])
      rw [hm, u0, v0] at two
      have : f = [] := by
        rcases two with ⟨h, _⟩ | ⟨h, _⟩ <;> simpa [Fg.lead, Fg.bk, Fg.rd_nil] using h
      rw [this, u0, v0]
      exact least_nil
    · have om := om.resolve_left hm
      have un : u ≠ [] := fun z => hm ((mid_nil su tu).mpr z)
      have vn : v ≠ [] := fun z => by
        have e := (mid_nil sv tv).mpr z
        rw [e] at hn
        have := congrArg List.length hn
        rw [Fg.rotn_len] at this
        exact hm (List.length_eq_zero_iff.mp this.symm)
      have pm0 := List.length_pos_iff.mpr hm
      obtain ⟨eu, _, cu⟩ := Fg.core_parts su un (stp_nz tu)
      obtain ⟨ev, _, _⟩ := Fg.core_parts sv vn (stp_nz tv)
      have kl : k < l := by
        refine Nat.lt_of_not_le fun ge => hk2 (k - l) (by have := om.pos; omega) ?_
        rw [rots_at (by omega), Fg.rot_per om ge (by omega), hn]
      exact Fg.Tp.least (T := ⟨su, sv, eu, ev, cu, om, rfl, hn, kl⟩) rfl rfl two
end
end Lw
namespace Lw
open PySem PySem.Spec PyProof.Rows L2 Evl

local macro_rules | `(tactic| walk_at "go") => `(tactic| repeat (first
  | with_reducible refine st_seq ?_ | with_reducible refine st_set ?_ | with_reducible refine st_asg ?_ | with_reducible refine st_ret ?_ | with_reducible refine st_drop ?_ | with_reducible refine st_if ?_
  | with_reducible refine st_c ?_ | ((with_reducible refine' st_v ?h ?_); (case h => exact rfl)) | with_reducible refine st_n ?_ | with_reducible refine st_cons ?_ | with_reducible refine st_op ?_ | with_reducible refine st_un ?_
  | with_reducible refine st_cb ?_ | with_reducible refine st_test ?_ | with_reducible refine st_call ?_ | with_reducible refine st_callK ?_ | with_reducible refine st_sl ?_ | with_reducible refine st_par ?_ | with_reducible refine st_par3 ?_ | with_reducible refine st_tru ?_
  | with_reducible refine st_and ?_ | with_reducible refine st_or ?_ | with_reducible refine st_not ?_ | with_reducible refine st_B ?_ | with_reducible refine st_andV ?_ | with_reducible refine st_orV ?_ | with_reducible refine st_notV ?_ | with_reducible refine st_ifE ?_
  | with_reducible refine st_part ?_ | with_reducible refine st_nop ?_ | with_reducible refine st_sub ?_ | with_reducible refine st_chain ?_ | with_reducible refine st_bl ?_ | with_reducible refine st_in ?_ | with_reducible refine r_truB ?_
  | with_reducible refine st_nameG ?_ | with_reducible refine if_T ?_ | with_reducible refine if_F ?_ | with_reducible refine if_nT ?_ | with_reducible refine if_nF ?_
  | with_reducible refine r_add ?_ | with_reducible refine r_0 ?_ | with_reducible refine r_neg ?_ | with_reducible refine r_intI ?_ | with_reducible refine r_intB ?_ | with_reducible refine r_abs ?_ | with_reducible refine r_max2 ?_ | with_reducible refine r_min2 ?_ | with_reducible refine r_eqI ?_ | with_reducible refine r_neI ?_
  | with_reducible refine st_nxt ?_ | with_reducible refine st_cnt ?_ | with_reducible refine st_brk ?_ | with_reducible refine st_retn ?_
  | with_reducible refine st_lstN ?_ | with_reducible refine st_tupN ?_
  | with_reducible refine st_for ?_ | with_reducible refine st_lc ?_ | with_reducible refine st_lc2 ?_ | with_reducible refine st_rng1 ?_ | with_reducible refine st_rng2 ?_ | with_reducible refine st_rng3 ?_ | with_reducible refine st_itL ?_ | with_reducible refine st_itT ?_ | with_reducible refine st_rev ?_ | with_reducible refine st_enumE ?_ | with_reducible refine st_zip3 ?_ | with_reducible refine st_lvals ?_ | with_reducible refine st_fld ?_ | with_reducible refine st_sfld ?_ | with_reducible refine st_meth ?_ | with_reducible refine st_make ?_ | with_reducible refine st_rg1 ?_ | with_reducible refine st_enumS ?_ | with_reducible refine st_enumD ?_ | with_reducible refine st_lstIt ?_ | with_reducible refine st_dg1 ?_ | with_reducible refine st_dg2 ?_ | with_reducible refine st_dpop ?_ | with_reducible refine st_dset ?_ | with_reducible refine st_ckw ?_ | with_reducible refine st_dsetT ?_ | with_reducible refine st_dnewT ?_ | with_reducible refine st_dc ?_ | with_reducible refine st_keys ?_ | with_reducible refine st_dget ?_ | with_reducible refine st_din ?_ | with_reducible refine st_dnin ?_ | with_reducible refine st_dput ?_ | with_reducible refine st_dnew ?_ | with_reducible refine st_lstRg ?_ | with_reducible refine st_rg2 ?_ | with_reducible refine r_twoI ?_ | with_reducible refine st_bm ?_ | with_reducible refine st_bm0 ?_
  | ((with_reducible refine' st_aug ?h ?_); (case h => exact rfl)) | with_reducible refine r_augI ?_ | with_reducible refine r_eqB ?_
  | dsimp only))
section
variable {P : Program} {w : World} {K : PySem.W.Frag} {mg : Str → Option Value} {base : Heap} {A : Ad}

theorem stp_app4 {u v : List Int} (h : Stp 4 u) (k : Stp 4 v) : Stp 4 (u ++ v) := fun x hx => (List.mem_append.mp hx).elim (h x) (k x)
theorem rd_l2 (u v : List Int) : (Fg.rd (u ++ v)).length ≤ u.length + v.length := by
  have := Fg.rd_len (u ++ v)
  rwa [List.length_append] at this
theorem rd_lb (u : List Int) : (Fg.rd (Fg.bk u)).length ≤ u.length := by
  have := Fg.rd_len (Fg.bk u)
  rwa [Fg.bk_len] at this
theorem tn_len (u o : List Int) : (Fg.tn u o).length ≤ u.length + 2 * o.length := by
  have := Fg.rd_len (Fg.bk o ++ u ++ o)
  simp only [List.length_append, Fg.bk_len] at this
  unfold Fg.tn
  omega
theorem stp_tn {u o : List Int} (tu : Stp 4 u) (to : Stp 4 o) : Stp 4 (Fg.tn u o) := stp_rd (stp_app4 (stp_app4 (stp_bk to) tu) to)
def sp__law_behind (K : PySem.W.Frag) : Sp := fun vs H Q _ => ∃ a b c x y z, vs = [.ref a, .ref b, .ref c] ∧ IT K H a x ∧ IT K H b y ∧ IT K H c z ∧ x.length ≤ 100 ∧ y.length ≤ 100 ∧ z.length ≤ 100 ∧ Stp 4 x ∧ Stp 4 y ∧ Stp 4 z ∧ ∀ H1, Ex H H1 → Q (.bl true) H1
theorem ok__law_behind (T : Tx K mg A) : FnOk P w K mg base CX0 6 A.a__law_behind A.f__law_behind P__law_behind (sp__law_behind K) := by
  refine T.F__law_behind.ok sc__law_behind (fun vs H Q E h => ?_) (fun cdv A' outer s H vs Q E hr h => ?_)
  · obtain ⟨a, b, c, x, y, z, rfl, _⟩ := h
    rfl
  · obtain ⟨a, b, c, x, y, z, rfl, ha, hb, hc, zx, zy, zz, sx, sy, sz, q⟩ := h
    refine ⟨_, (pss_cons (ps_if (pt_cmpR (op_neK K hr.units) (pe_call (ok_behind T) (hr.mono (by decide)) (by rfl) T.g_behind T.F_behind.kp T.b_behind .nil pass0 (pa_cons (pe_call (ok_behind T) (hr.mono (by decide)) (by rfl) T.g_behind T.F_behind.kp T.b_behind .nil pass0 (pa_cons (pv 0) (pa_cons (pv 1) pa_nil))) (pa_cons (pv 2) pa_nil))) (pe_call (ok_behind T) (hr.mono (by decide)) (by rfl) T.g_behind T.F_behind.kp T.b_behind .nil pass0 (pa_cons (pv 0) (pa_cons (pe_call (ok_behind T) (hr.mono (by decide)) (by rfl) T.g_behind T.F_behind.kp T.b_behind .nil pass0 (pa_cons (pv 1) (pa_cons (pv 2) pa_nil))) pa_nil))) (nomark _)) (pss_one (ps_ret pe_bl)) pss_nil)
      (pss_cons (ps_if (PW.pt (pw_or (pt_cmpR (op_neK K hr.units) (pe_call (ok_back T) (hr.mono (by decide)) (by rfl) T.g_back T.F_back.kp T.b_back .nil pass0 (pa_cons (pe_call (ok_behind T) (hr.mono (by decide)) (by rfl) T.g_behind T.F_behind.kp T.b_behind .nil pass0 (pa_cons (pv 0) (pa_cons (pv 1) pa_nil))) pa_nil)) (pe_call (ok_behind T) (hr.mono (by decide)) (by rfl) T.g_behind T.F_behind.kp T.b_behind .nil pass0 (pa_cons (pe_call (ok_back T) (hr.mono (by decide)) (by rfl) T.g_back T.F_back.kp T.b_back .nil pass0 (pa_cons (pv 1) pa_nil)) (pa_cons (pe_call (ok_back T) (hr.mono (by decide)) (by rfl) T.g_back T.F_back.kp T.b_back .nil pass0 (pa_cons (pv 0) pa_nil)) pa_nil))) (nomark _)) (pw_or1 (pt_cmpR (op_neK K hr.units) (pe_call (ok_back T) (hr.mono (by decide)) (by rfl) T.g_back T.F_back.kp T.b_back .nil pass0 (pa_cons (pe_call (ok_back T) (hr.mono (by decide)) (by rfl) T.g_back T.F_back.kp T.b_back .nil pass0 (pa_cons (pv 0) pa_nil)) pa_nil)) (pe_call (ok_straight T) (hr.mono (by decide)) (by rfl) T.g_straight T.F_straight.kp T.b_straight .nil pass0 (pa_cons (pv 0) pa_nil)) (nomark _))))) (pss_one (ps_ret pe_bl)) pss_nil)
      (pss_cons (ps_if (PW.pt (pw_or (pt_cmpR (op_neK K hr.units) (pe_call (ok_behind T) (hr.mono (by decide)) (by rfl) T.g_behind T.F_behind.kp T.b_behind .nil pass0 (pa_cons (pv 0) (pa_cons (pe_call (ok_behind T) (hr.mono (by decide)) (by rfl) T.g_behind T.F_behind.kp T.b_behind .nil pass0 (pa_cons (pe_call (ok_back T) (hr.mono (by decide)) (by rfl) T.g_back T.F_back.kp T.b_back .nil pass0 (pa_cons (pv 0) pa_nil)) (pa_cons (pv 1) pa_nil))) pa_nil))) (pe_call (ok_straight T) (hr.mono (by decide)) (by rfl) T.g_straight T.F_straight.kp T.b_straight .nil pass0 (pa_cons (pv 1) pa_nil)) (nomark _)) (pw_or1 (pt_cmpR (op_neK K hr.units) (pe_call (ok_behind T) (hr.mono (by decide)) (by rfl) T.g_behind T.F_behind.kp T.b_behind .nil pass0 (pa_cons (pv 0) (pa_cons (pe_tup pa_nil) pa_nil))) (pe_call (ok_straight T) (hr.mono (by decide)) (by rfl) T.g_straight T.F_straight.kp T.b_straight .nil pass0 (pa_cons (pv 0) pa_nil)) (nomark _))))) (pss_one (ps_ret pe_bl)) pss_nil)
      (pss_one (ps_ret (pe_cmpR (op_eqK K hr.units) (pe_call (ok_turned T) (hr.mono (by decide)) (by rfl) T.g_turned T.F_turned.kp T.b_turned .nil pass0 (pa_cons (pe_call (ok_behind T) (hr.mono (by decide)) (by rfl) T.g_behind T.F_behind.kp T.b_behind .nil pass0 (pa_cons (pv 0) (pa_cons (pv 1) pa_nil))) (pa_cons (pv 2) pa_nil))) (pe_call (ok_behind T) (hr.mono (by decide)) (by rfl) T.g_behind T.F_behind.kp T.b_behind .nil pass0 (pa_cons (pe_call (ok_turned T) (hr.mono (by decide)) (by rfl) T.g_turned T.F_turned.kp T.b_turned .nil pass0 (pa_cons (pv 0) (pa_cons (pv 2) pa_nil))) (pa_cons (pe_call (ok_turned T) (hr.mono (by decide)) (by rfl) T.g_turned T.F_turned.kp T.b_turned .nil pass0 (pa_cons (pv 1) (pa_cons (pv 2) pa_nil))) pa_nil))) (nomark _))))))), ?_⟩
    have lxy := rd_l2 x y
    have lyz := rd_l2 y z
    have lbx := rd_lb x
    have lby := rd_lb y
    have txy := stp_rd (stp_app4 sx sy)
    have tyz := stp_rd (stp_app4 sy sz)
    have tbx := stp_rd (stp_bk sx)
    have tby := stp_rd (stp_bk sy)
    walk_at "go"
    refine ⟨a, x, b, y, rfl, ha, hb, by omega, by omega, sx, sy, fun p1 H1 e1 k1 => ?_⟩
    walk_at "go"
    refine ⟨p1, _, c, z, rfl, k1, ex_t e1 hc, by omega, by omega, txy, sz, fun p2 H2 e2 k2 => ?_⟩
    have e := e1.trans e2
    walk_at "go"
    refine ⟨b, y, c, z, rfl, ex_t e hb, ex_t e hc, by omega, by omega, sy, sz, fun p3 H3 e3 k3 => ?_⟩
    replace e := e.trans e3
    walk_at "go"
    refine ⟨a, x, p3, _, rfl, ex_t e ha, k3, by omega, by omega, sx, tyz, fun p4 H4 e4 k4 => ?_⟩
    replace e := e.trans e4
    refine same_neT (ex_t (e3.trans e4) k2) k4 (by rw [Fg.rd_app_l, Fg.rd_app_r, List.append_assoc]) ?_
    clear e1 e2 e3 e4 k1 k2 k3 k4
    walk_at "go"
    refine ⟨a, x, b, y, rfl, ex_t e ha, ex_t e hb, by omega, by omega, sx, sy, fun p1 H5 e1 k1 => ?_⟩
    walk_at "go"
    refine ⟨p1, _, rfl, k1, by omega, txy, fun p2 H6 e2 k2 => ?_⟩
    replace e := e.trans (e1.trans e2)
    walk_at "go"
    refine ⟨b, y, rfl, ex_t e hb, by omega, sy, fun p3 H7 e3 k3 => ?_⟩
    replace e := e.trans e3
    walk_at "go"
    refine ⟨a, x, rfl, ex_t e ha, by omega, sx, fun p4 H8 e4 k4 => ?_⟩
    replace e := e.trans e4
    walk_at "go"
    refine ⟨p3, _, p4, _, rfl, ex_t e4 k3, k4, by omega, by omega, tby, tbx, fun p5 H9 e5 k5 => ?_⟩
    replace e := e.trans e5
    refine same_neT (ex_t ((e3.trans e4).trans e5) k2) k5 (by rw [Fg.rd_app, ← Fg.bk_app, Fg.rd_bk, Fg.rd_rd, Fg.rd_bk]) ?_
    clear e1 e2 e3 e4 e5 k1 k2 k3 k4 k5
    walk_at "go"
    refine ⟨a, x, rfl, ex_t e ha, by omega, sx, fun p1 H10 e1 k1 => ?_⟩
    walk_at "go"
    refine ⟨p1, _, rfl, k1, by omega, tbx, fun p2 H11 e2 k2 => ?_⟩
    replace e := e.trans (e1.trans e2)
    walk_at "go"
    refine ⟨a, x, rfl, ex_t e ha, by omega, sx, fun p3 H12 e3 k3 => ?_⟩
    replace e := e.trans e3
    refine same_neT (ex_t e3 k2) k3 (by rw [Fg.rd_bk, Fg.rd_rd, Fg.rd_bk, Fg.bk_bk]) ?_
    clear e1 e2 e3 k1 k2 k3
    walk_at "go"
    refine ⟨a, x, rfl, ex_t e ha, by omega, sx, fun p1 H13 e1 k1 => ?_⟩
    replace e := e.trans e1
    walk_at "go"
    refine ⟨p1, _, b, y, rfl, k1, ex_t e hb, by omega, by omega, tbx, sy, fun p2 H14 e2 k2 => ?_⟩
    replace e := e.trans e2
    have l2 := rd_l2 (Fg.rd (Fg.bk x)) y
    walk_at "go"
    refine ⟨a, x, p2, _, rfl, ex_t e ha, k2, by omega, by omega, sx, stp_rd (stp_app4 tbx sy), fun p3 H15 e3 k3 => ?_⟩
    replace e := e.trans e3
    walk_at "go"
    refine ⟨b, y, rfl, ex_t e hb, by omega, sy, fun p4 H16 e4 k4 => ?_⟩
    replace e := e.trans e4
    refine same_neT (ex_t e4 k3) k4 ?_ ?_
    · rw [Fg.rd_app_r]
      have h1 : Fg.Eqv (x ++ (Fg.rd (Fg.bk x) ++ y)) (x ++ (Fg.bk x ++ y)) := (Fg.Eqv.refl x).app ((Fg.eqv_rdr _).symm.app (.refl y))
      rw [Fg.rd_eq h1]
      have := Fg.rd_eq (Fg.del1 [] x y)
      simpa using this
    clear e1 e2 e3 e4 k1 k2 k3 k4
    walk_at "go"
    refine r_newT (by simp) fun p1 H17 _ e1 k1 => ?_
    replace e := e.trans e1
    walk_at "go"
    refine ⟨a, x, p1, [], rfl, ex_t e ha, t_of k1, by omega, by simp, sx, (fun x hx => by cases hx), fun p2 H18 e2 k2 => ?_⟩
    replace e := e.trans e2
    walk_at "go"
    refine ⟨a, x, rfl, ex_t e ha, by omega, sx, fun p3 H19 e3 k3 => ?_⟩
    replace e := e.trans e3
    refine same_neT (ex_t e3 k2) k3 (by rw [List.append_nil]) ?_
    clear e1 e2 e3 k1 k2 k3
    walk_at "go"
    refine ⟨a, x, b, y, rfl, ex_t e ha, ex_t e hb, by omega, by omega, sx, sy, fun p1 H20 e1 k1 => ?_⟩
    replace e := e.trans e1
    walk_at "go"
    refine ⟨p1, _, c, z, rfl, k1, ex_t e hc, by omega, by omega, txy, sz, fun p2 H21 e2 k2 => ?_⟩
    replace e := e.trans e2
    walk_at "go"
    refine ⟨a, x, c, z, rfl, ex_t e ha, ex_t e hc, by omega, by omega, sx, sz, fun p3 H22 e3 k3 => ?_⟩
    replace e := e.trans e3
    walk_at "go"
    refine ⟨b, y, c, z, rfl, ex_t e hb, ex_t e hc, by omega, by omega, sy, sz, fun p4 H23 e4 k4 => ?_⟩
    replace e := e.trans e4
    have l3 := tn_len x z
    have l4 := tn_len y z
    walk_at "go"
    refine ⟨p3, _, p4, _, rfl, ex_t e4 k3, k4, by omega, by omega, stp_tn sx sz, stp_tn sy sz, fun p5 H24 e5 k5 => ?_⟩
    refine same_eqT (ex_t ((e3.trans e4).trans e5) k2) k5 ?_ (q H24 (e.trans e5))
    rw [Fg.tn_rd]
    unfold Fg.tn
    rw [Fg.rd_app]
    refine Fg.rd_eq (Fg.Eqv.symm ((Fg.Eqv.of_eq ?_).trans ((Fg.del1 (Fg.bk z ++ x) z (y ++ z)).trans (Fg.Eqv.of_eq ?_))))
    · simp
    · simp
end
end Lw
namespace Lw
open PySem PySem.Spec PyProof.Rows L2 Evl

local macro_rules | `(tactic| walk_at "go") => `(tactic| repeat (first
  | with_reducible refine st_seq ?_ | with_reducible refine st_set ?_ | with_reducible refine st_asg ?_ | with_reducible refine st_ret ?_ | with_reducible refine st_drop ?_ | with_reducible refine st_if ?_
  | with_reducible refine st_c ?_ | ((with_reducible refine' st_v ?h ?_); (case h => exact rfl)) | with_reducible refine st_n ?_ | with_reducible refine st_cons ?_ | with_reducible refine st_op ?_ | with_reducible refine st_un ?_
  | with_reducible refine st_cb ?_ | with_reducible refine st_test ?_ | with_reducible refine st_call ?_ | with_reducible refine st_callK ?_ | with_reducible refine st_sl ?_ | with_reducible refine st_par ?_ | with_reducible refine st_par3 ?_ | with_reducible refine st_tru ?_
  | with_reducible refine st_and ?_ | with_reducible refine st_or ?_ | with_reducible refine st_not ?_ | with_reducible refine st_B ?_ | with_reducible refine st_andV ?_ | with_reducible refine st_orV ?_ | with_reducible refine st_notV ?_ | with_reducible refine st_ifE ?_
  | with_reducible refine st_part ?_ | with_reducible refine st_nop ?_ | with_reducible refine st_sub ?_ | with_reducible refine st_chain ?_ | with_reducible refine st_bl ?_ | with_reducible refine st_in ?_ | with_reducible refine r_truB ?_
  | with_reducible refine st_nameG ?_ | with_reducible refine if_T ?_ | with_reducible refine if_F ?_ | with_reducible refine if_nT ?_ | with_reducible refine if_nF ?_
  | with_reducible refine r_add ?_ | with_reducible refine r_0 ?_ | with_reducible refine r_neg ?_ | with_reducible refine r_intI ?_ | with_reducible refine r_intB ?_ | with_reducible refine r_abs ?_ | with_reducible refine r_max2 ?_ | with_reducible refine r_min2 ?_ | with_reducible refine r_eqI ?_ | with_reducible refine r_neI ?_
  | with_reducible refine st_nxt ?_ | with_reducible refine st_cnt ?_ | with_reducible refine st_brk ?_ | with_reducible refine st_retn ?_
  | with_reducible refine st_lstN ?_ | with_reducible refine st_tupN ?_
  | with_reducible refine st_for ?_ | with_reducible refine st_lc ?_ | with_reducible refine st_lc2 ?_ | with_reducible refine st_rng1 ?_ | with_reducible refine st_rng2 ?_ | with_reducible refine st_rng3 ?_ | with_reducible refine st_itL ?_ | with_reducible refine st_itT ?_ | with_reducible refine st_rev ?_ | with_reducible refine st_enumE ?_ | with_reducible refine st_zip3 ?_ | with_reducible refine st_lvals ?_ | with_reducible refine st_fld ?_ | with_reducible refine st_sfld ?_ | with_reducible refine st_meth ?_ | with_reducible refine st_make ?_ | with_reducible refine st_rg1 ?_ | with_reducible refine st_enumS ?_ | with_reducible refine st_enumD ?_ | with_reducible refine st_lstIt ?_ | with_reducible refine st_dg1 ?_ | with_reducible refine st_dg2 ?_ | with_reducible refine st_dpop ?_ | with_reducible refine st_dset ?_ | with_reducible refine st_ckw ?_ | with_reducible refine st_dsetT ?_ | with_reducible refine st_dnewT ?_ | with_reducible refine st_dc ?_ | with_reducible refine st_keys ?_ | with_reducible refine st_dget ?_ | with_reducible refine st_din ?_ | with_reducible refine st_dnin ?_ | with_reducible refine st_dput ?_ | with_reducible refine st_dnew ?_ | with_reducible refine st_lstRg ?_ | with_reducible refine st_rg2 ?_ | with_reducible refine r_twoI ?_ | with_reducible refine st_bm ?_ | with_reducible refine st_bm0 ?_
  | ((with_reducible refine' st_aug ?h ?_); (case h => exact rfl)) | with_reducible refine r_augI ?_ | with_reducible refine r_eqB ?_
  | dsimp only))
section
variable {P : Program} {w : World} {K : PySem.W.Frag} {mg : Str → Option Value} {base : Heap} {A : Ad}

theorem pw_z (w : List Int) (k : Int) : pw w k = Fg.rd (Fg.Z w k) := rfl
theorem pw_add (w : List Int) (i j : Int) : pw w (i + j) = Fg.rd (pw w i ++ pw w j) := by
  rw [pw_z, pw_z, pw_z, Fg.rd_app]
  exact Fg.rd_eq (Fg.z_add w i j)
theorem pw_neg (w : List Int) (i : Int) : pw w (-i) = Fg.rd (Fg.bk (pw w i)) := by
  rw [pw_z, pw_z, Fg.rd_bk, Fg.rd_rd, ← Fg.rd_bk, Fg.z_bk]
theorem pw_mul (w : List Int) (i j : Int) : pw (pw w i) j = pw w (i * j) := by
  rw [pw_z w i, pw_rd, pw_z, pw_z]
  exact Fg.rd_eq (Fg.z_mul w i j)
theorem pw_ln (w : List Int) (k : Int) : (pw w k).length ≤ w.length * k.natAbs := by
  unfold pw
  refine Nat.le_trans (Fg.rd_len _) ?_
  rw [Fg.rep_len, Nat.mul_comm]
  split
  · exact Nat.le_refl _
  · rw [Fg.bk_len]
    exact Nat.le_refl _
theorem mul_le2 {a b c d : Nat} (h : a ≤ c) (k : b ≤ d) {m : Nat} (e : c * d ≤ m) : a * b ≤ m := Nat.le_trans (Nat.mul_le_mul h k) e
def sp__law_added (K : PySem.W.Frag) : Sp := fun vs H Q _ => ∃ a w i j, vs = [.ref a, .int i, .int j] ∧ IT K H a w ∧ w.length ≤ 60 ∧ Stp 4 w ∧ -20 ≤ i ∧ i ≤ 20 ∧ -6 ≤ j ∧ j ≤ 6 ∧ ∀ H1, Ex H H1 → Q (.bl true) H1
theorem ok__law_added (T : Tx K mg A) : FnOk P w K mg base CX0 6 A.a__law_added A.f__law_added P__law_added (sp__law_added K) := by
  refine T.F__law_added.ok sc__law_added (fun vs H Q E h => ?_) (fun cdv A' outer s H vs Q E hr h => ?_)
  · obtain ⟨a, w, i, j, rfl, _⟩ := h
    rfl
  · obtain ⟨a, w, i, j, rfl, ha, zw, sw, i0, i2, j0, j2, q⟩ := h
    refine ⟨_, (pss_cons (ps_par (i := 3) (j := 4) (by rfl) sc__law_added.nd rfl rfl (by decide) rfl rfl (pa_cons (pe_call (ok_power T) (hr.mono (by decide)) (by rfl) T.g_power T.F_power.kp T.b_power .nil pass0 (pa_cons (pv 0) (pa_cons (pv 1) pa_nil))) (pa_cons (pe_call (ok_power T) (hr.mono (by decide)) (by rfl) T.g_power T.F_power.kp T.b_power .nil pass0 (pa_cons (pv 0) (pa_cons (pv 2) pa_nil))) pa_nil)) (by rfl))
      (Evl.pss_cut (ps_if (PW.pt (pw_or (pt_cmpR op_gt (pe_callB (len_K K) (by rfl) T.n_len (by decide +kernel) (pa_cons (pv 3) pa_nil)) pe_int (nomark _)) (pw_or1 (pt_cmpR op_gt (pe_callB (len_K K) (by rfl) T.n_len (by decide +kernel) (pa_cons (pv 4) pa_nil)) pe_int (nomark _))))) (pss_one (ps_ret pe_bl)) pss_nil)
      (Evl.pss_cut (ps_if (PW.pt (pw_and (pt_cmpR op_le (pe_callB abs_K (by rfl) T.n_abs (by decide +kernel) (pa_cons (pe_op (op_addK K) (pv 1) (pv 2)) pa_nil)) pe_int (nomark _)) (pw_and1 (pt_cmpR (op_neK K hr.units) (pe_call (ok_power T) (hr.mono (by decide)) (by rfl) T.g_power T.F_power.kp T.b_power .nil pass0 (pa_cons (pv 0) (pa_cons (pe_op (op_addK K) (pv 1) (pv 2)) pa_nil))) (pe_call (ok_behind T) (hr.mono (by decide)) (by rfl) T.g_behind T.F_behind.kp T.b_behind .nil pass0 (pa_cons (pv 3) (pa_cons (pv 4) pa_nil))) (nomark _))))) (pss_one (ps_ret pe_bl)) pss_nil)
      (Evl.pss_cut (ps_if (PW.pt (pw_or (pt_cmpR (op_neK K hr.units) (pe_call (ok_behind T) (hr.mono (by decide)) (by rfl) T.g_behind T.F_behind.kp T.b_behind .nil pass0 (pa_cons (pv 3) (pa_cons (pv 4) pa_nil))) (pe_call (ok_behind T) (hr.mono (by decide)) (by rfl) T.g_behind T.F_behind.kp T.b_behind .nil pass0 (pa_cons (pv 4) (pa_cons (pv 3) pa_nil))) (nomark _)) (pw_or1 (pt_cmpR (op_neK K hr.units) (pe_call (ok_power T) (hr.mono (by decide)) (by rfl) T.g_power T.F_power.kp T.b_power .nil pass0 (pa_cons (pv 0) (pa_cons (pe_un un_neg (pv 1)) pa_nil))) (pe_call (ok_back T) (hr.mono (by decide)) (by rfl) T.g_back T.F_back.kp T.b_back .nil pass0 (pa_cons (pv 3) pa_nil)) (nomark _))))) (pss_one (ps_ret pe_bl)) pss_nil)
      (pss_one (ps_ret (pe_or (pe_cmpR op_gt (pe_callB abs_K (by rfl) T.n_abs (by decide +kernel) (pa_cons (pe_op (op_mulK K) (pv 1) (pv 2)) pa_nil)) pe_int (nomark _)) (pe_one (pe_cmpR (op_eqK K hr.units) (pe_call (ok_power T) (hr.mono (by decide)) (by rfl) T.g_power T.F_power.kp T.b_power .nil pass0 (pa_cons (pv 3) (pa_cons (pv 2) pa_nil))) (pe_call (ok_power T) (hr.mono (by decide)) (by rfl) T.g_power T.F_power.kp T.b_power .nil pass0 (pa_cons (pv 0) (pa_cons (pe_op (op_mulK K) (pv 1) (pv 2)) pa_nil))) (nomark _)))))))))), ?_⟩
    have bd : ∀ k : Int, -20 ≤ k → k ≤ 20 → w.length * k.natAbs ≤ 5000 := fun k h1 h2 => mul_le2 zw (by omega : k.natAbs ≤ 20) (by decide)
    walk_at "go"
    refine ⟨a, w, i, rfl, ha, by omega, bd i i0 i2, sw, i0, i2, fun p1 H1 e1 k1 => ?_⟩
    walk_at "go"
    refine ⟨a, w, j, rfl, ex_t e1 ha, by omega, bd j (by omega) (by omega), sw, by omega, by omega, fun p2 H2 e2 k2 => ?_⟩
    refine ⟨_, _, rfl, ?_⟩
    replace k1 := ex_t e2 k1
    have e := e1.trans e2
    clear e1 e2
    have t1 : Stp 4 (pw w i) := stp_pw sw
    have t2 : Stp 4 (pw w j) := stp_pw sw
    refine ⟨fun σ' H' => Ex H2 H' ∧ σ' = [some (.ref a), some (.int i), some (.int j), some (.ref p1), some (.ref p2)] ∧ (pw w i).length ≤ 400 ∧ (pw w j).length ≤ 400, ?_, ?_⟩
    · walk_at "go"
      refine r_lenT k1 ?_
      rw [List.length_map]
      walk_at "go"
      refine if_2 (fun h0 => ?_) fun z1 => ?_
      · walk_at "go"
        exact q H2 e
      walk_at "go"
      refine r_lenT k2 ?_
      rw [List.length_map]
      walk_at "go"
      refine if_2 (fun h0 => ?_) fun z2 => ?_
      · walk_at "go"
        exact q H2 e
      walk_at "go"
      exact ⟨Ex.refl H2, rfl, by omega, by omega⟩
    rintro σ' H3 ⟨e3, rfl, z1, z2⟩
    refine ⟨fun σ' H' => Ex H2 H' ∧ σ' = [some (.ref a), some (.int i), some (.int j), some (.ref p1), some (.ref p2)], ?_, ?_⟩
    · walk_at "go"
      refine if_2 (fun h0 => ?_) fun h0 => ?_
      · walk_at "go"
        refine ⟨a, w, i + j, rfl, ex_t (e.trans e3) ha, by omega, bd _ (by omega) (by omega), sw, by omega, by omega, fun p3 H4 e4 k3 => ?_⟩
        walk_at "go"
        have e34 := e3.trans e4
        refine ⟨p1, _, p2, _, rfl, ex_t e34 k1, ex_t e34 k2, by omega, by omega, t1, t2, fun p4 H5 e5 k4 => ?_⟩
        refine same_neT (ex_t e5 k3) k4 (pw_add w i j) ?_
        walk_at "go"
        exact ⟨e34.trans e5, rfl⟩
      · walk_at "go"
        exact ⟨e3, rfl⟩
    rintro σ' H3 ⟨e3, rfl⟩
    refine ⟨fun σ' H' => Ex H2 H' ∧ σ' = [some (.ref a), some (.int i), some (.int j), some (.ref p1), some (.ref p2)], ?_, ?_⟩
    · walk_at "go"
      refine ⟨p1, _, p2, _, rfl, ex_t e3 k1, ex_t e3 k2, by omega, by omega, t1, t2, fun p3 H4 e4 k3 => ?_⟩
      replace e3 := e3.trans e4
      walk_at "go"
      refine ⟨p2, _, p1, _, rfl, ex_t e3 k2, ex_t e3 k1, by omega, by omega, t2, t1, fun p4 H5 e5 k4 => ?_⟩
      replace e3 := e3.trans e5
      refine same_neT (ex_t e5 k3) k4 (by rw [← pw_add, ← pw_add, Int.add_comm]) ?_
      walk_at "go"
      refine ⟨a, w, -i, rfl, ex_t (e.trans e3) ha, by omega, bd _ (by omega) (by omega), sw, by omega, by omega, fun p5 H6 e6 k5 => ?_⟩
      replace e3 := e3.trans e6
      walk_at "go"
      refine ⟨p1, _, rfl, ex_t e3 k1, by omega, t1, fun p6 H7 e7 k6 => ?_⟩
      refine same_neT (ex_t e7 k5) k6 (pw_neg w i) ?_
      walk_at "go"
      exact ⟨e3.trans e7, rfl⟩
    rintro σ' H3 ⟨e3, rfl⟩
    walk_at "go"
    refine r_mul (.inl ⟨by omega, by omega⟩) ?_
    walk_at "go"
    by_cases h0 : ((i * j).natAbs : Int) > 20
    · rw [decide_eq_true h0]
      exact q H3 (e.trans e3)
    · rw [decide_eq_false h0]
      walk_at "go"
      refine ⟨p1, _, j, rfl, ex_t e3 k1, by omega, mul_le2 z1 (by omega : j.natAbs ≤ 6) (by decide), t1, by omega, by omega, fun p3 H4 e4 k3 => ?_⟩
      replace e3 := e3.trans e4
      walk_at "go"
      refine r_mul (.inl ⟨by omega, by omega⟩) ?_
      walk_at "go"
      refine ⟨a, w, i * j, rfl, ex_t (e.trans e3) ha, by omega, bd _ (by omega) (by omega), sw, by omega, by omega, fun p4 H5 e5 k4 => ?_⟩
      refine same_eqT (ex_t e5 k3) k4 (pw_mul w i j) ?_
      exact q H5 (e.trans (e3.trans e5))
end
end Lw
namespace Lw
open PySem PySem.Spec PyProof.Rows L2 Evl

local macro_rules | `(tactic| walk_at "go") => `(tactic| repeat (first
  | with_reducible refine st_seq ?_ | with_reducible refine st_set ?_ | with_reducible refine st_asg ?_ | with_reducible refine st_ret ?_ | with_reducible refine st_drop ?_ | with_reducible refine st_if ?_
  | with_reducible refine st_c ?_ | ((with_reducible refine' st_v ?h ?_); (case h => exact rfl)) | with_reducible refine st_n ?_ | with_reducible refine st_cons ?_ | with_reducible refine st_op ?_ | with_reducible refine st_un ?_
  | with_reducible refine st_cb ?_ | with_reducible refine st_test ?_ | with_reducible refine st_call ?_ | with_reducible refine st_callK ?_ | with_reducible refine st_sl ?_ | with_reducible refine st_par ?_ | with_reducible refine st_par3 ?_ | with_reducible refine st_tru ?_
  | with_reducible refine st_and ?_ | with_reducible refine st_or ?_ | with_reducible refine st_not ?_ | with_reducible refine st_B ?_ | with_reducible refine st_andV ?_ | with_reducible refine st_orV ?_ | with_reducible refine st_notV ?_ | with_reducible refine st_ifE ?_
  | with_reducible refine st_part ?_ | with_reducible refine st_nop ?_ | with_reducible refine st_sub ?_ | with_reducible refine st_chain ?_ | with_reducible refine st_bl ?_ | with_reducible refine st_in ?_ | with_reducible refine r_truB ?_
  | with_reducible refine st_nameG ?_ | with_reducible refine if_T ?_ | with_reducible refine if_F ?_ | with_reducible refine if_nT ?_ | with_reducible refine if_nF ?_
  | with_reducible refine r_add ?_ | with_reducible refine r_0 ?_ | with_reducible refine r_neg ?_ | with_reducible refine r_intI ?_ | with_reducible refine r_intB ?_ | with_reducible refine r_abs ?_ | with_reducible refine r_max2 ?_ | with_reducible refine r_min2 ?_ | with_reducible refine r_eqI ?_ | with_reducible refine r_neI ?_
  | with_reducible refine st_nxt ?_ | with_reducible refine st_cnt ?_ | with_reducible refine st_brk ?_ | with_reducible refine st_retn ?_
  | with_reducible refine st_lstN ?_ | with_reducible refine st_tupN ?_
  | with_reducible refine st_for ?_ | with_reducible refine st_lc ?_ | with_reducible refine st_lc2 ?_ | with_reducible refine st_rng1 ?_ | with_reducible refine st_rng2 ?_ | with_reducible refine st_rng3 ?_ | with_reducible refine st_itL ?_ | with_reducible refine st_itT ?_ | with_reducible refine st_rev ?_ | with_reducible refine st_enumE ?_ | with_reducible refine st_zip3 ?_ | with_reducible refine st_lvals ?_ | with_reducible refine st_fld ?_ | with_reducible refine st_sfld ?_ | with_reducible refine st_meth ?_ | with_reducible refine st_make ?_ | with_reducible refine st_rg1 ?_ | with_reducible refine st_enumS ?_ | with_reducible refine st_enumD ?_ | with_reducible refine st_lstIt ?_ | with_reducible refine st_dg1 ?_ | with_reducible refine st_dg2 ?_ | with_reducible refine st_dpop ?_ | with_reducible refine st_dset ?_ | with_reducible refine st_ckw ?_ | with_reducible refine st_dsetT ?_ | with_reducible refine st_dnewT ?_ | with_reducible refine st_dc ?_ | with_reducible refine st_keys ?_ | with_reducible refine st_dget ?_ | with_reducible refine st_din ?_ | with_reducible refine st_dnin ?_ | with_reducible refine st_dput ?_ | with_reducible refine st_dnew ?_ | with_reducible refine st_lstRg ?_ | with_reducible refine st_rg2 ?_ | with_reducible refine r_twoI ?_ | with_reducible refine st_bm ?_ | with_reducible refine st_bm0 ?_
  | ((with_reducible refine' st_aug ?h ?_); (case h => exact rfl)) | with_reducible refine r_augI ?_ | with_reducible refine r_eqB ?_
  | dsimp only))
section
variable {P : Program} {w : World} {K : PySem.W.Frag} {mg : Str → Option Value} {base : Heap} {A : Ad}

/-- the least of the rounds of m -/
def LW (m w : List Int) : Prop := Fg.Lst (rots m (max 1 m.length)) w
theorem mem_rots_all {m z : List Int} : z ∈ rots m (max 1 m.length) ↔ ∃ k : Nat, k ≤ m.length ∧ z = Fg.rotn m k := by
  rw [mem_rots]
  constructor
  · rintro ⟨k, h, e⟩
    exact ⟨k, by omega, e⟩
  · rintro ⟨k, h, e⟩
    rcases Nat.lt_or_ge k m.length with l | g
    · exact ⟨k, by omega, e⟩
    · have : k = m.length := by omega
      rw [this, Fg.rotn_full] at e
      exact ⟨0, by omega, by rw [Fg.rotn_zero]; exact e⟩
theorem rots_same {m : List Int} {k : Nat} (hk : k ≤ m.length) (z : List Int) : z ∈ rots (Fg.rotn m k) (max 1 (Fg.rotn m k).length) ↔ z ∈ rots m (max 1 m.length) := by
  rw [mem_rots_all, mem_rots_all]
  have ln := Fg.rotn_len m k
  constructor
  · rintro ⟨j, hj, rfl⟩
    obtain ⟨i, hi, e⟩ := Fg.rotn_rotn (m := m) hk (j := j) (by omega)
    exact ⟨i, hi, e⟩
  · rintro ⟨j, hj, rfl⟩
    have back : Fg.rotn (Fg.rotn m k) (m.length - k) = m := by
      have h1 : Fg.rotn m k = m.drop k ++ m.take k := rfl
      have h2 : m.length - k = (m.drop k).length := by rw [List.length_drop]
      rw [h1, h2, Fg.rotn_split, List.take_append_drop]
    obtain ⟨i, hi, e⟩ := Fg.rotn_rotn (m := Fg.rotn m k) (i := m.length - k) (j := j) (by omega) (by omega)
    rw [back] at e
    exact ⟨i, by omega, e⟩
theorem lw_turn {m w w' : List Int} {k : Nat} (h : LW m w) (hk : k ≤ m.length) (h' : LW (Fg.rotn m k) w') : w' = w := Fg.lst_same h' h (rots_same hk)
theorem lw_rot {m w : List Int} (h : LW m w) : ∃ k : Nat, k ≤ m.length ∧ w = Fg.rotn m k := mem_rots_all.mp h.mem
theorem lw_of {m w : List Int} (h : (rots m m.length = [] ∧ w = []) ∨ Fg.Lst (rots m m.length) w) : LW m w := by
  by_cases c : m = []
  · subst c
    rcases h with ⟨_, rfl⟩ | h
    · refine ⟨mem_rots.mpr ⟨0, by decide, rfl⟩, fun y hy => ?_⟩
      obtain ⟨i, _, rfl⟩ := mem_rots.mp hy
      have : Fg.rotn [] i = [] := by simp [Fg.rotn]
      rw [this]
      exact Fg.kl_irr _
    · obtain ⟨i, hi, _⟩ := mem_rots.mp h.mem
      exact absurd hi (Nat.not_lt_zero _)
  · have := List.length_pos_iff.mpr c
    rcases h with ⟨h, _⟩ | h
    · have := congrArg List.length h
      rw [rots_len] at this
      simp at this
      exact absurd this c
    · unfold LW
      rw [show max 1 m.length = m.length by omega]
      exact h
def GoalW (g : List Int) : Prop := Fg.Str g ∧ Stp 4 g ∧ g.length ≤ 180
theorem rot_core {u : List Int} (su : Fg.Str u) (tu : Stp 4 u) (zu : u.length ≤ 60) (k : Nat) : GoalW (Fg.rotn (Fg.mid u) k) ∧ Fg.mid (Fg.rotn (Fg.mid u) k) = Fg.rotn (Fg.mid u) k ∧ (Fg.rotn (Fg.mid u) k).length ≤ 60 := by
  have z := mid_len u
  have ln := Fg.rotn_len (Fg.mid u) k
  have st : Stp 4 (Fg.rotn (Fg.mid u) k) := fun x hx => tu x (mid_sub (Fg.mem_rotn.mp hx))
  by_cases c : u = []
  · have : Fg.rotn (Fg.mid u) k = [] := by
      rw [(mid_nil su tu).mpr c]
      simp [Fg.rotn]
    rw [this]
    exact ⟨⟨Fg.str_nil, (fun x hx => by cases hx), by simp⟩, rfl, by simp⟩
  · obtain ⟨_, ne, cy⟩ := Fg.core_parts su c (stp_nz tu)
    have cr := Fg.cyc_rotn cy k
    refine ⟨⟨cr.str, st, by omega⟩, (Fg.lead_mid_of (a := []) (by simp [Fg.bk]) cr fun z => ne ?_).2, by omega⟩
    have := congrArg List.length z
    rw [ln] at this
    exact List.length_eq_zero_iff.mp this
theorem due_core {u o : List Int} (su : Fg.Str u) (tu : Stp 4 u) (to : Stp 4 o) : ∃ k : Nat, k ≤ (Fg.mid u).length ∧ Fg.mid (Fg.tn u o) = Fg.rotn (Fg.mid u) k := by
  by_cases c : u = []
  · refine ⟨0, Nat.zero_le _, ?_⟩
    have e : Fg.tn [] o = [] := by
      unfold Fg.tn
      rw [List.append_nil]
      exact Fg.rd_eq (Fg.eqv_kb o)
    rw [Fg.rotn_zero, c, e]
  · exact Fg.core_conj o su c (stp_nz tu) (stp_nz to)
theorem due_goal {u o : List Int} (tu : Stp 4 u) (to : Stp 4 o) (zu : u.length ≤ 60) (zo : o.length ≤ 60) : GoalW (Fg.tn u o) := by
  refine ⟨Fg.tn_str u o, fun x hx => ?_, ?_⟩
  · rcases Fg.tn_mem hx with h | h | h
    · exact tu x h
    · exact to x h
    · have := to _ h
      omega
  · have := Fg.rd_len (Fg.bk o ++ u ++ o)
    simp only [List.length_append, Fg.bk_len] at this
    unfold Fg.tn
    omega
theorem r_eqB {K : PySem.W.Frag} {H : Hp} {Q : VK} {i j : Bool} (q : Q (.bl (decide (i = j))) H) : rEqU K (.bl i) (.bl j) H Q := .inl ⟨rfl, by
  have e : decide ((V.bl i) = V.bl j) = decide (i = j) := by simp
  rw [e]
  exact q⟩
theorem r_neB {K : PySem.W.Frag} {H : Hp} {Q : VK} {i j : Bool} (q : Q (.bl (!decide (i = j))) H) : rNeU K (.bl i) (.bl j) H Q := .inl ⟨rfl, by
  have e : decide ((V.bl i) = V.bl j) = decide (i = j) := by simp
  rw [e]
  exact q⟩
/-- the root of a walk: nothing of none, or of a form -/
theorem root_two {x u : List Int} {t : Int} (sx : Fg.Str x) (nx : ∀ i ∈ x, i ≠ 0) (h : RootIs x u t) : (x = [] ∧ u = [] ∧ t = 0) ∨ ∃ (a c : List Int) (T : Nat), Fg.Nf x a c T ∧ u = a ++ c ++ Fg.bk a ∧ t = (T : Int) := by
  by_cases e : x = []
  · rw [e] at h
    obtain ⟨rfl, rfl⟩ := rootIs_unique h Fg.root_nil
    exact .inl ⟨e, rfl, rfl⟩
  · obtain ⟨c, T, N⟩ := Fg.nf_of sx e nx
    obtain ⟨h1, h2⟩ := rootIs_unique h N.root
    exact .inr ⟨_, c, T, N, h1, h2⟩
theorem nf_root_ne {x a c : List Int} {T : Nat} (N : Fg.Nf x a c T) : a ++ c ++ Fg.bk a ≠ [] := fun z => N.prim.ne (List.append_eq_nil_iff.mp (List.append_eq_nil_iff.mp z).1).2
theorem comm_due {x y u v : List Int} {t s : Int} (nx : ∀ i ∈ x, i ≠ 0) (ny : ∀ i ∈ y, i ≠ 0) (hu : RootIs (Fg.rd x) u t) (hv : RootIs (Fg.rd y) v s) : Fg.rd (x ++ y) = Fg.rd (y ++ x) ↔ (u = [] ∨ v = [] ∨ u = v ∨ u = Fg.rd (Fg.bk v)) := by
  rw [← Fg.rd_app x y, ← Fg.rd_app y x]
  rcases root_two (Fg.str_rd x) (fun i h => nx i (Fg.mem_rd h)) hu with ⟨ex, eu, _⟩ | ⟨a, c, T, N, eu, _⟩
  · rw [ex, List.append_nil, List.nil_append]
    exact ⟨fun _ => .inl eu, fun _ => rfl⟩
  · rcases root_two (Fg.str_rd y) (fun i h => ny i (Fg.mem_rd h)) hv with ⟨ey, ev, _⟩ | ⟨b, d, S, M, ev, _⟩
    · rw [ey, List.append_nil, List.nil_append]
      exact ⟨fun _ => .inr (.inl ev), fun _ => rfl⟩
    · rw [Fg.comm_roots N M, ← eu, ← ev]
      have n1 : u ≠ [] := eu ▸ nf_root_ne N
      have n2 : v ≠ [] := ev ▸ nf_root_ne M
      have e3 : Fg.rd (Fg.bk v) = Fg.bk v := Fg.rd_str (Fg.str_bk (ev ▸ M.str))
      rw [e3]
      constructor
      · exact fun h => .inr (.inr h)
      · rintro (h | h | h)
        · exact absurd h n1
        · exact absurd h n2
        · exact h
theorem comm_back (x y : List Int) : Fg.rd (Fg.rd (Fg.bk x) ++ y) = Fg.rd (y ++ Fg.rd (Fg.bk x)) ↔ Fg.rd (x ++ y) = Fg.rd (y ++ x) := by
  rw [Fg.rd_app_l, Fg.rd_app_r]
  constructor
  · intro h
    have := Fg.comm_bk (Fg.eqv_of_rd h)
    rw [Fg.bk_bk] at this
    exact Fg.rd_eq this
  · intro h
    exact Fg.rd_eq (Fg.comm_bk (Fg.eqv_of_rd h))
def sp__law_commuting (K : PySem.W.Frag) : Sp := fun vs H Q _ => ∃ a b x y, vs = [.ref a, .ref b] ∧ IT K H a x ∧ IT K H b y ∧ x.length ≤ 100 ∧ y.length ≤ 100 ∧ Stp 4 x ∧ Stp 4 y ∧ ∀ H1, Ex H H1 → Q (.bl true) H1
theorem ok__law_commuting (T : Tx K mg A) : FnOk P w K mg base CX0 6 A.a__law_commuting A.f__law_commuting P__law_commuting (sp__law_commuting K) := by
  refine T.F__law_commuting.ok sc__law_commuting (fun vs H Q E h => ?_) (fun cdv A' outer s H vs Q E hr h => ?_)
  · obtain ⟨a, b, x, y, rfl, _⟩ := h
    rfl
  · obtain ⟨a, b, x, y, rfl, ha, hb, zx, zy, sx, sy, q⟩ := h
    refine ⟨_, (pss_cons (ps_par (i := 2) (j := 3) (by rfl) sc__law_commuting.nd rfl rfl (by decide) rfl rfl (pa_cons (pe_ix (ix_K K) (pe_call (ok_root T) (hr.mono (by decide)) (by rfl) T.g_root T.F_root.kp T.b_root .nil pass0 (pa_cons (pv 0) pa_nil)) pe_int (fun _ _ => rfl)) (pa_cons (pe_ix (ix_K K) (pe_call (ok_root T) (hr.mono (by decide)) (by rfl) T.g_root T.F_root.kp T.b_root .nil pass0 (pa_cons (pv 1) pa_nil)) pe_int (fun _ _ => rfl)) pa_nil)) (by rfl))
      (pss_cons (ps_set (i := 4) sc__law_commuting.nd rfl (Or.inl rfl) (pe_or (pe_cmpR (op_eqK K hr.units) (pv 2) (pe_tup pa_nil) (nomark _)) (pe_or (pe_cmpR (op_eqK K hr.units) (pv 3) (pe_tup pa_nil) (nomark _)) (pe_or (pe_cmpR (op_eqK K hr.units) (pv 2) (pv 3) (nomark _)) (pe_one (pe_cmpR (op_eqK K hr.units) (pv 2) (pe_call (ok_back T) (hr.mono (by decide)) (by rfl) T.g_back T.F_back.kp T.b_back .nil pass0 (pa_cons (pv 3) pa_nil)) (nomark _)))))))
      (pss_one (ps_ret (pe_and (pe_cmpR (op_eqK K hr.units) (pe_call (ok_commute T) (hr.mono (by decide)) (by rfl) T.g_commute T.F_commute.kp T.b_commute .nil pass0 (pa_cons (pv 0) (pa_cons (pv 1) pa_nil))) (pv 4) (nomark _)) (pe_and (pe_cmpR (op_eqK K hr.units) (pe_call (ok_commute T) (hr.mono (by decide)) (by rfl) T.g_commute T.F_commute.kp T.b_commute .nil pass0 (pa_cons (pv 1) (pa_cons (pv 0) pa_nil))) (pv 4) (nomark _)) (pe_one (pe_cmpR (op_eqK K hr.units) (pe_call (ok_commute T) (hr.mono (by decide)) (by rfl) T.g_commute T.F_commute.kp T.b_commute .nil pass0 (pa_cons (pe_call (ok_back T) (hr.mono (by decide)) (by rfl) T.g_back T.F_back.kp T.b_back .nil pass0 (pa_cons (pv 0) pa_nil)) (pa_cons (pv 1) pa_nil))) (pv 4) (nomark _))))))))), ?_⟩
    walk_at "go"
    refine ⟨a, x, rfl, ha, by omega, sx, fun p1 u t H1 e1 ru k1 => ?_⟩
    obtain ⟨c1, k1, h1⟩ := k1.ex
    refine r_ixT k1 rfl ?_
    walk_at "go"
    refine ⟨b, y, rfl, ex_t e1 hb, by omega, sy, fun p2 v t2 H2 e2 rv k2 => ?_⟩
    obtain ⟨c2, k2, h2⟩ := k2.ex
    refine r_ixT k2 rfl ?_
    refine ⟨_, _, rfl, ?_⟩
    replace h1 := ex_t e2 h1
    have key := comm_due (stp_nz sx) (stp_nz sy) ru rv
    have lv := root_len rv
    have ly := Fg.rd_len y
    have sv : Stp 4 v := by
      rcases root_two (Fg.str_rd y) (stp_nz (stp_rd sy)) rv with ⟨_, ev, _⟩ | ⟨b, d, S, M, ev, _⟩
      · rw [ev]
        intro x hx
        cases hx
      · intro z hz
        refine stp_rd sy z ?_
        rw [ev] at hz
        rw [M.eq]
        rcases List.mem_append.mp hz with hz | hz
        · rcases List.mem_append.mp hz with hz | hz
          · exact List.mem_append_left _ (List.mem_append_left _ hz)
          · refine List.mem_append_left _ (List.mem_append_right _ ?_)
            have := M.pos
            obtain ⟨n, rfl⟩ : ∃ n, S = n + 1 := ⟨S - 1, by omega⟩
            exact List.mem_append_right _ hz
        · exact List.mem_append_right _ hz
    have e := e1.trans e2
    clear e1 e2 k1 k2
    obtain ⟨cm, hcm⟩ : ∃ c, decide (Fg.rd (x ++ y) = Fg.rd (y ++ x)) = c := ⟨_, rfl⟩
    have h2c : decide (Fg.rd (y ++ x) = Fg.rd (x ++ y)) = cm := by
      rw [← hcm]
      exact decide_eq_decide.mpr ⟨Eq.symm, Eq.symm⟩
    have h3c : decide (Fg.rd (Fg.rd (Fg.bk x) ++ y) = Fg.rd (y ++ Fg.rd (Fg.bk x))) = cm := by
      rw [← hcm]
      exact decide_eq_decide.mpr (comm_back x y)
    have lbx := rd_lb x
    walk_at "go"
    refine r_newT (by simp) fun p3 H3 _ e3 k3 => ?_
    replace e := e.trans e3
    walk_at "go"
    refine r_eqT (ms := []) (ex_t e3 h1) (t_of k3) ?_
    refine ⟨_, rfl, ?_⟩
    refine if_2 (fun g0 => ?_) fun g0 => ?_
    rotate_left
    · walk_at "go"
      refine r_newT (by simp) fun p4 H4 _ e4 k4 => ?_
      walk_at "go"
      refine r_eqT (ms := []) (ex_t (e3.trans e4) h2) (t_of k4) ?_
      replace e := e.trans e4
      refine ⟨_, rfl, ?_⟩
      refine if_2 (fun g1 => ?_) fun g1 => ?_
      rotate_left
      · walk_at "go"
        refine r_eqT (ex_t (e3.trans e4) h1) (ex_t (e3.trans e4) h2) ?_
        refine ⟨_, rfl, ?_⟩
        refine if_2 (fun g2 => ?_) fun g2 => ?_
        rotate_left
        · walk_at "go"
          refine ⟨c2, v, rfl, ex_t (e3.trans e4) h2, by omega, sv, fun p5 H5 e5 k5 => ?_⟩
          replace e := e.trans e5
          refine r_eqT (ex_t ((e3.trans e4).trans e5) h1) k5 ?_
          rw [show decide (u = Fg.rd (Fg.bk v)) = cm by
            rw [← hcm]
            exact decide_eq_decide.mpr ⟨fun h => key.mpr (.inr (.inr (.inr h))), fun h => by
              rcases key.mp h with h | h | h | h
              · exact absurd h g0
              · exact absurd h g1
              · exact absurd h g2
              · exact h⟩]
          walk_at "go"
          refine ⟨a, x, b, y, rfl, ex_t e ha, ex_t e hb, by omega, by omega, sx, sy, fun H9 e9 => ?_⟩
          replace e := e.trans e9
          walk_at "go"
          rw [hcm, decide_eq_true rfl]
          walk_at "go"
          refine ⟨b, y, a, x, rfl, ex_t e hb, ex_t e ha, by omega, by omega, sy, sx, fun H10 e10 => ?_⟩
          replace e := e.trans e10
          walk_at "go"
          rw [h2c, decide_eq_true rfl]
          walk_at "go"
          refine ⟨a, x, rfl, ex_t e ha, by omega, sx, fun p9 H11 e11 k9 => ?_⟩
          replace e := e.trans e11
          walk_at "go"
          refine ⟨p9, _, b, y, rfl, k9, ex_t e hb, by omega, by omega, stp_rd (stp_bk sx), sy, fun H12 e12 => ?_⟩
          walk_at "go"
          rw [h3c, decide_eq_true rfl]
          exact q H12 (e.trans e12)
        · have hc : cm = true := by rw [← hcm]; exact decide_eq_true (key.mpr (.inr (.inr (.inl g2))))
          subst hc
          walk_at "go"
          refine ⟨a, x, b, y, rfl, ex_t e ha, ex_t e hb, by omega, by omega, sx, sy, fun H9 e9 => ?_⟩
          replace e := e.trans e9
          walk_at "go"
          rw [hcm, decide_eq_true rfl]
          walk_at "go"
          refine ⟨b, y, a, x, rfl, ex_t e hb, ex_t e ha, by omega, by omega, sy, sx, fun H10 e10 => ?_⟩
          replace e := e.trans e10
          walk_at "go"
          rw [h2c, decide_eq_true rfl]
          walk_at "go"
          refine ⟨a, x, rfl, ex_t e ha, by omega, sx, fun p9 H11 e11 k9 => ?_⟩
          replace e := e.trans e11
          walk_at "go"
          refine ⟨p9, _, b, y, rfl, k9, ex_t e hb, by omega, by omega, stp_rd (stp_bk sx), sy, fun H12 e12 => ?_⟩
          walk_at "go"
          rw [h3c, decide_eq_true rfl]
          exact q H12 (e.trans e12)
      · have hc : cm = true := by rw [← hcm]; exact decide_eq_true (key.mpr (.inr (.inl g1)))
        subst hc
        walk_at "go"
        refine ⟨a, x, b, y, rfl, ex_t e ha, ex_t e hb, by omega, by omega, sx, sy, fun H9 e9 => ?_⟩
        replace e := e.trans e9
        walk_at "go"
        rw [hcm, decide_eq_true rfl]
        walk_at "go"
        refine ⟨b, y, a, x, rfl, ex_t e hb, ex_t e ha, by omega, by omega, sy, sx, fun H10 e10 => ?_⟩
        replace e := e.trans e10
        walk_at "go"
        rw [h2c, decide_eq_true rfl]
        walk_at "go"
        refine ⟨a, x, rfl, ex_t e ha, by omega, sx, fun p9 H11 e11 k9 => ?_⟩
        replace e := e.trans e11
        walk_at "go"
        refine ⟨p9, _, b, y, rfl, k9, ex_t e hb, by omega, by omega, stp_rd (stp_bk sx), sy, fun H12 e12 => ?_⟩
        walk_at "go"
        rw [h3c, decide_eq_true rfl]
        exact q H12 (e.trans e12)
    · have hc : cm = true := by rw [← hcm]; exact decide_eq_true (key.mpr (.inl g0))
      subst hc
      walk_at "go"
      refine ⟨a, x, b, y, rfl, ex_t e ha, ex_t e hb, by omega, by omega, sx, sy, fun H9 e9 => ?_⟩
      replace e := e.trans e9
      walk_at "go"
      rw [hcm, decide_eq_true rfl]
      walk_at "go"
      refine ⟨b, y, a, x, rfl, ex_t e hb, ex_t e ha, by omega, by omega, sy, sx, fun H10 e10 => ?_⟩
      replace e := e.trans e10
      walk_at "go"
      rw [h2c, decide_eq_true rfl]
      walk_at "go"
      refine ⟨a, x, rfl, ex_t e ha, by omega, sx, fun p9 H11 e11 k9 => ?_⟩
      replace e := e.trans e11
      walk_at "go"
      refine ⟨p9, _, b, y, rfl, k9, ex_t e hb, by omega, by omega, stp_rd (stp_bk sx), sy, fun H12 e12 => ?_⟩
      walk_at "go"
      rw [h3c, decide_eq_true rfl]
      exact q H12 (e.trans e12)
end
end Lw
namespace Lw
open PySem PySem.Spec PyProof.Rows L2 Evl

local macro_rules | `(tactic| walk_at "go") => `(tactic| repeat (first
  | with_reducible refine st_seq ?_ | with_reducible refine st_set ?_ | with_reducible refine st_asg ?_ | with_reducible refine st_ret ?_ | with_reducible refine st_drop ?_ | with_reducible refine st_if ?_
  | with_reducible refine st_c ?_ | ((with_reducible refine' st_v ?h ?_); (case h => exact rfl)) | with_reducible refine st_n ?_ | with_reducible refine st_cons ?_ | with_reducible refine st_op ?_ | with_reducible refine st_un ?_
  | with_reducible refine st_cb ?_ | with_reducible refine st_test ?_ | with_reducible refine st_call ?_ | with_reducible refine st_callK ?_ | with_reducible refine st_sl ?_ | with_reducible refine st_par ?_ | with_reducible refine st_par3 ?_ | with_reducible refine st_tru ?_
  | with_reducible refine st_and ?_ | with_reducible refine st_or ?_ | with_reducible refine st_not ?_ | with_reducible refine st_B ?_ | with_reducible refine st_andV ?_ | with_reducible refine st_orV ?_ | with_reducible refine st_notV ?_ | with_reducible refine st_ifE ?_
  | with_reducible refine st_part ?_ | with_reducible refine st_nop ?_ | with_reducible refine st_sub ?_ | with_reducible refine st_chain ?_ | with_reducible refine st_bl ?_ | with_reducible refine st_in ?_ | with_reducible refine r_truB ?_
  | with_reducible refine st_nameG ?_ | with_reducible refine if_T ?_ | with_reducible refine if_F ?_ | with_reducible refine if_nT ?_ | with_reducible refine if_nF ?_
  | with_reducible refine r_add ?_ | with_reducible refine r_0 ?_ | with_reducible refine r_neg ?_ | with_reducible refine r_intI ?_ | with_reducible refine r_intB ?_ | with_reducible refine r_abs ?_ | with_reducible refine r_max2 ?_ | with_reducible refine r_min2 ?_ | with_reducible refine r_eqI ?_ | with_reducible refine r_neI ?_
  | with_reducible refine st_nxt ?_ | with_reducible refine st_cnt ?_ | with_reducible refine st_brk ?_ | with_reducible refine st_retn ?_
  | with_reducible refine st_lstN ?_ | with_reducible refine st_tupN ?_
  | with_reducible refine st_for ?_ | with_reducible refine st_lc ?_ | with_reducible refine st_lc2 ?_ | with_reducible refine st_rng1 ?_ | with_reducible refine st_rng2 ?_ | with_reducible refine st_rng3 ?_ | with_reducible refine st_itL ?_ | with_reducible refine st_itT ?_ | with_reducible refine st_rev ?_ | with_reducible refine st_enumE ?_ | with_reducible refine st_zip3 ?_ | with_reducible refine st_lvals ?_ | with_reducible refine st_fld ?_ | with_reducible refine st_sfld ?_ | with_reducible refine st_meth ?_ | with_reducible refine st_make ?_ | with_reducible refine st_rg1 ?_ | with_reducible refine st_enumS ?_ | with_reducible refine st_enumD ?_ | with_reducible refine st_lstIt ?_ | with_reducible refine st_dg1 ?_ | with_reducible refine st_dg2 ?_ | with_reducible refine st_dpop ?_ | with_reducible refine st_dset ?_ | with_reducible refine st_ckw ?_ | with_reducible refine st_dsetT ?_ | with_reducible refine st_dnewT ?_ | with_reducible refine st_dc ?_ | with_reducible refine st_keys ?_ | with_reducible refine st_dget ?_ | with_reducible refine st_din ?_ | with_reducible refine st_dnin ?_ | with_reducible refine st_dput ?_ | with_reducible refine st_dnew ?_ | with_reducible refine st_lstRg ?_ | with_reducible refine st_rg2 ?_ | with_reducible refine r_twoI ?_ | with_reducible refine st_bm ?_ | with_reducible refine st_bm0 ?_
  | ((with_reducible refine' st_aug ?h ?_); (case h => exact rfl)) | with_reducible refine r_augI ?_ | with_reducible refine r_eqB ?_
  | dsimp only))
section
variable {P : Program} {w : World} {K : PySem.W.Frag} {mg : Str → Option Value} {base : Heap} {A : Ad}

theorem tn_nil_l (o : List Int) : Fg.tn [] o = [] := by
  unfold Fg.tn
  rw [List.append_nil]
  exact Fg.rd_eq (Fg.eqv_kb o)
theorem nf_stp {x a c : List Int} {T : Nat} (N : Fg.Nf x a c T) (h : Stp 4 x) : Stp 4 (a ++ c ++ Fg.bk a) := fun z hz => by
  refine h z ?_
  rw [N.eq]
  rcases List.mem_append.mp hz with hz | hz
  · rcases List.mem_append.mp hz with hz | hz
    · exact List.mem_append_left _ (List.mem_append_left _ hz)
    · refine List.mem_append_left _ (List.mem_append_right _ ?_)
      have := N.pos
      obtain ⟨n, rfl⟩ : ∃ n, T = n + 1 := ⟨T - 1, by omega⟩
      exact List.mem_append_right _ hz
  · exact List.mem_append_right _ hz
theorem nf_len {x a c : List Int} {T : Nat} (N : Fg.Nf x a c T) : (a ++ c ++ Fg.bk a).length ≤ x.length := by
  have e := congrArg List.length N.eq
  simp only [List.length_append, Fg.rep_len, Fg.bk_len] at e ⊢
  have : 1 * c.length ≤ T * c.length := Nat.mul_le_mul_right _ N.pos
  omega
structure RootF (x u : List Int) (t : Int) : Prop where
  nat : ∃ T : Nat, t = (T : Int)
  pow : pw u t = x
  stp : Stp 4 u
  str : Fg.Str u
  len : u.length ≤ x.length
  turn : ∀ o, Stp 4 o → RootIs (Fg.tn x o) (Fg.tn u o) t
  many : ∀ k : Int, k ≠ 0 → x ≠ [] → RootIs (pw x k) (if k < 0 then Fg.bk u else u) (t * (k.natAbs : Int))
theorem root_facts {x u : List Int} {t : Int} (sx : Fg.Str x) (tx : Stp 4 x) (h : RootIs x u t) : RootF x u t := by
  rcases root_two sx (stp_nz tx) h with ⟨rfl, rfl, rfl⟩ | ⟨a, c, T, N, rfl, rfl⟩
  · exact ⟨⟨0, rfl⟩, pw_zero _, tx, sx, Nat.le_refl _, fun o _ => by rw [tn_nil_l]; exact Fg.root_nil, fun k _ h => absurd rfl h⟩
  · refine ⟨⟨T, rfl⟩, ?_, nf_stp N tx, N.str, nf_len N, fun o to => ?_, fun k hk _ => ?_⟩
    · rw [pw_z, Fg.z_nat, ← Fg.rd_eq N.asroot, Fg.rd_str sx]
    · obtain ⟨b, d, M, e⟩ := N.turn (stp_nz (nf_stp N tx)) (stp_nz to)
      rw [← e]
      exact M.root
    · obtain ⟨d, M, e⟩ := N.z hk
      rw [pw_z, ← e, ← Int.natCast_mul]
      exact M.root
theorem core_facts {x : List Int} (sx : Fg.Str x) (tx : Stp 4 x) : Fg.lead x ++ Fg.mid x ++ Fg.bk (Fg.lead x) = x ∧ Fg.lead (Fg.rd (Fg.mid x)) = [] ∧ Fg.mid (Fg.rd (Fg.mid x)) = Fg.mid x := by
  by_cases e : x = []
  · subst e
    exact ⟨rfl, rfl, rfl⟩
  · obtain ⟨e1, mn, cy⟩ := Fg.core_parts sx e (stp_nz tx)
    have := Fg.lead_mid_of (a := []) (m := Fg.mid x) (w := Fg.mid x) (by simp [Fg.bk]) cy mn
    rw [Fg.rd_str cy.str]
    exact ⟨e1.symm, this.1, this.2⟩
theorem lead_least {x l : List Int} (sx : Fg.Str x) (tx : Stp 4 x) (h : LW (Fg.mid x) l) : Fg.lead (Fg.rd l) = [] ∧ Stp 4 l ∧ l.length ≤ x.length ∧ Fg.rd l = l := by
  obtain ⟨k, hk, rfl⟩ := lw_rot h
  have ml := mid_len x
  have st : Stp 4 (Fg.rotn (Fg.mid x) k) := fun z hz => tx z (mid_sub (Fg.mem_rotn.mp hz))
  have ln := Fg.rotn_len (Fg.mid x) k
  by_cases e : x = []
  · subst e
    have : Fg.rotn (Fg.mid []) k = [] := List.length_eq_zero_iff.mp (by rw [ln]; rfl)
    rw [this] at st ⊢
    exact ⟨rfl, st, Nat.le_refl _, rfl⟩
  · obtain ⟨e1, mn, cy⟩ := Fg.core_parts sx e (stp_nz tx)
    have cr := Fg.cyc_rotn cy k
    rw [Fg.rd_str cr.str]
    exact ⟨(Fg.lead_mid_of (a := []) (by simp [Fg.bk]) cr fun z => mn (by rw [z] at ln; exact List.length_eq_zero_iff.mp ln.symm)).1, st, by omega, rfl⟩
def sp__law_rooted (K : PySem.W.Frag) : Sp := fun vs H Q _ => ∃ a b w o k, vs = [.ref a, .ref b, .int k] ∧ IT K H a w ∧ IT K H b o ∧ w.length ≤ 60 ∧ o.length ≤ 20 ∧ Stp 4 w ∧ Stp 4 o ∧ -20 ≤ k ∧ k ≤ 20 ∧ ∀ H1, Ex H H1 → Q (.bl true) H1
theorem ok__law_rooted (T : Tx K mg A) : FnOk P w K mg base CX0 6 A.a__law_rooted A.f__law_rooted P__law_rooted (sp__law_rooted K) := by
  refine T.F__law_rooted.ok sc__law_rooted (fun vs H Q E h => ?_) (fun cdv A' outer s H vs Q E hr h => ?_)
  · obtain ⟨a, b, w, o, k, rfl, _⟩ := h
    rfl
  · obtain ⟨a, b, w, o, k, rfl, ha, hb, zw, zo, sw, so, k0, k2, q⟩ := h
    refine ⟨_, (pss_cons (ps_asg (pe_call (ok_root T) (hr.mono (by decide)) (by rfl) T.g_root T.F_root.kp T.b_root .nil pass0 (pa_cons (pv 0) pa_nil)) (pg_tupK K (by rfl) (pgs_cons (pg_name (i := 3) sc__law_rooted.nd rfl (Or.inl rfl)) (pgs_cons (pg_name (i := 4) sc__law_rooted.nd rfl (Or.inl rfl)) pgs_nil))))
      (pss_cons (ps_set (i := 5) sc__law_rooted.nd rfl (Or.inl rfl) (pe_call (ok_turned T) (hr.mono (by decide)) (by rfl) T.g_turned T.F_turned.kp T.b_turned .nil pass0 (pa_cons (pv 0) (pa_cons (pv 1) pa_nil))))
      (Evl.pss_cut (ps_if (PW.pt (pw_and (pt_cmpR (op_neK K hr.units) (pe_call (ok_power T) (hr.mono (by decide)) (by rfl) T.g_power T.F_power.kp T.b_power .nil pass0 (pa_cons (pv 3) (pa_cons (pe_callB (min2_K rfl) (by rfl) T.n_min (by decide +kernel) (pa_cons (pv 4) (pa_cons pe_int pa_nil))) pa_nil))) (pe_call (ok_straight T) (hr.mono (by decide)) (by rfl) T.g_straight T.F_straight.kp T.b_straight .nil pass0 (pa_cons (pv 0) pa_nil)) (nomark _)) (pw_and1 (pt_cmpR op_le (pv 4) pe_int (nomark _))))) (pss_one (ps_ret pe_bl)) pss_nil)
      (pss_cons (ps_asg (pe_call (ok_core T) (hr.mono (by decide)) (by rfl) T.g_core T.F_core.kp T.b_core .nil pass0 (pa_cons (pv 0) pa_nil)) (pg_tupK K (by rfl) (pgs_cons (pg_name (i := 6) sc__law_rooted.nd rfl (Or.inl rfl)) (pgs_cons (pg_name (i := 7) sc__law_rooted.nd rfl (Or.inl rfl)) pgs_nil))))
      (Evl.pss_cut (ps_if (PW.pt (pw_or (pt_cmpR (op_neK K hr.units) (pe_call (ok_behind T) (hr.mono (by decide)) (by rfl) T.g_behind T.F_behind.kp T.b_behind .nil pass0 (pa_cons (pe_call (ok_behind T) (hr.mono (by decide)) (by rfl) T.g_behind T.F_behind.kp T.b_behind .nil pass0 (pa_cons (pv 6) (pa_cons (pv 7) pa_nil))) (pa_cons (pe_call (ok_back T) (hr.mono (by decide)) (by rfl) T.g_back T.F_back.kp T.b_back .nil pass0 (pa_cons (pv 6) pa_nil)) pa_nil))) (pe_call (ok_straight T) (hr.mono (by decide)) (by rfl) T.g_straight T.F_straight.kp T.b_straight .nil pass0 (pa_cons (pv 0) pa_nil)) (nomark _)) (pw_or1 (pt_cmpR (op_neK K hr.units) (pe_call (ok_core T) (hr.mono (by decide)) (by rfl) T.g_core T.F_core.kp T.b_core .nil pass0 (pa_cons (pv 7) pa_nil)) (pe_tup (pa_cons (pe_tup pa_nil) (pa_cons (pv 7) pa_nil))) (nomark _))))) (pss_one (ps_ret pe_bl)) pss_nil)
      (Evl.pss_cut (ps_if (PW.pt (pw_or (pt_cmpR (op_neK K hr.units) (pe_call (ok_root T) (hr.mono (by decide)) (by rfl) T.g_root T.F_root.kp T.b_root .nil pass0 (pa_cons (pv 5) pa_nil)) (pe_tup (pa_cons (pe_call (ok_turned T) (hr.mono (by decide)) (by rfl) T.g_turned T.F_turned.kp T.b_turned .nil pass0 (pa_cons (pv 3) (pa_cons (pv 1) pa_nil))) (pa_cons (pv 4) pa_nil))) (nomark _)) (pw_or1 (pt_cmpR (op_neK K hr.units) (pe_ix (ix_K K) (pe_call (ok_core T) (hr.mono (by decide)) (by rfl) T.g_core T.F_core.kp T.b_core .nil pass0 (pa_cons (pe_call (ok_least_turned T) (hr.mono (by decide)) (by rfl) T.g_least_turned T.F_least_turned.kp T.b_least_turned .nil pass0 (pa_cons (pv 5) pa_nil)) pa_nil)) pe_int (fun _ _ => rfl)) (pe_tup pa_nil) (nomark _))))) (pss_one (ps_ret pe_bl)) pss_nil)
      (pss_cons (ps_set (i := 8) sc__law_rooted.nd rfl (Or.inl rfl) (pe_call (ok_power T) (hr.mono (by decide)) (by rfl) T.g_power T.F_power.kp T.b_power .nil pass0 (pa_cons (pv 5) (pa_cons (pv 2) pa_nil))))
      (Evl.pss_cut (ps_if (pt_cmpR op_gt (pe_callB (len_K K) (by rfl) T.n_len (by decide +kernel) (pa_cons (pv 8) pa_nil)) pe_int (nomark _)) (pss_one (ps_ret pe_bl)) pss_nil)
      (Evl.pss_cut (ps_if (PW.pt (pw_or (pt_cmpR (op_eqK K hr.units) (pv 2) pe_int (nomark _)) (pw_or1 (pt_cmpR (op_eqK K hr.units) (pe_call (ok_straight T) (hr.mono (by decide)) (by rfl) T.g_straight T.F_straight.kp T.b_straight .nil pass0 (pa_cons (pv 0) pa_nil)) (pe_tup pa_nil) (nomark _))))) (pss_one (ps_ret (pe_cmpR (op_eqK K hr.units) (pe_call (ok_root T) (hr.mono (by decide)) (by rfl) T.g_root T.F_root.kp T.b_root .nil pass0 (pa_cons (pv 8) pa_nil)) (pe_tup (pa_cons (pe_tup pa_nil) (pa_cons pe_int pa_nil))) (nomark _)))) pss_nil)
      (pss_cons (ps_set (i := 9) sc__law_rooted.nd rfl (Or.inl rfl) (pe_call (ok_turned T) (hr.mono (by decide)) (by rfl) T.g_turned T.F_turned.kp T.b_turned .nil pass0 (pa_cons (pv 3) (pa_cons (pv 1) pa_nil))))
      (pss_one (ps_ret (pe_cmpR (op_eqK K hr.units) (pe_call (ok_root T) (hr.mono (by decide)) (by rfl) T.g_root T.F_root.kp T.b_root .nil pass0 (pa_cons (pv 8) pa_nil)) (pe_tup (pa_cons (pe_ix (ix_K K) (pe_lst (pa_cons (pv 9) (pa_cons (pe_call (ok_back T) (hr.mono (by decide)) (by rfl) T.g_back T.F_back.kp T.b_back .nil pass0 (pa_cons (pv 9) pa_nil)) pa_nil))) (pe_callTy int_K (by rfl) T.n_int (by decide +kernel) (pa_cons (pe_cmpR op_lt (pv 2) pe_int (nomark _)) pa_nil)) (fun _ _ => rfl)) (pa_cons (pe_op (op_mulK K) (pv 4) (pe_callB abs_K (by rfl) T.n_abs (by decide +kernel) (pa_cons (pv 2) pa_nil))) pa_nil))) (nomark _)))))))))))))), ?_⟩
    walk_at "go"
    refine ⟨a, w, rfl, ha, by omega, sw, fun p1 u t H1 e1 ri k1 => ?_⟩
    obtain ⟨p2, hp1, hp2⟩ := k1.ex
    have zx := Fg.rd_len w
    have F := root_facts (Fg.str_rd w) (stp_rd sw) ri
    walk_at "go"
    refine r_tup2 hp1 ?_
    walk_at "go"
    refine ⟨a, w, b, o, rfl, ex_t e1 ha, ex_t e1 hb, by omega, by omega, sw, so, fun p3 H2 e2 k3 => ?_⟩
    have hE : Fg.tn w o = Fg.tn (Fg.rd w) o := (Fg.tn_rd w o).symm
    have sX := Fg.str_rd w
    have tX := stp_rd sw
    obtain ⟨X, hX⟩ : ∃ X, Fg.rd w = X := ⟨_, rfl⟩
    rw [hE] at k3
    rw [hX] at zx F sX tX k3
    clear hE
    have zu := F.len
    have F2 := root_facts (Fg.tn_str X o) (stp_tn tX so) (F.turn o so)
    have zm := tn_len X o
    have zt := tn_len u o
    have tm := stp_tn tX so
    have sm := Fg.tn_str X o
    obtain ⟨T, hT⟩ := F.nat
    have e := e1.trans e2
    replace hp2 := ex_t e2 hp2
    clear e1 e2 k1 hp1
    refine ⟨fun σ' H' => Ex H2 H' ∧ σ' = [some (.ref a), some (.ref b), some (.int k), some (.ref p2), some (.int t), some (.ref p3), none, none, none, none], ?_, ?_⟩
    · walk_at "go"
      refine ⟨p2, u, min t 20, rfl, hp2, by omega, mul_le2 (by omega : u.length ≤ 60) (by omega : (min t 20).natAbs ≤ 20) (by decide), F.stp, by omega, by omega, fun p4 H3 e3 k4 => ?_⟩
      walk_at "go"
      refine ⟨a, w, rfl, ex_t (e.trans e3) ha, by omega, sw, fun p5 H4 e4 k5 => ?_⟩
      rw [hX] at k5
      refine r_neT (ex_t e4 k4) k5 ?_
      walk_at "go"
      refine ifn_2 (fun h0 => ?_) fun h0 => ?_
      · walk_at "go"
        rw [decide_eq_false fun z : t ≤ 20 => h0 (by rw [Int.min_eq_left z]; exact F.pow)]
        walk_at "go"
        exact ⟨e3.trans e4, rfl⟩
      · walk_at "go"
        exact ⟨e3.trans e4, rfl⟩
    rintro σ' H3 ⟨e3, rfl⟩
    walk_at "go"
    refine ⟨a, w, rfl, ex_t (e.trans e3) ha, by omega, sw, fun p4 H4 e4 k4 => ?_⟩
    rw [hX] at k4
    obtain ⟨p5, p6, h4, h5, h6⟩ := k4.ex
    obtain ⟨c1, c2, c3⟩ := core_facts sX tX
    have lz := lead_len X
    have mz := mid_len X
    have tl : Stp 4 (Fg.lead X) := fun z hz => tX z (lead_sub hz)
    have tmi : Stp 4 (Fg.mid X) := fun z hz => tX z (mid_sub hz)
    walk_at "go"
    refine r_tup2 h4 ?_
    have e34 := e3.trans e4
    replace hp2 := ex_t e34 hp2
    replace k3 := ex_t e34 k3
    replace e := e.trans e34
    clear e3 e4 e34 h4 k4
    refine ⟨fun σ' H' => Ex H4 H' ∧ σ' = [some (.ref a), some (.ref b), some (.int k), some (.ref p2), some (.int t), some (.ref p3), some (.ref p5), some (.ref p6), none, none], ?_, ?_⟩
    · have l2 := rd_l2 (Fg.lead X) (Fg.mid X)
      have l3 := rd_lb (Fg.lead X)
      walk_at "go"
      refine ⟨p5, _, p6, _, rfl, h5, h6, by omega, by omega, tl, tmi, fun q1 H5 e5 g1 => ?_⟩
      walk_at "go"
      refine ⟨p5, _, rfl, ex_t e5 h5, by omega, tl, fun q2 H6 e6 g2 => ?_⟩
      walk_at "go"
      refine ⟨q1, _, q2, _, rfl, ex_t e6 g1, g2, by omega, by omega, stp_rd (stp_app4 tl tmi), stp_rd (stp_bk tl), fun q3 H7 e7 g3 => ?_⟩
      have e57 := (e5.trans e6).trans e7
      walk_at "go"
      refine ⟨a, w, rfl, ex_t (e.trans e57) ha, by omega, sw, fun q4 H8 e8 g4 => ?_⟩
      rw [hX] at g4
      refine same_neT (ex_t e8 g3) g4 (by rw [Fg.rd_app, c1, Fg.rd_str sX]) ?_
      have e58 := e57.trans e8
      walk_at "go"
      refine ⟨p6, _, rfl, ex_t e58 h6, by omega, tmi, fun q5 H9 e9 g5 => ?_⟩
      rw [c2, c3] at g5
      walk_at "go"
      refine r_newT (by simp) fun q6 H10 _ e10 g6 => ?_
      walk_at "go"
      refine r_newT (by simp) fun q7 H11 _ e11 g7 => ?_
      have e511 := ((e58.trans e9).trans e10).trans e11
      refine r_neP (g5.mono (e10.trans e11)) ⟨q6, p6, t_of g7, ex_t e11 (t_of g6), ex_t e511 h6⟩ ?_
      walk_at "go"
      exact ⟨e511, rfl⟩
    rintro σ' H5 ⟨e5, rfl⟩
    replace e := e.trans e5
    replace hp2 := ex_t e5 hp2
    replace k3 := ex_t e5 k3
    replace h5 := ex_t e5 h5
    replace h6 := ex_t e5 h6
    clear e5
    refine ⟨fun σ' H' => Ex H5 H' ∧ σ' = [some (.ref a), some (.ref b), some (.int k), some (.ref p2), some (.int t), some (.ref p3), some (.ref p5), some (.ref p6), none, none], ?_, ?_⟩
    · walk_at "go"
      refine ⟨p3, _, rfl, k3, by omega, tm, fun q1 u3 t3 H6 e6 ri3 g1 => ?_⟩
      rw [Fg.rd_str sm] at ri3
      obtain ⟨rfl, rfl⟩ := rootIs_unique ri3 (F.turn o so)
      walk_at "go"
      refine ⟨p2, u, b, o, rfl, ex_t e6 hp2, ex_t (e.trans e6) hb, by omega, by omega, F.stp, so, fun q2 H7 e7 g2 => ?_⟩
      walk_at "go"
      refine r_newT (by simp) fun q3 H8 _ e8 g3 => ?_
      refine r_neN (g1.mono (e7.trans e8)) ⟨q2, t_of g3, ex_t e8 g2⟩ ?_
      have e68 := (e6.trans e7).trans e8
      walk_at "go"
      refine ⟨p3, _, rfl, ex_t e68 k3, by omega, tm, fun q4 l H9 e9 g4 ls => ?_⟩
      rw [Fg.rd_str sm] at ls
      obtain ⟨f1, f2, f3, _⟩ := lead_least sm tm ls
      walk_at "go"
      refine ⟨q4, l, rfl, g4, by omega, f2, fun q5 H10 e10 g5 => ?_⟩
      obtain ⟨q6, q7, g6, g7, _⟩ := g5.ex
      rw [f1] at g7
      walk_at "go"
      refine r_ixT g6 rfl ?_
      walk_at "go"
      refine r_newT (by simp) fun q8 H11 _ e11 g8 => ?_
      refine same_neT (ms := []) (ex_t e11 g7) (t_of g8) rfl ?_
      walk_at "go"
      exact ⟨((e68.trans e9).trans e10).trans e11, rfl⟩
    rintro σ' H6 ⟨e6, rfl⟩
    replace e := e.trans e6
    replace hp2 := ex_t e6 hp2
    replace k3 := ex_t e6 k3
    clear e6 h5 h6
    walk_at "go"
    refine ⟨p3, _, k, rfl, k3, by omega, mul_le2 (by omega : (Fg.tn X o).length ≤ 100) (by omega : k.natAbs ≤ 20) (by decide), tm, k0, k2, fun p7 H7 e7 k7 => ?_⟩
    replace e := e.trans e7
    replace hp2 := ex_t e7 hp2
    have tp : Stp 4 (pw (Fg.tn X o) k) := stp_pw tm
    clear e7 k3
    refine ⟨fun σ' H' => Ex H7 H' ∧ σ' = [some (.ref a), some (.ref b), some (.int k), some (.ref p2), some (.int t), some (.ref p3), some (.ref p5), some (.ref p6), some (.ref p7), none] ∧ (pw (Fg.tn X o) k).length ≤ 400, ?_, ?_⟩
    · walk_at "go"
      refine r_lenT k7 ?_
      rw [List.length_map]
      walk_at "go"
      refine if_2 (fun h0 => ?_) fun h0 => ?_
      · walk_at "go"
        exact q H7 e
      · walk_at "go"
        exact ⟨Ex.refl H7, rfl, by omega⟩
    rintro σ' H8 ⟨e8, rfl, zp⟩
    replace e := e.trans e8
    replace hp2 := ex_t e8 hp2
    replace k7 := ex_t e8 k7
    clear e8
    -- nothing done, or done of nothing
    have none0 : ∀ H9, Ex H8 H9 → pw (Fg.tn X o) k = [] → Ex H H9 ∧ IT K H9 p7 [] := fun H9 e9 z => ⟨e.trans e9, by rw [← z]; exact ex_t e9 k7⟩
    refine ⟨fun σ' H' => Ex H8 H' ∧ σ' = [some (.ref a), some (.ref b), some (.int k), some (.ref p2), some (.int t), some (.ref p3), some (.ref p5), some (.ref p6), some (.ref p7), none] ∧ k ≠ 0 ∧ X ≠ [], ?_, ?_⟩
    · walk_at "go"
      refine if_2 (fun h0 => ?_) fun h0 => ?_
      · obtain ⟨_, kn⟩ := none0 H8 (Ex.refl H8) (by rw [h0, pw_zero])
        walk_at "go"
        refine ⟨p7, [], rfl, kn, by simp, (fun x hx => by cases hx), fun q1 u3 t3 H9 e9 ri3 g1 => ?_⟩
        obtain ⟨rfl, rfl⟩ := rootIs_unique ri3 Fg.root_nil
        walk_at "go"
        refine r_newT (by simp) fun q2 H10 _ e10 g2 => ?_
        walk_at "go"
        refine r_newT (by simp) fun q3 H11 _ e11 g3 => ?_
        exact r_eqN (g1.mono (e10.trans e11)) ⟨q2, t_of g3, ex_t e11 (t_of g2)⟩ (q H11 (((e.trans e9).trans e10).trans e11))
      · walk_at "go"
        refine ⟨a, w, rfl, ex_t e ha, by omega, sw, fun q0 H9 e9 g0 => ?_⟩
        rw [hX] at g0
        walk_at "go"
        refine r_newT (by simp) fun q1 H10 _ e10 g1 => ?_
        refine r_eqT (ms := []) (ex_t e10 g0) (t_of g1) ?_
        walk_at "go"
        refine if_2 (fun h1 => ?_) fun h1 => ?_
        · obtain ⟨e', kn⟩ := none0 H10 (e9.trans e10) (by rw [h1, tn_nil_l, pw_nil])
          walk_at "go"
          refine ⟨p7, [], rfl, kn, by simp, (fun x hx => by cases hx), fun q1 u3 t3 H9 e9 ri3 g1 => ?_⟩
          obtain ⟨rfl, rfl⟩ := rootIs_unique ri3 Fg.root_nil
          walk_at "go"
          refine r_newT (by simp) fun q2 H10 _ e10 g2 => ?_
          walk_at "go"
          refine r_newT (by simp) fun q3 H11 _ e11 g3 => ?_
          exact r_eqN (g1.mono (e10.trans e11)) ⟨q2, t_of g3, ex_t e11 (t_of g2)⟩ (q H11 (((e'.trans e9).trans e10).trans e11))
        · walk_at "go"
          exact ⟨e9.trans e10, rfl, h0, h1⟩
    rintro σ' H9 ⟨e9, rfl, kn0, xn0⟩
    replace e := e.trans e9
    replace hp2 := ex_t e9 hp2
    replace k7 := ex_t e9 k7
    have mn : Fg.tn X o ≠ [] := Fg.tn_ne sX xn0
    have ri := F2.many k kn0 mn
    walk_at "go"
    refine ⟨p2, u, b, o, rfl, hp2, ex_t e hb, by omega, by omega, F.stp, so, fun p8 H10 e10 k8 => ?_⟩
    replace e := e.trans e10
    replace k7 := ex_t e10 k7
    walk_at "go"
    refine ⟨p7, _, rfl, k7, by omega, tp, fun q1 u3 t3 H11 e11 ri3 g1 => ?_⟩
    rw [Fg.rd_str (str_pw _ _)] at ri3
    obtain ⟨rfl, rfl⟩ := rootIs_unique ri3 ri
    replace k8 := ex_t e11 k8
    walk_at "go"
    refine ⟨p8, _, rfl, k8, by omega, F2.stp, fun q2 H12 e12 g2 => ?_⟩
    walk_at "go"
    refine r_newL (by simp) fun q3 H13 _ e13 g3 => ?_
    walk_at "go"
    have eb : Fg.rd (Fg.bk (Fg.tn u o)) = Fg.bk (Fg.tn u o) := Fg.rd_str (Fg.str_bk F2.str)
    rw [eb] at g2
    obtain ⟨q4, hq4, g4⟩ : ∃ q4, atI [V.ref p8, V.ref q2] (if decide (k < 0) = true then 1 else 0) = some (.ref q4) ∧ IT K H13 q4 (if k < 0 then Fg.bk (Fg.tn u o) else Fg.tn u o) := by
      by_cases c : k < 0
      · rw [decide_eq_true c, if_pos c]
        exact ⟨q2, rfl, ex_t e13 g2⟩
      · rw [decide_eq_false c, if_neg c]
        exact ⟨p8, rfl, ex_t (e12.trans e13) k8⟩
    refine r_ixL (l_of g3) hq4 ?_
    walk_at "go"
    refine r_mul (.inr ⟨by omega, by omega⟩) ?_
    walk_at "go"
    refine r_newT (by simp) fun q5 H14 _ e14 g5 => ?_
    exact r_eqN (g1.mono ((e12.trans e13).trans e14)) ⟨q4, t_of g5, ex_t e14 g4⟩ (q H14 ((((e.trans e11).trans e12).trans e13).trans e14))
end
end Lw
namespace Lw
open PySem PySem.Spec PyProof.Rows L2 Evl

local macro_rules | `(tactic| walk_at "go") => `(tactic| repeat (first
  | with_reducible refine st_seq ?_ | with_reducible refine st_set ?_ | with_reducible refine st_asg ?_ | with_reducible refine st_ret ?_ | with_reducible refine st_drop ?_ | with_reducible refine st_if ?_
  | with_reducible refine st_c ?_ | ((with_reducible refine' st_v ?h ?_); (case h => exact rfl)) | with_reducible refine st_n ?_ | with_reducible refine st_cons ?_ | with_reducible refine st_op ?_ | with_reducible refine st_un ?_
  | with_reducible refine st_cb ?_ | with_reducible refine st_test ?_ | with_reducible refine st_call ?_ | with_reducible refine st_callK ?_ | with_reducible refine st_sl ?_ | with_reducible refine st_par ?_ | with_reducible refine st_par3 ?_ | with_reducible refine st_tru ?_
  | with_reducible refine st_and ?_ | with_reducible refine st_or ?_ | with_reducible refine st_not ?_ | with_reducible refine st_B ?_ | with_reducible refine st_andV ?_ | with_reducible refine st_orV ?_ | with_reducible refine st_notV ?_ | with_reducible refine st_ifE ?_
  | with_reducible refine st_part ?_ | with_reducible refine st_nop ?_ | with_reducible refine st_sub ?_ | with_reducible refine st_chain ?_ | with_reducible refine st_bl ?_ | with_reducible refine st_in ?_ | with_reducible refine r_truB ?_
  | with_reducible refine st_nameG ?_ | with_reducible refine if_T ?_ | with_reducible refine if_F ?_ | with_reducible refine if_nT ?_ | with_reducible refine if_nF ?_
  | with_reducible refine r_add ?_ | with_reducible refine r_0 ?_ | with_reducible refine r_neg ?_ | with_reducible refine r_intI ?_ | with_reducible refine r_intB ?_ | with_reducible refine r_abs ?_ | with_reducible refine r_max2 ?_ | with_reducible refine r_min2 ?_ | with_reducible refine r_eqI ?_ | with_reducible refine r_neI ?_
  | with_reducible refine st_nxt ?_ | with_reducible refine st_cnt ?_ | with_reducible refine st_brk ?_ | with_reducible refine st_retn ?_
  | with_reducible refine st_lstN ?_ | with_reducible refine st_tupN ?_
  | with_reducible refine st_for ?_ | with_reducible refine st_lc ?_ | with_reducible refine st_lc2 ?_ | with_reducible refine st_rng1 ?_ | with_reducible refine st_rng2 ?_ | with_reducible refine st_rng3 ?_ | with_reducible refine st_itL ?_ | with_reducible refine st_itT ?_ | with_reducible refine st_rev ?_ | with_reducible refine st_enumE ?_ | with_reducible refine st_zip3 ?_ | with_reducible refine st_lvals ?_ | with_reducible refine st_fld ?_ | with_reducible refine st_sfld ?_ | with_reducible refine st_meth ?_ | with_reducible refine st_make ?_ | with_reducible refine st_rg1 ?_ | with_reducible refine st_enumS ?_ | with_reducible refine st_enumD ?_ | with_reducible refine st_lstIt ?_ | with_reducible refine st_dg1 ?_ | with_reducible refine st_dg2 ?_ | with_reducible refine st_dpop ?_ | with_reducible refine st_dset ?_ | with_reducible refine st_ckw ?_ | with_reducible refine st_dsetT ?_ | with_reducible refine st_dnewT ?_ | with_reducible refine st_dc ?_ | with_reducible refine st_keys ?_ | with_reducible refine st_dget ?_ | with_reducible refine st_din ?_ | with_reducible refine st_dnin ?_ | with_reducible refine st_dput ?_ | with_reducible refine st_dnew ?_ | with_reducible refine st_lstRg ?_ | with_reducible refine st_rg2 ?_ | with_reducible refine r_twoI ?_ | with_reducible refine st_bm ?_ | with_reducible refine st_bm0 ?_
  | ((with_reducible refine' st_aug ?h ?_); (case h => exact rfl)) | with_reducible refine r_augI ?_ | with_reducible refine r_eqB ?_
  | dsimp only))
section
variable {P : Program} {w : World} {K : PySem.W.Frag} {mg : Str → Option Value} {base : Heap} {A : Ad}

theorem least_key {x l : List Int} (sx : Fg.Str x) (tx : Stp 4 x) (h : LW (Fg.mid x) l) : Fg.kl x l = false := by
  obtain ⟨k, hk, hl⟩ := lw_rot h
  have ln : l.length = (Fg.mid x).length := by rw [hl, Fg.rotn_len]
  cases c : Fg.kl x l with
  | false => rfl
  | true =>
    exfalso
    have le := Fg.kl_le c
    obtain ⟨e, _⟩ := core_facts sx tx
    have e2 := congrArg List.length e
    simp only [List.length_append, Fg.bk_len] at e2
    have l0 : Fg.lead x = [] := List.length_eq_zero_iff.mp (by omega)
    rw [l0] at e
    have e3 : Fg.mid x = x := by simpa [Fg.bk] using e
    have := h.le (Fg.mid x) (mem_rots_all.mpr ⟨0, Nat.zero_le _, by rw [Fg.rotn_zero]⟩)
    rw [e3, c] at this
    cases this
theorem onto_tn {u o : List Int} (su : Fg.Str u) (tu : Stp 4 u) (to : Stp 4 o) : Fg.mid (Fg.tn u o) ∈ rots (Fg.mid u) (max 1 (Fg.mid u).length) := mem_rots_all.mpr (due_core su tu to)
theorem onto_least {x y l m : List Int} (hx : LW (Fg.mid x) l) (hy : LW (Fg.mid y) m) : Fg.mid y ∈ rots (Fg.mid x) (max 1 (Fg.mid x).length) ↔ l = m := by
  constructor
  · intro h
    obtain ⟨k, hk, e⟩ := mem_rots_all.mp h
    rw [e] at hy
    exact (lw_turn hx hk hy).symm
  · intro h
    obtain ⟨i, hi, e1⟩ := lw_rot hx
    obtain ⟨j, hj, e2⟩ := lw_rot hy
    have b := Fg.rotn_back hj
    rw [← e2, ← h, e1] at b
    have z := congrArg List.length b
    rw [Fg.rotn_len, Fg.rotn_len] at z
    obtain ⟨k, hk, e⟩ := Fg.rotn_rotn (m := Fg.mid x) hi (j := (Fg.mid y).length - j) (by omega)
    rw [e] at b
    exact mem_rots_all.mpr ⟨k, hk, b.symm⟩
def sp__law_turning (K : PySem.W.Frag) : Sp := fun vs H Q _ => ∃ a b c w y o, vs = [.ref a, .ref b, .ref c] ∧ IT K H a w ∧ IT K H b y ∧ IT K H c o ∧ w.length ≤ 60 ∧ y.length ≤ 60 ∧ o.length ≤ 20 ∧ Stp 4 w ∧ Stp 4 y ∧ Stp 4 o ∧ ∀ H1, Ex H H1 → Q (.bl true) H1
theorem ok__law_turning (T : Tx K mg A) : FnOk P w K mg base CX0 6 A.a__law_turning A.f__law_turning P__law_turning (sp__law_turning K) := by
  refine T.F__law_turning.ok sc__law_turning (fun vs H Q E h => ?_) (fun cdv A' outer s H vs Q E hr h => ?_)
  · obtain ⟨a, b, c, w, y, o, rfl, _⟩ := h
    rfl
  · obtain ⟨a, b, c, w, y, o, rfl, ha, hb, hc, zw, zy, zo, sw, sy, so, q⟩ := h
    refine ⟨_, (pss_cons (ps_set (i := 3) sc__law_turning.nd rfl (Or.inl rfl) (pe_call (ok_turned T) (hr.mono (by decide)) (by rfl) T.g_turned T.F_turned.kp T.b_turned .nil pass0 (pa_cons (pv 0) (pa_cons (pv 2) pa_nil))))
      (Evl.pss_cut (ps_if (PW.pt (pw_or (pt_cmpR (op_neK K hr.units) (pe_call (ok_least_turned T) (hr.mono (by decide)) (by rfl) T.g_least_turned T.F_least_turned.kp T.b_least_turned .nil pass0 (pa_cons (pv 3) pa_nil)) (pe_call (ok_least_turned T) (hr.mono (by decide)) (by rfl) T.g_least_turned T.F_least_turned.kp T.b_least_turned .nil pass0 (pa_cons (pv 0) pa_nil)) (nomark _)) (pw_or1 (pt_cmpR (op_gtD K hr.units) (pe_call (ok__law_key T) (hr.mono (by decide)) (by rfl) T.g__law_key T.F__law_key.kp T.b__law_key .nil pass0 (pa_cons (pe_call (ok_least_turned T) (hr.mono (by decide)) (by rfl) T.g_least_turned T.F_least_turned.kp T.b_least_turned .nil pass0 (pa_cons (pv 0) pa_nil)) pa_nil)) (pe_call (ok__law_key T) (hr.mono (by decide)) (by rfl) T.g__law_key T.F__law_key.kp T.b__law_key .nil pass0 (pa_cons (pe_call (ok_straight T) (hr.mono (by decide)) (by rfl) T.g_straight T.F_straight.kp T.b_straight .nil pass0 (pa_cons (pv 0) pa_nil)) pa_nil)) (nomark _))))) (pss_one (ps_ret pe_bl)) pss_nil)
      (pss_cons (ps_set (i := 4) sc__law_turning.nd rfl (Or.inl rfl) (pe_call (ok_turned_onto T) (hr.mono (by decide)) (by rfl) T.g_turned_onto T.F_turned_onto.kp T.b_turned_onto .nil pass0 (pa_cons (pv 0) (pa_cons (pv 3) pa_nil))))
      (Evl.pss_cut (ps_if (PW.pt (pw_or (pt_cmpR op_isN (pv 4) pe_non (nomark _)) (pw_or (pt_cmpR (op_neK K hr.units) (pe_call (ok_turned T) (hr.mono (by decide)) (by rfl) T.g_turned T.F_turned.kp T.b_turned .nil pass0 (pa_cons (pv 0) (pa_cons (pv 4) pa_nil))) (pv 3) (nomark _)) (pw_or1 (pt_cmpR (op_gtD K hr.units) (pe_call (ok__law_key T) (hr.mono (by decide)) (by rfl) T.g__law_key T.F__law_key.kp T.b__law_key .nil pass0 (pa_cons (pv 4) pa_nil)) (pe_call (ok__law_key T) (hr.mono (by decide)) (by rfl) T.g__law_key T.F__law_key.kp T.b__law_key .nil pass0 (pa_cons (pe_call (ok_straight T) (hr.mono (by decide)) (by rfl) T.g_straight T.F_straight.kp T.b_straight .nil pass0 (pa_cons (pv 2) pa_nil)) pa_nil)) (nomark _)))))) (pss_one (ps_ret pe_bl)) pss_nil)
      (Evl.pss_cut (ps_if (pt_not (pt_truK K (pe_call (ok_commute T) (hr.mono (by decide)) (by rfl) T.g_commute T.F_commute.kp T.b_commute .nil pass0 (pa_cons (pv 0) (pa_cons (pe_call (ok_behind T) (hr.mono (by decide)) (by rfl) T.g_behind T.F_behind.kp T.b_behind .nil pass0 (pa_cons (pv 2) (pa_cons (pe_call (ok_back T) (hr.mono (by decide)) (by rfl) T.g_back T.F_back.kp T.b_back .nil pass0 (pa_cons (pv 4) pa_nil)) pa_nil))) pa_nil))))) (pss_one (ps_ret pe_bl)) pss_nil)
      (pss_cons (ps_set (i := 4) sc__law_turning.nd rfl (Or.inl rfl) (pe_call (ok_turned_onto T) (hr.mono (by decide)) (by rfl) T.g_turned_onto T.F_turned_onto.kp T.b_turned_onto .nil pass0 (pa_cons (pv 0) (pa_cons (pv 1) pa_nil))))
      (Evl.pss_cut (ps_if (pt_cmpR (op_neK K hr.units) (pe_cmpR op_isN (pv 4) pe_non (nomark _)) (pe_cmpR (op_neK K hr.units) (pe_call (ok_least_turned T) (hr.mono (by decide)) (by rfl) T.g_least_turned T.F_least_turned.kp T.b_least_turned .nil pass0 (pa_cons (pv 0) pa_nil)) (pe_call (ok_least_turned T) (hr.mono (by decide)) (by rfl) T.g_least_turned T.F_least_turned.kp T.b_least_turned .nil pass0 (pa_cons (pv 1) pa_nil)) (nomark _)) (nomark _)) (pss_one (ps_ret pe_bl)) pss_nil)
      (Evl.pss_cut (ps_if (pt_cmpR op_isN (pv 4) pe_non (nomark _)) (pss_one (ps_ret (pe_cmpR op_isN (pe_call (ok_turned_onto T) (hr.mono (by decide)) (by rfl) T.g_turned_onto T.F_turned_onto.kp T.b_turned_onto .nil pass0 (pa_cons (pv 1) (pa_cons (pv 0) pa_nil))) pe_non (nomark _)))) pss_nil)
      (pss_cons (ps_set (i := 5) sc__law_turning.nd rfl (Or.inl rfl) (pe_call (ok_turned_onto T) (hr.mono (by decide)) (by rfl) T.g_turned_onto T.F_turned_onto.kp T.b_turned_onto .nil pass0 (pa_cons (pv 1) (pa_cons (pv 0) pa_nil))))
      (pss_one (ps_ret (pe_and (pe_cmpR (op_eqK K hr.units) (pe_call (ok_turned T) (hr.mono (by decide)) (by rfl) T.g_turned T.F_turned.kp T.b_turned .nil pass0 (pa_cons (pv 0) (pa_cons (pv 4) pa_nil))) (pe_call (ok_straight T) (hr.mono (by decide)) (by rfl) T.g_straight T.F_straight.kp T.b_straight .nil pass0 (pa_cons (pv 1) pa_nil)) (nomark _)) (pe_and (pe_cmpR (op_eqK K hr.units) (pe_callB (len_K K) (by rfl) T.n_len (by decide +kernel) (pa_cons (pv 5) pa_nil)) (pe_callB (len_K K) (by rfl) T.n_len (by decide +kernel) (pa_cons (pv 4) pa_nil)) (nomark _)) (pe_one (pe_cmpR (op_eqK K hr.units) (pe_call (ok_turned T) (hr.mono (by decide)) (by rfl) T.g_turned T.F_turned.kp T.b_turned .nil pass0 (pa_cons (pv 1) (pa_cons (pv 5) pa_nil))) (pe_call (ok_straight T) (hr.mono (by decide)) (by rfl) T.g_straight T.F_straight.kp T.b_straight .nil pass0 (pa_cons (pv 0) pa_nil)) (nomark _)))))))))))))))), ?_⟩
    have sX := Fg.str_rd w
    have tX := stp_rd sw
    have zX := Fg.rd_len w
    have sY := Fg.str_rd y
    have tY := stp_rd sy
    have zY := Fg.rd_len y
    have zO := Fg.rd_len o
    obtain ⟨X, hX⟩ : ∃ X, Fg.rd w = X := ⟨_, rfl⟩
    obtain ⟨Y, hY⟩ : ∃ Y, Fg.rd y = Y := ⟨_, rfl⟩
    have tw : ∀ g, Fg.tn w g = Fg.tn X g := fun g => by rw [← hX, Fg.tn_rd]
    have ty : ∀ g, Fg.tn y g = Fg.tn Y g := fun g => by rw [← hY, Fg.tn_rd]
    rw [hX] at sX tX zX
    rw [hY] at sY tY zY
    walk_at "go"
    refine ⟨a, w, c, o, rfl, ha, hc, by omega, by omega, sw, so, fun p1 H1 e1 k1 => ?_⟩
    rw [tw o] at k1
    have zM := tn_len X o
    have tM := stp_tn tX so
    have sM := Fg.tn_str X o
    have onM := onto_tn sX tX so
    obtain ⟨kd, hkd, hdc⟩ := due_core sX tX so
    refine ⟨fun σ' H' => Ex H1 H' ∧ σ' = [some (.ref a), some (.ref b), some (.ref c), some (.ref p1), none, none], ?_, ?_⟩
    · walk_at "go"
      refine ⟨p1, _, rfl, k1, by omega, tM, fun q1 l1 H2 e2 g1 ls1 => ?_⟩
      rw [Fg.rd_str sM, hdc] at ls1
      walk_at "go"
      refine ⟨a, w, rfl, ex_t (e1.trans e2) ha, by omega, sw, fun q2 l2 H3 e3 g2 ls2 => ?_⟩
      rw [hX] at ls2
      refine same_neT (ex_t e3 g1) g2 (lw_turn ls2 hkd ls1) ?_
      have e13 := (e1.trans e2).trans e3
      walk_at "go"
      refine ⟨a, w, rfl, ex_t e13 ha, by omega, sw, fun q3 l3 H4 e4 g3 ls3 => ?_⟩
      rw [hX] at ls3
      obtain ⟨_, _, l3z, _⟩ := lead_least sX tX ls3
      walk_at "go"
      refine ⟨q3, l3, rfl, g3, by omega, fun q4 q5 H5 e5 g4 g5 => ?_⟩
      walk_at "go"
      refine ⟨a, w, rfl, ex_t ((e13.trans e4).trans e5) ha, by omega, sw, fun q6 H6 e6 g6 => ?_⟩
      rw [hX] at g6
      walk_at "go"
      refine ⟨q6, X, rfl, g6, by omega, fun q7 q8 H7 e7 g7 g8 => ?_⟩
      have e67 := e6.trans e7
      refine r_cmpT (ex_t e67 g4) (ex_t e67 g5) g7 g8 ?_
      rw [dataLt_kl, least_key sX tX ls3]
      walk_at "go"
      exact ⟨((e2.trans e3).trans (e4.trans e5)).trans e67, rfl⟩
    rintro σ' H2 ⟨e2, rfl⟩
    have e := e1.trans e2
    replace k1 := ex_t e2 k1
    clear e1 e2
    walk_at "go"
    refine ⟨a, w, p1, _, rfl, ex_t e ha, k1, by omega, by omega, sw, tM, fun x1 H3 e3 on1 => ?_⟩
    rw [hX, Fg.rd_str sM] at on1
    rcases on1 with ⟨n, _⟩ | ⟨_, p2, f, rfl, k2, lt, sf, zf⟩
    · exact absurd onM n
    replace e := e.trans e3
    replace k1 := ex_t e3 k1
    clear e3
    refine ⟨fun σ' H' => Ex H3 H' ∧ σ' = [some (.ref a), some (.ref b), some (.ref c), some (.ref p1), some (.ref p2), none], ?_, ?_⟩
    · walk_at "go"
      refine ⟨rfl, ?_⟩
      rw [decide_eq_false (fun z => nomatch z)]
      walk_at "go"
      refine ⟨a, w, p2, f, rfl, ex_t e ha, k2, by omega, by omega, sw, sf, fun q1 H4 e4 g1 => ?_⟩
      rw [tw f, lt.on] at g1
      walk_at "go"
      refine same_neT g1 (ex_t e4 k1) rfl ?_
      walk_at "go"
      refine ⟨p2, f, rfl, ex_t e4 k2, by omega, fun q2 q3 H5 e5 g2 g3 => ?_⟩
      walk_at "go"
      refine ⟨c, o, rfl, ex_t (e.trans (e4.trans e5)) hc, by omega, so, fun q4 H6 e6 g4 => ?_⟩
      walk_at "go"
      refine ⟨q4, _, rfl, g4, by omega, fun q5 q6 H7 e7 g5 g6 => ?_⟩
      have e67 := e6.trans e7
      refine r_cmpT (ex_t e67 g2) (ex_t e67 g3) g5 g6 ?_
      rw [dataLt_kl, Fg.leastT_key lt (Fg.str_rd o) (Fg.tn_rd_r X o)]
      walk_at "go"
      exact ⟨(e4.trans e5).trans e67, rfl⟩
    rintro σ' H4 ⟨e4, rfl⟩
    replace e := e.trans e4
    replace k2 := ex_t e4 k2
    clear e4 k1
    refine ⟨fun σ' H' => Ex H4 H' ∧ σ' = [some (.ref a), some (.ref b), some (.ref c), some (.ref p1), some (.ref p2), none], ?_, ?_⟩
    · have zbf := rd_lb f
      have ebf : Fg.rd (Fg.bk f) = Fg.bk f := Fg.rd_str (Fg.str_bk lt.str)
      have zob := rd_l2 o (Fg.rd (Fg.bk f))
      walk_at "go"
      refine ⟨p2, f, rfl, k2, by omega, sf, fun q1 H5 e5 g1 => ?_⟩
      walk_at "go"
      refine ⟨c, o, q1, _, rfl, ex_t (e.trans e5) hc, g1, by omega, by omega, so, stp_rd (stp_bk sf), fun q2 H6 e6 g2 => ?_⟩
      walk_at "go"
      refine ⟨a, w, q2, _, rfl, ex_t ((e.trans e5).trans e6) ha, g2, by omega, by omega, sw, stp_rd (stp_app4 so (stp_rd (stp_bk sf))), fun H7 e7 => ?_⟩
      rw [decide_eq_true (by
        rw [Fg.rd_app_l, Fg.rd_app_r, ebf]
        exact Fg.rd_eq (Fg.comm_of_tn (by rw [tw, tw, lt.on])))]
      refine r_truB ?_
      walk_at "go"
      exact ⟨(e5.trans e6).trans e7, rfl⟩
    rintro σ' H5 ⟨e5, rfl⟩
    replace e := e.trans e5
    clear e5 k2 lt sf zf onM f
    walk_at "go"
    refine ⟨a, w, b, y, rfl, ex_t e ha, ex_t e hb, by omega, by omega, sw, sy, fun x2 H6 e6 on => ?_⟩
    rw [hX, hY] at on
    replace e := e.trans e6
    rcases on with ⟨no, rfl⟩ | ⟨yes, p3, f, rfl, k3, lt, sf, zf⟩
    · refine ⟨fun σ' H' => Ex H6 H' ∧ σ' = [some (.ref a), some (.ref b), some (.ref c), some (.ref p1), some .non, none] ∧ ∃ l1 l2, LW (Fg.mid X) l1 ∧ LW (Fg.mid Y) l2 ∧ l1 ≠ l2, ?_, ?_⟩
      · walk_at "go"
        refine ⟨rfl, ?_⟩
        rw [decide_eq_true rfl]
        walk_at "go"
        refine ⟨a, w, rfl, ex_t e ha, by omega, sw, fun q1 l1 H7 e7 g1 ls1 => ?_⟩
        rw [hX] at ls1
        walk_at "go"
        refine ⟨b, y, rfl, ex_t (e.trans e7) hb, by omega, sy, fun q2 l2 H8 e8 g2 ls2 => ?_⟩
        rw [hY] at ls2
        have ne : l1 ≠ l2 := fun z => no ((onto_least ls1 ls2).mpr z)
        refine r_neT (ex_t e8 g1) g2 ?_
        rw [decide_eq_false ne]
        refine r_neB ?_
        rw [show (!decide (true = !false)) = false from rfl]
        walk_at "go"
        exact ⟨e7.trans e8, rfl, l1, l2, ls1, ls2, ne⟩
      rintro σ' H7 ⟨e7, rfl, l1, l2, ls1, ls2, ne⟩
      replace e := e.trans e7
      refine ⟨fun _ _ => False, ?_, fun _ _ z => z.elim⟩
      walk_at "go"
      refine ⟨rfl, ?_⟩
      rw [decide_eq_true rfl]
      walk_at "go"
      refine ⟨b, y, a, w, rfl, ex_t e hb, ex_t e ha, by omega, by omega, sy, sw, fun x3 H8 e8 on => ?_⟩
      rw [hX, hY] at on
      rcases on with ⟨_, rfl⟩ | ⟨yes, _⟩
      · refine ⟨rfl, ?_⟩
        rw [decide_eq_true rfl]
        exact q H8 (e.trans e8)
      · exact absurd ((onto_least ls2 ls1).mp yes).symm ne
    · refine ⟨fun σ' H' => Ex H6 H' ∧ σ' = [some (.ref a), some (.ref b), some (.ref c), some (.ref p1), some (.ref p3), none] ∧ ∃ l, LW (Fg.mid X) l ∧ LW (Fg.mid Y) l, ?_, ?_⟩
      · walk_at "go"
        refine ⟨rfl, ?_⟩
        rw [decide_eq_false (fun z => nomatch z)]
        walk_at "go"
        refine ⟨a, w, rfl, ex_t e ha, by omega, sw, fun q1 l1 H7 e7 g1 ls1 => ?_⟩
        rw [hX] at ls1
        walk_at "go"
        refine ⟨b, y, rfl, ex_t (e.trans e7) hb, by omega, sy, fun q2 l2 H8 e8 g2 ls2 => ?_⟩
        rw [hY] at ls2
        have eq : l1 = l2 := (onto_least ls1 ls2).mp yes
        refine same_neT (ex_t e8 g1) g2 eq ?_
        refine r_neB ?_
        rw [show (!decide (false = false)) = false from rfl]
        walk_at "go"
        exact ⟨e7.trans e8, rfl, l1, ls1, eq ▸ ls2⟩
      rintro σ' H7 ⟨e7, rfl, l, ls1, ls2⟩
      replace e := e.trans e7
      replace k3 := ex_t e7 k3
      clear e7
      refine ⟨fun σ' H' => Ex H7 H' ∧ σ' = [some (.ref a), some (.ref b), some (.ref c), some (.ref p1), some (.ref p3), none], ?_, ?_⟩
      · walk_at "go"
        refine ⟨rfl, ?_⟩
        rw [decide_eq_false (fun z => nomatch z)]
        walk_at "go"
        exact ⟨Ex.refl H7, rfl⟩
      rintro σ' H8 ⟨e8, rfl⟩
      replace e := e.trans e8
      replace k3 := ex_t e8 k3
      clear e8
      walk_at "go"
      refine ⟨b, y, a, w, rfl, ex_t e hb, ex_t e ha, by omega, by omega, sy, sw, fun x3 H9 e9 on => ?_⟩
      rw [hX, hY] at on
      replace e := e.trans e9
      replace k3 := ex_t e9 k3
      clear e9
      rcases on with ⟨n, _⟩ | ⟨_, p4, f2, rfl, k4, lt2, sf2, zf2⟩
      · exact absurd ((onto_least ls2 ls1).mpr rfl) n
      walk_at "go"
      refine ⟨a, w, p3, f, rfl, ex_t e ha, k3, by omega, by omega, sw, sf, fun q1 H10 e10 g1 => ?_⟩
      rw [tw f, lt.on] at g1
      walk_at "go"
      refine ⟨b, y, rfl, ex_t (e.trans e10) hb, by omega, sy, fun q2 H11 e11 g2 => ?_⟩
      rw [hY] at g2
      refine same_eqT (ex_t e11 g1) g2 rfl ?_
      have e1011 := e10.trans e11
      walk_at "go"
      refine r_lenT (ex_t e1011 k4) ?_
      rw [List.length_map]
      walk_at "go"
      refine r_lenT (ex_t e1011 k3) ?_
      rw [List.length_map]
      walk_at "go"
      rw [decide_eq_true (show ((f2.length : Nat) : Int) = ((f.length : Nat) : Int) by rw [Fg.leastT_len sX sY lt lt2])]
      walk_at "go"
      refine ⟨b, y, p4, f2, rfl, ex_t (e.trans e1011) hb, ex_t e1011 k4, by omega, by omega, sy, sf2, fun q3 H12 e12 g3 => ?_⟩
      rw [ty f2, lt2.on] at g3
      walk_at "go"
      refine ⟨a, w, rfl, ex_t ((e.trans e1011).trans e12) ha, by omega, sw, fun q4 H13 e13 g4 => ?_⟩
      rw [hX] at g4
      exact same_eqT (ex_t e13 g3) g4 rfl (q H13 (((e.trans e1011).trans e12).trans e13))
end
end Lw
namespace Lw
open PySem PySem.Spec PyProof.Rows L2 Evl

local macro_rules | `(tactic| walk_at "go") => `(tactic| repeat (first
  | with_reducible refine st_seq ?_ | with_reducible refine st_set ?_ | with_reducible refine st_asg ?_ | with_reducible refine st_ret ?_ | with_reducible refine st_drop ?_ | with_reducible refine st_if ?_
  | with_reducible refine st_c ?_ | ((with_reducible refine' st_v ?h ?_); (case h => exact rfl)) | with_reducible refine st_n ?_ | with_reducible refine st_cons ?_ | with_reducible refine st_op ?_ | with_reducible refine st_un ?_
  | with_reducible refine st_cb ?_ | with_reducible refine st_test ?_ | with_reducible refine st_call ?_ | with_reducible refine st_callK ?_ | with_reducible refine st_sl ?_ | with_reducible refine st_par ?_ | with_reducible refine st_par3 ?_ | with_reducible refine st_tru ?_
  | with_reducible refine st_and ?_ | with_reducible refine st_or ?_ | with_reducible refine st_not ?_ | with_reducible refine st_B ?_ | with_reducible refine st_andV ?_ | with_reducible refine st_orV ?_ | with_reducible refine st_notV ?_ | with_reducible refine st_ifE ?_
  | with_reducible refine st_part ?_ | with_reducible refine st_nop ?_ | with_reducible refine st_sub ?_ | with_reducible refine st_chain ?_ | with_reducible refine st_bl ?_ | with_reducible refine st_in ?_ | with_reducible refine r_truB ?_
  | with_reducible refine st_nameG ?_ | with_reducible refine if_T ?_ | with_reducible refine if_F ?_ | with_reducible refine if_nT ?_ | with_reducible refine if_nF ?_
  | with_reducible refine r_add ?_ | with_reducible refine r_0 ?_ | with_reducible refine r_neg ?_ | with_reducible refine r_intI ?_ | with_reducible refine r_intB ?_ | with_reducible refine r_abs ?_ | with_reducible refine r_max2 ?_ | with_reducible refine r_min2 ?_ | with_reducible refine r_eqI ?_ | with_reducible refine r_neI ?_
  | with_reducible refine st_nxt ?_ | with_reducible refine st_cnt ?_ | with_reducible refine st_brk ?_ | with_reducible refine st_retn ?_
  | with_reducible refine st_lstN ?_ | with_reducible refine st_tupN ?_
  | with_reducible refine st_for ?_ | with_reducible refine st_lc ?_ | with_reducible refine st_lc2 ?_ | with_reducible refine st_rng1 ?_ | with_reducible refine st_rng2 ?_ | with_reducible refine st_rng3 ?_ | with_reducible refine st_itL ?_ | with_reducible refine st_itT ?_ | with_reducible refine st_rev ?_ | with_reducible refine st_enumE ?_ | with_reducible refine st_zip3 ?_ | with_reducible refine st_lvals ?_ | with_reducible refine st_fld ?_ | with_reducible refine st_sfld ?_ | with_reducible refine st_meth ?_ | with_reducible refine st_make ?_ | with_reducible refine st_rg1 ?_ | with_reducible refine st_enumS ?_ | with_reducible refine st_enumD ?_ | with_reducible refine st_lstIt ?_ | with_reducible refine st_dg1 ?_ | with_reducible refine st_dg2 ?_ | with_reducible refine st_dpop ?_ | with_reducible refine st_dset ?_ | with_reducible refine st_ckw ?_ | with_reducible refine st_dsetT ?_ | with_reducible refine st_dnewT ?_ | with_reducible refine st_dc ?_ | with_reducible refine st_keys ?_ | with_reducible refine st_dget ?_ | with_reducible refine st_din ?_ | with_reducible refine st_dnin ?_ | with_reducible refine st_dput ?_ | with_reducible refine st_dnew ?_ | with_reducible refine st_lstRg ?_ | with_reducible refine st_rg2 ?_ | with_reducible refine r_twoI ?_ | with_reducible refine st_bm ?_ | with_reducible refine st_bm0 ?_
  | ((with_reducible refine' st_aug ?h ?_); (case h => exact rfl)) | with_reducible refine r_augI ?_ | with_reducible refine r_eqB ?_
  | dsimp only))
section
variable {P : Program} {w : World} {K : PySem.W.Frag} {mg : Str → Option Value} {base : Heap} {A : Ad}

theorem pw_comm (w : List Int) (k : Int) : Fg.rd (pw w k ++ w) = Fg.rd (w ++ pw w k) := by
  rw [← Fg.rd_app_r (pw w k) w, ← Fg.rd_app_l w (pw w k), ← pw_one w, ← pw_add, ← pw_add, Int.add_comm]
theorem lw_rep {m l1 l2 : List Int} {n : Nat} (hn : 1 ≤ n) (h1 : LW (Fg.rep n m) l1) (h2 : LW m l2) : l1 = Fg.rep n l2 := by
  have lm : m.length ≤ (Fg.rep n m).length := by
    rw [Fg.rep_len]
    have := Nat.mul_le_mul_right m.length hn
    omega
  obtain ⟨i, hi, e2⟩ := lw_rot h2
  have L : LW (Fg.rep n m) (Fg.rep n l2) := by
    refine ⟨mem_rots_all.mpr ⟨i, by omega, by rw [e2, Fg.rep_rotn hn hi]⟩, fun y hy => ?_⟩
    obtain ⟨j, hj, rfl⟩ := mem_rots_all.mp hy
    obtain ⟨k, hk, e⟩ := Fg.rotn_rep (e := m) (i := n) hj
    rw [e, Fg.kl_rep (by rw [e2, Fg.rotn_len, Fg.rotn_len]) hn]
    exact h2.le _ (mem_rots_all.mpr ⟨k, hk, rfl⟩)
  exact Fg.lst_same h1 L fun _ => Iff.rfl
theorem least_pow {x l1 l2 : List Int} {k : Int} (sx : Fg.Str x) (tx : Stp 4 x) (hk : 0 < k) (h1 : LW (Fg.mid (pw x k)) l1) (h2 : LW (Fg.mid x) l2) : l1 = pw l2 k := by
  by_cases e : x = []
  · subst e
    rw [pw_nil] at h1
    obtain ⟨i, _, e1⟩ := lw_rot h1
    obtain ⟨j, _, e2⟩ := lw_rot h2
    have f : ∀ i, Fg.rotn (Fg.mid []) i = [] := fun i => List.length_eq_zero_iff.mp (by rw [Fg.rotn_len]; rfl)
    rw [e1, e2, f, f, pw_nil]
  · obtain ⟨c, T, N⟩ := Fg.nf_of sx e (stp_nz tx)
    obtain ⟨d, M, ed⟩ := N.z (k := k) (by omega)
    rw [if_neg (by omega)] at ed
    have dc : d = c := by
      have h := List.append_cancel_right ed
      exact List.append_cancel_left h
    rw [dc] at M
    have m1 : Fg.mid (pw x k) = Fg.rep k.natAbs (Fg.mid x) := by
      rw [pw_z, M.lm.2, N.lm.2, Fg.rep_mul]
    rw [m1] at h1
    have r := lw_rep (by omega : 1 ≤ k.natAbs) h1 h2
    obtain ⟨i, hi, e2⟩ := lw_rot h2
    obtain ⟨_, mn, cy⟩ := Fg.core_parts sx e (stp_nz tx)
    have cr := Fg.cyc_rotn cy i
    rw [← e2] at cr
    have ln : l2 ≠ [] := fun z => mn (by rw [z] at e2; have := congrArg List.length e2; rw [Fg.rotn_len] at this; exact List.length_eq_zero_iff.mp this.symm)
    have : pw l2 k = Fg.rd (Fg.rep k.natAbs l2) := by
      unfold pw
      rw [if_pos (by omega)]
    rw [this, Fg.rd_str (Fg.str_rep cr ln _)]
    exact r
def sp__law_long (K : PySem.W.Frag) : Sp := fun vs H Q _ => ∃ a b w o k, vs = [.ref a, .ref b, .int k] ∧ IT K H a w ∧ IT K H b o ∧ w.length ≤ 20 ∧ o.length ≤ 6 ∧ Stp 4 w ∧ Stp 4 o ∧ -20 ≤ k ∧ k ≤ 20 ∧ ∀ H1, Ex H H1 → Q (.bl true) H1
theorem ok__law_long (T : Tx K mg A) : FnOk P w K mg base CX0 6 A.a__law_long A.f__law_long P__law_long (sp__law_long K) := by
  refine T.F__law_long.ok sc__law_long (fun vs H Q E h => ?_) (fun cdv A' outer s H vs Q E hr h => ?_)
  · obtain ⟨a, b, w, o, k, rfl, _⟩ := h
    rfl
  · obtain ⟨a, b, w, o, k, rfl, ha, hb, zw, zo, sw, so, k0, k2, q⟩ := h
    refine ⟨_, (pss_cons (ps_par (i := 3) (j := 4) (by rfl) sc__law_long.nd rfl rfl (by decide) rfl rfl (pa_cons (pe_call (ok_power T) (hr.mono (by decide)) (by rfl) T.g_power T.F_power.kp T.b_power .nil pass0 (pa_cons (pv 0) (pa_cons (pv 2) pa_nil))) (pa_cons (pe_call (ok_turned T) (hr.mono (by decide)) (by rfl) T.g_turned T.F_turned.kp T.b_turned .nil pass0 (pa_cons (pv 0) (pa_cons (pv 1) pa_nil))) pa_nil)) (by rfl))
      (Evl.pss_cut (ps_if (PW.pt (pw_or (pt_cmpR op_gt (pe_callB (len_K K) (by rfl) T.n_len (by decide +kernel) (pa_cons (pv 3) pa_nil)) pe_int (nomark _)) (pw_or1 (pt_cmpR (op_eqK K hr.units) (pv 2) pe_int (nomark _))))) (pss_one (ps_ret pe_bl)) pss_nil)
      (Evl.pss_cut (ps_if (PW.pt (pw_or (pt_cmpR (op_neK K hr.units) (pe_call (ok_turned T) (hr.mono (by decide)) (by rfl) T.g_turned T.F_turned.kp T.b_turned .nil pass0 (pa_cons (pv 3) (pa_cons (pv 1) pa_nil))) (pe_call (ok_power T) (hr.mono (by decide)) (by rfl) T.g_power T.F_power.kp T.b_power .nil pass0 (pa_cons (pv 4) (pa_cons (pv 2) pa_nil))) (nomark _)) (pw_or (pt_not (pt_truK K (pe_call (ok_commute T) (hr.mono (by decide)) (by rfl) T.g_commute T.F_commute.kp T.b_commute .nil pass0 (pa_cons (pv 3) (pa_cons (pv 0) pa_nil))))) (pw_or1 (pt_not (pt_truK K (pe_call (ok_commute T) (hr.mono (by decide)) (by rfl) T.g_commute T.F_commute.kp T.b_commute .nil pass0 (pa_cons (pv 0) (pa_cons (pe_call (ok_back T) (hr.mono (by decide)) (by rfl) T.g_back T.F_back.kp T.b_back .nil pass0 (pa_cons (pv 3) pa_nil)) pa_nil))))))))) (pss_one (ps_ret pe_bl)) pss_nil)
      (Evl.pss_cut (ps_if (pt_cmpR (op_neK K hr.units) (pe_call (ok_turned_onto T) (hr.mono (by decide)) (by rfl) T.g_turned_onto T.F_turned_onto.kp T.b_turned_onto .nil pass0 (pa_cons (pv 3) (pa_cons (pe_call (ok_turned T) (hr.mono (by decide)) (by rfl) T.g_turned T.F_turned.kp T.b_turned .nil pass0 (pa_cons (pv 3) (pa_cons (pv 1) pa_nil))) pa_nil))) (pe_call (ok_turned_onto T) (hr.mono (by decide)) (by rfl) T.g_turned_onto T.F_turned_onto.kp T.b_turned_onto .nil pass0 (pa_cons (pv 0) (pa_cons (pv 4) pa_nil))) (nomark _)) (pss_one (ps_ret pe_bl)) pss_nil)
      (pss_one (ps_ret (pe_or (pe_cmpR op_lt (pv 2) pe_int (nomark _)) (pe_one (pe_cmpR (op_eqK K hr.units) (pe_call (ok_least_turned T) (hr.mono (by decide)) (by rfl) T.g_least_turned T.F_least_turned.kp T.b_least_turned .nil pass0 (pa_cons (pv 3) pa_nil)) (pe_call (ok_power T) (hr.mono (by decide)) (by rfl) T.g_power T.F_power.kp T.b_power .nil pass0 (pa_cons (pe_call (ok_least_turned T) (hr.mono (by decide)) (by rfl) T.g_least_turned T.F_least_turned.kp T.b_least_turned .nil pass0 (pa_cons (pv 0) pa_nil)) (pa_cons (pv 2) pa_nil))) (nomark _)))))))))), ?_⟩
    have sX := Fg.str_rd w
    have tX := stp_rd sw
    have zX := Fg.rd_len w
    obtain ⟨X, hX⟩ : ∃ X, Fg.rd w = X := ⟨_, rfl⟩
    have tw : ∀ g, Fg.tn w g = Fg.tn X g := fun g => by rw [← hX, Fg.tn_rd]
    have pX : ∀ j, pw w j = pw X j := fun j => by rw [← hX, pw_rd]
    rw [hX] at sX tX zX
    have bd : ∀ {n : Nat}, n ≤ 60 → n * k.natAbs ≤ 5000 := fun h => mul_le2 h (by omega : k.natAbs ≤ 20) (by decide)
    have zM := tn_len X o
    have tM := stp_tn tX so
    have sM := Fg.tn_str X o
    have sP := str_pw X k
    have tP : Stp 4 (pw X k) := stp_pw tX
    have tnp : Fg.tn (pw X k) o = pw (Fg.tn X o) k := Fg.tn_z X o k
    walk_at "go"
    refine ⟨a, w, k, rfl, ha, by omega, bd (by omega), sw, k0, k2, fun p1 H1 e1 k1 => ?_⟩
    rw [pX] at k1
    walk_at "go"
    refine ⟨a, w, b, o, rfl, ex_t e1 ha, ex_t e1 hb, by omega, by omega, sw, so, fun p2 H2 e2 k3 => ?_⟩
    rw [tw] at k3
    refine ⟨_, _, rfl, ?_⟩
    have e := e1.trans e2
    replace k1 := ex_t e2 k1
    clear e1 e2
    refine ⟨fun σ' H' => Ex H2 H' ∧ σ' = [some (.ref a), some (.ref b), some (.int k), some (.ref p1), some (.ref p2)] ∧ (pw X k).length ≤ 360 ∧ k ≠ 0, ?_, ?_⟩
    · walk_at "go"
      refine r_lenT k1 ?_
      rw [List.length_map]
      walk_at "go"
      refine if_2 (fun h0 => ?_) fun h0 => ?_
      · walk_at "go"
        exact q H2 e
      · walk_at "go"
        refine if_2 (fun h1 => ?_) fun h1 => ?_
        · walk_at "go"
          exact q H2 e
        · walk_at "go"
          exact ⟨Ex.refl H2, rfl, by omega, h1⟩
    rintro σ' H3 ⟨e3, rfl, zP, kn⟩
    replace e := e.trans e3
    replace k1 := ex_t e3 k1
    replace k3 := ex_t e3 k3
    clear e3
    have zPM := tn_len (pw X k) o
    have tPM := stp_tn tP so
    have zbP := rd_lb (pw X k)
    refine ⟨fun σ' H' => Ex H3 H' ∧ σ' = [some (.ref a), some (.ref b), some (.int k), some (.ref p1), some (.ref p2)], ?_, ?_⟩
    · walk_at "go"
      refine ⟨p1, _, b, o, rfl, k1, ex_t e hb, by omega, by omega, tP, so, fun q1 H4 e4 g1 => ?_⟩
      walk_at "go"
      refine ⟨p2, _, k, rfl, ex_t e4 k3, by omega, bd (by omega), tM, k0, k2, fun q2 H5 e5 g2 => ?_⟩
      refine same_neT (ex_t e5 g1) g2 tnp ?_
      have e45 := e4.trans e5
      walk_at "go"
      refine ⟨p1, _, a, w, rfl, ex_t e45 k1, ex_t (e.trans e45) ha, by omega, by omega, tP, sw, fun H6 e6 => ?_⟩
      rw [decide_eq_true (by rw [← pX]; exact pw_comm w k)]
      refine r_truB ?_
      replace e45 := e45.trans e6
      walk_at "go"
      refine ⟨p1, _, rfl, ex_t e45 k1, by omega, tP, fun q3 H7 e7 g3 => ?_⟩
      walk_at "go"
      refine ⟨a, w, q3, _, rfl, ex_t ((e.trans e45).trans e7) ha, g3, by omega, by omega, sw, stp_rd (stp_bk tP), fun H8 e8 => ?_⟩
      rw [decide_eq_true (by rw [← pX, ← pw_neg]; exact (pw_comm w (-k)).symm)]
      refine r_truB ?_
      walk_at "go"
      exact ⟨(e45.trans e7).trans e8, rfl⟩
    rintro σ' H4 ⟨e4, rfl⟩
    replace e := e.trans e4
    replace k1 := ex_t e4 k1
    replace k3 := ex_t e4 k3
    clear e4
    refine ⟨fun σ' H' => Ex H4 H' ∧ σ' = [some (.ref a), some (.ref b), some (.int k), some (.ref p1), some (.ref p2)], ?_, ?_⟩
    · walk_at "go"
      refine ⟨p1, _, b, o, rfl, k1, ex_t e hb, by omega, by omega, tP, so, fun q1 H5 e5 g1 => ?_⟩
      walk_at "go"
      refine ⟨p1, _, q1, _, rfl, ex_t e5 k1, g1, by omega, by omega, tP, tPM, fun x1 H6 e6 on1 => ?_⟩
      rw [Fg.rd_str sP, Fg.rd_str (Fg.tn_str _ _)] at on1
      rcases on1 with ⟨n, _⟩ | ⟨_, q2, f, rfl, g2, lt, tf, _⟩
      · exact absurd (onto_tn sP tP so) n
      have e56 := e5.trans e6
      walk_at "go"
      refine ⟨a, w, p2, _, rfl, ex_t (e.trans e56) ha, ex_t e56 k3, by omega, by omega, sw, tM, fun x2 H7 e7 on2 => ?_⟩
      rw [hX, Fg.rd_str sM] at on2
      rcases on2 with ⟨n, _⟩ | ⟨_, q3, g, rfl, g3, lt2, tg, _⟩
      · exact absurd (onto_tn sX tX so) n
      refine same_neT (ex_t e7 g2) g3 (Fg.leastT_uniq lt lt2 fun x hx => ?_) ?_
      · have tx : Fg.tn (pw X k) x = pw (Fg.tn X x) k := Fg.tn_z X x k
        rw [tx, tnp]
        constructor
        · have c : ∀ i ∈ x, i ≠ 0 := by
            rcases hx with rfl | rfl
            · exact stp_nz tf
            · exact stp_nz tg
          exact fun h => Fg.z_inj (Fg.tn_str _ _) (Fg.tn_str _ _) (Fg.tn_nz (stp_nz tX) c) (stp_nz tM) kn h
        · exact fun h => by rw [h]
      walk_at "go"
      exact ⟨e56.trans e7, rfl⟩
    rintro σ' H5 ⟨e5, rfl⟩
    replace e := e.trans e5
    replace k1 := ex_t e5 k1
    clear e5
    walk_at "go"
    by_cases c : k < 0
    · rw [decide_eq_true c]
      exact q H5 e
    · rw [decide_eq_false c]
      walk_at "go"
      refine ⟨p1, _, rfl, k1, by omega, tP, fun q1 l1 H6 e6 g1 ls1 => ?_⟩
      rw [Fg.rd_str sP] at ls1
      walk_at "go"
      refine ⟨a, w, rfl, ex_t (e.trans e6) ha, by omega, sw, fun q2 l2 H7 e7 g2 ls2 => ?_⟩
      rw [hX] at ls2
      obtain ⟨_, f2, f3, _⟩ := lead_least sX tX ls2
      walk_at "go"
      refine ⟨q2, l2, k, rfl, g2, by omega, bd (by omega), f2, k0, k2, fun q3 H8 e8 g3 => ?_⟩
      exact same_eqT (ex_t (e7.trans e8) g1) g3 (least_pow sX tX (by omega) ls1 ls2) (q H8 ((e.trans e6).trans (e7.trans e8)))
end
end Lw
namespace Lw
open PySem PySem.Spec PyProof.Rows L2 Evl

local macro_rules | `(tactic| walk_at "go") => `(tactic| repeat (first
  | with_reducible refine st_seq ?_ | with_reducible refine st_set ?_ | with_reducible refine st_asg ?_ | with_reducible refine st_ret ?_ | with_reducible refine st_drop ?_ | with_reducible refine st_if ?_
  | with_reducible refine st_c ?_ | ((with_reducible refine' st_v ?h ?_); (case h => exact rfl)) | with_reducible refine st_n ?_ | with_reducible refine st_cons ?_ | with_reducible refine st_op ?_ | with_reducible refine st_un ?_
  | with_reducible refine st_cb ?_ | with_reducible refine st_test ?_ | with_reducible refine st_call ?_ | with_reducible refine st_callK ?_ | with_reducible refine st_sl ?_ | with_reducible refine st_par ?_ | with_reducible refine st_par3 ?_ | with_reducible refine st_tru ?_
  | with_reducible refine st_and ?_ | with_reducible refine st_or ?_ | with_reducible refine st_not ?_ | with_reducible refine st_B ?_ | with_reducible refine st_andV ?_ | with_reducible refine st_orV ?_ | with_reducible refine st_notV ?_ | with_reducible refine st_ifE ?_
  | with_reducible refine st_part ?_ | with_reducible refine st_nop ?_ | with_reducible refine st_sub ?_ | with_reducible refine st_chain ?_ | with_reducible refine st_bl ?_ | with_reducible refine st_in ?_ | with_reducible refine r_truB ?_
  | with_reducible refine st_nameG ?_ | with_reducible refine if_T ?_ | with_reducible refine if_F ?_ | with_reducible refine if_nT ?_ | with_reducible refine if_nF ?_
  | with_reducible refine r_add ?_ | with_reducible refine r_0 ?_ | with_reducible refine r_neg ?_ | with_reducible refine r_intI ?_ | with_reducible refine r_intB ?_ | with_reducible refine r_abs ?_ | with_reducible refine r_max2 ?_ | with_reducible refine r_min2 ?_ | with_reducible refine r_eqI ?_ | with_reducible refine r_neI ?_
  | with_reducible refine st_nxt ?_ | with_reducible refine st_cnt ?_ | with_reducible refine st_brk ?_ | with_reducible refine st_retn ?_
  | with_reducible refine st_lstN ?_ | with_reducible refine st_tupN ?_
  | with_reducible refine st_for ?_ | with_reducible refine st_lc ?_ | with_reducible refine st_lc2 ?_ | with_reducible refine st_rng1 ?_ | with_reducible refine st_rng2 ?_ | with_reducible refine st_rng3 ?_ | with_reducible refine st_itL ?_ | with_reducible refine st_itT ?_ | with_reducible refine st_rev ?_ | with_reducible refine st_enumE ?_ | with_reducible refine st_zip3 ?_ | with_reducible refine st_lvals ?_ | with_reducible refine st_fld ?_ | with_reducible refine st_sfld ?_ | with_reducible refine st_meth ?_ | with_reducible refine st_make ?_ | with_reducible refine st_rg1 ?_ | with_reducible refine st_enumS ?_ | with_reducible refine st_enumD ?_ | with_reducible refine st_lstIt ?_ | with_reducible refine st_dg1 ?_ | with_reducible refine st_dg2 ?_ | with_reducible refine st_dpop ?_ | with_reducible refine st_dset ?_ | with_reducible refine st_ckw ?_ | with_reducible refine st_dsetT ?_ | with_reducible refine st_dnewT ?_ | with_reducible refine st_dc ?_ | with_reducible refine st_keys ?_ | with_reducible refine st_dget ?_ | with_reducible refine st_din ?_ | with_reducible refine st_dnin ?_ | with_reducible refine st_dput ?_ | with_reducible refine st_dnew ?_ | with_reducible refine st_lstRg ?_ | with_reducible refine st_rg2 ?_ | with_reducible refine r_twoI ?_ | with_reducible refine st_bm ?_ | with_reducible refine st_bm0 ?_
  | ((with_reducible refine' st_aug ?h ?_); (case h => exact rfl)) | with_reducible refine r_augI ?_ | with_reducible refine r_eqB ?_
  | dsimp only))
section
variable {P : Program} {w : World} {K : PySem.W.Frag} {mg : Str → Option Value} {base : Heap} {A : Ad}

def GW (g : List Int) : Prop := Stp 4 g ∧ g.length ≤ 60
def sp__law_right (K : PySem.W.Frag) : Sp := fun vs H Q _ => ∃ w, vs = [.ref w] ∧ Well H w 0 ∧ ∀ H1, ExW w H H1 → Q (.bl true) H1
theorem ok__law_right (T : Tx K mg A) : FnOk P w K mg base CX0 7 A.a__law_right A.f__law_right P__law_right (sp__law_right K) := by
  refine T.F__law_right.ok sc__law_right (fun vs H Q E h => ?_) (fun cdv A' outer s H vs Q E hr h => ?_)
  · obtain ⟨w, rfl, _⟩ := h
    rfl
  · obtain ⟨w, rfl, hw, q⟩ := h
    refine ⟨_, (pss_cons (ps_set (i := 1) sc__law_right.nd rfl (Or.inl rfl) (pe_op (op_addK K) pe_int (pe_call (ok__law_take T) (hr.mono (by decide)) (by rfl) T.g__law_take T.F__law_take.kp T.b__law_take .nil pass0 (pa_cons (pv 0) (pa_cons pe_int pa_nil)))))
      (pss_cons (ps_par (i := 2) (j := 3) (by rfl) sc__law_right.nd rfl rfl (by decide) rfl rfl (pa_cons (pe_call (ok__law_walk T) (hr.mono (by decide)) (by rfl) T.g__law_walk T.F__law_walk.kp T.b__law_walk .nil pass0 (pa_cons (pv 0) (pa_cons (pv 1) (pa_cons pe_int pa_nil)))) (pa_cons (pe_call (ok__law_walk T) (hr.mono (by decide)) (by rfl) T.g__law_walk T.F__law_walk.kp T.b__law_walk .nil pass0 (pa_cons (pv 0) (pa_cons (pv 1) (pa_cons pe_int pa_nil)))) pa_nil)) (by rfl))
      (pss_cons (ps_par (i := 4) (j := 5) (by rfl) sc__law_right.nd rfl rfl (by decide) rfl rfl (pa_cons (pe_call (ok__law_walk T) (hr.mono (by decide)) (by rfl) T.g__law_walk T.F__law_walk.kp T.b__law_walk .nil pass0 (pa_cons (pv 0) (pa_cons (pv 1) (pa_cons pe_int pa_nil)))) (pa_cons (pe_call (ok__law_walk T) (hr.mono (by decide)) (by rfl) T.g__law_walk T.F__law_walk.kp T.b__law_walk .nil pass0 (pa_cons (pv 0) (pa_cons (pv 1) (pa_cons pe_int pa_nil)))) pa_nil)) (by rfl))
      (pss_cons (ps_par (i := 6) (j := 7) (by rfl) sc__law_right.nd rfl rfl (by decide) rfl rfl (pa_cons (pe_op op_sub (pe_call (ok__law_take T) (hr.mono (by decide)) (by rfl) T.g__law_take T.F__law_take.kp T.b__law_take .nil pass0 (pa_cons (pv 0) (pa_cons pe_int pa_nil))) pe_int) (pa_cons (pe_op op_sub (pe_call (ok__law_take T) (hr.mono (by decide)) (by rfl) T.g__law_take T.F__law_take.kp T.b__law_take .nil pass0 (pa_cons (pv 0) (pa_cons pe_int pa_nil))) pe_int) pa_nil)) (by rfl))
      (pss_cons (ps_par (i := 8) (j := 9) (by rfl) sc__law_right.nd rfl rfl (by decide) rfl rfl (pa_cons (pe_call (ok_power T) (hr.mono (by decide)) (by rfl) T.g_power T.F_power.kp T.b_power .nil pass0 (pa_cons (pv 2) (pa_cons (pv 6) pa_nil))) (pa_cons (pe_call (ok_power T) (hr.mono (by decide)) (by rfl) T.g_power T.F_power.kp T.b_power .nil pass0 (pa_cons (pv 2) (pa_cons (pv 7) pa_nil))) pa_nil)) (by rfl))
      (pss_cons (ps_set (i := 10) sc__law_right.nd rfl (Or.inl rfl) (pe_lst (pa_cons (pv 2) (pa_cons (pv 3) (pa_cons (pe_call (ok_turned T) (hr.mono (by decide)) (by rfl) T.g_turned T.F_turned.kp T.b_turned .nil pass0 (pa_cons (pv 2) (pa_cons (pv 4) pa_nil))) (pa_cons (pv 8) (pa_cons (pv 9) (pa_cons (pe_call (ok_back T) (hr.mono (by decide)) (by rfl) T.g_back T.F_back.kp T.b_back .nil pass0 (pa_cons (pv 2) pa_nil)) (pa_cons (pe_call (ok_least_turned T) (hr.mono (by decide)) (by rfl) T.g_least_turned T.F_least_turned.kp T.b_least_turned .nil pass0 (pa_cons (pv 3) pa_nil)) (pa_cons (pe_tup pa_nil) pa_nil))))))))))
      (pss_cons (ps_setLc (i := 10) (own := [("_law_walk_here", 11)]) rfl sc__law_right.nd rfl rfl (sw_true rfl rfl rfl (by decide +kernel)) (pi_listK K (pv 10)) (blkOk_by (own := [("_law_walk_here", 11)]) (N := N__law_right) (sc := defScope s__law_right) (by decide +kernel)) (fun _ _ _ _ _ => (pg_name (i := 11) sc__law_right.nd rfl (Or.inl rfl))) (fun _ _ _ _ _ => (pts_one (pt_cmpR op_le (pe_callB (len_K K) (by rfl) T.n_len (by decide +kernel) (pa_cons (pv 11) pa_nil)) pe_int (nomark _)))) (fun _ _ _ _ _ => (pv 11)))
      (pss_cons (ps_for PassesOwn.never rfl (pi_listK K (pv 10)) (pg_name (i := 11) sc__law_right.nd rfl (Or.inl rfl)) (pss_cons (ps_if (PW.pt (pw_or (pt_not (pt_truK K (pe_call (ok__law_behind T) (hr.mono (by decide)) (by rfl) T.g__law_behind T.F__law_behind.kp T.b__law_behind .nil pass0 (pa_cons (pv 11) (pa_cons (pv 2) (pa_cons (pv 3) pa_nil)))))) (pw_or1 (pt_not (pt_truK K (pe_call (ok__law_behind T) (hr.mono (by decide)) (by rfl) T.g__law_behind T.F__law_behind.kp T.b__law_behind .nil pass0 (pa_cons (pv 3) (pa_cons (pv 11) (pa_cons (pv 5) pa_nil))))))))) (pss_one (ps_ret pe_bl)) pss_nil)
      (pss_cons (ps_if (PW.pt (pw_or (pt_not (pt_truK K (pe_call (ok__law_added T) (hr.mono (by decide)) (by rfl) T.g__law_added T.F__law_added.kp T.b__law_added .nil pass0 (pa_cons (pv 11) (pa_cons (pv 6) (pa_cons (pv 7) pa_nil)))))) (pw_or1 (pt_not (pt_truK K (pe_call (ok__law_rooted T) (hr.mono (by decide)) (by rfl) T.g__law_rooted T.F__law_rooted.kp T.b__law_rooted .nil pass0 (pa_cons (pv 11) (pa_cons (pv 4) (pa_cons (pv 7) pa_nil))))))))) (pss_one (ps_ret pe_bl)) pss_nil)
      (pss_one (ps_for PassesOwn.never rfl (pi_listK K (pe_lst (pa_cons (pv 2) (pa_cons (pv 3) (pa_cons (pe_ix (ix_K K) (pv 10) (pe_call (ok__law_take T) (hr.mono (by decide)) (by rfl) T.g__law_take T.F__law_take.kp T.b__law_take .nil pass0 (pa_cons (pv 0) (pa_cons (pe_callB (len_K K) (by rfl) T.n_len (by decide +kernel) (pa_cons (pv 10) pa_nil)) pa_nil))) (fun _ _ => rfl)) pa_nil))))) (pg_name (i := 12) sc__law_right.nd rfl (Or.inl rfl)) (pss_one (ps_if (PW.pt (pw_or (pt_not (pt_truK K (pe_call (ok__law_commuting T) (hr.mono (by decide)) (by rfl) T.g__law_commuting T.F__law_commuting.kp T.b__law_commuting .nil pass0 (pa_cons (pv 11) (pa_cons (pv 12) pa_nil))))) (pw_or1 (pt_not (pt_truK K (pe_call (ok__law_turning T) (hr.mono (by decide)) (by rfl) T.g__law_turning T.F__law_turning.kp T.b__law_turning .nil pass0 (pa_cons (pv 11) (pa_cons (pv 12) (pa_cons (pv 4) pa_nil))))))))) (pss_one (ps_ret pe_bl)) pss_nil)))))))
      (pss_cons (ps_if (PW.pt (pw_or (pt_not (pt_truK K (pe_call (ok__law_long T) (hr.mono (by decide)) (by rfl) T.g__law_long T.F__law_long.kp T.b__law_long .nil pass0 (pa_cons (pv 2) (pa_cons (pv 4) (pa_cons (pv 6) pa_nil)))))) (pw_or (pt_not (pt_truK K (pe_call (ok__law_long T) (hr.mono (by decide)) (by rfl) T.g__law_long T.F__law_long.kp T.b__law_long .nil pass0 (pa_cons (pv 3) (pa_cons (pv 4) (pa_cons (pv 6) pa_nil)))))) (pw_or1 (pt_not (pt_truK K (pe_call (ok__law_long T) (hr.mono (by decide)) (by rfl) T.g__law_long T.F__law_long.kp T.b__law_long .nil pass0 (pa_cons (pv 5) (pa_cons (pv 4) (pa_cons (pv 7) pa_nil)))))))))) (pss_one (ps_ret pe_bl)) pss_nil)
      (pss_one (ps_ret (pe_and (pe_call (ok__law_added T) (hr.mono (by decide)) (by rfl) T.g__law_added T.F__law_added.kp T.b__law_added .nil pass0 (pa_cons (pv 2) (pa_cons (pv 7) (pa_cons (pv 7) pa_nil)))) (pe_one (pe_call (ok__law_rooted T) (hr.mono (by decide)) (by rfl) T.g__law_rooted T.F__law_rooted.kp T.b__law_rooted .nil pass0 (pa_cons (pv 2) (pa_cons (pv 5) (pa_cons (pv 6) pa_nil))))))))))))))))), ?_⟩
    walk_at "go"
    refine ⟨w, 0, 4, rfl, by omega, by omega, hw, by omega, fun r H1 r0 r4 e1 d1 => ?_⟩
    have s1 : DrS w H 1 H1 := ⟨e1, d1⟩
    clear e1 d1
    walk_at "go"
    generalize hl : 1 + r = l
    have hl1 : 1 ≤ l := by omega
    have hl4 : l ≤ 4 := by omega
    clear hl r0 r4
    have st4 : ∀ {u : List Int}, Stp l u → Stp 4 u := fun h x hx => by have := h x hx; omega
    refine ⟨w, _, l, 6, rfl, s1.well, by omega, hl1, hl4, by omega, by omega, fun a1 u1 H2 s2 h1 t1 z1 => ?_⟩
    walk_at "go"
    refine ⟨w, _, l, 20, rfl, s2.well, by omega, hl1, hl4, by omega, by omega, fun a2 u2 H3 s3 h2 t2 z2 => ?_⟩
    replace h1 := s3.t s2.well h1
    replace s1 := s1.on (s2.ex.trans s3.ex) s3.well
    clear s2 s3
    refine ⟨_, _, rfl, ?_⟩
    walk_at "go"
    refine ⟨w, _, l, 6, rfl, s1.well, by omega, hl1, hl4, by omega, by omega, fun a3 u3 H4 s4 h3 t3 z3 => ?_⟩
    walk_at "go"
    refine ⟨w, _, l, 20, rfl, s4.well, by omega, hl1, hl4, by omega, by omega, fun a4 u4 H5 s5 h4 t4 z4 => ?_⟩
    replace h1 := s5.t s4.well (s4.t s1.well h1)
    replace h2 := s5.t s4.well (s4.t s1.well h2)
    replace h3 := s5.t s4.well h3
    replace s1 := s1.on (s4.ex.trans s5.ex) s5.well
    clear s4 s5
    refine ⟨_, _, rfl, ?_⟩
    replace t1 := st4 t1
    replace t2 := st4 t2
    replace t3 := st4 t3
    replace t4 := st4 t4
    walk_at "go"
    refine ⟨w, _, 41, rfl, by omega, by omega, s1.well, by omega, fun k1 H6 k10 k1m e6 d6 => ?_⟩
    have s6 := s1.on e6 d6
    walk_at "go"
    refine ⟨w, _, 13, rfl, by omega, by omega, s6.well, by omega, fun k2 H7 k20 k2m e7 d7 => ?_⟩
    have e67 := e6.trans e7
    replace h1 := s1.well.t e67 h1
    replace h2 := s1.well.t e67 h2
    replace h3 := s1.well.t e67 h3
    replace h4 := s1.well.t e67 h4
    replace s1 := s6.on e7 d7
    clear s6 e6 e7 e67 d6 d7
    walk_at "go"
    refine ⟨_, _, rfl, ?_⟩
    obtain ⟨i, hi⟩ : ∃ i, k1 - 20 = i := ⟨_, rfl⟩
    obtain ⟨j, hj⟩ : ∃ j, k2 - 6 = j := ⟨_, rfl⟩
    rw [hi, hj]
    have bi : -20 ≤ i ∧ i ≤ 20 := by omega
    have bj : -6 ≤ j ∧ j ≤ 6 := by omega
    clear hi hj k10 k1m k20 k2m
    obtain ⟨i0, i2⟩ := bi
    obtain ⟨j0, j2⟩ := bj
    walk_at "go"
    refine ⟨a1, u1, i, rfl, h1, by omega, mul_le2 (by omega : u1.length ≤ 6) (by omega : i.natAbs ≤ 20) (by decide), t1, i0, i2, fun a8 H8 e8 h8 => ?_⟩
    walk_at "go"
    refine ⟨a1, u1, j, rfl, ex_t e8 h1, by omega, mul_le2 (by omega : u1.length ≤ 6) (by omega : j.natAbs ≤ 20) (by decide), t1, by omega, by omega, fun a9 H9 e9 h9 => ?_⟩
    refine ⟨_, _, rfl, ?_⟩
    replace h8 := ex_t e9 h8
    have e := e8.trans e9
    replace h1 := ex_t e h1
    replace h2 := ex_t e h2
    replace h3 := ex_t e h3
    replace h4 := ex_t e h4
    replace s1 := s1.ext e
    clear e8 e9 e
    walk_at "go"
    refine ⟨a1, u1, a3, u3, rfl, h1, h3, by omega, by omega, t1, t3, fun b1 H10 e10 g1 => ?_⟩
    walk_at "go"
    refine ⟨a1, u1, rfl, ex_t e10 h1, by omega, t1, fun b2 H11 e11 g2 => ?_⟩
    walk_at "go"
    refine ⟨a2, u2, rfl, ex_t (e10.trans e11) h2, by omega, t2, fun b3 m3 H12 e12 g3 ls => ?_⟩
    obtain ⟨_, tm3, zm3, _⟩ := lead_least (Fg.str_rd u2) (stp_rd t2) ls
    walk_at "go"
    refine r_newT (by simp) fun b4 H13 _ e13 g4 => ?_
    walk_at "go"
    refine r_newL (by simp) fun p14 H14 _ e14 k14 => ?_
    have e1 := e10.trans (e11.trans (e12.trans (e13.trans e14)))
    replace h1 := ex_t e1 h1
    replace h2 := ex_t e1 h2
    replace h3 := ex_t e1 h3
    replace h4 := ex_t e1 h4
    have wg : WkA K H14 [V.ref a1, V.ref a2, V.ref b1, V.ref a8, V.ref a9, V.ref b2, V.ref b3, V.ref b4] [u1, u2, Fg.tn u1 u3, pw u1 i, pw u1 j, Fg.rd (Fg.bk u1), m3, []] :=
      ((((((((WkA.nil.snoc ⟨a1, rfl, h1⟩).snoc ⟨a2, rfl, h2⟩).snoc ⟨b1, rfl, ex_t (e11.trans (e12.trans (e13.trans e14))) g1⟩).snoc ⟨a8, rfl, ex_t e1 h8⟩).snoc ⟨a9, rfl, ex_t e1 h9⟩).snoc ⟨b2, rfl, ex_t (e12.trans (e13.trans e14)) g2⟩).snoc ⟨b3, rfl, ex_t (e13.trans e14) g3⟩).snoc ⟨b4, rfl, ex_t e14 (t_of g4)⟩ : WkA K H14 ([] ++ [V.ref a1] ++ [V.ref a2] ++ [V.ref b1] ++ [V.ref a8] ++ [V.ref a9] ++ [V.ref b2] ++ [V.ref b3] ++ [V.ref b4]) ([] ++ [u1] ++ [u2] ++ [Fg.tn u1 u3] ++ [pw u1 i] ++ [pw u1 j] ++ [Fg.rd (Fg.bk u1)] ++ [m3] ++ [[]]))
    have gg : ∀ g ∈ [u1, u2, Fg.tn u1 u3, pw u1 i, pw u1 j, Fg.rd (Fg.bk u1), m3, []], Stp 4 g ∧ g.length ≤ 5000 := fun g hg => by
      simp only [List.mem_cons, List.not_mem_nil, or_false] at hg
      rcases hg with rfl | rfl | rfl | rfl | rfl | rfl | rfl | rfl
      · exact ⟨t1, by omega⟩
      · exact ⟨t2, by omega⟩
      · have := tn_len u1 u3
        exact ⟨stp_tn t1 t3, by omega⟩
      · exact ⟨stp_pw t1, Nat.le_trans (pw_ln u1 i) (mul_le2 (by omega : u1.length ≤ 6) (by omega : i.natAbs ≤ 20) (by decide))⟩
      · exact ⟨stp_pw t1, Nat.le_trans (pw_ln u1 j) (mul_le2 (by omega : u1.length ≤ 6) (by omega : j.natAbs ≤ 20) (by decide))⟩
      · have := rd_lb u1
        exact ⟨stp_rd (stp_bk t1), by omega⟩
      · have := Fg.rd_len u2
        exact ⟨tm3, by omega⟩
      · exact ⟨(fun x hx => by cases hx), by simp⟩
    replace s1 := s1.ext e1
    have zwg := wg.len
    have z8 : [u1, u2, Fg.tn u1 u3, pw u1 i, pw u1 j, Fg.rd (Fg.bk u1), m3, []].length = 8 := rfl
    generalize [V.ref a1, V.ref a2, V.ref b1, V.ref a8, V.ref a9, V.ref b2, V.ref b3, V.ref b4] = xg at wg k14 zwg
    generalize [u1, u2, Fg.tn u1 u3, pw u1 i, pw u1 j, Fg.rd (Fg.bk u1), m3, []] = wl at wg gg zwg z8
    clear e1 e10 e11 e12 e13 e14 g1 g2 g3 g4 h8 h9 ls tm3 zm3
    walk_at "go"
    refine r_itL (l_of k14) (r_cmLA (xs := xg) (fun k acc H4 => Ex H14 H4 ∧ ∃ us, WkA K H4 acc us ∧ us.length ≤ k ∧ ∀ g ∈ us, GW g) (by omega) (fun _ => rfl) (fun k ys H4 p => ex_l p.1 (l_of k14)) (fun D hD o => ⟨Ex.new hD, [], WkA.nil, Nat.le_refl _, fun g hg => nomatch hg⟩) (fun k2 x2 H10 D acc hx2 hz10 hacc p hall => ?_) fun D H15 ys hD k15 p _ => ?_)
    · obtain ⟨e10, us, wus, zus, gus⟩ := p
      have hD0 : H14 D = none := ex_none fun o => (hall o).1
      have k2b := (List.getElem?_eq_some_iff.mp hx2).1
      obtain ⟨g, hg, px, rfl, hpx⟩ := wg.get hx2
      obtain ⟨g2, g3⟩ := gg g (List.mem_of_getElem? hg)
      have hpx10 := ex_t e10 hpx
      walk_at "go"
      refine r_lenT hpx10 ?_
      rw [List.length_map]
      walk_at "go"
      refine if_2 (fun h0 => ?_) fun h0 => ?_
      · walk_at "go"
        refine cm_yes hacc hz10 (by omega) fun o => ⟨ex_put e10 hD0, us ++ [g], (wus.tx (TX.upd hacc)).snoc ⟨px, rfl, tx_t (TX.upd hacc) hpx10⟩, by rw [List.length_append]; simp; omega, fun z hz => ?_⟩
        rcases List.mem_append.mp hz with hz | hz
        · exact gus z hz
        · rw [List.mem_singleton.mp hz]
          exact ⟨g2, by omega⟩
      · exact cm_no hacc hz10 fun o => ⟨ex_put e10 hD0, us, wus.tx (TX.upd hacc), by omega, gus⟩
    obtain ⟨e15, us, wus, zus, gus⟩ := p
    have zys := wus.len
    replace h1 := ex_t e15 h1
    replace h2 := ex_t e15 h2
    replace h3 := ex_t e15 h3
    replace h4 := ex_t e15 h4
    have nD : D ≠ w := s1.well.ne hD
    replace s1 := s1.ext e15
    clear e15 wg gg k14 hD
    walk_at "go"
    refine r_itL (l_of k15) (r_forL (xs := ys) (fun k σ' H' => ∃ (n : Nat) (v11 v12 : Option V), n ≤ 600 + 3 * k ∧ DrS w H15 n H' ∧ σ' = [some (.ref w), some (.int l), some (.ref a1), some (.ref a2), some (.ref a3), some (.ref a4), some (.int i), some (.int j), some (.ref a8), some (.ref a9), some (.ref D), v11, v12])
      ⟨_, none, none, (by decide : _ ≤ 600 + 3 * 0), DrS.refl s1.well, rfl⟩ (fun k σ' H' _ p => ?_) (fun k x σ' H' hx p => ?_) (fun σ' H' p => ?_))
    · obtain ⟨n, v11, v12, _, s, _⟩ := p
      exact exw_l s.ex nD (l_of k15)
    · obtain ⟨n, v11, v12, zn, s, rfl⟩ := p
      have hkk := (List.getElem?_eq_some_iff.mp hx).1
      obtain ⟨g, hg, px, rfl, hpx⟩ := wus.get hx
      obtain ⟨g1, g2⟩ := gus g (List.mem_of_getElem? hg)
      have b1 := s.t s1.well h1
      have b2 := s.t s1.well h2
      have b3 := s.t s1.well h3
      have b4 := s.t s1.well h4
      have bx := s.t s1.well hpx
      walk_at "go"
      refine ⟨px, a1, a2, g, u1, u2, rfl, bx, b1, b2, by omega, by omega, by omega, g1, t1, t2, fun J1 f1 => ?_⟩
      refine r_truB ?_
      walk_at "go"
      refine ⟨a2, px, a4, u2, g, u4, rfl, ex_t f1 b2, ex_t f1 bx, ex_t f1 b4, by omega, by omega, by omega, t2, g1, t4, fun J2 f2 => ?_⟩
      refine r_truB ?_
      have f := f1.trans f2
      walk_at "go"
      refine ⟨px, g, i, j, rfl, ex_t f bx, g2, g1, i0, i2, j0, j2, fun J3 f3 => ?_⟩
      refine r_truB ?_
      replace f := f.trans f3
      walk_at "go"
      refine ⟨px, a3, g, u3, j, rfl, ex_t f bx, ex_t f b3, g2, by omega, g1, t3, by omega, by omega, fun J4 f4 => ?_⟩
      refine r_truB ?_
      replace f := f.trans f4
      clear f1 f2 f3 f4
      walk_at "go"
      have s4 := s.ext f
      refine r_lenL (exw_l s4.ex nD (l_of k15)) ?_
      walk_at "go"
      refine ⟨w, n, (ys.length : Int), rfl, by omega, by omega, s4.well, by omega, fun r J5 r0 rm e5 d5 => ?_⟩
      have s5 := s4.on e5 d5
      obtain ⟨r, rfl⟩ : ∃ n : Nat, r = (n : Int) := ⟨r.toNat, by omega⟩
      obtain ⟨x7, hx7⟩ : ∃ x, ys[r]? = some x := ⟨_, List.getElem?_eq_getElem (by omega)⟩
      obtain ⟨g7, hg7, p7, rfl, k7⟩ := wus.get hx7
      obtain ⟨g71, g72⟩ := gus g7 (List.mem_of_getElem? hg7)
      refine r_ixL (exw_l s5.ex nD (l_of k15)) (atI_nat hx7) ?_
      walk_at "go"
      refine r_newL (by simp) fun p8 J6 _ f6 k8 => ?_
      have s6 := s5.ext f6
      have c1 := s6.t s1.well h1
      have c2 := s6.t s1.well h2
      have c3 := s6.t s1.well h3
      have cx := s6.t s1.well hpx
      have c7 := s6.t s1.well k7
      have w3 : WkA K J6 [V.ref a1, V.ref a2, V.ref p7] [u1, u2, g7] := (((WkA.nil.snoc ⟨a1, rfl, c1⟩).snoc ⟨a2, rfl, c2⟩).snoc ⟨p7, rfl, c7⟩ : WkA K J6 ([] ++ [V.ref a1] ++ [V.ref a2] ++ [V.ref p7]) ([] ++ [u1] ++ [u2] ++ [g7]))
      have g3 : ∀ y ∈ [u1, u2, g7], GW y := fun y hy => by
        simp only [List.mem_cons, List.not_mem_nil, or_false] at hy
        rcases hy with rfl | rfl | rfl
        · exact ⟨t1, by omega⟩
        · exact ⟨t2, by omega⟩
        · exact ⟨g71, g72⟩
      walk_at "go"
      refine r_itL (l_of k8) (r_forL (xs := [V.ref a1, V.ref a2, V.ref p7]) (fun _ σ' H' => ∃ (v12 : Option V), Ex J6 H' ∧ σ' = [some (.ref w), some (.int l), some (.ref a1), some (.ref a2), some (.ref a3), some (.ref a4), some (.int i), some (.int j), some (.ref a8), some (.ref a9), some (.ref D), some (.ref px), v12])
        ⟨_, Ex.refl J6, rfl⟩ (fun k σ' H' _ p => ?_) (fun k x σ' H' hx p => ?_) (fun σ' H' p => ?_))
      · obtain ⟨v, f, _⟩ := p
        exact ex_l f (l_of k8)
      · obtain ⟨v, f, rfl⟩ := p
        obtain ⟨y, hy, py, rfl, hpy⟩ := w3.get hx
        obtain ⟨y1, y2⟩ := g3 y (List.mem_of_getElem? hy)
        walk_at "go"
        refine ⟨px, py, g, y, rfl, ex_t f cx, ex_t f hpy, by omega, by omega, g1, y1, fun I1 f1 => ?_⟩
        refine r_truB ?_
        replace f := f.trans f1
        walk_at "go"
        refine ⟨px, py, a3, g, y, u3, rfl, ex_t f cx, ex_t f hpy, ex_t f c3, by omega, by omega, by omega, g1, y1, t3, fun I2 f2 => ?_⟩
        refine r_truB ?_
        walk_at "go"
        exact ⟨_, f.trans f2, rfl⟩
      · obtain ⟨v, f, rfl⟩ := p
        walk_at "go"
        exact ⟨n + 1, _, _, by omega, s6.ext f, rfl⟩
    · obtain ⟨n, v11, v12, zn, s, rfl⟩ := p
      have b1 := s.t s1.well h1
      have b2 := s.t s1.well h2
      have b3 := s.t s1.well h3
      have b4 := s.t s1.well h4
      walk_at "go"
      refine ⟨a1, a3, u1, u3, i, rfl, b1, b3, by omega, by omega, t1, t3, i0, i2, fun J1 f1 => ?_⟩
      refine r_truB ?_
      walk_at "go"
      refine ⟨a2, a3, u2, u3, i, rfl, ex_t f1 b2, ex_t f1 b3, by omega, by omega, t2, t3, i0, i2, fun J2 f2 => ?_⟩
      refine r_truB ?_
      have f := f1.trans f2
      walk_at "go"
      refine ⟨a4, a3, u4, u3, j, rfl, ex_t f b4, ex_t f b3, by omega, by omega, t4, t3, by omega, by omega, fun J3 f3 => ?_⟩
      refine r_truB ?_
      replace f := f.trans f3
      walk_at "go"
      refine ⟨a1, u1, j, j, rfl, ex_t f b1, by omega, t1, by omega, by omega, j0, j2, fun J4 f4 => ?_⟩
      walk_at "go"
      replace f := f.trans f4
      refine ⟨a1, a4, u1, u4, i, rfl, ex_t f b1, ex_t f b4, by omega, by omega, t1, t4, i0, i2, fun J5 f5 => ?_⟩
      exact q J5 ((s1.ex.trans s.ex).trans (.of (f.trans f5)))
end
end Lw
namespace Lw
open PySem PySem.Spec PyProof.Rows L2 Evl

local macro_rules | `(tactic| walk_at "go") => `(tactic| repeat (first
  | with_reducible refine st_seq ?_ | with_reducible refine st_set ?_ | with_reducible refine st_asg ?_ | with_reducible refine st_ret ?_ | with_reducible refine st_drop ?_ | with_reducible refine st_if ?_
  | with_reducible refine st_c ?_ | ((with_reducible refine' st_v ?h ?_); (case h => exact rfl)) | with_reducible refine st_n ?_ | with_reducible refine st_cons ?_ | with_reducible refine st_op ?_ | with_reducible refine st_un ?_
  | with_reducible refine st_cb ?_ | with_reducible refine st_test ?_ | with_reducible refine st_call ?_ | with_reducible refine st_callK ?_ | with_reducible refine st_sl ?_ | with_reducible refine st_par ?_ | with_reducible refine st_par3 ?_ | with_reducible refine st_tru ?_
  | with_reducible refine st_and ?_ | with_reducible refine st_or ?_ | with_reducible refine st_not ?_ | with_reducible refine st_B ?_ | with_reducible refine st_andV ?_ | with_reducible refine st_orV ?_ | with_reducible refine st_notV ?_ | with_reducible refine st_ifE ?_
  | with_reducible refine st_part ?_ | with_reducible refine st_nop ?_ | with_reducible refine st_sub ?_ | with_reducible refine st_chain ?_ | with_reducible refine st_bl ?_ | with_reducible refine st_in ?_ | with_reducible refine r_truB ?_
  | with_reducible refine st_nameG ?_ | with_reducible refine if_T ?_ | with_reducible refine if_F ?_ | with_reducible refine if_nT ?_ | with_reducible refine if_nF ?_
  | with_reducible refine r_add ?_ | with_reducible refine r_0 ?_ | with_reducible refine r_neg ?_ | with_reducible refine r_intI ?_ | with_reducible refine r_intB ?_ | with_reducible refine r_abs ?_ | with_reducible refine r_max2 ?_ | with_reducible refine r_min2 ?_ | with_reducible refine r_eqI ?_ | with_reducible refine r_neI ?_
  | with_reducible refine st_nxt ?_ | with_reducible refine st_cnt ?_ | with_reducible refine st_brk ?_ | with_reducible refine st_retn ?_
  | with_reducible refine st_lstN ?_ | with_reducible refine st_tupN ?_
  | with_reducible refine st_for ?_ | with_reducible refine st_lc ?_ | with_reducible refine st_lc2 ?_ | with_reducible refine st_rng1 ?_ | with_reducible refine st_rng2 ?_ | with_reducible refine st_rng3 ?_ | with_reducible refine st_itL ?_ | with_reducible refine st_itT ?_ | with_reducible refine st_rev ?_ | with_reducible refine st_enumE ?_ | with_reducible refine st_zip3 ?_ | with_reducible refine st_lvals ?_ | with_reducible refine st_fld ?_ | with_reducible refine st_sfld ?_ | with_reducible refine st_meth ?_ | with_reducible refine st_make ?_ | with_reducible refine st_rg1 ?_ | with_reducible refine st_enumS ?_ | with_reducible refine st_enumD ?_ | with_reducible refine st_lstIt ?_ | with_reducible refine st_dg1 ?_ | with_reducible refine st_dg2 ?_ | with_reducible refine st_dpop ?_ | with_reducible refine st_dset ?_ | with_reducible refine st_ckw ?_ | with_reducible refine st_dsetT ?_ | with_reducible refine st_dnewT ?_ | with_reducible refine st_dc ?_ | with_reducible refine st_keys ?_ | with_reducible refine st_dget ?_ | with_reducible refine st_din ?_ | with_reducible refine st_dnin ?_ | with_reducible refine st_dput ?_ | with_reducible refine st_dnew ?_ | with_reducible refine st_lstRg ?_ | with_reducible refine st_rg2 ?_ | with_reducible refine r_twoI ?_ | with_reducible refine st_bm ?_ | with_reducible refine st_bm0 ?_
  | ((with_reducible refine' st_aug ?h ?_); (case h => exact rfl)) | with_reducible refine r_augI ?_ | with_reducible refine r_eqB ?_
  | dsimp only))
section
variable {P : Program} {w : World} {K : PySem.W.Frag} {mg : Str → Option Value} {base : Heap} {A : Ad}

def sp_law (K : PySem.W.Frag) : Sp := fun vs H Q _ => ∃ (a : Addr) (ns : List Int), vs = [.ref a] ∧ SqL K H a (ns.map V.int) ∧ ns.length ≤ 63 ∧ ∀ H', Q (.bl true) H'
theorem ok_law (T : Tx K mg A) : FnOk P w K mg base CX0 8 A.a_law A.f_law P_law (sp_law K) := by
  refine T.F_law.ok sc_law (fun vs H Q E h => ?_) (fun cdv A' outer s H vs Q E hr h => ?_)
  · obtain ⟨a, ns, rfl, _⟩ := h
    rfl
  · obtain ⟨a, sc, rfl, hS, hlen, q⟩ := h
    refine ⟨_, (pss_cons (ps_for PassesOwn.never rfl (pi_range1 (by rfl) T.n_range (pa_cons (pe_callB (max2_K rfl) (by rfl) T.n_max (by decide +kernel) (pa_cons pe_int (pa_cons (pe_callB (min2_K rfl) (by rfl) T.n_min (by decide +kernel) (pa_cons pe_int (pa_cons (pe_callB (len_K K) (by rfl) T.n_len (by decide +kernel) (pa_cons (pv 0) pa_nil)) pa_nil))) pa_nil))) pa_nil)) (pg_name (i := 1) sc_law.nd rfl (Or.inl rfl)) (pss_one (ps_if (pt_not (pt_truK K (pe_call (ok__law_right T) (hr.mono (by decide)) (by rfl) T.g__law_right T.F__law_right.kp T.b__law_right .nil pass0 (pa_cons (pe_call (ok__law_well T) (hr.mono (by decide)) (by rfl) T.g__law_well T.F__law_well.kp T.b__law_well .nil pass0 (pa_cons (pv 0) (pa_cons (pv 1) pa_nil))) pa_nil)))) (pss_one (ps_ret pe_bl)) pss_nil)))
      (pss_one (ps_ret pe_bl))), ?_⟩
    walk_at "go"
    refine r_lenL hS ?_
    walk_at "go"
    rw [List.length_map]
    refine r_rng1 (by omega) (by omega) (r_forR (m := (max (1 : Int) (min 3 (sc.length : Int))).toNat) (fun i σ' H' => ∃ vk, Ex H H' ∧ σ' = [some (.ref a), vk]) ⟨none, Ex.refl H, rfl⟩ ?_ ?_)
    · rintro i σ' H1 hi ⟨vk, e1, rfl⟩
      walk_at "go"
      refine ⟨a, sc, _, rfl, ex_l e1 hS, hlen, by omega, by omega, fun w H2 hw e2 d2 => ?_⟩
      have hw0 : H w = none := fresh_back e1 hw
      walk_at "go"
      refine ⟨w, rfl, d2, fun H4 e4 => ?_⟩
      refine r_truB ?_
      walk_at "go"
      exact ⟨_, fun b o hb => e4 b o (e2 b o (e1 b o hb)) (ne_of_none hb hw0), rfl⟩
    · rintro σ' H' ⟨vk, e1, rfl⟩
      walk_at "go"
      exact q H'
end
theorem all_mk {l : PySem.W.OpenLaw} {w : World} {K : PySem.W.Frag} {h : Heap} {mg : Str → Option Value} {fa : Addr} {f_is_integer f_step_place f_straightened f_turned_back f_lead_and_core f_once_round f_rounds_of f__law_well f__law_take f__law_key f_is_step_of f_check_within f_walk_order f__law_walk f_is_walk_of f_check_walk f_straight f_behind f_back f_power f_core f_root f_commute f_turned f_turned_onto f_least_turned f__law_added f__law_rooted f__law_commuting f__law_turning f__law_behind f__law_long f__law_right f_law : Addr} (X : K.In h) (G : h.Ns mainGlobals mg) (hfa : mg "law" = some (.ref fa))
    {od_is_integer an_is_integer od_step_place an_step_place od_straightened an_straightened od_turned_back an_turned_back od_lead_and_core an_lead_and_core od_once_round an_once_round od_rounds_of an_rounds_of od__law_well an__law_well od__law_take an__law_take od__law_key an__law_key od_is_step_of an_is_step_of od_check_within an_check_within od_walk_order an_walk_order od__law_walk an__law_walk od_is_walk_of an_is_walk_of od_check_walk an_check_walk od_straight an_straight od_behind an_behind od_back an_back od_power an_power od_core an_core od_root an_root od_commute an_commute od_turned an_turned od_turned_onto an_turned_onto od_least_turned an_least_turned od__law_added an__law_added od__law_rooted an__law_rooted od__law_commuting an__law_commuting od__law_turning an__law_turning od__law_behind an__law_behind od__law_long an__law_long od__law_right an__law_right od_law an_law : Option Addr} {sl_is_integer sl_step_place sl_straightened sl_turned_back sl_lead_and_core sl_once_round sl_rounds_of sl__law_well sl__law_take sl__law_key sl_is_step_of sl_check_within sl_walk_order sl__law_walk sl_is_walk_of sl_check_walk sl_straight sl_behind sl_back sl_power sl_core sl_root sl_commute sl_turned sl_turned_onto sl_least_turned sl__law_added sl__law_rooted sl__law_commuting sl__law_turning sl__law_behind sl__law_long sl__law_right sl_law : Array (Option Value)} {oc_is_integer kV_is_integer dc_is_integer pm_is_integer cd_is_integer ct_is_integer oc_step_place kV_step_place dc_step_place pm_step_place cd_step_place ct_step_place oc_straightened kV_straightened dc_straightened pm_straightened cd_straightened ct_straightened oc_turned_back kV_turned_back dc_turned_back pm_turned_back cd_turned_back ct_turned_back oc_lead_and_core kV_lead_and_core dc_lead_and_core pm_lead_and_core cd_lead_and_core ct_lead_and_core oc_once_round kV_once_round dc_once_round pm_once_round cd_once_round ct_once_round oc_rounds_of kV_rounds_of dc_rounds_of pm_rounds_of cd_rounds_of ct_rounds_of oc__law_well kV__law_well dc__law_well pm__law_well cd__law_well ct__law_well oc__law_take kV__law_take dc__law_take pm__law_take cd__law_take ct__law_take oc__law_key kV__law_key dc__law_key pm__law_key cd__law_key ct__law_key oc_is_step_of kV_is_step_of dc_is_step_of pm_is_step_of cd_is_step_of ct_is_step_of oc_check_within kV_check_within dc_check_within pm_check_within cd_check_within ct_check_within oc_walk_order kV_walk_order dc_walk_order pm_walk_order cd_walk_order ct_walk_order oc__law_walk kV__law_walk dc__law_walk pm__law_walk cd__law_walk ct__law_walk oc_is_walk_of kV_is_walk_of dc_is_walk_of pm_is_walk_of cd_is_walk_of ct_is_walk_of oc_check_walk kV_check_walk dc_check_walk pm_check_walk cd_check_walk ct_check_walk oc_straight kV_straight dc_straight pm_straight cd_straight ct_straight oc_behind kV_behind dc_behind pm_behind cd_behind ct_behind oc_back kV_back dc_back pm_back cd_back ct_back oc_power kV_power dc_power pm_power cd_power ct_power oc_core kV_core dc_core pm_core cd_core ct_core oc_root kV_root dc_root pm_root cd_root ct_root oc_commute kV_commute dc_commute pm_commute cd_commute ct_commute oc_turned kV_turned dc_turned pm_turned cd_turned ct_turned oc_turned_onto kV_turned_onto dc_turned_onto pm_turned_onto cd_turned_onto ct_turned_onto oc_least_turned kV_least_turned dc_least_turned pm_least_turned cd_least_turned ct_least_turned oc__law_added kV__law_added dc__law_added pm__law_added cd__law_added ct__law_added oc__law_rooted kV__law_rooted dc__law_rooted pm__law_rooted cd__law_rooted ct__law_rooted oc__law_commuting kV__law_commuting dc__law_commuting pm__law_commuting cd__law_commuting ct__law_commuting oc__law_turning kV__law_turning dc__law_turning pm__law_turning cd__law_turning ct__law_turning oc__law_behind kV__law_behind dc__law_behind pm__law_behind cd__law_behind ct__law_behind oc__law_long kV__law_long dc__law_long pm__law_long cd__law_long ct__law_long oc__law_right kV__law_right dc__law_right pm__law_right cd__law_right ct__law_right oc_law kV_law dc_law pm_law cd_law ct_law : Value} {tc_MOST_LETTERS tc_MOST_TIMES : Tok}
    (a_is_integer : PySem.W.nsIn K mainGlobals "is_integer" = some (some (.ref f_is_integer))) (l_is_integer : K.lookup f_is_integer = some ⟨oc_is_integer, od_is_integer, .func (PySem.W.fnOf "is_integer" "is_integer" (defArgs s_is_integer) (defBody s_is_integer) (defScope s_is_integer) .none kV_is_integer dc_is_integer pm_is_integer an_is_integer cd_is_integer ct_is_integer), sl_is_integer⟩) (c_is_integer : PySem.W.codeIn K cd_is_integer "is_integer" = true) (k_is_integer : PySem.W.keepIn K (.ref f_is_integer) = true)
    (a_step_place : PySem.W.nsIn K mainGlobals "step_place" = some (some (.ref f_step_place))) (l_step_place : K.lookup f_step_place = some ⟨oc_step_place, od_step_place, .func (PySem.W.fnOf "step_place" "step_place" (defArgs s_step_place) (defBody s_step_place) (defScope s_step_place) .none kV_step_place dc_step_place pm_step_place an_step_place cd_step_place ct_step_place), sl_step_place⟩) (c_step_place : PySem.W.codeIn K cd_step_place "step_place" = true) (k_step_place : PySem.W.keepIn K (.ref f_step_place) = true)
    (a_straightened : PySem.W.nsIn K mainGlobals "straightened" = some (some (.ref f_straightened))) (l_straightened : K.lookup f_straightened = some ⟨oc_straightened, od_straightened, .func (PySem.W.fnOf "straightened" "straightened" (defArgs s_straightened) (defBody s_straightened) (defScope s_straightened) .none kV_straightened dc_straightened pm_straightened an_straightened cd_straightened ct_straightened), sl_straightened⟩) (c_straightened : PySem.W.codeIn K cd_straightened "straightened" = true) (k_straightened : PySem.W.keepIn K (.ref f_straightened) = true)
    (a_turned_back : PySem.W.nsIn K mainGlobals "turned_back" = some (some (.ref f_turned_back))) (l_turned_back : K.lookup f_turned_back = some ⟨oc_turned_back, od_turned_back, .func (PySem.W.fnOf "turned_back" "turned_back" (defArgs s_turned_back) (defBody s_turned_back) (defScope s_turned_back) .none kV_turned_back dc_turned_back pm_turned_back an_turned_back cd_turned_back ct_turned_back), sl_turned_back⟩) (c_turned_back : PySem.W.codeIn K cd_turned_back "turned_back" = true) (k_turned_back : PySem.W.keepIn K (.ref f_turned_back) = true)
    (a_lead_and_core : PySem.W.nsIn K mainGlobals "lead_and_core" = some (some (.ref f_lead_and_core))) (l_lead_and_core : K.lookup f_lead_and_core = some ⟨oc_lead_and_core, od_lead_and_core, .func (PySem.W.fnOf "lead_and_core" "lead_and_core" (defArgs s_lead_and_core) (defBody s_lead_and_core) (defScope s_lead_and_core) .none kV_lead_and_core dc_lead_and_core pm_lead_and_core an_lead_and_core cd_lead_and_core ct_lead_and_core), sl_lead_and_core⟩) (c_lead_and_core : PySem.W.codeIn K cd_lead_and_core "lead_and_core" = true) (k_lead_and_core : PySem.W.keepIn K (.ref f_lead_and_core) = true)
    (a_once_round : PySem.W.nsIn K mainGlobals "once_round" = some (some (.ref f_once_round))) (l_once_round : K.lookup f_once_round = some ⟨oc_once_round, od_once_round, .func (PySem.W.fnOf "once_round" "once_round" (defArgs s_once_round) (defBody s_once_round) (defScope s_once_round) .none kV_once_round dc_once_round pm_once_round an_once_round cd_once_round ct_once_round), sl_once_round⟩) (c_once_round : PySem.W.codeIn K cd_once_round "once_round" = true) (k_once_round : PySem.W.keepIn K (.ref f_once_round) = true)
    (a_rounds_of : PySem.W.nsIn K mainGlobals "rounds_of" = some (some (.ref f_rounds_of))) (l_rounds_of : K.lookup f_rounds_of = some ⟨oc_rounds_of, od_rounds_of, .func (PySem.W.fnOf "rounds_of" "rounds_of" (defArgs s_rounds_of) (defBody s_rounds_of) (defScope s_rounds_of) .none kV_rounds_of dc_rounds_of pm_rounds_of an_rounds_of cd_rounds_of ct_rounds_of), sl_rounds_of⟩) (c_rounds_of : PySem.W.codeIn K cd_rounds_of "rounds_of" = true) (k_rounds_of : PySem.W.keepIn K (.ref f_rounds_of) = true)
    (a__law_well : PySem.W.nsIn K mainGlobals "_law_well" = some (some (.ref f__law_well))) (l__law_well : K.lookup f__law_well = some ⟨oc__law_well, od__law_well, .func (PySem.W.fnOf "_law_well" "_law_well" (defArgs s__law_well) (defBody s__law_well) (defScope s__law_well) .none kV__law_well dc__law_well pm__law_well an__law_well cd__law_well ct__law_well), sl__law_well⟩) (c__law_well : PySem.W.codeIn K cd__law_well "_law_well" = true) (k__law_well : PySem.W.keepIn K (.ref f__law_well) = true)
    (a__law_take : PySem.W.nsIn K mainGlobals "_law_take" = some (some (.ref f__law_take))) (l__law_take : K.lookup f__law_take = some ⟨oc__law_take, od__law_take, .func (PySem.W.fnOf "_law_take" "_law_take" (defArgs s__law_take) (defBody s__law_take) (defScope s__law_take) .none kV__law_take dc__law_take pm__law_take an__law_take cd__law_take ct__law_take), sl__law_take⟩) (c__law_take : PySem.W.codeIn K cd__law_take "_law_take" = true) (k__law_take : PySem.W.keepIn K (.ref f__law_take) = true)
    (a__law_key : PySem.W.nsIn K mainGlobals "_law_key" = some (some (.ref f__law_key))) (l__law_key : K.lookup f__law_key = some ⟨oc__law_key, od__law_key, .func (PySem.W.fnOf "_law_key" "_law_key" (defArgs s__law_key) (defBody s__law_key) (defScope s__law_key) .none kV__law_key dc__law_key pm__law_key an__law_key cd__law_key ct__law_key), sl__law_key⟩) (c__law_key : PySem.W.codeIn K cd__law_key "_law_key" = true) (k__law_key : PySem.W.keepIn K (.ref f__law_key) = true)
    (a_is_step_of : PySem.W.nsIn K mainGlobals "is_step_of" = some (some (.ref f_is_step_of))) (l_is_step_of : K.lookup f_is_step_of = some ⟨oc_is_step_of, od_is_step_of, .func (PySem.W.fnOf "is_step_of" "is_step_of" (defArgs s_is_step_of) (defBody s_is_step_of) (defScope s_is_step_of) .none kV_is_step_of dc_is_step_of pm_is_step_of an_is_step_of cd_is_step_of ct_is_step_of), sl_is_step_of⟩) (c_is_step_of : PySem.W.codeIn K cd_is_step_of "is_step_of" = true) (k_is_step_of : PySem.W.keepIn K (.ref f_is_step_of) = true)
    (a_check_within : PySem.W.nsIn K mainGlobals "check_within" = some (some (.ref f_check_within))) (l_check_within : K.lookup f_check_within = some ⟨oc_check_within, od_check_within, .func (PySem.W.fnOf "check_within" "check_within" (defArgs s_check_within) (defBody s_check_within) (defScope s_check_within) .none kV_check_within dc_check_within pm_check_within an_check_within cd_check_within ct_check_within), sl_check_within⟩) (c_check_within : PySem.W.codeIn K cd_check_within "check_within" = true) (k_check_within : PySem.W.keepIn K (.ref f_check_within) = true)
    (a_walk_order : PySem.W.nsIn K mainGlobals "walk_order" = some (some (.ref f_walk_order))) (l_walk_order : K.lookup f_walk_order = some ⟨oc_walk_order, od_walk_order, .func (PySem.W.fnOf "walk_order" "walk_order" (defArgs s_walk_order) (defBody s_walk_order) (defScope s_walk_order) .none kV_walk_order dc_walk_order pm_walk_order an_walk_order cd_walk_order ct_walk_order), sl_walk_order⟩) (c_walk_order : PySem.W.codeIn K cd_walk_order "walk_order" = true) (k_walk_order : PySem.W.keepIn K (.ref f_walk_order) = true)
    (a__law_walk : PySem.W.nsIn K mainGlobals "_law_walk" = some (some (.ref f__law_walk))) (l__law_walk : K.lookup f__law_walk = some ⟨oc__law_walk, od__law_walk, .func (PySem.W.fnOf "_law_walk" "_law_walk" (defArgs s__law_walk) (defBody s__law_walk) (defScope s__law_walk) .none kV__law_walk dc__law_walk pm__law_walk an__law_walk cd__law_walk ct__law_walk), sl__law_walk⟩) (c__law_walk : PySem.W.codeIn K cd__law_walk "_law_walk" = true) (k__law_walk : PySem.W.keepIn K (.ref f__law_walk) = true)
    (a_is_walk_of : PySem.W.nsIn K mainGlobals "is_walk_of" = some (some (.ref f_is_walk_of))) (l_is_walk_of : K.lookup f_is_walk_of = some ⟨oc_is_walk_of, od_is_walk_of, .func (PySem.W.fnOf "is_walk_of" "is_walk_of" (defArgs s_is_walk_of) (defBody s_is_walk_of) (defScope s_is_walk_of) .none kV_is_walk_of dc_is_walk_of pm_is_walk_of an_is_walk_of cd_is_walk_of ct_is_walk_of), sl_is_walk_of⟩) (c_is_walk_of : PySem.W.codeIn K cd_is_walk_of "is_walk_of" = true) (k_is_walk_of : PySem.W.keepIn K (.ref f_is_walk_of) = true)
    (a_check_walk : PySem.W.nsIn K mainGlobals "check_walk" = some (some (.ref f_check_walk))) (l_check_walk : K.lookup f_check_walk = some ⟨oc_check_walk, od_check_walk, .func (PySem.W.fnOf "check_walk" "check_walk" (defArgs s_check_walk) (defBody s_check_walk) (defScope s_check_walk) .none kV_check_walk dc_check_walk pm_check_walk an_check_walk cd_check_walk ct_check_walk), sl_check_walk⟩) (c_check_walk : PySem.W.codeIn K cd_check_walk "check_walk" = true) (k_check_walk : PySem.W.keepIn K (.ref f_check_walk) = true)
    (a_straight : PySem.W.nsIn K mainGlobals "straight" = some (some (.ref f_straight))) (l_straight : K.lookup f_straight = some ⟨oc_straight, od_straight, .func (PySem.W.fnOf "straight" "straight" (defArgs s_straight) (defBody s_straight) (defScope s_straight) .none kV_straight dc_straight pm_straight an_straight cd_straight ct_straight), sl_straight⟩) (c_straight : PySem.W.codeIn K cd_straight "straight" = true) (k_straight : PySem.W.keepIn K (.ref f_straight) = true)
    (a_behind : PySem.W.nsIn K mainGlobals "behind" = some (some (.ref f_behind))) (l_behind : K.lookup f_behind = some ⟨oc_behind, od_behind, .func (PySem.W.fnOf "behind" "behind" (defArgs s_behind) (defBody s_behind) (defScope s_behind) .none kV_behind dc_behind pm_behind an_behind cd_behind ct_behind), sl_behind⟩) (c_behind : PySem.W.codeIn K cd_behind "behind" = true) (k_behind : PySem.W.keepIn K (.ref f_behind) = true)
    (a_back : PySem.W.nsIn K mainGlobals "back" = some (some (.ref f_back))) (l_back : K.lookup f_back = some ⟨oc_back, od_back, .func (PySem.W.fnOf "back" "back" (defArgs s_back) (defBody s_back) (defScope s_back) .none kV_back dc_back pm_back an_back cd_back ct_back), sl_back⟩) (c_back : PySem.W.codeIn K cd_back "back" = true) (k_back : PySem.W.keepIn K (.ref f_back) = true)
    (a_power : PySem.W.nsIn K mainGlobals "power" = some (some (.ref f_power))) (l_power : K.lookup f_power = some ⟨oc_power, od_power, .func (PySem.W.fnOf "power" "power" (defArgs s_power) (defBody s_power) (defScope s_power) .none kV_power dc_power pm_power an_power cd_power ct_power), sl_power⟩) (c_power : PySem.W.codeIn K cd_power "power" = true) (k_power : PySem.W.keepIn K (.ref f_power) = true)
    (a_core : PySem.W.nsIn K mainGlobals "core" = some (some (.ref f_core))) (l_core : K.lookup f_core = some ⟨oc_core, od_core, .func (PySem.W.fnOf "core" "core" (defArgs s_core) (defBody s_core) (defScope s_core) .none kV_core dc_core pm_core an_core cd_core ct_core), sl_core⟩) (c_core : PySem.W.codeIn K cd_core "core" = true) (k_core : PySem.W.keepIn K (.ref f_core) = true)
    (a_root : PySem.W.nsIn K mainGlobals "root" = some (some (.ref f_root))) (l_root : K.lookup f_root = some ⟨oc_root, od_root, .func (PySem.W.fnOf "root" "root" (defArgs s_root) (defBody s_root) (defScope s_root) .none kV_root dc_root pm_root an_root cd_root ct_root), sl_root⟩) (c_root : PySem.W.codeIn K cd_root "root" = true) (k_root : PySem.W.keepIn K (.ref f_root) = true)
    (a_commute : PySem.W.nsIn K mainGlobals "commute" = some (some (.ref f_commute))) (l_commute : K.lookup f_commute = some ⟨oc_commute, od_commute, .func (PySem.W.fnOf "commute" "commute" (defArgs s_commute) (defBody s_commute) (defScope s_commute) .none kV_commute dc_commute pm_commute an_commute cd_commute ct_commute), sl_commute⟩) (c_commute : PySem.W.codeIn K cd_commute "commute" = true) (k_commute : PySem.W.keepIn K (.ref f_commute) = true)
    (a_turned : PySem.W.nsIn K mainGlobals "turned" = some (some (.ref f_turned))) (l_turned : K.lookup f_turned = some ⟨oc_turned, od_turned, .func (PySem.W.fnOf "turned" "turned" (defArgs s_turned) (defBody s_turned) (defScope s_turned) .none kV_turned dc_turned pm_turned an_turned cd_turned ct_turned), sl_turned⟩) (c_turned : PySem.W.codeIn K cd_turned "turned" = true) (k_turned : PySem.W.keepIn K (.ref f_turned) = true)
    (a_turned_onto : PySem.W.nsIn K mainGlobals "turned_onto" = some (some (.ref f_turned_onto))) (l_turned_onto : K.lookup f_turned_onto = some ⟨oc_turned_onto, od_turned_onto, .func (PySem.W.fnOf "turned_onto" "turned_onto" (defArgs s_turned_onto) (defBody s_turned_onto) (defScope s_turned_onto) .none kV_turned_onto dc_turned_onto pm_turned_onto an_turned_onto cd_turned_onto ct_turned_onto), sl_turned_onto⟩) (c_turned_onto : PySem.W.codeIn K cd_turned_onto "turned_onto" = true) (k_turned_onto : PySem.W.keepIn K (.ref f_turned_onto) = true)
    (a_least_turned : PySem.W.nsIn K mainGlobals "least_turned" = some (some (.ref f_least_turned))) (l_least_turned : K.lookup f_least_turned = some ⟨oc_least_turned, od_least_turned, .func (PySem.W.fnOf "least_turned" "least_turned" (defArgs s_least_turned) (defBody s_least_turned) (defScope s_least_turned) .none kV_least_turned dc_least_turned pm_least_turned an_least_turned cd_least_turned ct_least_turned), sl_least_turned⟩) (c_least_turned : PySem.W.codeIn K cd_least_turned "least_turned" = true) (k_least_turned : PySem.W.keepIn K (.ref f_least_turned) = true)
    (a__law_added : PySem.W.nsIn K mainGlobals "_law_added" = some (some (.ref f__law_added))) (l__law_added : K.lookup f__law_added = some ⟨oc__law_added, od__law_added, .func (PySem.W.fnOf "_law_added" "_law_added" (defArgs s__law_added) (defBody s__law_added) (defScope s__law_added) .none kV__law_added dc__law_added pm__law_added an__law_added cd__law_added ct__law_added), sl__law_added⟩) (c__law_added : PySem.W.codeIn K cd__law_added "_law_added" = true) (k__law_added : PySem.W.keepIn K (.ref f__law_added) = true)
    (a__law_rooted : PySem.W.nsIn K mainGlobals "_law_rooted" = some (some (.ref f__law_rooted))) (l__law_rooted : K.lookup f__law_rooted = some ⟨oc__law_rooted, od__law_rooted, .func (PySem.W.fnOf "_law_rooted" "_law_rooted" (defArgs s__law_rooted) (defBody s__law_rooted) (defScope s__law_rooted) .none kV__law_rooted dc__law_rooted pm__law_rooted an__law_rooted cd__law_rooted ct__law_rooted), sl__law_rooted⟩) (c__law_rooted : PySem.W.codeIn K cd__law_rooted "_law_rooted" = true) (k__law_rooted : PySem.W.keepIn K (.ref f__law_rooted) = true)
    (a__law_commuting : PySem.W.nsIn K mainGlobals "_law_commuting" = some (some (.ref f__law_commuting))) (l__law_commuting : K.lookup f__law_commuting = some ⟨oc__law_commuting, od__law_commuting, .func (PySem.W.fnOf "_law_commuting" "_law_commuting" (defArgs s__law_commuting) (defBody s__law_commuting) (defScope s__law_commuting) .none kV__law_commuting dc__law_commuting pm__law_commuting an__law_commuting cd__law_commuting ct__law_commuting), sl__law_commuting⟩) (c__law_commuting : PySem.W.codeIn K cd__law_commuting "_law_commuting" = true) (k__law_commuting : PySem.W.keepIn K (.ref f__law_commuting) = true)
    (a__law_turning : PySem.W.nsIn K mainGlobals "_law_turning" = some (some (.ref f__law_turning))) (l__law_turning : K.lookup f__law_turning = some ⟨oc__law_turning, od__law_turning, .func (PySem.W.fnOf "_law_turning" "_law_turning" (defArgs s__law_turning) (defBody s__law_turning) (defScope s__law_turning) .none kV__law_turning dc__law_turning pm__law_turning an__law_turning cd__law_turning ct__law_turning), sl__law_turning⟩) (c__law_turning : PySem.W.codeIn K cd__law_turning "_law_turning" = true) (k__law_turning : PySem.W.keepIn K (.ref f__law_turning) = true)
    (a__law_behind : PySem.W.nsIn K mainGlobals "_law_behind" = some (some (.ref f__law_behind))) (l__law_behind : K.lookup f__law_behind = some ⟨oc__law_behind, od__law_behind, .func (PySem.W.fnOf "_law_behind" "_law_behind" (defArgs s__law_behind) (defBody s__law_behind) (defScope s__law_behind) .none kV__law_behind dc__law_behind pm__law_behind an__law_behind cd__law_behind ct__law_behind), sl__law_behind⟩) (c__law_behind : PySem.W.codeIn K cd__law_behind "_law_behind" = true) (k__law_behind : PySem.W.keepIn K (.ref f__law_behind) = true)
    (a__law_long : PySem.W.nsIn K mainGlobals "_law_long" = some (some (.ref f__law_long))) (l__law_long : K.lookup f__law_long = some ⟨oc__law_long, od__law_long, .func (PySem.W.fnOf "_law_long" "_law_long" (defArgs s__law_long) (defBody s__law_long) (defScope s__law_long) .none kV__law_long dc__law_long pm__law_long an__law_long cd__law_long ct__law_long), sl__law_long⟩) (c__law_long : PySem.W.codeIn K cd__law_long "_law_long" = true) (k__law_long : PySem.W.keepIn K (.ref f__law_long) = true)
    (a__law_right : PySem.W.nsIn K mainGlobals "_law_right" = some (some (.ref f__law_right))) (l__law_right : K.lookup f__law_right = some ⟨oc__law_right, od__law_right, .func (PySem.W.fnOf "_law_right" "_law_right" (defArgs s__law_right) (defBody s__law_right) (defScope s__law_right) .none kV__law_right dc__law_right pm__law_right an__law_right cd__law_right ct__law_right), sl__law_right⟩) (c__law_right : PySem.W.codeIn K cd__law_right "_law_right" = true) (k__law_right : PySem.W.keepIn K (.ref f__law_right) = true)
    (a_law : PySem.W.nsIn K mainGlobals "law" = some (some (.ref f_law))) (l_law : K.lookup f_law = some ⟨oc_law, od_law, .func (PySem.W.fnOf "law" "law" (defArgs s_law) (defBody s_law) (defScope s_law) .none kV_law dc_law pm_law an_law cd_law ct_law), sl_law⟩) (c_law : PySem.W.codeIn K cd_law "law" = true) (k_law : PySem.W.keepIn K (.ref f_law) = true)
    (z_abs : PySem.W.nsIn K mainGlobals "abs" = some none)
    (z_all : PySem.W.nsIn K mainGlobals "all" = some none)
    (z_bool : PySem.W.nsIn K mainGlobals "bool" = some none)
    (z_int : PySem.W.nsIn K mainGlobals "int" = some none)
    (z_isinstance : PySem.W.nsIn K mainGlobals "isinstance" = some none)
    (z_len : PySem.W.nsIn K mainGlobals "len" = some none)
    (z_max : PySem.W.nsIn K mainGlobals "max" = some none)
    (z_min : PySem.W.nsIn K mainGlobals "min" = some none)
    (z_range : PySem.W.nsIn K mainGlobals "range" = some none)
    (z_sum : PySem.W.nsIn K mainGlobals "sum" = some none)
    (z_tuple : PySem.W.nsIn K mainGlobals "tuple" = some none)
    (v_MOST_LETTERS : PySem.W.nsIn K mainGlobals "MOST_LETTERS" = some (some (.int 4 tc_MOST_LETTERS)))
    (v_MOST_TIMES : PySem.W.nsIn K mainGlobals "MOST_TIMES" = some (some (.int 20 tc_MOST_TIMES)))
    : ∃ fd : FuncData, (∀ (s : Shared) (v : Value), BindsTo s fd ⟨[v], []⟩ [("_law_script", v)]) ∧ ∀ base : Heap, K.In base → base.Ns mainGlobals mg → FnOk l.prog w K mg base CX0 8 fa fd ["_law_script"] (sp_law K) := by
  have e := hfa.symm.trans (PySem.W.mg_of X G a_law)
  cases e
  have F_is_integer := fun_mk (st := s_is_integer) l_is_integer c_is_integer k_is_integer
  have F_step_place := fun_mk (st := s_step_place) l_step_place c_step_place k_step_place
  have F_straightened := fun_mk (st := s_straightened) l_straightened c_straightened k_straightened
  have F_turned_back := fun_mk (st := s_turned_back) l_turned_back c_turned_back k_turned_back
  have F_lead_and_core := fun_mk (st := s_lead_and_core) l_lead_and_core c_lead_and_core k_lead_and_core
  have F_once_round := fun_mk (st := s_once_round) l_once_round c_once_round k_once_round
  have F_rounds_of := fun_mk (st := s_rounds_of) l_rounds_of c_rounds_of k_rounds_of
  have F__law_well := fun_mk (st := s__law_well) l__law_well c__law_well k__law_well
  have F__law_take := fun_mk (st := s__law_take) l__law_take c__law_take k__law_take
  have F__law_key := fun_mk (st := s__law_key) l__law_key c__law_key k__law_key
  have F_is_step_of := fun_mk (st := s_is_step_of) l_is_step_of c_is_step_of k_is_step_of
  have F_check_within := fun_mk (st := s_check_within) l_check_within c_check_within k_check_within
  have F_walk_order := fun_mk (st := s_walk_order) l_walk_order c_walk_order k_walk_order
  have F__law_walk := fun_mk (st := s__law_walk) l__law_walk c__law_walk k__law_walk
  have F_is_walk_of := fun_mk (st := s_is_walk_of) l_is_walk_of c_is_walk_of k_is_walk_of
  have F_check_walk := fun_mk (st := s_check_walk) l_check_walk c_check_walk k_check_walk
  have F_straight := fun_mk (st := s_straight) l_straight c_straight k_straight
  have F_behind := fun_mk (st := s_behind) l_behind c_behind k_behind
  have F_back := fun_mk (st := s_back) l_back c_back k_back
  have F_power := fun_mk (st := s_power) l_power c_power k_power
  have F_core := fun_mk (st := s_core) l_core c_core k_core
  have F_root := fun_mk (st := s_root) l_root c_root k_root
  have F_commute := fun_mk (st := s_commute) l_commute c_commute k_commute
  have F_turned := fun_mk (st := s_turned) l_turned c_turned k_turned
  have F_turned_onto := fun_mk (st := s_turned_onto) l_turned_onto c_turned_onto k_turned_onto
  have F_least_turned := fun_mk (st := s_least_turned) l_least_turned c_least_turned k_least_turned
  have F__law_added := fun_mk (st := s__law_added) l__law_added c__law_added k__law_added
  have F__law_rooted := fun_mk (st := s__law_rooted) l__law_rooted c__law_rooted k__law_rooted
  have F__law_commuting := fun_mk (st := s__law_commuting) l__law_commuting c__law_commuting k__law_commuting
  have F__law_turning := fun_mk (st := s__law_turning) l__law_turning c__law_turning k__law_turning
  have F__law_behind := fun_mk (st := s__law_behind) l__law_behind c__law_behind k__law_behind
  have F__law_long := fun_mk (st := s__law_long) l__law_long c__law_long k__law_long
  have F__law_right := fun_mk (st := s__law_right) l__law_right c__law_right k__law_right
  have F_law := fun_mk (st := s_law) l_law c_law k_law
  have b_is_integer := F_is_integer.binds (ps := P_is_integer) fun _ _ _ _ _ _ us hl => match us, hl with | [_], _ => rfl
  have b_step_place := F_step_place.binds (ps := P_step_place) fun _ _ _ _ _ _ us hl => match us, hl with | [_], _ => rfl
  have b_straightened := F_straightened.binds (ps := P_straightened) fun _ _ _ _ _ _ us hl => match us, hl with | [_], _ => rfl
  have b_turned_back := F_turned_back.binds (ps := P_turned_back) fun _ _ _ _ _ _ us hl => match us, hl with | [_], _ => rfl
  have b_lead_and_core := F_lead_and_core.binds (ps := P_lead_and_core) fun _ _ _ _ _ _ us hl => match us, hl with | [_], _ => rfl
  have b_once_round := F_once_round.binds (ps := P_once_round) fun _ _ _ _ _ _ us hl => match us, hl with | [_], _ => rfl
  have b_rounds_of := F_rounds_of.binds (ps := P_rounds_of) fun _ _ _ _ _ _ us hl => match us, hl with | [_], _ => rfl
  have b__law_well := F__law_well.binds (ps := P__law_well) fun _ _ _ _ _ _ us hl => match us, hl with | [_, _], _ => rfl
  have b__law_take := F__law_take.binds (ps := P__law_take) fun _ _ _ _ _ _ us hl => match us, hl with | [_, _], _ => rfl
  have b__law_key := F__law_key.binds (ps := P__law_key) fun _ _ _ _ _ _ us hl => match us, hl with | [_], _ => rfl
  have b_is_step_of := F_is_step_of.binds (ps := P_is_step_of) fun _ _ _ _ _ _ us hl => match us, hl with | [_, _], _ => rfl
  have b_check_within := F_check_within.binds (ps := P_check_within) fun _ _ _ _ _ _ us hl => match us, hl with | [_, _, _], _ => rfl
  have b_walk_order := F_walk_order.binds (ps := P_walk_order) fun _ _ _ _ _ _ us hl => match us, hl with | [_], _ => rfl
  have b__law_walk := F__law_walk.binds (ps := P__law_walk) fun _ _ _ _ _ _ us hl => match us, hl with | [_, _, _], _ => rfl
  have b_is_walk_of := F_is_walk_of.binds (ps := P_is_walk_of) fun _ _ _ _ _ _ us hl => match us, hl with | [_, _], _ => rfl
  have b_check_walk := F_check_walk.binds (ps := P_check_walk) fun _ _ _ _ _ _ us hl => match us, hl with | [_, _], _ => rfl
  have b_straight := F_straight.binds (ps := P_straight) fun _ _ _ _ _ _ us hl => match us, hl with | [_], _ => rfl
  have b_behind := F_behind.binds (ps := P_behind) fun _ _ _ _ _ _ us hl => match us, hl with | [_, _], _ => rfl
  have b_back := F_back.binds (ps := P_back) fun _ _ _ _ _ _ us hl => match us, hl with | [_], _ => rfl
  have b_power := F_power.binds (ps := P_power) fun _ _ _ _ _ _ us hl => match us, hl with | [_, _], _ => rfl
  have b_core := F_core.binds (ps := P_core) fun _ _ _ _ _ _ us hl => match us, hl with | [_], _ => rfl
  have b_root := F_root.binds (ps := P_root) fun _ _ _ _ _ _ us hl => match us, hl with | [_], _ => rfl
  have b_commute := F_commute.binds (ps := P_commute) fun _ _ _ _ _ _ us hl => match us, hl with | [_, _], _ => rfl
  have b_turned := F_turned.binds (ps := P_turned) fun _ _ _ _ _ _ us hl => match us, hl with | [_, _], _ => rfl
  have b_turned_onto := F_turned_onto.binds (ps := P_turned_onto) fun _ _ _ _ _ _ us hl => match us, hl with | [_, _], _ => rfl
  have b_least_turned := F_least_turned.binds (ps := P_least_turned) fun _ _ _ _ _ _ us hl => match us, hl with | [_], _ => rfl
  have b__law_added := F__law_added.binds (ps := P__law_added) fun _ _ _ _ _ _ us hl => match us, hl with | [_, _, _], _ => rfl
  have b__law_rooted := F__law_rooted.binds (ps := P__law_rooted) fun _ _ _ _ _ _ us hl => match us, hl with | [_, _, _], _ => rfl
  have b__law_commuting := F__law_commuting.binds (ps := P__law_commuting) fun _ _ _ _ _ _ us hl => match us, hl with | [_, _], _ => rfl
  have b__law_turning := F__law_turning.binds (ps := P__law_turning) fun _ _ _ _ _ _ us hl => match us, hl with | [_, _, _], _ => rfl
  have b__law_behind := F__law_behind.binds (ps := P__law_behind) fun _ _ _ _ _ _ us hl => match us, hl with | [_, _, _], _ => rfl
  have b__law_long := F__law_long.binds (ps := P__law_long) fun _ _ _ _ _ _ us hl => match us, hl with | [_, _, _], _ => rfl
  have b__law_right := F__law_right.binds (ps := P__law_right) fun _ _ _ _ _ _ us hl => match us, hl with | [_], _ => rfl
  have b_law := F_law.binds (ps := P_law) fun _ _ _ _ _ _ us hl => match us, hl with | [_], _ => rfl
  have T : Tx K mg ⟨f_is_integer, _, f_step_place, _, f_straightened, _, f_turned_back, _, f_lead_and_core, _, f_once_round, _, f_rounds_of, _, f__law_well, _, f__law_take, _, f__law_key, _, f_is_step_of, _, f_check_within, _, f_walk_order, _, f__law_walk, _, f_is_walk_of, _, f_check_walk, _, f_straight, _, f_behind, _, f_back, _, f_power, _, f_core, _, f_root, _, f_commute, _, f_turned, _, f_turned_onto, _, f_least_turned, _, f__law_added, _, f__law_rooted, _, f__law_commuting, _, f__law_turning, _, f__law_behind, _, f__law_long, _, f__law_right, _, fa, _⟩ := {
    g_is_integer := PySem.W.mg_of X G a_is_integer, F_is_integer := F_is_integer, b_is_integer := b_is_integer,
    g_step_place := PySem.W.mg_of X G a_step_place, F_step_place := F_step_place, b_step_place := b_step_place,
    g_straightened := PySem.W.mg_of X G a_straightened, F_straightened := F_straightened, b_straightened := b_straightened,
    g_turned_back := PySem.W.mg_of X G a_turned_back, F_turned_back := F_turned_back, b_turned_back := b_turned_back,
    g_lead_and_core := PySem.W.mg_of X G a_lead_and_core, F_lead_and_core := F_lead_and_core, b_lead_and_core := b_lead_and_core,
    g_once_round := PySem.W.mg_of X G a_once_round, F_once_round := F_once_round, b_once_round := b_once_round,
    g_rounds_of := PySem.W.mg_of X G a_rounds_of, F_rounds_of := F_rounds_of, b_rounds_of := b_rounds_of,
    g__law_well := PySem.W.mg_of X G a__law_well, F__law_well := F__law_well, b__law_well := b__law_well,
    g__law_take := PySem.W.mg_of X G a__law_take, F__law_take := F__law_take, b__law_take := b__law_take,
    g__law_key := PySem.W.mg_of X G a__law_key, F__law_key := F__law_key, b__law_key := b__law_key,
    g_is_step_of := PySem.W.mg_of X G a_is_step_of, F_is_step_of := F_is_step_of, b_is_step_of := b_is_step_of,
    g_check_within := PySem.W.mg_of X G a_check_within, F_check_within := F_check_within, b_check_within := b_check_within,
    g_walk_order := PySem.W.mg_of X G a_walk_order, F_walk_order := F_walk_order, b_walk_order := b_walk_order,
    g__law_walk := PySem.W.mg_of X G a__law_walk, F__law_walk := F__law_walk, b__law_walk := b__law_walk,
    g_is_walk_of := PySem.W.mg_of X G a_is_walk_of, F_is_walk_of := F_is_walk_of, b_is_walk_of := b_is_walk_of,
    g_check_walk := PySem.W.mg_of X G a_check_walk, F_check_walk := F_check_walk, b_check_walk := b_check_walk,
    g_straight := PySem.W.mg_of X G a_straight, F_straight := F_straight, b_straight := b_straight,
    g_behind := PySem.W.mg_of X G a_behind, F_behind := F_behind, b_behind := b_behind,
    g_back := PySem.W.mg_of X G a_back, F_back := F_back, b_back := b_back,
    g_power := PySem.W.mg_of X G a_power, F_power := F_power, b_power := b_power,
    g_core := PySem.W.mg_of X G a_core, F_core := F_core, b_core := b_core,
    g_root := PySem.W.mg_of X G a_root, F_root := F_root, b_root := b_root,
    g_commute := PySem.W.mg_of X G a_commute, F_commute := F_commute, b_commute := b_commute,
    g_turned := PySem.W.mg_of X G a_turned, F_turned := F_turned, b_turned := b_turned,
    g_turned_onto := PySem.W.mg_of X G a_turned_onto, F_turned_onto := F_turned_onto, b_turned_onto := b_turned_onto,
    g_least_turned := PySem.W.mg_of X G a_least_turned, F_least_turned := F_least_turned, b_least_turned := b_least_turned,
    g__law_added := PySem.W.mg_of X G a__law_added, F__law_added := F__law_added, b__law_added := b__law_added,
    g__law_rooted := PySem.W.mg_of X G a__law_rooted, F__law_rooted := F__law_rooted, b__law_rooted := b__law_rooted,
    g__law_commuting := PySem.W.mg_of X G a__law_commuting, F__law_commuting := F__law_commuting, b__law_commuting := b__law_commuting,
    g__law_turning := PySem.W.mg_of X G a__law_turning, F__law_turning := F__law_turning, b__law_turning := b__law_turning,
    g__law_behind := PySem.W.mg_of X G a__law_behind, F__law_behind := F__law_behind, b__law_behind := b__law_behind,
    g__law_long := PySem.W.mg_of X G a__law_long, F__law_long := F__law_long, b__law_long := b__law_long,
    g__law_right := PySem.W.mg_of X G a__law_right, F__law_right := F__law_right, b__law_right := b__law_right,
    g_law := PySem.W.mg_of X G a_law, F_law := F_law, b_law := b_law,
    n_abs := PySem.W.mg_none_of X G z_abs,
    n_all := PySem.W.mg_none_of X G z_all,
    n_bool := PySem.W.mg_none_of X G z_bool,
    n_int := PySem.W.mg_none_of X G z_int,
    n_isinstance := PySem.W.mg_none_of X G z_isinstance,
    n_len := PySem.W.mg_none_of X G z_len,
    n_max := PySem.W.mg_none_of X G z_max,
    n_min := PySem.W.mg_none_of X G z_min,
    n_range := PySem.W.mg_none_of X G z_range,
    n_sum := PySem.W.mg_none_of X G z_sum,
    n_tuple := PySem.W.mg_none_of X G z_tuple,
    c_MOST_LETTERS := ⟨_, PySem.W.mg_of X G v_MOST_LETTERS⟩,
    c_MOST_TIMES := ⟨_, PySem.W.mg_of X G v_MOST_TIMES⟩ }
  exact ⟨PySem.W.fnOf "law" "law" (defArgs s_law) (defBody s_law) (defScope s_law) .none kV_law dc_law pm_law an_law cd_law ct_law, fun s v => .of_eq rfl, fun base _ _ => ok_law T⟩

end Lw
open PySem PySem.W PyProof.Rows
set_option maxHeartbeats 0 in
theorem PySem.Challenge.cw_walkclubs_k51_whole_powers_roots_and_tur_holds : PySem.Challenge.rw_walkclubs_k51_whole_powers_roots_and_tur.Holds := by
  w_on; o_law; k_head; (case hw => w_witness2)
  k_fill
  refine L2.walk_of (l := PySem.Challenge.rw_walkclubs_k51_whole_powers_roots_and_tur) (n := 63) (k := 8) (x := "_law_script") (CX := fun _ => L2.CX0) (sp := fun w => Lw.sp_law _) rfl (by decide) rfl ⟨rfl, by decide, by decide⟩ (fun w h Y => PySem.W.kIn_of Y) ?F (fun _ _ a ns hl _ hS => ⟨a, ns, rfl, hS, hl, fun _ => rfl⟩) (fun _ _ _ _ _ h => h)
  case F =>
    intro w mg fa h KX G hmg
    refine' Lw.all_mk KX G hmg ?a_is_integer ?l_is_integer ?c_is_integer ?k_is_integer ?a_step_place ?l_step_place ?c_step_place ?k_step_place ?a_straightened ?l_straightened ?c_straightened ?k_straightened ?a_turned_back ?l_turned_back ?c_turned_back ?k_turned_back ?a_lead_and_core ?l_lead_and_core ?c_lead_and_core ?k_lead_and_core ?a_once_round ?l_once_round ?c_once_round ?k_once_round ?a_rounds_of ?l_rounds_of ?c_rounds_of ?k_rounds_of ?a__law_well ?l__law_well ?c__law_well ?k__law_well ?a__law_take ?l__law_take ?c__law_take ?k__law_take ?a__law_key ?l__law_key ?c__law_key ?k__law_key ?a_is_step_of ?l_is_step_of ?c_is_step_of ?k_is_step_of ?a_check_within ?l_check_within ?c_check_within ?k_check_within ?a_walk_order ?l_walk_order ?c_walk_order ?k_walk_order ?a__law_walk ?l__law_walk ?c__law_walk ?k__law_walk ?a_is_walk_of ?l_is_walk_of ?c_is_walk_of ?k_is_walk_of ?a_check_walk ?l_check_walk ?c_check_walk ?k_check_walk ?a_straight ?l_straight ?c_straight ?k_straight ?a_behind ?l_behind ?c_behind ?k_behind ?a_back ?l_back ?c_back ?k_back ?a_power ?l_power ?c_power ?k_power ?a_core ?l_core ?c_core ?k_core ?a_root ?l_root ?c_root ?k_root ?a_commute ?l_commute ?c_commute ?k_commute ?a_turned ?l_turned ?c_turned ?k_turned ?a_turned_onto ?l_turned_onto ?c_turned_onto ?k_turned_onto ?a_least_turned ?l_least_turned ?c_least_turned ?k_least_turned ?a__law_added ?l__law_added ?c__law_added ?k__law_added ?a__law_rooted ?l__law_rooted ?c__law_rooted ?k__law_rooted ?a__law_commuting ?l__law_commuting ?c__law_commuting ?k__law_commuting ?a__law_turning ?l__law_turning ?c__law_turning ?k__law_turning ?a__law_behind ?l__law_behind ?c__law_behind ?k__law_behind ?a__law_long ?l__law_long ?c__law_long ?k__law_long ?a__law_right ?l__law_right ?c__law_right ?k__law_right ?a_law ?l_law ?c_law ?k_law ?z_abs ?z_all ?z_bool ?z_int ?z_isinstance ?z_len ?z_max ?z_min ?z_range ?z_sum ?z_tuple ?v_MOST_LETTERS ?v_MOST_TIMES
    (case a_is_integer => k_is); (case l_is_integer => k_is); (case c_is_integer => k_is); (case k_is_integer => k_is); (case a_step_place => k_is); (case l_step_place => k_is); (case c_step_place => k_is); (case k_step_place => k_is); (case a_straightened => k_is); (case l_straightened => k_is); (case c_straightened => k_is); (case k_straightened => k_is); (case a_turned_back => k_is); (case l_turned_back => k_is); (case c_turned_back => k_is); (case k_turned_back => k_is); (case a_lead_and_core => k_is); (case l_lead_and_core => k_is); (case c_lead_and_core => k_is); (case k_lead_and_core => k_is); (case a_once_round => k_is); (case l_once_round => k_is); (case c_once_round => k_is); (case k_once_round => k_is); (case a_rounds_of => k_is); (case l_rounds_of => k_is); (case c_rounds_of => k_is); (case k_rounds_of => k_is); (case a__law_well => k_is); (case l__law_well => k_is); (case c__law_well => k_is); (case k__law_well => k_is); (case a__law_take => k_is); (case l__law_take => k_is); (case c__law_take => k_is); (case k__law_take => k_is); (case a__law_key => k_is); (case l__law_key => k_is); (case c__law_key => k_is); (case k__law_key => k_is); (case a_is_step_of => k_is); (case l_is_step_of => k_is); (case c_is_step_of => k_is); (case k_is_step_of => k_is); (case a_check_within => k_is); (case l_check_within => k_is); (case c_check_within => k_is); (case k_check_within => k_is); (case a_walk_order => k_is); (case l_walk_order => k_is); (case c_walk_order => k_is); (case k_walk_order => k_is); (case a__law_walk => k_is); (case l__law_walk => k_is); (case c__law_walk => k_is); (case k__law_walk => k_is); (case a_is_walk_of => k_is); (case l_is_walk_of => k_is); (case c_is_walk_of => k_is); (case k_is_walk_of => k_is); (case a_check_walk => k_is); (case l_check_walk => k_is); (case c_check_walk => k_is); (case k_check_walk => k_is); (case a_straight => k_is); (case l_straight => k_is); (case c_straight => k_is); (case k_straight => k_is); (case a_behind => k_is); (case l_behind => k_is); (case c_behind => k_is); (case k_behind => k_is); (case a_back => k_is); (case l_back => k_is); (case c_back => k_is); (case k_back => k_is); (case a_power => k_is); (case l_power => k_is); (case c_power => k_is); (case k_power => k_is); (case a_core => k_is); (case l_core => k_is); (case c_core => k_is); (case k_core => k_is); (case a_root => k_is); (case l_root => k_is); (case c_root => k_is); (case k_root => k_is); (case a_commute => k_is); (case l_commute => k_is); (case c_commute => k_is); (case k_commute => k_is); (case a_turned => k_is); (case l_turned => k_is); (case c_turned => k_is); (case k_turned => k_is); (case a_turned_onto => k_is); (case l_turned_onto => k_is); (case c_turned_onto => k_is); (case k_turned_onto => k_is); (case a_least_turned => k_is); (case l_least_turned => k_is); (case c_least_turned => k_is); (case k_least_turned => k_is); (case a__law_added => k_is); (case l__law_added => k_is); (case c__law_added => k_is); (case k__law_added => k_is); (case a__law_rooted => k_is); (case l__law_rooted => k_is); (case c__law_rooted => k_is); (case k__law_rooted => k_is); (case a__law_commuting => k_is); (case l__law_commuting => k_is); (case c__law_commuting => k_is); (case k__law_commuting => k_is); (case a__law_turning => k_is); (case l__law_turning => k_is); (case c__law_turning => k_is); (case k__law_turning => k_is); (case a__law_behind => k_is); (case l__law_behind => k_is); (case c__law_behind => k_is); (case k__law_behind => k_is); (case a__law_long => k_is); (case l__law_long => k_is); (case c__law_long => k_is); (case k__law_long => k_is); (case a__law_right => k_is); (case l__law_right => k_is); (case c__law_right => k_is); (case k__law_right => k_is); (case a_law => k_is); (case l_law => k_is); (case c_law => k_is); (case k_law => k_is); (case z_abs => k_is); (case z_all => k_is); (case z_bool => k_is); (case z_int => k_is); (case z_isinstance => k_is); (case z_len => k_is); (case z_max => k_is); (case z_min => k_is); (case z_range => k_is); (case z_sum => k_is); (case z_tuple => k_is); (case v_MOST_LETTERS => k_is); (case v_MOST_TIMES => k_is)
