import PyProof.Rows.All
import Wide.All
import OpenK.AllK
import Wide.FinOn
import KE.KeyNested
import KE.KDictKeyed
import PyProof.DictRoadsH
import PyProof.DictMoreH
import HandS.ForMost
import HandS.Deep
import HandS.Comp
import HandS.DictComp
import KE.GoesEnum
import HandS.Iter
import HandS.Walk
import HandS.TupMul
import KE.KStateDown
import Lean
import HandS.Exc
import HandS.ExcInit
import HandS.ExcField
import HandS.ExcIs
import HandS.IsInst
import HandS.TupAny
import HandS.Style
import HandS.WordsExc
import HandS.Defaults
import HandS.Head0
import HandS.Head1
import HandS.Head2
import HandS.HeadEnd
import HandS.HeadHook1
import HandS.HeadHook2
import HandS.HeadHook3
import HandS.HeadHook4
import HandS.Lambda
import HandS.SortKw
import HandS.NestedK
import KE.KExcIs
import HandS.Codes
import KE.SortKeyHeap
import KE.KDictCopyH
import KE.KDictSum
import HandS.ExcValue
import HandS.Flow
import HandS.EndTab
import PyProof.ReprBulk
import HandS.TryMany
import HandS.HotCalls
import HandS.ExcInitHot
import HandS.TupSets
import HandS.FltList
import HandS.FStr
import PySem.Challenge.RW_tilesregrow_k15_whole_words_fed
set_option Elab.async false
set_option linter.all false
set_option maxRecDepth 100000
set_option maxHeartbeats 4000000
/-! dicts whose keys are data of every kind beside each other: None, bools, whole numbers, texts, tuples of these -/
namespace AK
open PySem PySem.SeqAt PyProof.Rows
/-- an entry: the key, the value that is it, what is stored -/
abbrev En := NestedKey × Value × Value
def ent (w : World) (e : En) : DictEntry := ⟨e.1.hash w, e.2.1, e.2.2⟩
/-- at d: a dict of these entries, in order -/
structure DkOf (w : World) (h : Heap) (d : Addr) (es : List En) : Prop where
  ex : ∃ o arr ep, h.get? d = some o ∧ o.ExactDict ∧ o.data = .dict arr ep ∧ arr.toList = es.map (ent w)
  is : ∀ e ∈ es, NestedIs h e.1 e.2.1 ∧ e.1.depth ≤ 8
  nd : (es.map (·.1)).Nodup
theorem uniq {es : List En} (nd : (es.map (·.1)).Nodup) {i j : Nat} {e f : En} (hi : es[i]? = some e) (hj : es[j]? = some f) (h : e.1 = f.1) : i = j := by
  have li : i < (es.map (·.1)).length := by
    rw [List.length_map]
    exact (List.getElem?_eq_some_iff.mp hi).1
  refine (List.getElem?_inj li nd).mp ?_
  rw [List.getElem?_map, List.getElem?_map, hi, hj]
  exact congrArg some h
section
variable {prog : Program} {w : World} {A : Around} {E : Value → Shared → Prop} {s : Shared}
/-- asked of each stored key, == tells nothing -/
theorem no_tell {u : Value} {k : NestedKey} {st : List Value} {Q : Bool → Shared → Prop} (hk : NestedIs s.heap k u) (kd : k.depth ≤ 8) (hs : ∀ v ∈ st, ∃ j : NestedKey, NestedIs s.heap j v ∧ j.depth ≤ 8) (q : Q false s) :
    wpAny (model prog w) A (tableMayTell u st) Q E s := by
  unfold tableMayTell
  by_cases h0 : st.isEmpty = true
  · rw [if_pos h0]
    exact wpAny_pure q
  · rw [if_neg h0]
    refine wpAny_bind (quiet_key k u 8 s hk kd _ _ _ ?_)
    rw [if_neg (by decide)]
    refine wpAny_bind (wpAny_forIn_list _ (fun left r s' => s' = s ∧ r = (none, ()) ∧ ∀ v ∈ left, v ∈ st) _ ?_ ?_ _ _ ⟨rfl, rfl, fun v hv => hv⟩)
    · rintro v left r s' ⟨rfl, rfl, all⟩
      obtain ⟨j, hj, jd⟩ := hs v (all v List.mem_cons_self)
      refine wpAny_bind (quiet_key j v 8 _ hj jd _ _ _ ?_)
      rw [if_neg (by decide)]
      exact wpAny_pure ⟨rfl, rfl, fun v hv => all v (List.mem_cons_of_mem _ hv)⟩
    · rintro r s' ⟨rfl, rfl, _⟩
      exact wpAny_pure q
end
end AK

set_option Elab.async false
set_option linter.all false
set_option maxRecDepth 100000
set_option maxHeartbeats 4000000
namespace AK
open PySem PySem.SeqAt PyProof.Rows
section
variable {prog : Program} {w : World} {A : Around} {E : Value → Shared → Prop} {s : Shared} {arr : Array DictEntry} {es : List En} {k : NestedKey} {u : Value}
theorem ent_at (he : arr.toList = es.map (ent w)) (j : Nat) : arr[j]? = (es[j]?).map (ent w) := by
  rw [← Array.getElem?_toList, he, List.getElem?_map]
theorem ent_size (he : arr.toList = es.map (ent w)) : arr.size = es.length := by
  have z := congrArg List.length he
  rw [Array.length_toList, List.length_map] at z
  exact z
/-- the places that are looked at -/
abbrev spots (w : World) (arr : Array DictEntry) (k : NestedKey) : List Nat := placesWithHash arr.size (fun i => arr[i]?.map (·.hash)) (k.hash w)
theorem spots_nd : (spots w arr k).Nodup := (List.nodup_range).sublist List.filter_sublist
theorem spots_is (he : arr.toList = es.map (ent w)) {i : Nat} (h : i ∈ spots w arr k) : ∃ e, es[i]? = some e ∧ e.1.hash w = k.hash w := by
  have z := (List.mem_filter.mp h).2
  dsimp only at z
  rw [ent_at he] at z
  cases q : es[i]? with
  | none =>
    rw [q] at z
    cases z
  | some e =>
    rw [q] at z
    exact ⟨e, rfl, Option.some.inj (beq_iff_eq.mp z)⟩
theorem spots_has (he : arr.toList = es.map (ent w)) {j : Nat} {e : En} (h : es[j]? = some e) (hk : e.1 = k) : j ∈ spots w arr k := by
  have lj := (List.getElem?_eq_some_iff.mp h).1
  refine List.mem_filter.mpr ⟨List.mem_range.mpr (by rw [ent_size he]; exact lj), ?_⟩
  dsimp only
  rw [ent_at he, h]
  subst hk
  exact beq_self_eq_true _
/-- what == of a stored key and the asked one says -/
theorem ask {e : En} {Q : Bool → Shared → Prop} (hu : A.units + 8 < cLine) (h1 : NestedIs s.heap e.1 e.2.1) (hk : NestedIs s.heap k u) (kd : k.depth ≤ 8) (q : Q (decide (e.1 = k)) s) : wpAny (model prog w) A (eqBool e.2.1 u) Q E s := by
  refine eqAt_key e.1 k A s e.2.1 u h1 hk ?_ _ _ _ _ ?_
  · have : min e.1.depth k.depth ≤ k.depth := Nat.min_le_right _ _
    omega
  · rw [← NestedKey.decide_eq]
    exact q
/-- the first of the places whose key it is -/
def hitIn (es : List En) (k : NestedKey) (l : List Nat) : Option Nat := l.find? fun i => match es[i]? with
  | some e => decide (e.1 = k)
  | none => false
theorem hit_snoc {l : List Nat} {i : Nat} {e : En} (he : es[i]? = some e) : hitIn es k (l ++ [i]) = (hitIn es k l).or (if decide (e.1 = k) = true then some i else none) := by
  unfold hitIn
  rw [List.find?_append, List.find?_cons, he]
  by_cases h : e.1 = k
  · simp [h]
  · simp [h]
theorem hit_some {l : List Nat} {j : Nat} (h : hitIn es k l = some j) : j ∈ l ∧ ∃ e, es[j]? = some e ∧ e.1 = k := by
  have m := List.mem_of_find?_eq_some h
  have p := List.find?_some h
  refine ⟨m, ?_⟩
  cases q : es[j]? with
  | none =>
    rw [q] at p
    cases p
  | some e =>
    rw [q] at p
    exact ⟨e, rfl, of_decide_eq_true p⟩
theorem hit_none {l : List Nat} (h : hitIn es k l = none) {j : Nat} (hj : j ∈ l) {e : En} (he : es[j]? = some e) : e.1 ≠ k := by
  have z := List.find?_eq_none.mp h j hj
  rw [he] at z
  exact fun q => z (decide_eq_true q)
/-- behind the places: what was found is what there is -/
theorem hit_end {Q : Option Nat → Shared → Prop} (he : arr.toList = es.map (ent w)) (no : (∀ e ∈ es, e.1 ≠ k) → Q none s) (yes : ∀ j e, es[j]? = some e → e.1 = k → Q (some j) s) : Q (hitIn es k (spots w arr k)) s := by
  cases h : hitIn es k (spots w arr k) with
  | some j =>
    obtain ⟨_, e, h1, h2⟩ := hit_some h
    exact yes j e h1 h2
  | none =>
    refine no fun e hm hk => ?_
    obtain ⟨j, hj⟩ := List.mem_iff_getElem?.mp hm
    exact hit_none h (spots_has he hj hk) hj hk
/-- the plain walk -/
theorem plain_walk {d : Addr} {o : Obj} {ep : Nat} {Q : Option Nat → Shared → Prop} (hu : A.units + 8 < cLine) (hk : NestedIs s.heap k u) (kd : k.depth ≤ 8) (ho : s.heap.get? d = some o) (hd : o.data = .dict arr ep) (he : arr.toList = es.map (ent w))
    (his : ∀ e ∈ es, NestedIs s.heap e.1 e.2.1 ∧ e.1.depth ≤ 8) (nd : (es.map (·.1)).Nodup) (no : (∀ e ∈ es, e.1 ≠ k) → Q none s) (yes : ∀ j e, es[j]? = some e → e.1 = k → Q (some j) s) :
    wpAny (model prog w) A (dictWalkPlain d u (k.hash w) arr (spots w arr k)) Q E s := by
  unfold dictWalkPlain
  refine wpAny_bind (wpAny_forIn_list _ (fun left r s' => s' = s ∧ r = (none, ()) ∧ ∃ done, spots w arr k = done ++ left ∧ hitIn es k done = none) _ ?_ ?_ _ _ ⟨rfl, rfl, [], rfl, rfl⟩)
  · rintro i left r s' ⟨rfl, rfl, done, split, miss⟩
    have hi : i ∈ spots w arr k := by
      rw [split]
      exact List.mem_append_right _ List.mem_cons_self
    obtain ⟨e, ei, eh⟩ := spots_is he hi
    have isE := (his e (List.mem_of_getElem? ei)).1
    rw [show arr[i]? = some (ent w e) by rw [ent_at he, ei] <;> rfl]
    dsimp only
    rw [if_pos (show ((ent w e).hash == k.hash w) = true from beq_iff_eq.mpr eh)]
    refine wpAny_bind (wpAny_dictEpoch ho hd (wpAny_bind (ask (e := e) hu isE hk kd (wpAny_bind (wpAny_dictEpoch ho hd ?_)))))
    rw [if_neg (show ¬ (ep != ep) = true by simp)]
    by_cases hh : e.1 = k
    · rw [decide_eq_true hh]
      exact wpAny_bind (wpAny_rule (wpAny_pure (wpAny_pure (yes i e ei hh))))
    · rw [decide_eq_false hh]
      have more : hitIn es k (done ++ [i]) = none := by
        rw [hit_snoc ei, miss, decide_eq_false hh]
        rfl
      have cut : spots w arr k = (done ++ [i]) ++ left := by
        rw [split, List.append_assoc]
        rfl
      first
        | exact wpAny_bind (wpAny_rule (wpAny_pure ⟨rfl, rfl, done ++ [i], cut, more⟩))
        | exact wpAny_bind (wpAny_pure (wpAny_bind (wpAny_rule (wpAny_pure ⟨rfl, rfl, done ++ [i], cut, more⟩))))
  · rintro r s' ⟨rfl, rfl, done, split, miss⟩
    have all := hit_end (w := w) (arr := arr) he no yes
    rw [split, List.append_nil, miss] at all
    exact wpAny_pure all
/-- dict's own look-up, by keys of every kind -/
theorem find_any {d : Addr} {o : Obj} {ep : Nat} {Q : Option Nat → Shared → Prop} (hu : A.units + 8 < cLine) (hk : NestedIs s.heap k u) (kd : k.depth ≤ 8) (ho : s.heap.get? d = some o) (hd : o.data = .dict arr ep) (he : arr.toList = es.map (ent w))
    (his : ∀ e ∈ es, NestedIs s.heap e.1 e.2.1 ∧ e.1.depth ≤ 8) (nd : (es.map (·.1)).Nodup) (no : (∀ e ∈ es, e.1 ≠ k) → Q none s) (yes : ∀ j e, es[j]? = some e → e.1 = k → Q (some j) s) :
    wpAny (model prog w) A (dictFind d u (k.hash w)) Q E s := by
  have own : ∀ e ∈ arr, ∃ x ∈ es, e = ent w x := fun e hin => by
    have z : e ∈ es.map (ent w) := he ▸ Array.mem_toList_iff.mpr hin
    obtain ⟨x, hx, rfl⟩ := List.mem_map.mp z
    exact ⟨x, hx, rfl⟩
  have kept : ∀ v ∈ (spots w arr k).filterMap (fun i => arr[i]?.map (·.key)), ∃ j : NestedKey, NestedIs s.heap j v ∧ j.depth ≤ 8 := fun v hv => by
    obtain ⟨i, hi, e1⟩ := List.mem_filterMap.mp hv
    obtain ⟨x, ex, _⟩ := spots_is he hi
    rw [ent_at he, ex] at e1
    have e2 : x.2.1 = v := Option.some.inj e1
    rw [← e2]
    exact ⟨x.1, his x (List.mem_of_getElem? ex)⟩
  have sameHash : ∀ a, u = .ref a → ¬ (arr.any fun e => e.key == Value.ref a && e.hash != k.hash w) = true := fun a hua => by
    rw [← Array.any_toList, List.any_eq_true]
    rintro ⟨e, hin, hc⟩
    obtain ⟨x, hx, rfl⟩ := own e (Array.mem_toList_iff.mp hin)
    obtain ⟨c1, c2⟩ := Bool.and_eq_true_iff.mp hc
    have c3 : x.2.1 = Value.ref a := beq_iff_eq.mp c1
    have z := (his x hx).1
    rw [c3, ← hua] at z
    have c4 : (x.1.hash w != k.hash w) = true := c2
    rw [NestedIs.inj _ _ _ z hk] at c4
    simp at c4
  unfold dictFind
  refine wpAny_holding (wpAny_bind (wpAny_dictEntries ho hd ?_))
  have shape : u = .none ∨ (∃ b, u = .bool b) ∨ (∃ i t, u = .int i t) ∨ (∃ a, u = .ref a) ∨ ∃ x t, u = .str x t := by
    cases hk with
    | none => exact .inl rfl
    | bool _ => exact .inr (.inl ⟨_, rfl⟩)
    | int i t => exact .inr (.inr (.inl ⟨i, t, rfl⟩))
    | tup _ _ _ _ => exact .inr (.inr (.inr (.inl ⟨_, rfl⟩)))
    | text x t => exact .inr (.inr (.inr (.inr ⟨x, t, rfl⟩)))
  have quick : ∀ x t, u = .str x t → (arr.all fun e => isExactStrKey e.key) = true → wpAny (model prog w) A (foundByValue d u arr x) Q E s := fun x t hux hall => by
    have kx : k = .text x := by
      rw [hux] at hk
      cases hk
      rfl
    have texts : ∀ (j : Nat) (e : En), es[j]? = some e → ∃ (y : Str) (t' : Tok), e.1 = NestedKey.text y ∧ e.2.1 = Value.str y t' := fun j e ej => by
      have hm : ent w e ∈ arr := by
        refine Array.mem_toList_iff.mp ?_
        rw [he]
        exact List.mem_map_of_mem (List.mem_of_getElem? ej)
      have z : isExactStrKey (ent w e).key = true := by
        rw [← Array.all_toList] at hall
        exact List.all_eq_true.mp hall _ (Array.mem_toList_iff.mpr hm)
      have ise := (his e (List.mem_of_getElem? ej)).1
      obtain ⟨k1, u1, v1⟩ := e
      cases ise with
      | text y t' => exact ⟨y, t', rfl, rfl⟩
      | none => cases z
      | bool _ => cases z
      | int _ _ => cases z
      | tup _ _ _ _ => cases z
    unfold foundByValue
    cases q : arr.findIdx? (fun e => e.key.isStr x) with
    | none =>
      refine wpAny_pure (no fun e hm hk1 => ?_)
      obtain ⟨j, ej⟩ := List.mem_iff_getElem?.mp hm
      obtain ⟨y, t', h1, h2⟩ := texts j e ej
      have hmem : ent w e ∈ arr := by
        refine Array.mem_toList_iff.mp ?_
        rw [he]
        exact List.mem_map_of_mem hm
      have z := Array.findIdx?_eq_none_iff.mp q (ent w e) hmem
      have ey : y = x := by
        rw [h1, kx] at hk1
        injection hk1
      have z2 : e.2.1.isStr x = false := z
      rw [h2, ey] at z2
      simp [Value.isStr] at z2
    | some i =>
      obtain ⟨li, hi1, _⟩ := Array.findIdx?_eq_some_iff_getElem.mp q
      have li2 : i < es.length := by
        rw [← ent_size he]
        exact li
      have ei : es[i]? = some es[i] := List.getElem?_eq_getElem li2
      obtain ⟨y, t', h1, h2⟩ := texts i _ ei
      have at1 : arr[i]? = some (ent w es[i]) := by
        rw [ent_at he, ei]
        rfl
      have g1 : arr[i] = ent w es[i] := by
        rw [Array.getElem?_eq_getElem li] at at1
        exact Option.some.inj at1
      have hk1 : es[i].1 = k := by
        rw [g1] at hi1
        have z2 : es[i].2.1.isStr x = true := hi1
        rw [h2] at z2
        rw [h1, kx]
        exact congrArg NestedKey.text (by simpa [Value.isStr] using z2)
      have isE := (his _ (List.mem_of_getElem? ei)).1
      dsimp only
      rw [at1]
      dsimp only
      refine wpAny_bind (wpAny_dictEpoch ho hd (wpAny_bind (ask (e := es[i]) hu isE hk kd (wpAny_bind (wpAny_dictEpoch ho hd ?_)))))
      rw [if_neg (show ¬ (ep != ep) = true by simp), decide_eq_true hk1]
      refine wpAny_bind (wpAny_rule ?_)
      exact wpAny_pure (yes i _ ei hk1)
  by_cases hv : (u :: (spots w arr k).filterMap (fun i => arr[i]?.map (·.key))).all carriedByValue = true
  · rcases shape with rfl | ⟨b, rfl⟩ | ⟨i, t, rfl⟩ | ⟨a, rfl⟩ | ⟨x, t, rfl⟩
    case inr.inr.inr.inr =>
      dsimp only
      by_cases hall : (arr.all fun e => isExactStrKey e.key) = true
      · rw [if_pos hall]
        exact quick x t rfl hall
      · rw [if_neg hall, if_pos hv]
        exact plain_walk hu hk kd ho hd he his nd no yes
    all_goals
      dsimp only
      rw [if_pos hv]
      exact plain_walk hu hk kd ho hd he his nd no yes
  · by_cases hone : ((spots w arr k).filterMap (fun i => arr[i]?.map (·.key)) == [u]) = true
    all_goals rcases shape with rfl | ⟨b, rfl⟩ | ⟨i, t, rfl⟩ | ⟨a, rfl⟩ | ⟨x, t, rfl⟩
    all_goals dsimp only
    case' pos.inr.inr.inr.inr | neg.inr.inr.inr.inr =>
      by_cases hall : (arr.all fun e => isExactStrKey e.key) = true
      · rw [if_pos hall]
        exact quick x t rfl hall
      rw [if_neg hall]
    all_goals rw [if_neg hv]
    case' pos.inr.inr.inr.inl | neg.inr.inr.inr.inl =>
      rw [if_neg (sameHash a rfl)]
    all_goals first | rw [if_pos hone] | rw [if_neg hone]
    all_goals first | refine wpAny_bind (wpAny_pure ?_) | refine wpAny_bind (no_tell hk kd kept ?_)
    all_goals rw [if_neg (by simp)]
    all_goals
      refine wpAny_bind (wpAny_forIn_list _ (fun left r s' => s' = s ∧ ∃ done, spots w arr k = done ++ left ∧ r = (none, hitIn es k done)) _ ?_ ?_ _ _ ⟨rfl, [], rfl, rfl⟩)
      · rintro i left r s' ⟨rfl, done, cut0, rfl⟩
        have hi : i ∈ spots w arr k := by
          rw [cut0]
          exact List.mem_append_right _ List.mem_cons_self
        obtain ⟨e, ei, eh⟩ := spots_is he hi
        have isE := (his e (List.mem_of_getElem? ei)).1
        have cut : spots w arr k = (done ++ [i]) ++ left := by
          rw [cut0, List.append_assoc]
          rfl
        rw [show arr[i]? = some (ent w e) by rw [ent_at he, ei] <;> rfl]
        dsimp only
        rw [if_pos (show ((ent w e).hash == k.hash w) = true from beq_iff_eq.mpr eh)]
        refine wpAny_bind (wpAny_dictEpoch ho hd (wpAny_bind (ask (e := e) hu isE hk kd (wpAny_bind (wpAny_dictEpoch ho hd ?_)))))
        rw [if_neg (show ¬ (ep != ep) = true by simp)]
        by_cases hh : e.1 = k
        · have first : hitIn es k done = none := by
            cases q : hitIn es k done with
            | none => rfl
            | some j =>
              obtain ⟨hj, f, ej, hf⟩ := hit_some q
              have same := uniq nd ei ej (hh.trans hf.symm)
              subst same
              have ndL : (spots w arr k).Nodup := spots_nd
              rw [cut0, List.nodup_append] at ndL
              exact absurd rfl (ndL.2.2 i hj i List.mem_cons_self)
          rw [first, decide_eq_true hh, if_pos rfl, if_neg (by decide)]
          refine wpAny_bind (wpAny_rule ?_)
          by_cases two : ((spots w arr k).filterMap (fun i => arr[i]?.map (·.key))).length < 2
          · rw [if_pos two]
            exact wpAny_pure (wpAny_pure (yes i e ei hh))
          · rw [if_neg two]
            refine wpAny_pure ⟨rfl, done ++ [i], cut, ?_⟩
            rw [hit_snoc ei, first, decide_eq_true hh]
            rfl
        · rw [decide_eq_false hh, if_neg Bool.false_ne_true]
          refine wpAny_bind (wpAny_rule ?_)
          rw [Bool.false_and, if_neg Bool.false_ne_true]
          refine wpAny_pure ⟨rfl, done ++ [i], cut, ?_⟩
          rw [hit_snoc ei, decide_eq_false hh, if_neg Bool.false_ne_true, Option.or_none]
      · rintro r s' ⟨rfl, done, cut0, rfl⟩
        have all := hit_end (w := w) (arr := arr) he no yes
        rw [cut0, List.append_nil] at all
        exact wpAny_pure all
end
end AK

set_option Elab.async false
set_option linter.all false
set_option maxRecDepth 100000
set_option maxHeartbeats 4000000
namespace AK
open PySem PySem.SeqAt PyProof.Rows
/-! ### the table that a dict is -/
section
variable {β γ : Type}
/-- what is stored at a key -/
def atK (es : List (NestedKey × β × γ)) (k : NestedKey) : Option γ := (es.find? fun e => decide (e.1 = k)).map (·.2.2)
/-- stored in its place, the key as it was; or at the end -/
def putE (es : List (NestedKey × β × γ)) (k : NestedKey) (u : β) (v : γ) : List (NestedKey × β × γ) :=
  if (atK es k).isSome = true then es.map (fun e => if e.1 = k then (e.1, e.2.1, v) else e) else es ++ [(k, u, v)]
theorem atK_nil {k : NestedKey} : atK ([] : List (NestedKey × β × γ)) k = none := rfl
theorem atK_pos {e : NestedKey × β × γ} {r : List (NestedKey × β × γ)} {k : NestedKey} (h : e.1 = k) : atK (e :: r) k = some e.2.2 := by simp [atK, List.find?_cons, h]
theorem atK_neg {e : NestedKey × β × γ} {r : List (NestedKey × β × γ)} {k : NestedKey} (h : ¬ e.1 = k) : atK (e :: r) k = atK r k := by simp [atK, List.find?_cons, h]
theorem atK_none : ∀ {es : List (NestedKey × β × γ)} {k : NestedKey}, atK es k = none ↔ ∀ e ∈ es, e.1 ≠ k
  | [], k => by simp [atK_nil]
  | e :: r, k => by
    by_cases h : e.1 = k
    · rw [atK_pos h]
      constructor
      · intro z
        cases z
      · intro z
        exact absurd h (z e List.mem_cons_self)
    · rw [atK_neg h, atK_none]
      constructor
      · intro z f hf
        rcases List.mem_cons.mp hf with rfl | hf
        · exact h
        · exact z f hf
      · exact fun z f hf => z f (List.mem_cons_of_mem _ hf)
theorem atK_get : ∀ {es : List (NestedKey × β × γ)} {k : NestedKey} {j : Nat} {e : NestedKey × β × γ}, (es.map (·.1)).Nodup → es[j]? = some e → e.1 = k → atK es k = some e.2.2
  | [], _, _, _, _, h, _ => by simp at h
  | f :: r, k, 0, e, _, h, hk => by
    obtain rfl : f = e := by simpa using h
    exact atK_pos hk
  | f :: r, k, j + 1, e, nd, h, hk => by
    have nd2 : f.1 ∉ r.map (·.1) ∧ (r.map (·.1)).Nodup := List.nodup_cons.mp (by simpa using nd)
    have h2 : r[j]? = some e := by simpa using h
    have hne : ¬ f.1 = k := fun z => nd2.1 (List.mem_map.mpr ⟨e, List.mem_of_getElem? h2, hk.trans z.symm⟩)
    rw [atK_neg hne]
    exact atK_get nd2.2 h2 hk
theorem putE_new {es : List (NestedKey × β × γ)} {k : NestedKey} {u : β} {v : γ} (h : atK es k = none) : putE es k u v = es ++ [(k, u, v)] := by
  unfold putE
  rw [h]
  exact if_neg (fun z => by cases z)
theorem putE_old {es : List (NestedKey × β × γ)} {k : NestedKey} {u : β} {v y : γ} (h : atK es k = some y) : putE es k u v = es.map (fun e => if e.1 = k then (e.1, e.2.1, v) else e) := by
  unfold putE
  rw [h]
  exact if_pos rfl
theorem repl_keys (es : List (NestedKey × β × γ)) (k : NestedKey) (v : γ) : (es.map (fun e => if e.1 = k then (e.1, e.2.1, v) else e)).map (·.1) = es.map (·.1) := by
  rw [List.map_map]
  refine List.map_congr_left fun e _ => ?_
  by_cases h : e.1 = k <;> simp [h]
theorem putE_nd {es : List (NestedKey × β × γ)} {k : NestedKey} {u : β} {v : γ} (nd : (es.map (·.1)).Nodup) : ((putE es k u v).map (·.1)).Nodup := by
  cases h : atK es k with
  | none =>
    rw [putE_new h, List.map_append, List.nodup_append]
    refine ⟨nd, by simp, fun x hx y hy => ?_⟩
    obtain rfl : y = k := by simpa using hy
    obtain ⟨e, he, rfl⟩ := List.mem_map.mp hx
    exact fun z => (atK_none.mp h e he) z
  | some y =>
    rw [putE_old h, repl_keys]
    exact nd
theorem putE_len (es : List (NestedKey × β × γ)) (k : NestedKey) (u : β) (v : γ) : (putE es k u v).length ≤ es.length + 1 := by
  cases h : atK es k with
  | none =>
    rw [putE_new h]
    simp
  | some y =>
    rw [putE_old h]
    simp
/-- which keys are there -/
theorem putE_mem {es : List (NestedKey × β × γ)} {k : NestedKey} {u : β} {v : γ} {e : NestedKey × β × γ} (h : e ∈ putE es k u v) : (∃ f ∈ es, f.1 = e.1 ∧ f.2.1 = e.2.1) ∨ (e.1 = k ∧ e.2.1 = u) := by
  cases q : atK es k with
  | none =>
    rw [putE_new q] at h
    rcases List.mem_append.mp h with h | h
    · exact .inl ⟨e, h, rfl, rfl⟩
    · obtain rfl : e = (k, u, v) := by simpa using h
      exact .inr ⟨rfl, rfl⟩
  | some y =>
    rw [putE_old q] at h
    obtain ⟨f, hf, rfl⟩ := List.mem_map.mp h
    refine .inl ⟨f, hf, ?_⟩
    by_cases z : f.1 = k <;> simp [z]
theorem atK_put {es : List (NestedKey × β × γ)} {k j : NestedKey} {u : β} {v : γ} : atK (putE es k u v) j = if j = k then some v else atK es j := by
  cases q : atK es k with
  | none =>
    rw [putE_new q]
    have snoc : ∀ l : List (NestedKey × β × γ), atK l k = none → atK (l ++ [(k, u, v)]) j = if j = k then some v else atK l j := by
      intro l
      induction l with
      | nil =>
        intro _
        by_cases e : k = j
        · rw [if_pos e.symm]
          exact atK_pos e
        · rw [if_neg (fun z => e z.symm)]
          exact atK_neg e
      | cons p r ih =>
        intro hn
        rw [List.cons_append]
        have hk : ¬ p.1 = k := fun z => by
          rw [atK_pos z] at hn
          cases hn
        rw [atK_neg hk] at hn
        by_cases e : p.1 = j
        · rw [atK_pos e, atK_pos e, if_neg (fun z => hk (e.trans z))]
        · rw [atK_neg e, atK_neg e, ih hn]
    exact snoc es q
  | some y =>
    rw [putE_old q]
    have repl : ∀ l : List (NestedKey × β × γ), atK (l.map (fun e => if e.1 = k then (e.1, e.2.1, v) else e)) j = (atK l j).map fun x => if j = k then v else x := by
      intro l
      induction l with
      | nil => rfl
      | cons p r ih =>
        rw [List.map_cons]
        by_cases h : p.1 = k
        · rw [if_pos h]
          by_cases e : p.1 = j
          · rw [atK_pos (e := (p.1, p.2.1, v)) e, atK_pos e, Option.map_some, if_pos (e.symm.trans h)]
          · rw [atK_neg (e := (p.1, p.2.1, v)) e, atK_neg e, ih]
        · rw [if_neg h]
          by_cases e : p.1 = j
          · rw [atK_pos e, atK_pos e, Option.map_some, if_neg (fun z => h (e.trans z))]
          · rw [atK_neg e, atK_neg e, ih]
    rw [repl]
    by_cases e : j = k
    · rw [if_pos e, e, q, Option.map_some, if_pos rfl]
    · rw [if_neg e]
      cases atK es j with
      | none => rfl
      | some x => rw [Option.map_some, if_neg e]
end
section
variable {prog : Program} {w : World} {A : Around} {E : Value → Shared → Prop} {s : Shared} {es : List En} {k : NestedKey} {u : Value} {d : Addr}
theorem DkOf.type (h : DkOf w s.heap d es) : s.TypeIs (.ref d) "dict" := by
  obtain ⟨⟨o, arr, ep, ho, hc, hd, he⟩, _, _⟩ := h
  exact ⟨o, ho, hc.1⟩
theorem dictGet_any {Q : Option Value → Shared → Prop} (hu : A.units + 8 < cLine) (hk : NestedIs s.heap k u) (kd : k.depth ≤ 8) (D : DkOf w s.heap d es) (h : Q (atK es k) { s with toks := s.toks + k.draws }) :
    wpAny (model prog w) A (dictGet d u) Q E s := by
  obtain ⟨⟨o, arr, ep, ho, hc, hd, he⟩, his, nd⟩ := D
  unfold dictGet
  try with_reducible refine wpAny_holding ?_
  refine wpAny_bind (pyHash_key k u A s _ hk (by omega) (wpAny_bind (find_any (s := { s with toks := s.toks + k.draws }) hu hk kd ho hd he his nd ?_ ?_)))
  · intro hno
    rw [atK_none.mpr hno] at h
    exact wpAny_pure h
  · intro j e hj hkj
    rw [atK_get nd hj hkj] at h
    refine wpAny_bind (wpAny_dictEntries (s := { s with toks := s.toks + k.draws }) ho hd ?_)
    rw [ent_at he, hj]
    exact wpAny_pure h
theorem nested_keep {h h' : Heap} {d : Addr} {o : Obj} {arr : Array DictEntry} {ep : Nat} (ho : h.get? d = some o) (hd : o.data = .dict arr ep) (sb : Heap.SameBut d h h') {k : NestedKey} {u : Value} (hk : NestedIs h k u) : NestedIs h' k u := by
  refine NestedIs.at (fun a o1 vs n e1 e2 => ?_) k u hk
  have ne : a ≠ d := by
    rintro rfl
    rw [ho] at e1
    cases e1
    rw [hd] at e2
    cases e2
  exact (sb.2 a ne).trans e1
theorem grown {arr : Array DictEntry} (he : arr.toList = es.map (ent w)) (hn : atK es k = none) (v : Value) : (arr.push ⟨k.hash w, u, v⟩).toList = (putE es k u v).map (ent w) := by
  rw [putE_new hn, Array.toList_push, he, List.map_append]
  rfl
theorem changed {arr : Array DictEntry} (he : arr.toList = es.map (ent w)) (nd : (es.map (·.1)).Nodup) {j : Nat} {e : En} (hj : es[j]? = some e) (hk : e.1 = k) (v : Value) :
    (arr.modify j fun x => { x with val := v }).toList = (putE es k u v).map (ent w) := by
  rw [putE_old (atK_get nd hj hk), Array.toList_modify, he]
  have gen : ∀ (l : List En) (i : Nat), (l.map (·.1)).Nodup → l[i]? = some e → (l.map (ent w)).modify i (fun x => { x with val := v }) = (l.map (fun e => if e.1 = k then (e.1, e.2.1, v) else e)).map (ent w) := by
    intro l
    induction l with
    | nil =>
      intro i _ h
      simp at h
    | cons f r ih =>
      intro i nd h
      have nd2 : f.1 ∉ r.map (·.1) ∧ (r.map (·.1)).Nodup := List.nodup_cons.mp (by simpa using nd)
      cases i with
      | zero =>
        obtain rfl : f = e := by simpa using h
        have rest : r.map (fun e => if e.1 = k then (e.1, e.2.1, v) else e) = r := by
          conv => rhs; rw [← List.map_id r]
          refine List.map_congr_left fun g hg => ?_
          rw [if_neg (fun z => nd2.1 (List.mem_map.mpr ⟨g, hg, z.trans hk.symm⟩))]
          rfl
        rw [List.map_cons, List.map_cons, List.map_cons, rest, if_pos hk]
        rfl
      | succ i =>
        have h2 : r[i]? = some e := by simpa using h
        have hne : ¬ f.1 = k := fun z => nd2.1 (List.mem_map.mpr ⟨e, List.mem_of_getElem? h2, hk.trans z.symm⟩)
        rw [List.map_cons, List.map_cons, List.map_cons, if_neg hne, List.modify_succ_cons, ih i nd2.2 h2]
  exact gen es j nd hj
theorem DkOf.put_is {h h' : Heap} {d : Addr} {o : Obj} {arr : Array DictEntry} {ep : Nat} (ho : h.get? d = some o) (hd : o.data = .dict arr ep) (sb : Heap.SameBut d h h') (hk : NestedIs h k u) (kd : k.depth ≤ 8)
    (his : ∀ e ∈ es, NestedIs h e.1 e.2.1 ∧ e.1.depth ≤ 8) (v : Value) : ∀ e ∈ putE es k u v, NestedIs h' e.1 e.2.1 ∧ e.1.depth ≤ 8 := fun e hm => by
  rcases putE_mem hm with ⟨f, hf, e1, e2⟩ | ⟨e1, e2⟩
  · rw [← e1, ← e2]
    exact ⟨nested_keep ho hd sb (his f hf).1, (his f hf).2⟩
  · rw [e1, e2]
    exact ⟨nested_keep ho hd sb hk, kd⟩
theorem dictSet_any {v : Value} {Q : Unit → Shared → Prop} (hu : A.units + 8 < cLine) (hk : NestedIs s.heap k u) (kd : k.depth ≤ 8) (D : DkOf w s.heap d es) (hsz : es.length ≤ sizeLine)
    (hQ : ∀ h', DkOf w h' d (putE es k u v) → Heap.SameBut d s.heap h' → Q () { s with heap := h', toks := s.toks + k.draws }) : wpAny (model prog w) A (dictSet d u v) Q E s := by
  obtain ⟨⟨o, arr, ep, ho, hc, hd, he⟩, his, nd⟩ := D
  unfold dictSet
  try with_reducible refine wpAny_holding ?_
  refine wpAny_bind (pyHash_key k u A s _ hk (by omega) ?_)
  unfold dictSetHashed
  try with_reducible refine wpAny_holding ?_
  refine wpAny_bind (find_any (s := { s with toks := s.toks + k.draws }) hu hk kd ho hd he his nd ?_ ?_)
  · intro hno
    refine wpAny_bind (wpAny_rule (wpAny_updateDictKeys (hz := by rw [ent_size he]; exact hsz) (s := { s with toks := s.toks + k.draws }) ho hd (hQ _ ⟨⟨_, _, ep + 1, Heap.get?_update_self _ ho (Obj.isFreed_of_dict (Obj.data_mapDictKeys hd _)),
      hc.mapDictKeys _, Obj.data_mapDictKeys hd _, ?_⟩, ?_, ?_⟩ (Heap.SameBut.update ..))))
    · exact grown he (atK_none.mpr hno) v
    · exact DkOf.put_is ho hd (Heap.SameBut.update ..) hk kd his v
    · exact putE_nd nd
  · intro j e hj hkj
    refine wpAny_bind (wpAny_rule (wpAny_bind (wpAny_updateDict (s := { s with toks := s.toks + k.draws }) ho hd (wpAny_point (hQ _ ⟨⟨_, _, ep, Heap.get?_update_self _ ho (Obj.isFreed_of_dict (Obj.data_mapDict hd _)),
      hc.mapDict _, Obj.data_mapDict hd _, ?_⟩, ?_, ?_⟩ (Heap.SameBut.update ..))))))
    · exact changed he nd hj hkj v
    · exact DkOf.put_is ho hd (Heap.SameBut.update ..) hk kd his v
    · exact putE_nd nd
theorem dictSetDefault_any {v : Value} {Q : Value → Shared → Prop} (hu : A.units + 8 < cLine) (hk : NestedIs s.heap k u) (kd : k.depth ≤ 8) (D : DkOf w s.heap d es) (hsz : es.length ≤ sizeLine)
    (h1 : ∀ y, atK es k = some y → Q y { s with toks := s.toks + k.draws })
    (h2 : atK es k = none → ∀ h', DkOf w h' d (putE es k u v) → Heap.SameBut d s.heap h' → Q v { s with heap := h', toks := s.toks + k.draws }) : wpAny (model prog w) A (dictSetDefault d u v) Q E s := by
  obtain ⟨⟨o, arr, ep, ho, hc, hd, he⟩, his, nd⟩ := D
  unfold dictSetDefault
  try with_reducible refine wpAny_holding ?_
  refine wpAny_bind (pyHash_key k u A s _ hk (by omega) ?_)
  refine wpAny_bind (find_any (s := { s with toks := s.toks + k.draws }) hu hk kd ho hd he his nd ?_ ?_)
  · intro hno
    refine wpAny_bind (wpAny_rule (wpAny_bind (wpAny_updateDictKeys (hz := by rw [ent_size he]; exact hsz) (s := { s with toks := s.toks + k.draws }) ho hd (wpAny_pure (h2 (atK_none.mpr hno) _ ⟨⟨_, _, ep + 1, Heap.get?_update_self _ ho (Obj.isFreed_of_dict (Obj.data_mapDictKeys hd _)),
      hc.mapDictKeys _, Obj.data_mapDictKeys hd _, ?_⟩, ?_, ?_⟩ (Heap.SameBut.update ..))))))
    · exact grown he (atK_none.mpr hno) v
    · exact DkOf.put_is ho hd (Heap.SameBut.update ..) hk kd his v
    · exact putE_nd nd
  · intro j e hj hkj
    refine wpAny_bind (wpAny_dictEntries (s := { s with toks := s.toks + k.draws }) ho hd ?_)
    rw [ent_at he, hj]
    exact wpAny_bind (wpAny_rule (wpAny_pure (h1 _ (atK_get nd hj hkj))))
end
end AK

set_option Elab.async false
set_option linter.all false
set_option maxRecDepth 100000
set_option maxHeartbeats 4000000
namespace AK
open PySem PySem.SeqAt PyProof.Rows
section
variable {prog : Program} {w : World} {A : Around} {E : Value → Shared → Prop} {s : Shared} {es : List En} {k : NestedKey} {u : Value} {d : Addr}
theorem u1 (hu : A.units + 9 < cLine) : A.in1.units + 8 < cLine := by
  simp only [Around.in1_units]
  omega
theorem contains_any {Q : Bool → Shared → Prop} (hu : A.units + 9 < cLine) (hk : NestedIs s.heap k u) (kd : k.depth ≤ 8) (hd : (d == sysModules) = false) (D : DkOf w s.heap d es) (h : Q (atK es k).isSome { s with toks := s.toks + k.draws }) :
    wpAny (model prog w) A (contains (.ref d) u) Q E s := by
  refine wpAny_contains_slot D.type PySem.F.slot_dict_contains ?_
  refine call_meetsIn PySem.F.slot_dict_contains D.type PySem.F.entry_dict_contains (PySem.F.args_dict_contains_2 _ _) (S := fun A' R s' => A' = A ∧ s' = s ∧ R (.ok (.ret (.bool (atK es k).isSome))) { s with toks := s.toks + k.draws }) (.of_wp fun A' R s' hS => ?_) ⟨rfl, rfl, wpAny_truthy_bool h⟩
  obtain ⟨rfl, rfl, hq⟩ := hS
  show wpAny _ _ (dictGet d u >>= _) _ _ _
  refine wpAny_bind (dictGet_any (u1 hu) hk kd D ?_)
  cases hf : atK es k with
  | some p =>
    rw [hf] at hq
    show wpAny _ _ (ret (.bool true)) _ _ _
    exact wpAny_pure ⟨_, rfl, hq⟩
  | none =>
    rw [hf] at hq
    show wpAny _ _ (Builtin.Dict.pendingKey? d u >>= _) _ _ _
    exact wpAny_bind (wpAny_pendingKey_other hd (wpAny_pure ⟨_, rfl, hq⟩))
theorem in_any {Q : Value → Shared → Prop} (hu : A.units + 9 < cLine) (hk : NestedIs s.heap k u) (kd : k.depth ≤ 8) (hd : (d == sysModules) = false) (D : DkOf w s.heap d es) (h : Q (.bool (atK es k).isSome) { s with toks := s.toks + k.draws }) :
    wpAny (model prog w) A (compareOp .In u (.ref d)) Q E s := by
  show wpAny _ _ (do return .bool (← contains (.ref d) u)) Q E s
  exact wpAny_bind (contains_any hu hk kd hd D (wpAny_pure h))
theorem notIn_any {Q : Value → Shared → Prop} (hu : A.units + 9 < cLine) (hk : NestedIs s.heap k u) (kd : k.depth ≤ 8) (hd : (d == sysModules) = false) (D : DkOf w s.heap d es) (h : Q (.bool (!(atK es k).isSome)) { s with toks := s.toks + k.draws }) :
    wpAny (model prog w) A (compareOp .NotIn u (.ref d)) Q E s := by
  show wpAny _ _ (do return .bool (!(← contains (.ref d) u))) Q E s
  exact wpAny_bind (contains_any hu hk kd hd D (wpAny_pure h))
theorem getItem_any {v : Value} {Q : Value → Shared → Prop} (hu : A.units + 9 < cLine) (hk : NestedIs s.heap k u) (kd : k.depth ≤ 8) (D : DkOf w s.heap d es) (hv : atK es k = some v) (h : Q v { s with toks := s.toks + k.draws }) :
    wpAny (model prog w) A (getItem (.ref d) u) Q E s := by
  unfold getItem
  try with_reducible refine wpAny_holding ?_
  refine wpAny_bind (wpAny_sequenceKey D.type (by decide) ?_)
  refine wpAny_bind (wpAny_callSpecial?_slot (name := Str.ofString "__getitem__") D.type PySem.F.slot_dict_getitem
    (wpAny_call_entry PySem.F.slot_dict_getitem D.type PySem.F.entry_dict_getitem ?_ (PySem.F.args_dict_getitem_2 _ _)))
  show wpAny _ _ (dictGet d u >>= _) _ _ s
  refine wpAny_bind (dictGet_any (u1 hu) hk kd D ?_)
  rw [hv]
  exact wpAny_pure ⟨v, rfl, wpAny_pure h⟩
theorem setItem_any {v : Value} {Q : Unit → Shared → Prop} (hu : A.units + 9 < cLine) (hk : NestedIs s.heap k u) (kd : k.depth ≤ 8) (D : DkOf w s.heap d es) (hsz : es.length ≤ sizeLine)
    (hQ : ∀ h', DkOf w h' d (putE es k u v) → Heap.SameBut d s.heap h' → Q () { s with heap := h', toks := s.toks + k.draws }) :
    wpAny (model prog w) A (setItem (.ref d) u v) Q E s := by
  unfold setItem
  try with_reducible refine wpAny_holding ?_
  refine wpAny_bind (wpAny_sequenceKey D.type (by decide) ?_)
  refine wpAny_bind (wpAny_callSpecial?_slot (name := Str.ofString "__setitem__") D.type PySem.F.slot_dict_setitem
    (wpAny_call_entry PySem.F.slot_dict_setitem D.type PySem.F.entry_dict_setitem ?_ (PySem.F.args_dict_setitem_3 _ _ _)))
  show wpAny _ _ (Builtin.Dict.notOrdered "__setitem__" ⟨[.ref d, u, v], []⟩ >>= _) _ _ s
  refine wpAny_bind (wpAny_notOrdered_dict D.type ?_)
  show wpAny _ _ (dictSet d u v >>= _) _ _ s
  exact wpAny_bind (dictSet_any (u1 hu) hk kd D hsz fun h' hm' hs' => wpAny_pure ⟨.none, rfl, wpAny_pure (hQ h' hm' hs')⟩)
/-- d.get(k), d.get(k, x) -/
theorem get1_any {Q : Value → Shared → Prop} (hu : A.units + 9 < cLine) (hk : NestedIs s.heap k u) (kd : k.depth ≤ 8) (hd : (d == sysModules) = false) (D : DkOf w s.heap d es) (h : Q ((atK es k).getD .none) { s with toks := s.toks + k.draws }) :
    wpAny (model prog w) A (call (.builtin "dict.get") [.ref d, u]) Q E s := by
  refine call_meetsIn PySem.F.slot_dict_get D.type PySem.F.entry_dict_get (PySem.F.args_dict_get_2 _ _) (S := fun A' R s' => A' = A ∧ s' = s ∧ R (.ok (.ret ((atK es k).getD .none))) { s with toks := s.toks + k.draws }) (.of_wp fun A' R s' hS => ?_) ⟨rfl, rfl, h⟩
  obtain ⟨rfl, rfl, hq⟩ := hS
  show wpAny _ _ (dictGet d u >>= _) _ _ _
  refine wpAny_bind (dictGet_any (u1 hu) hk kd D ?_)
  cases hf : atK es k with
  | some v =>
    rw [hf] at hq
    exact wpAny_pure ⟨v, rfl, hq⟩
  | none =>
    rw [hf] at hq
    show wpAny _ _ (Builtin.Dict.missed d u >>= _) _ _ _
    exact wpAny_bind (wpAny_missed_other hd (wpAny_pure ⟨.none, rfl, hq⟩))
theorem get2_any {x : Value} {Q : Value → Shared → Prop} (hu : A.units + 9 < cLine) (hk : NestedIs s.heap k u) (kd : k.depth ≤ 8) (hd : (d == sysModules) = false) (D : DkOf w s.heap d es) (h : Q ((atK es k).getD x) { s with toks := s.toks + k.draws }) :
    wpAny (model prog w) A (call (.builtin "dict.get") [.ref d, u, x]) Q E s := by
  refine call_meetsIn PySem.F.slot_dict_get D.type PySem.F.entry_dict_get (PySem.F.args_dict_get_3 _ _ _) (S := fun A' R s' => A' = A ∧ s' = s ∧ R (.ok (.ret ((atK es k).getD x))) { s with toks := s.toks + k.draws }) (.of_wp fun A' R s' hS => ?_) ⟨rfl, rfl, h⟩
  obtain ⟨rfl, rfl, hq⟩ := hS
  show wpAny _ _ (dictGet d u >>= _) _ _ _
  refine wpAny_bind (dictGet_any (u1 hu) hk kd D ?_)
  cases hf : atK es k with
  | some v =>
    rw [hf] at hq
    exact wpAny_pure ⟨v, rfl, hq⟩
  | none =>
    rw [hf] at hq
    show wpAny _ _ (Builtin.Dict.missed d u >>= _) _ _ _
    exact wpAny_bind (wpAny_missed_other hd (wpAny_pure ⟨x, rfl, hq⟩))
/-- d.setdefault(k, x) -/
theorem setdefault_any {x : Value} {Q : Value → Shared → Prop} (hu : A.units + 9 < cLine) (hk : NestedIs s.heap k u) (kd : k.depth ≤ 8) (hd : (d == sysModules) = false) (D : DkOf w s.heap d es) (hsz : es.length ≤ sizeLine)
    (h1 : ∀ y, atK es k = some y → Q y { s with toks := s.toks + k.draws })
    (h2 : atK es k = none → ∀ h', DkOf w h' d (putE es k u x) → Heap.SameBut d s.heap h' → Q x { s with heap := h', toks := s.toks + k.draws }) :
    wpAny (model prog w) A (call (.builtin "dict.setdefault") [.ref d, u, x]) Q E s := by
  refine call_meetsIn PySem.F.slot_dict_setdefault D.type PySem.F.entry_dict_setdefault (PySem.F.args_dict_setdefault_3 _ _ _) (S := fun A' R s' => A' = A ∧ s' = s ∧ (∀ y, atK es k = some y → R (.ok (.ret y)) { s with toks := s.toks + k.draws }) ∧
    (atK es k = none → ∀ h', DkOf w h' d (putE es k u x) → Heap.SameBut d s.heap h' → R (.ok (.ret x)) { s with heap := h', toks := s.toks + k.draws })) (.of_wp fun A' R s' hS => ?_) ⟨rfl, rfl, h1, h2⟩
  obtain ⟨rfl, rfl, g1, g2⟩ := hS
  unfold Builtin.«dict.setdefault»
  refine wpAny_bind ?_
  unfold Builtin.Dict.keyAndDefault
  refine wpAny_bind (wpAny_notOrdered_dict D.type ?_)
  show wpAny _ _ (pure (d, u, some x)) _ _ _
  refine wpAny_pure ?_
  show wpAny _ _ (if (d == sysModules) = true then _ else (dictSetDefault d u x >>= _)) _ _ _
  rw [if_neg (by rw [hd]; exact Bool.false_ne_true)]
  exact wpAny_bind (dictSetDefault_any (u1 hu) hk kd D hsz (fun v hv => wpAny_pure ⟨v, rfl, g1 v hv⟩) fun hn h' hm' hs' => wpAny_pure ⟨x, rfl, g2 hn h' hm' hs'⟩)
end
end AK

set_option Elab.async false
set_option linter.all false
set_option maxRecDepth 100000
set_option maxHeartbeats 4000000
namespace AK
open PySem PySem.Spec PyProof.Rows L2
/-! ### data as keys -/
mutual
def keyD : PyData → Option NestedKey
  | .none => some .none
  | .bool b => some (.num (if b = true then 1 else 0))
  | .int i => some (.num i)
  | .str x => some (.text x)
  | .tuple ds => (keyDs ds).map .tup
  | .list _ => none
  | .dict _ => none
def keyDs : List PyData → Option (List NestedKey)
  | [] => some []
  | d :: ds => match keyD d, keyDs ds with
    | some k, some ks => some (k :: ks)
    | _, _ => none
end
theorem keyDs_cons {d : PyData} {ds : List PyData} {ks : List NestedKey} (h : keyDs (d :: ds) = some ks) : ∃ k ks', keyD d = some k ∧ keyDs ds = some ks' ∧ ks = k :: ks' := by
  unfold keyDs at h
  cases h1 : keyD d with
  | none =>
    rw [h1] at h
    cases h
  | some k =>
    cases h2 : keyDs ds with
    | none =>
      rw [h1, h2] at h
      cases h
    | some ks' =>
      rw [h1, h2] at h
      cases h
      exact ⟨k, ks', rfl, rfl, rfl⟩
mutual
theorem eqv_key : ∀ (d e : PyData) (k j : NestedKey), keyD d = some k → keyD e = some j → PyData.eqv d e = NestedKey.beq k j
  | .none, e, k, j, h1, h2 => by
    cases h1
    cases e with
    | none => cases h2; rfl
    | bool b => cases h2; rfl
    | int i => cases h2; rfl
    | str x => cases h2; rfl
    | tuple ds =>
      obtain ⟨ks, _, rfl⟩ := Option.map_eq_some_iff.mp h2
      rfl
    | list _ => cases h2
    | dict _ => cases h2
  | .bool b, e, k, j, h1, h2 => by
    cases h1
    cases e with
    | none => cases h2; rfl
    | bool c => cases h2; cases b <;> cases c <;> rfl
    | int i =>
      cases h2
      cases b
      · show ((0 : Int) == i) = decide ((0 : Int) = i)
        by_cases z : (0 : Int) = i <;> simp [z]
      · show ((1 : Int) == i) = decide ((1 : Int) = i)
        by_cases z : (1 : Int) = i <;> simp [z]
    | str x => cases h2; rfl
    | tuple ds =>
      obtain ⟨ks, _, rfl⟩ := Option.map_eq_some_iff.mp h2
      rfl
    | list _ => cases h2
    | dict _ => cases h2
  | .int i, e, k, j, h1, h2 => by
    cases h1
    cases e with
    | none => cases h2; rfl
    | bool c =>
      cases h2
      cases c
      · show (i == (0 : Int)) = decide (i = (0 : Int))
        by_cases z : i = (0 : Int) <;> simp [z]
      · show (i == (1 : Int)) = decide (i = (1 : Int))
        by_cases z : i = (1 : Int) <;> simp [z]
    | int l =>
      cases h2
      show (i == l) = decide (i = l)
      by_cases z : i = l <;> simp [z]
    | str x => cases h2; rfl
    | tuple ds =>
      obtain ⟨ks, _, rfl⟩ := Option.map_eq_some_iff.mp h2
      rfl
    | list _ => cases h2
    | dict _ => cases h2
  | .str x, e, k, j, h1, h2 => by
    cases h1
    cases e with
    | none => cases h2; rfl
    | bool c => cases h2; rfl
    | int l => cases h2; rfl
    | str y =>
      cases h2
      show (x == y) = decide (x = y)
      by_cases z : x = y <;> simp [z]
    | tuple ds =>
      obtain ⟨ks, _, rfl⟩ := Option.map_eq_some_iff.mp h2
      rfl
    | list _ => cases h2
    | dict _ => cases h2
  | .tuple xs, e, k, j, h1, h2 => by
    obtain ⟨ks, hk, rfl⟩ := Option.map_eq_some_iff.mp h1
    cases e with
    | none => cases h2; rfl
    | bool c => cases h2; rfl
    | int l => cases h2; rfl
    | str y => cases h2; rfl
    | tuple ds =>
      obtain ⟨js, hj, rfl⟩ := Option.map_eq_some_iff.mp h2
      exact eqvAll_key xs ds ks js hk hj
    | list _ => cases h2
    | dict _ => cases h2
  | .list _, _, _, _, h1, _ => by cases h1
  | .dict _, _, _, _, h1, _ => by cases h1
theorem eqvAll_key : ∀ (d e : List PyData) (k j : List NestedKey), keyDs d = some k → keyDs e = some j → PyData.eqvAll d e = NestedKey.beqAll k j
  | [], [], _, _, h1, h2 => by
    cases h1
    cases h2
    rfl
  | [], e :: es, _, _, h1, h2 => by
    cases h1
    obtain ⟨j, js, _, _, rfl⟩ := keyDs_cons h2
    rfl
  | d :: ds, [], _, _, h1, h2 => by
    cases h2
    obtain ⟨j, js, _, _, rfl⟩ := keyDs_cons h1
    rfl
  | d :: ds, e :: es, _, _, h1, h2 => by
    obtain ⟨k, ks, a1, a2, rfl⟩ := keyDs_cons h1
    obtain ⟨j, js, b1, b2, rfl⟩ := keyDs_cons h2
    show (PyData.eqv d e && PyData.eqvAll ds es) = (NestedKey.beq k j && NestedKey.beqAll ks js)
    rw [eqv_key d e k j a1 b1, eqvAll_key ds es ks js a2 b2]
end
theorem eqv_dec {d e : PyData} {k j : NestedKey} (h1 : keyD d = some k) (h2 : keyD e = some j) : PyData.eqv d e = decide (k = j) := by
  rw [eqv_key d e k j h1 h2, NestedKey.decide_eq]
/-! ### the value of a key -/
def NK (K : PySem.W.Frag) (H : Hp) (k : NestedKey) (v : V) : Prop := ∃ d, Dp K H v d ∧ keyD d = some k
section
variable {X : Cx} {pins : List (Addr × Obj)} {σ : L2.St} {H H' : Hp} {s : Shared}
mutual
theorem nk_is (I : Inv X pins σ H s) : ∀ (d : PyData) (v : V) (u : Value) (k : NestedKey), Dp X.K H v d → keyD d = some k → RelV v u → NestedIs s.heap k u
  | .none, _, _, _, h, hk, r => by
    cases h
    cases r
    cases hk
    exact .none
  | .bool b, _, _, _, h, hk, r => by
    cases h
    cases r
    cases hk
    exact .bool rfl
  | .int i, _, _, _, h, hk, r => by
    cases h
    obtain ⟨t, rfl⟩ := r
    cases hk
    exact .int i t
  | .str x, _, _, _, h, hk, r => by
    cases h
    obtain ⟨t, rfl⟩ := r
    cases hk
    exact .text x t
  | .tuple ds, _, _, _, h, hk, r => by
    obtain ⟨ks, hks, rfl⟩ := Option.map_eq_some_iff.mp hk
    cases h with
    | tup hs ha =>
      cases r
      obtain ⟨its, rv, ⟨o, ho, hc, n, hd⟩, _⟩ := I.tuple hs
      exact .tup ho hc hd (by simpa using nks_are I ds _ its ks ha hks rv)
  | .list _, _, _, _, _, hk, _ => by cases hk
  | .dict _, _, _, _, _, hk, _ => by cases hk
theorem nks_are (I : Inv X pins σ H s) : ∀ (ds : List PyData) (vs : List V) (us : List Value) (ks : List NestedKey), DpAll X.K H vs ds → keyDs ds = some ks → Vals vs us → NestedAll s.heap ks us
  | [], _, _, _, h, hk, r => by
    cases h
    cases r
    cases hk
    exact .nil
  | d :: ds, _, _, _, h, hk, r => by
    obtain ⟨k, ks, a1, a2, rfl⟩ := keyDs_cons hk
    cases h with
    | cons h1 h2 =>
      cases r with
      | cons r1 r2 => exact .cons (nk_is I d _ _ k h1 a1 r1) (nks_are I ds _ _ ks h2 a2 r2)
end
theorem NK.is {k : NestedKey} {v : V} {u : Value} (n : NK X.K H k v) (I : Inv X pins σ H s) (r : RelV v u) : NestedIs s.heap k u := by
  obtain ⟨d, h1, h2⟩ := n
  exact nk_is I d v u k h1 h2 r
end
/-! ### what stays -/
/-- the tuples stay -/
def Tups (H H' : Hp) : Prop := ∀ a xs, Rd H a (.tup xs) → Rd H' a (.tup xs)
theorem Tups.rfl' {H : Hp} : Tups H H := fun _ _ h => h
theorem Tups.trans {H H1 H2 : Hp} (a : Tups H H1) (b : Tups H1 H2) : Tups H H2 := fun c xs h => b c xs (a c xs h)
theorem Tups.upd {H : Hp} {a : Addr} {o : HO} (n : ∀ xs, ¬ Rd H a (.tup xs)) : Tups H (upd H a o) := fun c xs h => by
  have ne : c ≠ a := by
    rintro rfl
    exact n xs h
  unfold Rd
  rw [upd_ne ne]
  exact h
theorem Tups.new {H : Hp} {a : Addr} {o : HO} (n : H a = none) : Tups H (L2.upd H a o) := Tups.upd fun xs h => by
  unfold Rd at h
  rw [n] at h
  rcases h with h | ⟨_, h⟩ <;> cases h
theorem SqT.tups {K : PySem.W.Frag} {H H' : Hp} {a : Addr} {xs : List V} (t : Tups H H') (h : SqT K H a xs) : SqT K H' a xs := h.elim (fun h => .inl (t _ _ h)) .inr
mutual
theorem dp_tups {K : PySem.W.Frag} {H H' : Hp} (t : Tups H H') : ∀ (d : PyData) (v : V) (k : NestedKey), keyD d = some k → Dp K H v d → Dp K H' v d
  | .none, _, _, _, h => by cases h; exact .non
  | .bool b, _, _, _, h => by cases h; exact .bl b
  | .int i, _, _, _, h => by cases h; exact .int i
  | .str x, _, _, _, h => by cases h; exact .str x
  | .tuple ds, _, _, hk, h => by
    obtain ⟨ks, hks, _⟩ := Option.map_eq_some_iff.mp hk
    cases h with
    | tup hs ha => exact .tup (SqT.tups t hs) (dps_tups t ds _ ks hks ha)
  | .list _, _, _, hk, _ => by cases hk
  | .dict _, _, _, hk, _ => by cases hk
theorem dps_tups {K : PySem.W.Frag} {H H' : Hp} (t : Tups H H') : ∀ (ds : List PyData) (vs : List V) (ks : List NestedKey), keyDs ds = some ks → DpAll K H vs ds → DpAll K H' vs ds
  | [], _, _, _, h => by cases h; exact .nil
  | d :: ds, _, _, hk, h => by
    obtain ⟨k, ks, a1, a2, _⟩ := keyDs_cons hk
    cases h with
    | cons h1 h2 => exact .cons (dp_tups t d _ k a1 h1) (dps_tups t ds _ ks a2 h2)
end
theorem NK.tups {K : PySem.W.Frag} {H H' : Hp} {k : NestedKey} {v : V} (t : Tups H H') (n : NK K H k v) : NK K H' k v := by
  obtain ⟨d, h1, h2⟩ := n
  exact ⟨d, dp_tups t d v k h2 h1, h2⟩
/-! ### the dict as it is tracked -/
abbrev Eh := NestedKey × V × V
def DkRaw (w : World) (d : Addr) (es : List Eh) (h : Heap) : Prop := (d == sysModules) = false ∧ es.length ≤ sizeLine ∧ ∃ o arr ep, ∃ us : List En, h.get? d = some o ∧ o.ExactDict ∧ o.data = .dict arr ep ∧ arr.toList = us.map (ent w) ∧ Paired (fun (p : Eh) (q : En) => p.1 = q.1 ∧ RelV p.2.1 q.2.1 ∧ RelV p.2.2 q.2.2) es us
def DkO (w : World) (d : Addr) (es : List Eh) : HO := .ext (DkRaw w d es)
/-- at d: the dict es, its keys known -/
structure DA (K : PySem.W.Frag) (w : World) (H : Hp) (d : Addr) (es : List Eh) : Prop where
  at_ : Rd H d (DkO w d es)
  nk : ∀ e ∈ es, NK K H e.1 e.2.1 ∧ e.1.depth ≤ 8
  nd : (es.map (·.1)).Nodup
theorem pr_atK {es : List Eh} {us : List En} (r : Paired (fun (p : Eh) (q : En) => p.1 = q.1 ∧ RelV p.2.1 q.2.1 ∧ RelV p.2.2 q.2.2) es us) (k : NestedKey) : RelO (atK es k) (atK us k) := by
  induction r with
  | nil => exact True.intro
  | @cons p q ps qs h t ih =>
    obtain ⟨h1, _, h2⟩ := h
    by_cases e : p.1 = k
    · rw [atK_pos e, atK_pos (h1.symm.trans e)]
      exact h2
    · rw [atK_neg e, atK_neg (fun z => e (h1.trans z))]
      exact ih
theorem pr_keys {es : List Eh} {us : List En} (r : Paired (fun (p : Eh) (q : En) => p.1 = q.1 ∧ RelV p.2.1 q.2.1 ∧ RelV p.2.2 q.2.2) es us) : es.map (·.1) = us.map (·.1) := by
  induction r with
  | nil => rfl
  | cons h t ih => rw [List.map_cons, List.map_cons, ih, h.1]
theorem pr_put {es : List Eh} {us : List En} (r : Paired (fun (p : Eh) (q : En) => p.1 = q.1 ∧ RelV p.2.1 q.2.1 ∧ RelV p.2.2 q.2.2) es us) (k : NestedKey) {v x : V} {u z : Value} (rv : RelV v u) (rx : RelV x z) :
    Paired (fun (p : Eh) (q : En) => p.1 = q.1 ∧ RelV p.2.1 q.2.1 ∧ RelV p.2.2 q.2.2) (putE es k v x) (putE us k u z) := by
  have ro := pr_atK r k
  cases h : atK es k with
  | none =>
    rw [h] at ro
    have h' : atK us k = none := by
      cases q : atK us k with
      | none => rfl
      | some y =>
        rw [q] at ro
        exact (show False from ro).elim
    rw [putE_new h, putE_new h']
    exact Paired.snoc r ⟨rfl, rv, rx⟩
  | some y =>
    rw [h] at ro
    have h' : ∃ y', atK us k = some y' := by
      cases q : atK us k with
      | none =>
        rw [q] at ro
        exact (show False from ro).elim
      | some y' => exact ⟨y', rfl⟩
    obtain ⟨y', h'⟩ := h'
    rw [putE_old h, putE_old h']
    clear h h' ro
    induction r with
    | nil => exact .nil
    | @cons p q ps qs hpq t ih =>
      rw [List.map_cons, List.map_cons]
      refine .cons ?_ ih
      obtain ⟨h1, h2, h3⟩ := hpq
      by_cases e : p.1 = k
      · rw [if_pos e, if_pos (h1.symm.trans e)]
        exact ⟨h1, h2, rx⟩
      · rw [if_neg e, if_neg (fun z => e (h1.trans z))]
        exact ⟨h1, h2, h3⟩
section
variable {X : Cx} {pins : List (Addr × Obj)} {σ : L2.St} {H H' : Hp} {s : Shared} {d : Addr} {es : List Eh}
/-- what stands in the heap -/
theorem DA.raw (D : DA X.K X.w H d es) (I : Inv X pins σ H s) : (d == sysModules) = false ∧ es.length ≤ sizeLine ∧ ∃ us : List En, DkOf X.w s.heap d us ∧ Paired (fun (p : Eh) (q : En) => p.1 = q.1 ∧ RelV p.2.1 q.2.1 ∧ RelV p.2.2 q.2.2) es us := by
  obtain ⟨⟨hd, hz, o, arr, ep, us, ho, hc, hdat, he, r⟩, _, _⟩ := (show ObjOk X.prog X.w H s.heap d (DkO X.w d es) from D.at_.ok I.hok)
  refine ⟨hd, hz, us, ⟨⟨o, arr, ep, ho, hc, hdat, he⟩, ?_, by rw [← pr_keys r]; exact D.nd⟩, r⟩
  have all : ∀ {l : List Eh} {m : List En}, Paired (fun (p : Eh) (q : En) => p.1 = q.1 ∧ RelV p.2.1 q.2.1 ∧ RelV p.2.2 q.2.2) l m → (∀ e ∈ l, NK X.K H e.1 e.2.1 ∧ e.1.depth ≤ 8) → ∀ e ∈ m, NestedIs s.heap e.1 e.2.1 ∧ e.1.depth ≤ 8 := by
    intro l m q
    induction q with
    | nil => intro _ e he; exact nomatch he
    | @cons p q ps qs hq t ih =>
      intro hl e he
      rcases List.mem_cons.mp he with rfl | he
      · obtain ⟨a, b⟩ := hl p List.mem_cons_self
        rw [← hq.1]
        exact ⟨a.is I hq.2.1, b⟩
      · exact ih (fun e he => hl e (List.mem_cons_of_mem _ he)) e he
  exact all r D.nk
theorem dk_obj {P : Program} {w : World} {H : Hp} {h : Heap} {us : List En} (hd : (d == sysModules) = false) (hz : es.length ≤ sizeLine) (D : DkOf w h d us) (r : Paired (fun (p : Eh) (q : En) => p.1 = q.1 ∧ RelV p.2.1 q.2.1 ∧ RelV p.2.2 q.2.2) es us) :
    ObjOk P w H h d (DkO w d es) := by
  obtain ⟨⟨o, arr, ep, ho, hc, hdat, he⟩, _, _⟩ := D
  refine ⟨⟨hd, hz, o, arr, ep, us, ho, hc, hdat, he, r⟩, ⟨o, ho⟩, fun h1 h2 z st => ?_⟩
  obtain ⟨hd, hz, o, arr, ep, us, ho, rest⟩ := z
  exact ⟨hd, hz, o, arr, ep, us, st _ ho, rest⟩
theorem DA.keep (D : DA X.K X.w H d es) (t : Tups H H') (e : Rd H' d (DkO X.w d es)) : DA X.K X.w H' d es := ⟨e, fun x hx => ⟨(D.nk x hx).1.tups t, (D.nk x hx).2⟩, D.nd⟩
theorem dk_ntup {w : World} {H : Hp} {d : Addr} {es : List Eh} (e : H d = some (DkO w d es)) : ∀ xs, ¬ Rd H d (.tup xs) := fun xs h => by
  unfold Rd at h
  rw [e] at h
  rcases h with h | ⟨_, h⟩
  · exact nomatch (show DkO w d es = HO.tup xs from Option.some.inj h)
  · exact nomatch (show DkO w d es = HO.frz _ _ from Option.some.inj h)
/-- stored -/
theorem DA.put (D : DA X.K X.w H d es) (e : H d = some (DkO X.w d es)) {k : NestedKey} {v x : V} (n : NK X.K H k v) (kd : k.depth ≤ 8) : DA X.K X.w (upd H d (DkO X.w d (putE es k v x))) d (putE es k v x) := by
  have t : Tups H (upd H d (DkO X.w d (putE es k v x))) := Tups.upd (dk_ntup e)
  refine ⟨.inl upd_same, fun f hf => ?_, putE_nd D.nd⟩
  rcases putE_mem hf with ⟨g, hg, e1, e2⟩ | ⟨e1, e2⟩
  · rw [← e1, ← e2]
    exact ⟨(D.nk g hg).1.tups t, (D.nk g hg).2⟩
  · rw [e1, e2]
    exact ⟨n.tups t, kd⟩
theorem da_new {p : Addr} {w : World} {K : PySem.W.Frag} : DA K w (upd H p (DkO w p [])) p [] := ⟨.inl upd_same, (fun _ h => nomatch h), List.nodup_nil⟩
end
/-! ### the rules -/
section
variable {X : Cx} {pos : Pos}
def tDNewA (w : World) : TE := fun _ H Q => ∀ p, H p = none → Q (.ref p) (upd H p (DkO w p []))
theorem pe_dnewA : PE X (.Dict [] [] pos) (tDNewA X.w) := ⟨fun pins s σ H Q I h =>
  wpAny_Dict_empty ⟨.ref s.heap.objs.size, _, I.laid (a := s.heap.objs.size) (o := DkO X.w s.heap.objs.size []) (t' := s.toks) (fun _ _ q => Heap.get?_push_of_some _ q) (Nat.le_refl _) (by
    have e : (s.heap.push { cls := .type "dict", data := .dict #[] }).get? s.heap.objs.size = some { cls := .type "dict", data := .dict #[] } := Heap.get?_push_size _ rfl
    obtain ⟨_, hd, _⟩ := dk_empty (P := X.prog) (w := X.w) (H := H) s.heap I.big
    exact dk_obj (us := []) hd (Nat.zero_le _) ⟨⟨_, _, _, e, ⟨rfl, rfl, rfl⟩, rfl, rfl⟩, (fun _ h => nomatch h), List.nodup_nil⟩ .nil), rfl, h _ (I.hok.fresh (Nat.le_refl _))⟩⟩
def rInA (K : PySem.W.Frag) (w : World) : R2 := fun x y H Q => ∃ d es k, y = .ref d ∧ DA K w H d es ∧ NK K H k x ∧ k.depth ≤ 8 ∧ Q (.bl (atK es k).isSome) H
def rNotInA (K : PySem.W.Frag) (w : World) : R2 := fun x y H Q => ∃ d es k, y = .ref d ∧ DA K w H d es ∧ NK K H k x ∧ k.depth ≤ 8 ∧ Q (.bl (!(atK es k).isSome)) H
theorem op_inA (hu : X.A.units + 64 < cLine) : OpR X (compareOp .In) (rInA X.K X.w) := by
  intro pins s σ H x y v u Q I rx ry h
  obtain ⟨d, es, k, rfl, D, n, kd, q⟩ := h
  cases ry
  obtain ⟨hd, hz, us, R, r⟩ := D.raw I
  refine in_any (by omega) (n.is I rx) kd hd R ⟨.bl _, H, I.tok _, rfl, ?_⟩
  rw [← (pr_atK r k).isSome_eq]
  exact q
theorem op_notInA (hu : X.A.units + 64 < cLine) : OpR X (compareOp .NotIn) (rNotInA X.K X.w) := by
  intro pins s σ H x y v u Q I rx ry h
  obtain ⟨d, es, k, rfl, D, n, kd, q⟩ := h
  cases ry
  obtain ⟨hd, hz, us, R, r⟩ := D.raw I
  refine notIn_any (by omega) (n.is I rx) kd hd R ⟨.bl _, H, I.tok _, rfl, ?_⟩
  rw [← (pr_atK r k).isSome_eq]
  exact q
theorem relO_some {o : Option V} {u : Option Value} {v : V} (r : RelO o u) (h : o = some v) : ∃ z, u = some z ∧ RelV v z := by
  subst h
  cases u with
  | none => exact (show False from r).elim
  | some z => exact ⟨z, rfl, r⟩
def rIxA (K : PySem.W.Frag) (w : World) : R2 := fun x y H Q => ∃ d es k v, x = .ref d ∧ DA K w H d es ∧ NK K H k y ∧ k.depth ≤ 8 ∧ atK es k = some v ∧ Q v H
theorem ix_dictA (hu : X.A.units + 64 < cLine) : IxR X (rIxA X.K X.w) := by
  intro value slice pins s σ H x y v u Q I rx ry h hs
  obtain ⟨d, es, k, z, rfl, D, n, kd, hv, q⟩ := h
  cases rx
  obtain ⟨hd, hz, us, R, r⟩ := D.raw I
  obtain ⟨z', h1, h2⟩ := relO_some (pr_atK r k) hv
  refine subscriptTail_builtinR (x := z') R.type PySem.F.slot_dict_getitem.lookup ?_ hs
  exact getItem_any (by omega) (n.is I ry) kd R h1 ⟨rfl, z, H, I.tok _, h2, q⟩
def rSetA (K : PySem.W.Frag) (w : World) : TSet := fun o i v H Q => ∃ d es k, o = .ref d ∧ H d = some (DkO w d es) ∧ DA K w H d es ∧ NK K H k i ∧ k.depth ≤ 8 ∧ es.length < sizeLine ∧ Q (upd H d (DkO w d (putE es k i v)))
theorem dk_put {pins : List (Addr × Obj)} {σ : L2.St} {H : Hp} {s : Shared} {d : Addr} {es : List Eh} {us : List En} {k : NestedKey} {i v : V} {iv u : Value} {h' : Heap} {t : Nat} (I : Inv X pins σ H s) (e : H d = some (DkO X.w d es)) (hd : (d == sysModules) = false)
    (r : Paired (fun (p : Eh) (q : En) => p.1 = q.1 ∧ RelV p.2.1 q.2.1 ∧ RelV p.2.2 q.2.2) es us) (ri : RelV i iv) (rv : RelV v u) (hl : es.length < sizeLine) (hm : DkOf X.w h' d (putE us k iv u)) (hs : Heap.SameBut d s.heap h') :
    Inv X pins σ (upd H d (DkO X.w d (putE es k i v))) { s with heap := h', toks := t } := by
  have he : ∃ q, h'.get? d = some q := by
    obtain ⟨⟨o, _, _, ho, _⟩, _⟩ := hm
    exact ⟨o, ho⟩
  have hz : (putE es k i v).length ≤ sizeLine := by
    have := putE_len es k i v
    omega
  exact d_write I (by rw [e]; exact True.intro) hs he (dk_obj hd hz hm (pr_put r k ri rv))
theorem set_dictA (hu : X.A.units + 64 < cLine) : PSet X (rSetA X.K X.w) := by
  intro pins s σ H o i v ov iv u Q I ro ri rv h
  obtain ⟨d, es, k, rfl, e, D, n, kd, hl, q⟩ := h
  cases ro
  obtain ⟨hd, hz, us, R, r⟩ := D.raw I
  have hz2 : us.length ≤ sizeLine := by
    rw [← Paired.length r]
    exact hz
  exact setItem_any (by omega) (n.is I ri) kd R hz2 fun h' hm hs => ⟨_, dk_put I e hd r ri rv hl hm hs, q⟩
end
end AK

set_option Elab.async false
set_option linter.all false
set_option maxRecDepth 100000
set_option maxHeartbeats 4000000
namespace AK
open PySem PySem.Spec PyProof.Rows L2
section
variable {X : Cx}
/-- d.m(e, ..), d a dict of this kind -/
def isDA (w : World) (x : V) (H : Hp) : Prop := ∃ d es, x = .ref d ∧ Rd H d (DkO w d es)
theorem isDA_is {pins : List (Addr × Obj)} {σ : L2.St} {H : Hp} {s : Shared} {x : V} {v : PySem.Value} (I : L2.Inv X pins σ H s) (r : RelV x v) (ty : isDA X.w x H) :
    s.TypeIs v "dict" ∧ ∀ a, v = .ref a → ∃ ob, s.heap.get? a = some ob ∧ ob.dict = none := by
  obtain ⟨d, es, rfl, e⟩ := ty
  cases r
  obtain ⟨⟨_, _, o, arr, ep, us, ho, hc, _⟩, _, _⟩ := (show ObjOk X.prog X.w H s.heap d (DkO X.w d es) from e.ok I.hok)
  refine ⟨⟨o, ho, hc.1⟩, fun a z => ?_⟩
  cases z
  exact ⟨o, ho, hc.2.1⟩
def tBMA (w : World) (r : V → List V → Hp → VK → Prop) (to : TE) (t : TA) : TE := fun σ H Q => to σ H fun x H1 => isDA w x H1 ∧ t σ H1 fun xs H2 => r x xs H2 Q
variable {o e : PySem.Expr} {es : List PySem.Expr} {to : TE} {t : TA} {name : Str} {apos cpos : Pos} {id : String} {r : V → List V → Hp → VK → Prop}
theorem pe_bmA (slot : Slot "dict" name id) (hty : typeOf (.builtin id) = pure (.type "method_descriptor")) (hm : MtR X id r) (ho : PE X o to) (ha : PA X (e :: es) t)
    (hbase : attributeBase o name X.env (eval o X.env) = eval o X.env := by rfl)
    (hfew : ((backTo cpos (starEach (e :: es) X.env)).all (fun x => !x.1) && (backToKw cpos (keywordEach [] X.env)).all (fun x => x.1.isSome)
      && decide ((e :: es).length + ([] : List Keyword).length + (if ([] : List Keyword).isEmpty then 0 else 1) < 30)) = true := by rfl)
    (hline : (apos.endLine == cpos.line) = true := by rfl) (hs : starEach (e :: es) X.env = (false, eval e X.env) :: starEach es X.env := by rfl) (hplain : (backTo cpos (starEach es X.env)).any (·.1) = false := by rfl) :
    PE X (.Call (.Attribute o name apos) (e :: es) [] cpos) (tBMA X.w r to t) := by
  refine ⟨fun pins s σ H Q I h => ?_⟩
  refine wpAny_Call_method_late hbase hfew hline rfl (thn (ho.run pins s σ H _ I h) fun v s1 ⟨x, H1, I1, r1, ty, q1⟩ => ?_)
  obtain ⟨h1, h2⟩ := isDA_is I1 r1 ty
  refine ⟨"dict", id, PySem.F.plainAttrs_dict, slot, hty, h1, h2, ?_⟩
  have hA := ha.run cpos pins s1 σ H1 _ I1 q1
  rw [hs] at hA ⊢
  refine Calls.callWith_builtin (by show (false || (backTo cpos (starEach es X.env)).any (·.1)) = false; rw [hplain] <;> rfl) (Calls.evalArgs_plain ?_)
  exact thn hA fun us s2 ⟨vs, H2, I2, r2, q2⟩ => hm pins s2 σ H2 x vs v us Q I2 r1 r2 q2
def rGetA1 (K : PySem.W.Frag) (w : World) : V → List V → Hp → VK → Prop := fun x xs H Q => ∃ d es k y, x = .ref d ∧ xs = [y] ∧ DA K w H d es ∧ NK K H k y ∧ k.depth ≤ 8 ∧ Q ((atK es k).getD .non) H
def rGetA2 (K : PySem.W.Frag) (w : World) : V → List V → Hp → VK → Prop := fun x xs H Q => ∃ d es k y z, x = .ref d ∧ xs = [y, z] ∧ DA K w H d es ∧ NK K H k y ∧ k.depth ≤ 8 ∧ Q ((atK es k).getD z) H
def rSdA (K : PySem.W.Frag) (w : World) : V → List V → Hp → VK → Prop := fun x xs H Q => ∃ d es k y z, x = .ref d ∧ xs = [y, z] ∧ H d = some (DkO w d es) ∧ DA K w H d es ∧ NK K H k y ∧ k.depth ≤ 8 ∧ es.length < sizeLine ∧
  (∀ v, atK es k = some v → Q v H) ∧ (atK es k = none → Q z (upd H d (DkO w d (putE es k y z))))
theorem mt_getA1 (hu : X.A.units + 64 < cLine) : MtR X "dict.get" (rGetA1 X.K X.w) := by
  intro pins s σ H x xs v us Q I rx rs h
  obtain ⟨d, es, k, y, rfl, rfl, D, n, kd, q⟩ := h
  cases rx
  obtain ⟨u, rfl, ry⟩ := vals1 rs
  obtain ⟨hd, hz, us, R, r⟩ := D.raw I
  exact get1_any (by omega) (n.is I ry) kd hd R ⟨_, H, I.tok _, RelO.getD (d := V.non) (d' := PySem.Value.none) (pr_atK r k) rfl, q⟩
theorem mt_getA2 (hu : X.A.units + 64 < cLine) : MtR X "dict.get" (rGetA2 X.K X.w) := by
  intro pins s σ H x xs v us Q I rx rs h
  obtain ⟨d, es, k, y, z, rfl, rfl, D, n, kd, q⟩ := h
  cases rx
  obtain ⟨u, u2, rfl, ry, rz⟩ := vals2 rs
  obtain ⟨hd, hz, us, R, r⟩ := D.raw I
  exact get2_any (by omega) (n.is I ry) kd hd R ⟨_, H, I.tok _, RelO.getD (pr_atK r k) rz, q⟩
theorem mt_sdA (hu : X.A.units + 64 < cLine) : MtR X "dict.setdefault" (rSdA X.K X.w) := by
  intro pins s σ H x xs v us Q I rx rs h
  obtain ⟨d, es, k, y, z, rfl, rfl, e, D, n, kd, hl, q1, q2⟩ := h
  cases rx
  obtain ⟨u, u2, rfl, ry, rz⟩ := vals2 rs
  obtain ⟨hd, hz, us, R, r⟩ := D.raw I
  have hz2 : us.length ≤ sizeLine := by
    rw [← Paired.length r]
    exact hz
  have ro := pr_atK r k
  refine setdefault_any (by omega) (n.is I ry) kd hd R hz2 (fun v' hv => ?_) (fun hn h' hm hs => ?_)
  · rw [hv] at ro
    cases qv : atK es k with
    | none =>
      rw [qv] at ro
      exact (show False from ro).elim
    | some v =>
      rw [qv] at ro
      exact ⟨v, H, I.tok _, ro, q1 v qv⟩
  · rw [hn] at ro
    cases qv : atK es k with
    | none => exact ⟨z, _, dk_put I e hd r ry rz hl hm hs, rz, q2 qv⟩
    | some v =>
      rw [qv] at ro
      exact (show False from ro).elim
end
end AK

set_option Elab.async false
set_option linter.all false
set_option maxRecDepth 100000
set_option maxHeartbeats 4000000
namespace AK
open PySem PySem.Spec PyProof.Rows L2
/-- a comprehension's store into such a dict -/
theorem comp_put {X : Cx} {pins : List (Addr × Obj)} {σ : L2.St} {H : Hp} {s : Shared} {E : PySem.Value → Shared → Prop} {d : Addr} {es : List Eh} {k : NestedKey} {y z : V} {u r : PySem.Value} {Q : Unit → Shared → Prop} (hu : X.A.units + 64 < cLine) (I : L2.Inv X pins σ H s)
    (e : H d = some (DkO X.w d es)) (D : DA X.K X.w H d es) (n : NK X.K H k y) (kd : k.depth ≤ 8) (hl : es.length < sizeLine) (ry : RelV y u) (rz : RelV z r) (h : ∀ s', L2.Inv X pins σ (upd H d (DkO X.w d (putE es k y z))) s' → Q () s') :
    wpAny (model X.prog X.w) X.A (dictSet d u r) Q E s := by
  obtain ⟨hd, hz, us, R, rel⟩ := D.raw I
  have hz2 : us.length ≤ sizeLine := by
    rw [← Paired.length rel]
    exact hz
  exact dictSet_any (by omega) (n.is I ry) kd R hz2 fun h' hm hs => h _ (dk_put I e hd rel ry rz hl hm hs)
/-- how far a comprehension has come: the turns that are left, the heap's view -/
def tDcA (K : PySem.W.Frag) (w : World) (wi : TI) (g : TG) (tk tv : TE) (vs : List Nat) : TE := fun σ H Q => wi σ H fun J H1 => ∀ d, H1 d = none → ∃ Left : Nat → Nat → Hp → Prop, (∃ m, Left 0 m (upd H1 d (DkO w d []))) ∧ ∀ i m H, Left i m H →
  (J.stop i H ∧ Q (.ref d) H) ∨ (J.go i H ∧ ∃ Next : Hp → Prop, (∀ H', Next H' → ∃ m', m' < m ∧ Left (i + 1) m' H') ∧ ∀ x H', J.yld i H x H' → g x (wipe σ vs) H' fun σ2 H2 => wipe σ2 vs = wipe σ vs ∧
    tk σ2 H2 fun y H4 => tv σ2 H4 fun z H5 => ∃ es k, H5 d = some (DkO w d es) ∧ DA K w H5 d es ∧ NK K H5 k y ∧ k.depth ≤ 8 ∧ es.length < sizeLine ∧ Next (upd H5 d (DkO w d (putE es k y z))))
/-- the new dict, tracked -/
theorem fresh_dict {X : Cx} {pins : List (Addr × Obj)} {σ : L2.St} {H : Hp} {s : Shared} (I : L2.Inv X pins σ H s) :
    L2.Inv X pins σ (upd H s.heap.objs.size (DkO X.w s.heap.objs.size [])) { s with heap := s.heap.push { cls := .type "dict", data := .dict #[] } } := by
  refine I.laid (t' := s.toks) (fun _ _ q => Heap.get?_push_of_some _ q) (Nat.le_refl _) ?_
  have e : (s.heap.push { cls := .type "dict", data := .dict #[] }).get? s.heap.objs.size = some { cls := .type "dict", data := .dict #[] } := Heap.get?_push_size _ rfl
  obtain ⟨_, hd, _⟩ := dk_empty (P := X.prog) (w := X.w) (H := H) s.heap I.big
  exact dk_obj (us := []) hd (Nat.zero_le _) ⟨⟨_, _, _, e, ⟨rfl, rfl, rfl⟩, rfl, rfl⟩, (fun _ h => nomatch h), List.nodup_nil⟩ .nil
theorem pe_dcA {X : Cx} {kx vx tg it : PySem.Expr} {scope : Scope} {own : List (Str × Nat)} {pos : Pos} {wi : TI} {g : TG} {tk tv : TE} (hu : X.A.units + 64 < cLine) (calm : X.calm = true) (nd : X.N.Nodup) (walk : PI X tg it wi) (blk : BlkOk X.N X.env.scope scope own)
    (target : ∀ (s : Shared) (H : Hp) (C : Addr) (cl : List (Str × Addr)) (fp : List Addr), PG (X.blk s H scope (compEnvC scope cl C X.env) fp) tg g)
    (key : ∀ (s : Shared) (H : Hp) (C : Addr) (cl : List (Str × Addr)) (fp : List Addr), PE (X.blk s H scope (compEnvC scope cl C X.env) fp) kx tk)
    (val : ∀ (s : Shared) (H : Hp) (C : Addr) (cl : List (Str × Addr)) (fp : List Addr), PE (X.blk s H scope (compEnvC scope cl C X.env) fp) vx tv) (plain : ∀ x, foldedSetIterable it X.env x = pure x := by intro _; rfl) :
    PE X (.DictComp kx vx [⟨tg, it, [], 0⟩] scope pos) (tDcA X.K X.w wi g tk tv (own.map (·.2))) := by
  refine ⟨fun pins s0 σ H0 Q I0 start => ?_⟩
  rw [arm_eval_DictComp]
  have caught : ∀ y ∈ scope.names, y.2 = .free → ∃ c, X.env.cells.lookup y.1 = some c := fun y hy e => (blk.free y hy e).elim (fun k => I0.ok.has _ (.inl k)) fun k => I0.ok.has _ (.inr k)
  refine wpAny_comprehension_free (use := _) rfl plain (closure_ok caught) blk.kind (fun y hy e => by rw [blk.uniq y hy, e]) (thn (walk.run pins s0 σ H0 _ I0 start) fun _ sa ha => thn ha fun _ sb hb => ?_)
  obtain ⟨itA, feet, place, J, Hb, rfl, Ib, T, at0, apart, more⟩ := hb
  refine wpAny_newObj_type (newEnv_comp ?_)
  obtain ⟨Left, ⟨mFirst, first⟩, each⟩ := more sb.heap.objs.size (Ib.hok.fresh (Nat.le_refl _))
  have Ic := fresh_dict Ib
  have small : ∀ b ∈ feet, b < sb.heap.objs.size := fun b hb => let ⟨_, e, _⟩ := T.obj _ _ at0 b hb; Heap.lt_size e
  have apart2 : ∀ b ∈ feet, FpOk X pins (upd Hb sb.heap.objs.size (DkO X.w sb.heap.objs.size [])) b ∧ b < (sb.heap.push { cls := .type "dict", data := .dict #[] }).objs.size := fun b hb => by
    refine ⟨⟨?_, (apart b hb).2⟩, ?_⟩
    · rw [upd_ne (Nat.ne_of_lt (small b hb))]
      exact (apart b hb).1
    · rw [Heap.size_push]
      exact Nat.lt_succ_of_lt (small b hb)
  have at1 : place 0 (sb.heap.push { cls := .type "dict", data := .dict #[] }) := T.keep _ _ _ at0 fun b _ o e => Heap.get?_push_of_some _ e
  -- the block's own frame
  generalize eC : ({ sb with heap := sb.heap.push { cls := .type "dict", data := .dict #[] } } : Shared) = sc at Ic
  have hC : sb.heap.push { cls := .type "dict", data := .dict #[] } = sc.heap := by rw [← eC]
  rw [hC] at apart2 at1
  generalize sb.heap.objs.size = d at Ic apart2 first each ⊢
  generalize eH : upd Hb d (DkO X.w d []) = HC at Ic apart2 first
  have Id := block_start Ic blk nd apart2
  have ptg := target sc HC sc.heap.objs.size (cellsFrom (sc.heap.objs.size + 1) scope.names (cloFrom X.env.cells scope.names [])) feet
  have pky := key sc HC sc.heap.objs.size (cellsFrom (sc.heap.objs.size + 1) scope.names (cloFrom X.env.cells scope.names [])) feet
  have pvl := val sc HC sc.heap.objs.size (cellsFrom (sc.heap.objs.size + 1) scope.names (cloFrom X.env.cells scope.names [])) feet
  show codeAny _ _ (.compStart (.DictComp kx vx [⟨tg, it, [], 0⟩] scope pos) 0 (.ref itA) (.ref d) (compEnvC scope (cellsFrom (sc.heap.objs.size + 1) scope.names (cloFrom X.env.cells scope.names [])) sc.heap.objs.size X.env)) (compPost (model X.prog X.w) X.A X.xe none (EP X pins σ Q) (.ref d) sc.heap.objs.size) { sc with heap := pushCells (sc.heap.push { cls := .type "dict", data := .dict #[] }) scope.names }
  generalize eEnv : compEnvC scope (cellsFrom (sc.heap.objs.size + 1) scope.names (cloFrom X.env.cells scope.names [])) sc.heap.objs.size X.env = env at Id ptg pky pvl ⊢
  have eLoc : env.locals = sc.heap.objs.size := by rw [← eEnv] <;> rfl
  generalize eD : ({ sc with heap := pushCells (sc.heap.push { cls := .type "dict", data := .dict #[] }) scope.names } : Shared) = sd at Id ⊢
  have at2 : place 0 sd.heap := by
    rw [← eD]
    exact T.keep _ _ _ at1 fun b _ o e => pushCells_keeps _ _ _ _ (Heap.get?_push_of_some _ e)
  -- the walk's own objects stay apart
  have keptApart : ∀ {σ' : L2.St} {H' : Hp} {s' : Shared}, L2.Inv (X.blk sc HC scope env feet) [] σ' H' s' → (∀ b ∈ feet, H' b = none) → ∀ b ∈ feet, FpOk (X.blk sc HC scope env feet) [] H' b := fun I' no b hb => by
    obtain ⟨x1, x2⟩ := I'.ok.exf b hb
    exact ⟨no b hb, x1, I'.ok.exfs b hb, .inl hb, fun x c e => x2 x c e, fun p hp => by simp at hp⟩
  have turns : codeAny (model X.prog X.w) X.A (.compLoop (.DictComp kx vx [⟨tg, it, [], 0⟩] scope pos) 0 (.ref itA) (.ref d) env) (compPost (model X.prog X.w) X.A X.xe none (EP X pins σ Q) (.ref d) sc.heap.objs.size) sd := by
    refine compLoop_anyD (fun n s' => ∃ i H', L2.Inv (X.blk sc HC scope env feet) [] (wipe σ (own.map (·.2))) H' s' ∧ place i s'.heap ∧ (∀ b ∈ feet, H' b = none) ∧ Left i n H') ?_ mFirst ⟨0, HC, Id, at2, (fun b hb => (apart2 b hb).1.1), first⟩
    rintro n s1 ⟨i, H1, I1, p1, no1, left⟩
    rcases each i n H1 left with ⟨halt, here⟩ | ⟨goes, Next, down, turn⟩
    · refine thnF (T.done (X.blk sc HC scope env feet) rfl rfl rfl calm i [] s1 _ H1 (fun _ _ => False) I1 (keptApart I1 no1) p1 halt) fun r s2 z => ?_
      obtain ⟨rfl, I2⟩ := z
      have back : L2.Inv X pins σ H1 s2 := Ic.call' (ch := feet) I2.os I2.base I2.hok I2.bare fun b hb => by
        obtain ⟨⟨_, y1, _, y2, y3, y4⟩, _⟩ := apart2 b hb
        exact ⟨y2, y1, y3, y4⟩
      have nLoc : H1 sc.heap.objs.size = none := by
        rw [← eLoc]
        exact I2.free
      obtain ⟨m, hm, _⟩ := I2.loc
      have hm2 : s2.heap.Ns sc.heap.objs.size m := by
        rw [← eLoc]
        exact hm
      refine ⟨m, hm2, fun h'' sb2 => ?_⟩
      obtain ⟨y0, y1, y2, y3, y4, y5⟩ := Ic.fpOk (Nat.le_refl _) nLoc
      exact ⟨.ref d, H1, back.turned (t' := s2.toks) (fun b o hb e => (sb2.2 b hb).trans e) y0 y1 y3 y4 y5, rfl, here⟩
    · refine thnF (T.item (X.blk sc HC scope env feet) rfl rfl rfl calm i [] s1 _ H1 (fun _ _ => False) I1 (keptApart I1 no1) p1 goes) fun r s2 z => ?_
      obtain ⟨u, rfl, got⟩ := z
      refine thnF got fun _ s3 z => ?_
      obtain ⟨x, H3, I3, rx, yl, p3, no3⟩ := z
      have I3p := I3.pinned (keptApart I3 no3) (T.obj _ _ p3)
      refine thnF (ptg.run _ s3 _ H3 x u _ I3p rx (turn x H3 yl)) fun _ s4 z => ?_
      obtain ⟨σ4, H4, I4, same, q4⟩ := z
      refine wpAny_pure ?_
      rw [if_pos rfl]
      refine thnF (pky.run _ s4 σ4 H4 _ I4 q4) fun kv s5 z => ?_
      obtain ⟨y, H5, I5, ry, q5⟩ := z
      refine thnF (pvl.run _ s5 σ4 H5 _ I5 q5) fun vv s6 z => ?_
      obtain ⟨zv, H6, I6, rz, es, k, e6, D6, n6, kd, few, next⟩ := z
      refine comp_put (X := X.blk sc HC scope env feet) hu I6 e6 D6 n6 kd few ry rz fun s7 I7 => ?_
      obtain ⟨m', lower, left'⟩ := down _ next
      have pinned : ∀ b ∈ feet, ∀ o, s3.heap.get? b = some o → s7.heap.get? b = some o ∧ (upd H6 d (DkO X.w d (putE es k y zv))) b = none := fun b hb o e => by
        have z := I7.pin (b, o) (List.mem_append_right _ (List.mem_append_right _ (mem_pinsAt hb e)))
        exact ⟨z.1, z.2.1⟩
      have len : (wipe σ (own.map (·.2))).length = σ4.length := by rw [← same, wipe_length]
      refine ⟨m', lower, i + 1, _, (I7.unpinned (pins := [])).weak len (fun j v e => ?_), T.keep _ _ _ p3 fun b hb o e => (pinned b hb o e).1, (fun b hb => ?_), left'⟩
      · rw [← same] at e
        exact (wipe_some e).1
      · obtain ⟨o, e, _⟩ := T.obj _ _ p3 b hb
        exact (pinned b hb o e).2
  exact codeAny_compStart_dict turns (T.self X.A 0 _ _ _ at2 turns)
end AK

set_option Elab.async false
set_option linter.all false
set_option maxRecDepth 100000
set_option maxHeartbeats 4000000
namespace AK
open PySem PySem.Spec PyProof.Rows L2
/-! ### enumerate of a tuple -/
theorem new_enum {v : PySem.Value} {o : Obj} {Hb : Heap → Prop} (B : Begins v o Hb) :
    Meets (Builtin.«enumerate.__new__» ⟨[.type "enumerate", v], []⟩) (fun _ R s => Hb s.heap ∧
      R (.ok (.ret (.ref (s.heap.push o).objs.size))) { s with heap := (s.heap.push o).push { cls := .type "enumerate", data := .fields #[.none, .bool false, .ref s.heap.objs.size, rawInt 0, .none, .none] } }) :=
  .of_wp fun prog w A R s both => by
    obtain ⟨hp, gs, dr, tk, os⟩ := s
    obtain ⟨there, ends⟩ := both
    have sub1 := sub_enumerate
    have begun : ∀ {A' : Around} {E : PySem.Value → Shared → Prop} {Q : PySem.Value → Shared → Prop}, Q (.ref hp.objs.size) ⟨hp.push o, gs, dr, tk, os⟩ → wpAny (model prog w) A' (pyIter v) Q E ⟨hp, gs, dr, tk, os⟩ :=
      fun z => B.iter prog w _ _ ⟨hp, gs, dr, tk, os⟩ _ there z
    wp_walk using begun
    refine wpAny_stack_any fun st => wpAny_pure ?_
    split
    · rename_i c _ _ _ _ _
      by_cases ec : (c == PySem.Value.type "enumerate") = true
      · rw [ec]
        wp_walk using begun
        exact ⟨_, rfl, ends⟩
      · rw [Bool.eq_false_iff.mpr ec]
        wp_walk using begun
        exact ⟨_, rfl, ends⟩
    · wp_walk using begun
      exact ⟨_, rfl, ends⟩
theorem call_enum {prog : Program} {w : World} {A : Around} {E : PySem.Value → Shared → Prop} {s : Shared} {v : PySem.Value} {o : Obj} {Hb : Heap → Prop} {Q : PySem.Value → Shared → Prop} (B : Begins v o Hb) (there : Hb s.heap)
    (ends : ∀ h', IsEnum h' (s.heap.objs.size + 1) s.heap.objs.size 0 .none → h'.get? s.heap.objs.size = some o → (∀ b o, s.heap.get? b = some o → h'.get? b = some o) → Q (.ref (s.heap.objs.size + 1)) { s with heap := h' }) :
    wpAny (model prog w) A (call (.type "enumerate") [v]) Q E s := by
  refine callType_new PySem.F.called_enumerate (by decide) (PySem.F.typeCall_enumerate_1 _) (PySem.F.newCall_enumerate_1 _) (fun obj => PySem.F.args_object_init_2 obj _) PySem.F.entry_enumerate_new (new_enum B) ⟨there, ?_⟩
  have size1 : (s.heap.push o).objs.size = s.heap.objs.size + 1 := Heap.size_push ..
  have made : IsEnum ((s.heap.push o).push { cls := .type "enumerate", data := .fields #[.none, .bool false, .ref s.heap.objs.size, rawInt 0, .none, .none] }) (s.heap.objs.size + 1) s.heap.objs.size 0 .none := by
    have z := Heap.get?_push_size (s.heap.push o) (o := { cls := .type "enumerate", data := .fields #[.none, .bool false, .ref s.heap.objs.size, rawInt 0, .none, .none] }) rfl
    rw [size1] at z
    exact z
  show _ ∧ _
  rw [size1]
  exact ⟨⟨_, made, rfl⟩, ends _ made (Heap.get?_push_of_some _ (Heap.get?_push_size _ B.free)) fun b o x => Heap.get?_push_of_some _ (Heap.get?_push_of_some _ x)⟩
/-- each turn: a new pair of the place and the item -/
def IteT (K : PySem.W.Frag) (a : Addr) : It :=
  ⟨fun i H => ∃ (xs : List V) (x : V), SqT K H a xs ∧ xs[i]? = some x, fun i H v H' => ∃ T x, v = .ref T ∧ H T = none ∧ H' = upd H T (.tup [.int (i : Nat), x]) ∧ ∀ xs, SqT K H a xs → xs[i]? = some x, fun i H => ∃ xs : List V, SqT K H a xs ∧ xs.length = i⟩
theorem turn_enumT {P : Program} {w : World} {K : PySem.W.Frag} {elts : List PySem.Expr} {kk : Nat} {tpos : Pos} (a e it : Addr) :
    Turn P w K (.Tuple elts kk tpos) (IteT K a) [e, it] e (fun i h => (∃ old, IsEnum h e it ((i : Nat) : Int) old) ∧ h.IsTupleIter it a i ∧ e ≠ it) where
  mem := by simp
  obj := fun i h st b hb => by
    obtain ⟨⟨old, is⟩, ⟨o, there, _, data⟩, _⟩ := st
    rcases List.mem_cons.mp hb with rfl | hb
    · exact ⟨_, is, fun v q => nomatch q⟩
    · obtain rfl := List.mem_singleton.mp hb
      exact ⟨o, there, fun v q => by rw [data] at q; cases q⟩
  keep := fun i h h' st k => by
    obtain ⟨⟨old, is⟩, iter, ne⟩ := st
    exact ⟨⟨old, k e (by simp) _ is⟩, iter.at (fun o q => k it (by simp) o q), ne⟩
  item := by
    intro X hP hw hK calm i pins s σ H E I apart st more
    subst hP hw hK
    obtain ⟨⟨old, is⟩, iter, ne⟩ := st
    obtain ⟨xs, x, sq, at_⟩ := more
    obtain ⟨its, rel, tup, _⟩ := I.tuple sq
    obtain ⟨u, hu, ru⟩ := rel.get at_
    have few : i < its.toArray.size := by
      rw [List.size_toArray]
      exact (List.getElem?_eq_some_iff.mp hu).1
    have ea : e < s.heap.objs.size := Heap.lt_size is
    have ia : it < s.heap.objs.size := by
      obtain ⟨_, q, _⟩ := iter
      exact Heap.lt_size q
    have apart1 : a ≠ it := by
      rintro rfl
      obtain ⟨o1, g1, c1, _⟩ := tup
      obtain ⟨o2, g2, c2, _⟩ := iter
      rw [g1] at g2
      cases g2
      rw [c1] at c2
      exact absurd c2 (by decide)
    have apart2 : e ∉ [it, a] := fun z => by
      rcases List.mem_cons.mp z with z | z
      · exact ne z
      · obtain rfl := List.mem_singleton.mp z
        obtain ⟨o1, g1, c1, _⟩ := tup
        have g2 : s.heap.get? e = _ := is
        rw [g1] at g2
        cases g2
        exact absurd c1 (by show ¬ (PySem.Value.type "enumerate" = PySem.Value.type "tuple"); decide)
    refine wpAny_pyNext_enum_itemD (Draws.tuple (A := X.A.in1) (I.ok.hd calm) it a apart1 its.toArray) is ⟨iter, tup⟩ few ne apart2 fun y h' tk hy out st' hT size keep => ?_
    obtain rfl : y = u := by
      have z : its.toArray[i]? = some u := by simpa using hu
      exact Option.some.inj (hy.symm.trans z)
    refine ⟨_, rfl, wpAny_letOwnedTupleGo_enum (s := { s with heap := h', toks := tk + 1 }) out fun h'' is' sb => ?_⟩
    have hT2 : h''.get? s.heap.objs.size = some { cls := .type "tuple", data := .seq #[.int i tk, y] } := (sb.2 _ (Nat.ne_of_gt ea)).trans hT
    have new : ObjOk X.prog X.w (upd H s.heap.objs.size (.tup [.int (i : Nat), x])) h'' s.heap.objs.size (.tup [.int (i : Nat), x]) :=
      ⟨by show 2 ≤ sizeLine; decide, [.int i tk, y], .cons ⟨_, rfl⟩ (.cons ru .nil), ⟨_, hT2, rfl, _, rfl⟩⟩
    have I1 : L2.Inv X pins σ (upd H s.heap.objs.size (.tup [.int (i : Nat), x])) { s with heap := h'', toks := tk + 1 } :=
      I.turnedNew (ch := [e, it]) (fun b ob hb q => (sb.2 b (fun z => hb (by simp [z]))).trans (keep b ob (fun z => hb (by simp [z])) (fun z => hb (by simp [z])) q)) apart (Nat.le_refl _) new
    refine ⟨.ref s.heap.objs.size, _, I1, rfl, ⟨_, x, rfl, I.hok.fresh (Nat.le_refl _), rfl, fun ys hy => by rw [I.tuple_inj hy sq]; exact at_⟩, ⟨⟨y, ?_⟩, st'.1.at (fun o q => (sb.2 it (Ne.symm ne)).trans q), ne⟩, fun b hb => ?_⟩
    · have e1 : ((i + 1 : Nat) : Int) = (i : Int) + 1 := by omega
      rw [e1]
      exact is'
    · have hb' : b < s.heap.objs.size := by
        rcases List.mem_cons.mp hb with rfl | hb
        · exact ea
        · rw [List.mem_singleton.mp hb]
          exact ia
      rw [upd_ne (Nat.ne_of_lt hb')]
      exact (apart b hb).1
  done := by
    intro X hP hw hK calm i pins s σ H E I apart st more
    subst hP hw hK
    obtain ⟨⟨old, is⟩, iter, ne⟩ := st
    obtain ⟨xs, sq, rfl⟩ := more
    obtain ⟨its, rel, tup, _⟩ := I.tuple sq
    obtain ⟨y0, y1, y2, y3, y4, y5⟩ := apart it (by simp)
    have apart1 : a ≠ it := by
      rintro rfl
      obtain ⟨o1, g1, c1, _⟩ := tup
      obtain ⟨o2, g2, c2, _⟩ := iter
      rw [g1] at g2
      cases g2
      rw [c1] at c2
      exact absurd c2 (by decide)
    have size1 : xs.length = its.toArray.size := by
      rw [List.size_toArray]
      exact rel.length
    rw [size1] at is iter
    exact wpAny_pyNext_enum_endD (Draws.tuple (A := X.A.in1) (I.ok.hd calm) it a apart1 its.toArray) is ⟨iter, tup⟩ fun h' eb => ⟨rfl, I.turned (t' := s.toks) (fun b o hb q => eb b o hb q) y0 y1 y3 y4 y5⟩
  self := fun A i s Q E st h => let ⟨⟨_, is⟩, _⟩ := st; wpAny_pyIter_enum is h
def iEnumT (K : PySem.W.Frag) (ta : TA) : TI := fun σ H R => ta σ H fun vs H1 => ∃ a xs, vs = [.ref a] ∧ SqT K H1 a xs ∧ R (IteT K a) H1
theorem pi_enumT {X : Cx} {e : PySem.Expr} {ta : TA} {p pos tpos : Pos} {elts : List PySem.Expr} {kk : Nat} (hg : Gl X "enumerate") (hm : X.mg "enumerate" = none) (ha : PA X [e] ta) (hs : starEach [e] X.env = [(false, eval e X.env)] := by rfl) :
    PI X (.Tuple elts kk tpos) (.Call (.Name "enumerate" p) [e] [] pos) (iEnumT X.K ta) := by
  refine ⟨fun pins s σ H R I h => ?_⟩
  refine Call_ (ld_blt I hg hm boot_enumerate (PyProof.Rows.callWith_type1 (thn (ha.run pos pins s σ H _ I h) fun us s1 ⟨vs, H1, I1, r1, a, xs, ex, sq, q⟩ => ?_) hs rfl))
  subst ex
  obtain ⟨u, rfl, ru⟩ := vals1 r1
  cases ru
  obtain ⟨its, rel, tup, _⟩ := I1.tuple sq
  refine call_enum (begins_tuple a its.toArray) tup fun h' is iter keep => wpAny_pyIter_enum is ?_
  have I2 : L2.Inv X pins σ H1 { s1 with heap := h' } := I1.kept (t' := s1.toks) keep
  refine ⟨s1.heap.objs.size + 1, [s1.heap.objs.size + 1, s1.heap.objs.size], _, _, H1, rfl, I2, turn_enumT a (s1.heap.objs.size + 1) s1.heap.objs.size, ⟨⟨.none, is⟩, ⟨_, iter, rfl, rfl⟩, Nat.succ_ne_self _⟩, fun b hb => ?_, q⟩
  have le : s1.heap.objs.size ≤ b := by
    rcases List.mem_cons.mp hb with rfl | hb
    · exact Nat.le_succ _
    · rw [List.mem_singleton.mp hb]
      exact Nat.le_refl _
  exact I1.fpOk le (I1.hok.fresh le)
theorem walk_enumT {K : PySem.W.Frag} {a : Addr} {xs : List V} : Walk (IteT K a) xs.length (fun H => SqT K H a xs) (YPair (fun i => some (.int (i : Nat))) (fun i => xs[i]?)) := by
  refine ⟨fun i _ hi q => ⟨xs, xs[i], q, List.getElem?_eq_getElem hi⟩, fun _ q => ⟨xs, q, rfl⟩, ?_⟩
  rintro i H v H' _ q ⟨T, x, h1, h2, h3, h4⟩
  exact ⟨T, .int (i : Nat), x, h1, h2, h3, rfl, h4 xs q⟩
/-- a comprehension that makes such a dict, by its turns -/
theorem dcA_it {J : It} {n : Nat} {G : Hp → Prop} {Y : Nat → Hp → V → Hp → Prop} (wk : Walk J n G Y) {K : PySem.W.Frag} {w : World} {g : TG} {tk tv : TE} {vs : List Nat} {σ : L2.St} {H1 : Hp} {d : Addr} {Qd : Hp → Prop} (Pv : Nat → Hp → Prop) (h0 : Pv 0 (upd H1 d (DkO w d []))) (hG : ∀ i H, i ≤ n → Pv i H → G H)
    (hs : ∀ i x H H', i < n → Pv i H → Y i H x H' → g x (wipe σ vs) H' fun σ2 H2 => wipe σ2 vs = wipe σ vs ∧
      tk σ2 H2 fun y H4 => tv σ2 H4 fun z H5 => ∃ es k, H5 d = some (DkO w d es) ∧ DA K w H5 d es ∧ NK K H5 k y ∧ k.depth ≤ 8 ∧ es.length < sizeLine ∧ Pv (i + 1) (upd H5 d (DkO w d (putE es k y z)))) (hd : ∀ H, Pv n H → Qd H) :
    ∃ Left : Nat → Nat → Hp → Prop, (∃ m, Left 0 m (upd H1 d (DkO w d []))) ∧ ∀ i m H, Left i m H →
      (J.stop i H ∧ Qd H) ∨ (J.go i H ∧ ∃ Next : Hp → Prop, (∀ H', Next H' → ∃ m', m' < m ∧ Left (i + 1) m' H') ∧ ∀ x H', J.yld i H x H' → g x (wipe σ vs) H' fun σ2 H2 => wipe σ2 vs = wipe σ vs ∧
        tk σ2 H2 fun y H4 => tv σ2 H4 fun z H5 => ∃ es k, H5 d = some (DkO w d es) ∧ DA K w H5 d es ∧ NK K H5 k y ∧ k.depth ≤ 8 ∧ es.length < sizeLine ∧ Next (upd H5 d (DkO w d (putE es k y z)))) := by
  refine ⟨fun i m H => m = n - i ∧ i ≤ n ∧ Pv i H, ⟨n, by omega, Nat.zero_le _, h0⟩, ?_⟩
  rintro i m H ⟨rfl, le, p⟩
  have here := hG i H le p
  rcases Nat.lt_or_ge i n with lt | ge
  · exact .inr ⟨wk.goes i H lt here, Pv (i + 1), fun H' p' => ⟨n - (i + 1), by omega, rfl, lt, p'⟩, fun x H' y => hs i x H H' lt p (wk.yields i H x H' lt here y)⟩
  · obtain rfl : i = n := by omega
    exact .inl ⟨wk.stops H here, hd H p⟩
end AK

set_option Elab.async false
set_option linter.all false
set_option maxRecDepth 100000
set_option maxHeartbeats 4000000
namespace AK
open PySem PySem.Spec PyProof.Rows L2
/-! ### a comprehension of such a dict with two `for`, no `if` -/
section
variable {prog : Program} {w : World} {A : Around} {R : Result → Shared → Prop} {s : Shared} {kx vx ta ia tb ib : PySem.Expr} {scope : Scope} {pos : Pos} {it : PySem.Value} {d : Addr} {env : Env}
theorem turn_first : compTurn (.DictComp kx vx [⟨ta, ia, [], 0⟩, ⟨tb, ib, [], 0⟩] scope pos) 0 it (.ref d) env = (do
      standAt ia.pos
      match ← pyNext it with
      | none => pure (.done .next)
      | some got =>
        letOwnedTupleGo ta it got
        assign ta env got
        let mut good := true
        for q in ([] : List PySem.Expr) do
          if good then good ← isTrue q env (eval q env)
        if good then
          let src ← eval ib env
          standAt ib.pos
          let src ← foldedSetIterable ib env src
          let _ ← runOwn (.compStart (.DictComp kx vx [⟨ta, ia, [], 0⟩, ⟨tb, ib, [], 0⟩] scope pos) 1 (← holding [src] (pyIter src)) (.ref d) env) env
        again (.compLoop (.DictComp kx vx [⟨ta, ia, [], 0⟩, ⟨tb, ib, [], 0⟩] scope pos) 0 it (.ref d) env)) := by rfl
theorem turn_second : compTurn (.DictComp kx vx [⟨ta, ia, [], 0⟩, ⟨tb, ib, [], 0⟩] scope pos) 1 it (.ref d) env = (do
      standAt ib.pos
      match ← pyNext it with
      | none => pure (.done .next)
      | some got =>
        letOwnedTupleGo tb it got
        assign tb env got
        let mut good := true
        for q in ([] : List PySem.Expr) do
          if good then good ← isTrue q env (eval q env)
        if good then
          (do
            let ku ← eval kx env
            let vu ← holding [ku] (eval vx env)
            standAt { kx.pos with endLine := vx.pos.endLine, endCol := vx.pos.endCol }
            holding [ku, vu] (dictSet d ku vu))
        again (.compLoop (.DictComp kx vx [⟨ta, ia, [], 0⟩, ⟨tb, ib, [], 0⟩] scope pos) 1 it (.ref d) env)) := by rfl
/-- the walk of the first -/
theorem first_walk (plain : ∀ x, foldedSetIterable ib env x = pure x) (At : Nat → Shared → Prop)
    (goes : ∀ n s, At n s → wpAny (model prog w) A (pyNext it) (fun r s1 => match r with
      | none => R (.ok .next) s1
      | some v => wpAny (model prog w) A (letOwnedTupleGo ta it v) (fun _ s2 => wpAny (model prog w) A (assign ta env v) (fun _ s3 => wpAny (model prog w) A (eval ib env) (fun x s4 => wpAny (model prog w) A (pyIter x) (fun y s5 =>
          codeAny (model prog w) A (.compStart (.DictComp kx vx [⟨ta, ia, [], 0⟩, ⟨tb, ib, [], 0⟩] scope pos) 1 y (.ref d) env) (fun r s6 => match r with
            | .ok _ => ∃ m, m < n ∧ At m s6
            | .error _ => False) s5) (notedBy (model prog w) A env fun e sz => R (.error e) sz) s4) (notedBy (model prog w) A env fun e sz => R (.error e) sz) s3) (notedBy (model prog w) A env fun e sz => R (.error e) sz) s2) (notedBy (model prog w) A env fun e sz => R (.error e) sz) s1) (notedBy (model prog w) A env fun e sz => R (.error e) sz) s)
    (n : Nat) (here : At n s) : codeAny (model prog w) A (.compLoop (.DictComp kx vx [⟨ta, ia, [], 0⟩, ⟨tb, ib, [], 0⟩] scope pos) 0 it (.ref d) env) R s := by
  refine codeAny_loop rfl At (fun n s a => ?_) n here
  show wpAny _ A (PySem.Sem.onRaise (compTurn (.DictComp kx vx [⟨ta, ia, [], 0⟩, ⟨tb, ib, [], 0⟩] scope pos) 0 it (.ref d) env) (fun x => do noteFrame x env; theTreesLotGoes x)) _ _ s
  refine wpAny_noted ?_
  rw [turn_first]
  refine wpAny_bind (wpAny_standAt (wpAny_bind (wpAny_mono (goes n s a) (fun r s1 b1 => ?_) fun _ _ z => z)))
  cases r with
  | none => exact wpAny_pure b1
  | some v =>
    refine wpAny_bind (wpAny_mono b1 (fun _ s2 b2 => wpAny_bind (wpAny_mono b2 (fun _ s3 b3 => ?_) fun _ _ z => z)) fun _ _ z => z)
    refine wpAny_bind (wpAny_pure ?_)
    rw [if_pos rfl]
    refine wpAny_bind (wpAny_mono b3 (fun x s4 b4 => ?_) fun _ _ z => z)
    refine wpAny_bind (wpAny_standAt (wpAny_bind (wpAny_of_eq (plain x) (wpAny_bind (wpAny_holding (wpAny_mono b4 (fun y s5 b5 => ?_) fun _ _ z => z))))))
    refine wpAny_bind (wpAny_runOwn ?_)
    rw [Around.mark_none]
    refine codeAny_mono b5 fun r s6 z => ?_
    cases r with
    | error e => exact z.elim
    | ok f =>
      first
        | exact wpAny_pure ⟨rfl, z⟩
        | exact wpAny_bind (wpAny_pure (wpAny_pure ⟨rfl, z⟩))
/-- .. and of the second -/
theorem second_walk (At : Nat → Shared → Prop)
    (goes : ∀ n s, At n s → wpAny (model prog w) A (pyNext it) (fun r s1 => match r with
      | none => R (.ok .next) s1
      | some v => wpAny (model prog w) A (letOwnedTupleGo tb it v) (fun _ s2 => wpAny (model prog w) A (assign tb env v) (fun _ s3 => wpAny (model prog w) A (eval kx env) (fun ku s4 => wpAny (model prog w) A (eval vx env) (fun vu s5 =>
          wpAny (model prog w) A (dictSet d ku vu) (fun _ s6 => ∃ m, m < n ∧ At m s6) (notedBy (model prog w) A env fun e sz => R (.error e) sz) s5) (notedBy (model prog w) A env fun e sz => R (.error e) sz) s4) (notedBy (model prog w) A env fun e sz => R (.error e) sz) s3) (notedBy (model prog w) A env fun e sz => R (.error e) sz) s2) (notedBy (model prog w) A env fun e sz => R (.error e) sz) s1) (notedBy (model prog w) A env fun e sz => R (.error e) sz) s)
    (n : Nat) (here : At n s) : codeAny (model prog w) A (.compLoop (.DictComp kx vx [⟨ta, ia, [], 0⟩, ⟨tb, ib, [], 0⟩] scope pos) 1 it (.ref d) env) R s := by
  refine codeAny_loop rfl At (fun n s a => ?_) n here
  show wpAny _ A (PySem.Sem.onRaise (compTurn (.DictComp kx vx [⟨ta, ia, [], 0⟩, ⟨tb, ib, [], 0⟩] scope pos) 1 it (.ref d) env) (fun x => do noteFrame x env; theTreesLotGoes x)) _ _ s
  refine wpAny_noted ?_
  rw [turn_second]
  refine wpAny_bind (wpAny_standAt (wpAny_bind (wpAny_mono (goes n s a) (fun r s1 b1 => ?_) fun _ _ z => z)))
  cases r with
  | none => exact wpAny_pure b1
  | some v =>
    refine wpAny_bind (wpAny_mono b1 (fun _ s2 b2 => wpAny_bind (wpAny_mono b2 (fun _ s3 b3 => ?_) fun _ _ z => z)) fun _ _ z => z)
    refine wpAny_bind (wpAny_pure ?_)
    rw [if_pos rfl]
    exact wpAny_bind (wpAny_bind (wpAny_mono b3 (fun ku s4 b4 => wpAny_bind (wpAny_holding (wpAny_mono b4 (fun vu s5 b5 => wpAny_bind (wpAny_standAt (wpAny_holding (wpAny_mono b5 (fun _ s6 b6 => wpAny_pure ⟨rfl, b6⟩) fun _ _ z => z)))) fun _ _ z => z))) fun _ _ z => z))
/-- how the second begins -/
theorem second_begins (b0 : codeAny (model prog w) A (.compLoop (.DictComp kx vx [⟨ta, ia, [], 0⟩, ⟨tb, ib, [], 0⟩] scope pos) 1 it (.ref d) env) R s)
    (b1 : wpAny (model prog w) A (pyIter it) (fun y sy => codeAny (model prog w) A (.compLoop (.DictComp kx vx [⟨ta, ia, [], 0⟩, ⟨tb, ib, [], 0⟩] scope pos) 1 y (.ref d) env) R sy) (notedBy (model prog w) A env fun x sz => R (.error x) sz) s) :
    codeAny (model prog w) A (.compStart (.DictComp kx vx [⟨ta, ia, [], 0⟩, ⟨tb, ib, [], 0⟩] scope pos) 1 it (.ref d) env) R s := by
  refine codeAny_of_tree ?_
  show wpAny _ _ (PySem.Sem.onRaise (compStart (.DictComp kx vx [⟨ta, ia, [], 0⟩, ⟨tb, ib, [], 0⟩] scope pos) 1 it (.ref d) env) (fun x => do noteFrame x env; standAt theWindowsPlace)) _ _ s
  refine wpAny_notedAt ?_
  unfold compStart
  show wpAny _ _ (PySem.ask >>= _) _ _ s
  refine wpAny_bind (wpAny_askSetting (wpAny_ite ?_))
  split
  · first
      | exact wpAny_bind (wpAny_pure (wpAny_pure ⟨rfl, b0⟩))
      | exact wpAny_pure ⟨rfl, b0⟩
  · first
      | exact wpAny_bind (wpAny_rule (wpAny_bind (wpAny_standAt (wpAny_bind (wpAny_mono b1 (fun y sy z => wpAny_pure ⟨rfl, z⟩) fun _ _ x => x)))))
      | (refine wpAny_bind (wpAny_rule ?_); show wpAny _ _ (standAt ib.pos >>= _) _ _ s; exact wpAny_bind (wpAny_standAt (wpAny_bind (wpAny_mono b1 (fun y sy z => wpAny_pure ⟨rfl, z⟩) fun _ _ x => x))))
end
/-- how far both have come -/
def tDcA2 (K : PySem.W.Frag) (w : World) (wi : TI) (g : TG) (wj : TI) (gj : TG) (tk tv : TE) (vs us : List Nat) : TE := fun σ H Q => wi σ H fun J H1 => ∀ d, H1 d = none → ∃ Left : Nat → Nat → Hp → Prop, (∃ m, Left 0 m (upd H1 d (DkO w d []))) ∧ ∀ i m H, Left i m H →
  (J.stop i H ∧ Q (.ref d) H) ∨ (J.go i H ∧ ∃ Next : Hp → Prop, (∀ H', Next H' → ∃ m', m' < m ∧ Left (i + 1) m' H') ∧ ∀ x H', J.yld i H x H' → g x (wipe σ vs) H' fun σ2 H2 => wipe σ2 vs = wipe σ vs ∧
    wj σ2 H2 fun Jb H3 => ∃ Rest : Nat → Nat → Hp → Prop, (∃ m, Rest 0 m H3) ∧ ∀ j k H, Rest j k H →
      (Jb.stop j H ∧ Next H) ∨ (Jb.go j H ∧ ∃ Then : Hp → Prop, (∀ H', Then H' → ∃ k', k' < k ∧ Rest (j + 1) k' H') ∧ ∀ x H', Jb.yld j H x H' → gj x (wipe σ2 us) H' fun σ3 H4 => wipe σ3 us = wipe σ2 us ∧
        tk σ3 H4 fun y H5 => tv σ3 H5 fun z H6 => ∃ es k, H6 d = some (DkO w d es) ∧ DA K w H6 d es ∧ NK K H6 k y ∧ k.depth ≤ 8 ∧ es.length < sizeLine ∧ Then (upd H6 d (DkO w d (putE es k y z)))))
theorem pe_dcA2 {X : Cx} {kx vx ta ia tb ib : PySem.Expr} {scope : Scope} {own : List (Str × Nat)} {us : List Nat} {pos : Pos} {wi wj : TI} {g gj : TG} {tk tv : TE} (hu : X.A.units + 64 < cLine) (calm : X.calm = true) (nd : X.N.Nodup) (walk : PI X ta ia wi) (blk : BlkOk X.N X.env.scope scope own) (inner : ∀ i ∈ us, i ∈ own.map (·.2))
    (target : ∀ (s : Shared) (H : Hp) (C : Addr) (cl : List (Str × Addr)) (fp : List Addr), PG (X.blk s H scope (compEnvC scope cl C X.env) fp) ta g)
    (walkb : ∀ (s : Shared) (H : Hp) (C : Addr) (cl : List (Str × Addr)) (fp : List Addr), PI (X.blk s H scope (compEnvC scope cl C X.env) fp) tb ib wj)
    (targetb : ∀ (s : Shared) (H : Hp) (C : Addr) (cl : List (Str × Addr)) (fp : List Addr), PG (X.blk s H scope (compEnvC scope cl C X.env) fp) tb gj)
    (key : ∀ (s : Shared) (H : Hp) (C : Addr) (cl : List (Str × Addr)) (fp : List Addr), PE (X.blk s H scope (compEnvC scope cl C X.env) fp) kx tk)
    (val : ∀ (s : Shared) (H : Hp) (C : Addr) (cl : List (Str × Addr)) (fp : List Addr), PE (X.blk s H scope (compEnvC scope cl C X.env) fp) vx tv) (plain : ∀ x, foldedSetIterable ia X.env x = pure x := by intro _; rfl) (plainb : ∀ env x, foldedSetIterable ib env x = pure x := by intro _ _; rfl) :
    PE X (.DictComp kx vx [⟨ta, ia, [], 0⟩, ⟨tb, ib, [], 0⟩] scope pos) (tDcA2 X.K X.w wi g wj gj tk tv (own.map (·.2)) us) := by
  refine ⟨fun pins s0 σ H0 Q I0 start => ?_⟩
  rw [arm_eval_DictComp]
  have caught : ∀ y ∈ scope.names, y.2 = .free → ∃ c, X.env.cells.lookup y.1 = some c := fun y hy e => (blk.free y hy e).elim (fun k => I0.ok.has _ (.inl k)) fun k => I0.ok.has _ (.inr k)
  refine wpAny_comprehension_free (use := _) rfl plain (closure_ok caught) blk.kind (fun y hy e => by rw [blk.uniq y hy, e]) (thn (walk.run pins s0 σ H0 _ I0 start) fun _ sa ha => thn ha fun _ sb hb => ?_)
  obtain ⟨itA, feet, place, J, Hb, rfl, Ib, T, at0, apart, more⟩ := hb
  refine wpAny_newObj_type (newEnv_comp ?_)
  obtain ⟨Left, ⟨mFirst, first⟩, each⟩ := more sb.heap.objs.size (Ib.hok.fresh (Nat.le_refl _))
  have Ic := fresh_dict Ib
  have small : ∀ b ∈ feet, b < sb.heap.objs.size := fun b hb => let ⟨_, e, _⟩ := T.obj _ _ at0 b hb; Heap.lt_size e
  have apart2 : ∀ b ∈ feet, FpOk X pins (upd Hb sb.heap.objs.size (DkO X.w sb.heap.objs.size [])) b ∧ b < (sb.heap.push { cls := .type "dict", data := .dict #[] }).objs.size := fun b hb => by
    refine ⟨⟨?_, (apart b hb).2⟩, ?_⟩
    · rw [upd_ne (Nat.ne_of_lt (small b hb))]
      exact (apart b hb).1
    · rw [Heap.size_push]
      exact Nat.lt_succ_of_lt (small b hb)
  have at1 : place 0 (sb.heap.push { cls := .type "dict", data := .dict #[] }) := T.keep _ _ _ at0 fun b _ o e => Heap.get?_push_of_some _ e
  generalize eC : ({ sb with heap := sb.heap.push { cls := .type "dict", data := .dict #[] } } : Shared) = sc at Ic
  have hC : sb.heap.push { cls := .type "dict", data := .dict #[] } = sc.heap := by rw [← eC]
  rw [hC] at apart2 at1
  generalize sb.heap.objs.size = d at Ic apart2 first each ⊢
  generalize eH : upd Hb d (DkO X.w d []) = HC at Ic apart2 first
  have Id := block_start Ic blk nd apart2
  have ptg := target sc HC sc.heap.objs.size (cellsFrom (sc.heap.objs.size + 1) scope.names (cloFrom X.env.cells scope.names [])) feet
  have pwb := walkb sc HC sc.heap.objs.size (cellsFrom (sc.heap.objs.size + 1) scope.names (cloFrom X.env.cells scope.names [])) feet
  have ptb := targetb sc HC sc.heap.objs.size (cellsFrom (sc.heap.objs.size + 1) scope.names (cloFrom X.env.cells scope.names [])) feet
  have pky := key sc HC sc.heap.objs.size (cellsFrom (sc.heap.objs.size + 1) scope.names (cloFrom X.env.cells scope.names [])) feet
  have pvl := val sc HC sc.heap.objs.size (cellsFrom (sc.heap.objs.size + 1) scope.names (cloFrom X.env.cells scope.names [])) feet
  show codeAny _ _ (.compStart (.DictComp kx vx [⟨ta, ia, [], 0⟩, ⟨tb, ib, [], 0⟩] scope pos) 0 (.ref itA) (.ref d) (compEnvC scope (cellsFrom (sc.heap.objs.size + 1) scope.names (cloFrom X.env.cells scope.names [])) sc.heap.objs.size X.env)) (compPost (model X.prog X.w) X.A X.xe none (EP X pins σ Q) (.ref d) sc.heap.objs.size) { sc with heap := pushCells (sc.heap.push { cls := .type "dict", data := .dict #[] }) scope.names }
  generalize eEnv : compEnvC scope (cellsFrom (sc.heap.objs.size + 1) scope.names (cloFrom X.env.cells scope.names [])) sc.heap.objs.size X.env = env at Id ptg pwb ptb pky pvl ⊢
  have eLoc : env.locals = sc.heap.objs.size := by rw [← eEnv] <;> rfl
  generalize eD : ({ sc with heap := pushCells (sc.heap.push { cls := .type "dict", data := .dict #[] }) scope.names } : Shared) = sd at Id ⊢
  have at2 : place 0 sd.heap := by
    rw [← eD]
    exact T.keep _ _ _ at1 fun b _ o e => pushCells_keeps _ _ _ _ (Heap.get?_push_of_some _ e)
  have keptApart : ∀ {σ' : L2.St} {H' : Hp} {s' : Shared}, L2.Inv (X.blk sc HC scope env feet) [] σ' H' s' → (∀ b ∈ feet, H' b = none) → ∀ b ∈ feet, FpOk (X.blk sc HC scope env feet) [] H' b := fun I' no b hb => by
    obtain ⟨x1, x2⟩ := I'.ok.exf b hb
    exact ⟨no b hb, x1, I'.ok.exfs b hb, .inl hb, fun x c e => x2 x c e, fun p hp => by simp at hp⟩
  have turns : codeAny (model X.prog X.w) X.A (.compLoop (.DictComp kx vx [⟨ta, ia, [], 0⟩, ⟨tb, ib, [], 0⟩] scope pos) 0 (.ref itA) (.ref d) env) (compPost (model X.prog X.w) X.A X.xe none (EP X pins σ Q) (.ref d) sc.heap.objs.size) sd := by
    refine first_walk (plainb env) (fun n s' => ∃ i H', L2.Inv (X.blk sc HC scope env feet) [] (wipe σ (own.map (·.2))) H' s' ∧ place i s'.heap ∧ (∀ b ∈ feet, H' b = none) ∧ Left i n H') ?_ mFirst ⟨0, HC, Id, at2, (fun b hb => (apart2 b hb).1.1), first⟩
    rintro n s1 ⟨i, H1, I1, p1, no1, left⟩
    rcases each i n H1 left with ⟨halt, here⟩ | ⟨goes, Next, down, turn⟩
    · refine thnF (T.done (X.blk sc HC scope env feet) rfl rfl rfl calm i [] s1 _ H1 (fun _ _ => False) I1 (keptApart I1 no1) p1 halt) fun r s2 z => ?_
      obtain ⟨rfl, I2⟩ := z
      have back : L2.Inv X pins σ H1 s2 := Ic.call' (ch := feet) I2.os I2.base I2.hok I2.bare fun b hb => by
        obtain ⟨⟨_, y1, _, y2, y3, y4⟩, _⟩ := apart2 b hb
        exact ⟨y2, y1, y3, y4⟩
      have nLoc : H1 sc.heap.objs.size = none := by
        rw [← eLoc]
        exact I2.free
      obtain ⟨m, hm, _⟩ := I2.loc
      have hm2 : s2.heap.Ns sc.heap.objs.size m := by
        rw [← eLoc]
        exact hm
      refine ⟨m, hm2, fun h'' sb2 => ?_⟩
      obtain ⟨y0, y1, y2, y3, y4, y5⟩ := Ic.fpOk (Nat.le_refl _) nLoc
      exact ⟨.ref d, H1, back.turned (t' := s2.toks) (fun b o hb e => (sb2.2 b hb).trans e) y0 y1 y3 y4 y5, rfl, here⟩
    · refine thnF (T.item (X.blk sc HC scope env feet) rfl rfl rfl calm i [] s1 _ H1 (fun _ _ => False) I1 (keptApart I1 no1) p1 goes) fun r s2 z => ?_
      obtain ⟨u, rfl, got⟩ := z
      refine thnF got fun _ s3 z => ?_
      obtain ⟨x, H3, I3, rx, yl, p3, no3⟩ := z
      have I3p := I3.pinned (keptApart I3 no3) (T.obj _ _ p3)
      refine thnF (ptg.run _ s3 _ H3 x u _ I3p rx (turn x H3 yl)) fun _ s4 z => ?_
      obtain ⟨σ4, H4, I4, same, q4⟩ := z
      -- the end of a turn, from whatever slots know what was known at its start
      have ends : ∀ {σe : L2.St} {se : Shared} {He : Hp}, L2.Inv (X.blk sc HC scope env feet) ([] ++ pinsAt feet s3.heap) σe He se → (wipe σ (own.map (·.2))).length = σe.length → (∀ (j : Nat) v, (wipe σ (own.map (·.2)))[j]? = some (some v) → σe[j]? = some (some v)) → Next He →
          ∃ m, m < n ∧ ∃ i H', L2.Inv (X.blk sc HC scope env feet) [] (wipe σ (own.map (·.2))) H' se ∧ place i se.heap ∧ (∀ b ∈ feet, H' b = none) ∧ Left i m H' := fun {σe se He} Ie le ke nx => by
        obtain ⟨m', lower, left'⟩ := down He nx
        have pinned : ∀ b ∈ feet, ∀ o, s3.heap.get? b = some o → se.heap.get? b = some o ∧ He b = none := fun b hb o e => by
          have z := Ie.pin (b, o) (List.mem_append_right _ (List.mem_append_right _ (mem_pinsAt hb e)))
          exact ⟨z.1, z.2.1⟩
        refine ⟨m', lower, i + 1, He, (Ie.unpinned (pins := [])).weak le ke, T.keep _ _ _ p3 fun b hb o e => (pinned b hb o e).1, (fun b hb => ?_), left'⟩
        obtain ⟨o, e, _⟩ := T.obj _ _ p3 b hb
        exact (pinned b hb o e).2
      have len4 : (wipe σ (own.map (·.2))).length = σ4.length := by rw [← same, wipe_length]
      have know : ∀ (j : Nat) v, (wipe σ (own.map (·.2)))[j]? = some (some v) → (wipe σ4 us)[j]? = some (some v) := fun j v e => by
        rw [← same] at e
        obtain ⟨e1, e2⟩ := wipe_some e
        rw [wipe_out fun z => e2 (inner j z)]
        exact e1
      refine thnF (pwb.run _ s4 σ4 H4 _ I4 q4) fun _ s5 z => thnF z fun _ s6 z => ?_
      obtain ⟨itB, feetB, placeB, Jb, H6, rfl, I6, TB, atB, apartB, Rest, ⟨mB, restB⟩, eachB⟩ := z
      have keptB : ∀ {H' : Hp}, (∀ b ∈ feetB, H' b = none) → ∀ b ∈ feetB, FpOk (X.blk sc HC scope env feet) ([] ++ pinsAt feet s3.heap) H' b := fun no b hb => ⟨no b hb, (apartB b hb).2⟩
      have turnsB : codeAny (model X.prog X.w) X.A (.compLoop (.DictComp kx vx [⟨ta, ia, [], 0⟩, ⟨tb, ib, [], 0⟩] scope pos) 1 (.ref itB) (.ref d) env)
          (fun r s' => match r with
            | .ok _ => ∃ m, m < n ∧ ∃ i H', L2.Inv (X.blk sc HC scope env feet) [] (wipe σ (own.map (·.2))) H' s' ∧ place i s'.heap ∧ (∀ b ∈ feet, H' b = none) ∧ Left i m H'
            | .error _ => False) s6 := by
        refine second_walk (fun k s' => ∃ j H', L2.Inv (X.blk sc HC scope env feet) ([] ++ pinsAt feet s3.heap) (wipe σ4 us) H' s' ∧ placeB j s'.heap ∧ (∀ b ∈ feetB, H' b = none) ∧ Rest j k H') ?_ mB ⟨0, H6, I6.weak (wipe_length _ _) (fun j v e => (wipe_some e).1), atB, (fun b hb => (apartB b hb).1), restB⟩
        rintro k s7 ⟨j, H7, I7, p7, no7, rest⟩
        rcases eachB j k H7 rest with ⟨haltB, nx⟩ | ⟨goesB, Then, downB, turnB⟩
        · refine thnF (TB.done (X.blk sc HC scope env feet) rfl rfl rfl calm j _ s7 (wipe σ4 us) H7 (fun _ _ => False) I7 (keptB no7) p7 haltB) fun r s8 z => ?_
          obtain ⟨rfl, I8⟩ := z
          exact ends I8 (len4.trans (wipe_length σ4 us).symm) know nx
        · refine thnF (TB.item (X.blk sc HC scope env feet) rfl rfl rfl calm j _ s7 (wipe σ4 us) H7 (fun _ _ => False) I7 (keptB no7) p7 goesB) fun r s8 z => ?_
          obtain ⟨ub, rfl, gotB⟩ := z
          refine thnF gotB fun _ s9 z => ?_
          obtain ⟨xb, H9, I9, rxb, ylb, p9, no9⟩ := z
          have I9p := I9.pinned (keptB no9) (TB.obj _ _ p9)
          refine thnF (ptb.run _ s9 (wipe σ4 us) H9 xb ub _ I9p rxb (turnB xb H9 ylb)) fun _ s10 z => ?_
          obtain ⟨σ10, H10, I10, sameB, q10⟩ := z
          refine thnF (pky.run _ s10 σ10 H10 _ I10 q10) fun ku s11 z => ?_
          obtain ⟨y, H11, I11, ry, q11⟩ := z
          refine thnF (pvl.run _ s11 σ10 H11 _ I11 q11) fun vu s12 z => ?_
          obtain ⟨zv, H12, I12, rz, es, kk, e12, D12, n12, kd, few, then_⟩ := z
          refine comp_put (X := X.blk sc HC scope env feet) hu I12 e12 D12 n12 kd few ry rz fun s13 I13 => ?_
          obtain ⟨k', lowerB, rest'⟩ := downB _ then_
          have pinnedB : ∀ b ∈ feetB, ∀ o, s9.heap.get? b = some o → s13.heap.get? b = some o ∧ (upd H12 d (DkO X.w d (putE es kk y zv))) b = none := fun b hb o e => by
            have z := I13.pin (b, o) (List.mem_append_right _ (List.mem_append_right _ (mem_pinsAt hb e)))
            exact ⟨z.1, z.2.1⟩
          refine ⟨k', lowerB, j + 1, _, I13.unpinned.weak (by rw [← sameB, wipe_length]) (fun jj v e => ?_), TB.keep _ _ _ p9 fun b hb o e => (pinnedB b hb o e).1, (fun b hb => ?_), rest'⟩
          · rw [← sameB] at e
            exact (wipe_some e).1
          · obtain ⟨o, e, _⟩ := TB.obj _ _ p9 b hb
            exact (pinnedB b hb o e).2
      exact second_begins turnsB (TB.self X.A 0 _ _ _ atB turnsB)
  exact codeAny_compStart_dict turns (T.self X.A 0 _ _ _ at2 turns)
end AK

set_option Elab.async false
set_option linter.all false
set_option maxRecDepth 100000
set_option maxHeartbeats 4000000
namespace AK
open PySem PySem.Spec PyProof.Rows L2
/-! ### how both walks of such a comprehension are told: by the turn and the heap -/
theorem dc2_in {K : PySem.W.Frag} {w : World} {d : Addr} {Jb : It} {n : Nat} {G : Hp → Prop} {Y : Nat → Hp → V → Hp → Prop} {gj : TG} {tk tv : TE} {us : List Nat} {σ2 : L2.St} {H3 : Hp} {Next : Hp → Prop} (W : Walk Jb n G Y) (Pv : Nat → Hp → Prop) (h0 : Pv 0 H3) (hG : ∀ j H, j ≤ n → Pv j H → G H)
    (hs : ∀ j x H H', j < n → Pv j H → Y j H x H' → gj x (wipe σ2 us) H' fun σ3 H4 => wipe σ3 us = wipe σ2 us ∧ tk σ3 H4 fun y H5 => tv σ3 H5 fun z H6 => ∃ es k, H6 d = some (DkO w d es) ∧ DA K w H6 d es ∧ NK K H6 k y ∧ k.depth ≤ 8 ∧ es.length < sizeLine ∧ Pv (j + 1) (upd H6 d (DkO w d (putE es k y z)))) (hd : ∀ H, Pv n H → Next H) :
    ∃ Rest : Nat → Nat → Hp → Prop, (∃ m, Rest 0 m H3) ∧ ∀ j k H, Rest j k H →
      (Jb.stop j H ∧ Next H) ∨ (Jb.go j H ∧ ∃ Then : Hp → Prop, (∀ H', Then H' → ∃ k', k' < k ∧ Rest (j + 1) k' H') ∧ ∀ x H', Jb.yld j H x H' → gj x (wipe σ2 us) H' fun σ3 H4 => wipe σ3 us = wipe σ2 us ∧
        tk σ3 H4 fun y H5 => tv σ3 H5 fun z H6 => ∃ es k, H6 d = some (DkO w d es) ∧ DA K w H6 d es ∧ NK K H6 k y ∧ k.depth ≤ 8 ∧ es.length < sizeLine ∧ Then (upd H6 d (DkO w d (putE es k y z)))) := by
  refine ⟨fun i m H => m = n - i ∧ i ≤ n ∧ Pv i H, ⟨n, by simp, Nat.zero_le _, h0⟩, ?_⟩
  rintro i m H ⟨rfl, hi, p⟩
  have q := hG i H hi p
  by_cases hlt : i < n
  · exact .inr ⟨W.goes i H hlt q, Pv (i + 1), fun H' p' => ⟨n - (i + 1), by omega, rfl, hlt, p'⟩, fun x H' y => hs i x H H' hlt p (W.yields i H x H' hlt q y)⟩
  · have e : i = n := by omega
    subst e
    exact .inl ⟨W.stops H q, hd H p⟩
theorem dc2_out {K : PySem.W.Frag} {w : World} {d : Addr} {J : It} {n : Nat} {G : Hp → Prop} {Y : Nat → Hp → V → Hp → Prop} {g gj : TG} {wj : TI} {tk tv : TE} {vs us : List Nat} {σ : L2.St} {H1 : Hp} {Q : VK} (W : Walk J n G Y) (Pv : Nat → Hp → Prop) (h0 : Pv 0 (upd H1 d (DkO w d []))) (hG : ∀ j H, j ≤ n → Pv j H → G H)
    (hs : ∀ i x H H', i < n → Pv i H → Y i H x H' → g x (wipe σ vs) H' fun σ2 H2 => wipe σ2 vs = wipe σ vs ∧ wj σ2 H2 fun Jb H3 => ∃ Rest : Nat → Nat → Hp → Prop, (∃ m, Rest 0 m H3) ∧ ∀ j k H, Rest j k H →
      (Jb.stop j H ∧ Pv (i + 1) H) ∨ (Jb.go j H ∧ ∃ Then : Hp → Prop, (∀ H', Then H' → ∃ k', k' < k ∧ Rest (j + 1) k' H') ∧ ∀ x H', Jb.yld j H x H' → gj x (wipe σ2 us) H' fun σ3 H4 => wipe σ3 us = wipe σ2 us ∧
        tk σ3 H4 fun y H5 => tv σ3 H5 fun z H6 => ∃ es k, H6 d = some (DkO w d es) ∧ DA K w H6 d es ∧ NK K H6 k y ∧ k.depth ≤ 8 ∧ es.length < sizeLine ∧ Then (upd H6 d (DkO w d (putE es k y z))))) (hd : ∀ H, Pv n H → Q (.ref d) H) :
    ∃ Left : Nat → Nat → Hp → Prop, (∃ m, Left 0 m (upd H1 d (DkO w d []))) ∧ ∀ i m H, Left i m H →
      (J.stop i H ∧ Q (.ref d) H) ∨ (J.go i H ∧ ∃ Next : Hp → Prop, (∀ H', Next H' → ∃ m', m' < m ∧ Left (i + 1) m' H') ∧ ∀ x H', J.yld i H x H' → g x (wipe σ vs) H' fun σ2 H2 => wipe σ2 vs = wipe σ vs ∧
        wj σ2 H2 fun Jb H3 => ∃ Rest : Nat → Nat → Hp → Prop, (∃ m, Rest 0 m H3) ∧ ∀ j k H, Rest j k H →
          (Jb.stop j H ∧ Next H) ∨ (Jb.go j H ∧ ∃ Then : Hp → Prop, (∀ H', Then H' → ∃ k', k' < k ∧ Rest (j + 1) k' H') ∧ ∀ x H', Jb.yld j H x H' → gj x (wipe σ2 us) H' fun σ3 H4 => wipe σ3 us = wipe σ2 us ∧
            tk σ3 H4 fun y H5 => tv σ3 H5 fun z H6 => ∃ es k, H6 d = some (DkO w d es) ∧ DA K w H6 d es ∧ NK K H6 k y ∧ k.depth ≤ 8 ∧ es.length < sizeLine ∧ Then (upd H6 d (DkO w d (putE es k y z))))) := by
  refine ⟨fun i m H => m = n - i ∧ i ≤ n ∧ Pv i H, ⟨n, by simp, Nat.zero_le _, h0⟩, ?_⟩
  rintro i m H ⟨rfl, hi, p⟩
  have q := hG i H hi p
  by_cases hlt : i < n
  · exact .inr ⟨W.goes i H hlt q, Pv (i + 1), fun H' p' => ⟨n - (i + 1), by omega, rfl, hlt, p'⟩, fun x H' y => hs i x H H' hlt p (W.yields i H x H' hlt q y)⟩
  · have e : i = n := by omega
    subst e
    exact .inl ⟨W.stops H q, hd H p⟩
end AK

set_option Elab.async false
set_option linter.all false
set_option maxRecDepth 100000
set_option maxHeartbeats 4000000
namespace AK
open PySem PySem.Spec PyProof.Rows L2
/-! ### a display of such a dict -/
def tPutA (K : PySem.W.Frag) (w : World) (p : Addr) : List Eh → List (V × V) → Hp → (Hp → Prop) → Prop
  | _, [], H, Q => Q H
  | es, (x, y) :: r, H, Q => ∃ k, DA K w H p es ∧ NK K H k x ∧ k.depth ≤ 8 ∧ es.length < sizeLine ∧ tPutA K w p (putE es k x y) r (upd H p (DkO w p (putE es k x y))) Q
/-- {k: v, ..}: all pairs, then they are stored from the left -/
def tDispA (K : PySem.W.Frag) (w : World) (trs : List (TE × TE)) : TE := fun σ H Q => ∀ p, H p = none → tPairs trs σ (upd H p (DkO w p [])) fun ps H2 => H2 p = some (DkO w p []) ∧ tPutA K w p [] ps H2 (Q (.ref p))
section
variable {X : Cx} {pos : Pos}
theorem store_pairsA (hu : X.A.units + 64 < cLine) {pins : List (Addr × Obj)} {σ : L2.St} {p : Addr} {E : PySem.Value → Shared → Prop} : ∀ {ps : List (V × V)} {vs : List (PySem.Value × PySem.Value)} {es : List Eh} {H : Hp} {s : Shared} {Q : Hp → Prop}, VV ps vs → L2.Inv X pins σ H s → H p = some (DkO X.w p es) → tPutA X.K X.w p es ps H Q →
    wpAny (model X.prog X.w) X.A (forIn vs PUnit.unit fun (x : PySem.Value × PySem.Value) (_ : PUnit) => (do dictSet p x.1 x.2; pure (ForInStep.yield PUnit.unit) : Sem (ForInStep PUnit))) (fun _ s' => ∃ H', L2.Inv X pins σ H' s' ∧ Q H') E s
  | _, _, es, H, s, Q, .nil, I, e, q => by
    rw [List.forIn_nil]
    exact wpAny_pure ⟨H, I, q⟩
  | _, _, es, H, s, Q, @Paired.cons _ _ _ a b as bs h t, I, e, q => by
    obtain ⟨x, y⟩ := a
    obtain ⟨k, D, n, kd, hl, q⟩ := q
    rw [List.forIn_cons]
    refine wpAny_bind (wpAny_bind (comp_put hu I e D n kd hl h.1 h.2 fun s' I' => wpAny_pure ?_))
    exact store_pairsA hu t I' upd_same q
theorem pe_dispA {keys : List (Option PySem.Expr)} {values : List PySem.Expr} {trs : List (TE × TE)} (hu : X.A.units + 64 < cLine) (h : PPs X pos keys values trs) (hall : keys.all (·.isSome) = true := by rfl) (hl : keys.length = values.length := by rfl) (h0 : keys ≠ [] := by intro z; cases z)
    (h15 : keys.length ≤ 15 := by decide) : PE X (.Dict keys values pos) (tDispA X.K X.w trs) := by
  refine ⟨fun pins s σ H Q I q => ?_⟩
  have hn := I.hok.fresh (Nat.le_refl s.heap.objs.size)
  have I1 := fresh_dict I
  have q1 := q _ hn
  have len := pairTrees_length keys values X.env pos hall hl
  rw [arm_eval_Dict, zip_pairTrees keys values X.env pos hall hl, dictDisplay_pairs _ (by
    intro he
    rw [he] at len
    exact h0 (List.length_eq_zero_iff.mp len.symm)) (by rw [len]; omega)]
  refine wpAny_bind (wpAny_standAt (wpAny_bind ?_))
  unfold subDict
  refine wpAny_bind (wpAny_alloc ?_)
  refine wpAny_bind (wpAny_holding ?_)
  rw [if_pos (by rw [len]; exact h15)]
  refine wpAny_bind (thn (h.run pins _ σ _ _ I1 q1) fun vs s2 ⟨ps, H2, I2, rel, e, q2⟩ => ?_)
  refine wpAny_holding ?_
  refine wpAny_bind (thn (store_pairsA hu rel I2 e q2) fun _ s3 ⟨H3, I3, q3⟩ => ?_)
  exact wpAny_pure (wpAny_pure (wpAny_pure ⟨.ref s.heap.objs.size, H3, I3, rfl, q3⟩))
end
end AK

set_option Elab.async false
set_option linter.all false
set_option maxRecDepth 100000
set_option maxHeartbeats 4000000
namespace AK
open PySem PySem.Spec PyProof.Rows L2
/-! ### a tuple times 0, times 1 -/
theorem mul_one (l : Addr) (items : Array PySem.Value) (n : Nat) (dd : Option Addr) (sl : Array (Option PySem.Value)) (u : Tok) :
    Meets (Builtin.«tuple.__mul__» ⟨[.ref l, .int 1 u], []⟩) (fun _ R s => s.heap.get? l = some { cls := .type "tuple", dict := dd, data := .seq items n, slots := sl } ∧ R (.ok (.ret (PySem.Value.ref l))) s) :=
  .of_wp fun prog w A R s h => by
    obtain ⟨hp, g, d, tk, os⟩ := s
    obtain ⟨hl, h⟩ := h
    have f1 := AutoSeq1.idx_int
    have c0 : (decide ((1 : Int) < -(2 ^ 63)) || decide ((1 : Int) ≥ 2 ^ 63)) = false := by decide
    have c1 : (items.isEmpty || (1 : Int) == 1) = true := by rw [show ((1 : Int) == 1) = true from rfl, Bool.or_true]
    wp_walk using wpAny_loadPart' hl
    repeat (first
      | (refine wpAny_ite_false (decide_eq_false (by rw [c0]; exact Bool.false_ne_true)) ?_; wp_walk using wpAny_loadPart' hl)
      | (refine wpAny_ite_true (decide_eq_true (by rw [c1])) ?_; wp_walk using wpAny_loadPart' hl))
    exact ⟨_, rfl, h⟩
theorem mul_nil (l : Addr) (items : Array PySem.Value) (n : Nat) (dd : Option Addr) (sl : Array (Option PySem.Value)) (x : Int) (u : Tok) (c0 : (decide (x < -(2 ^ 63)) || decide (x ≥ 2 ^ 63)) = false) (c1 : (items.isEmpty || x == 1) = false) (c2 : (decide (x ≤ 0) || items.isEmpty) = true) :
    Meets (Builtin.«tuple.__mul__» ⟨[.ref l, .int x u], []⟩) (fun _ R s => s.heap.get? l = some { cls := .type "tuple", dict := dd, data := .seq items n, slots := sl } ∧
      R (.ok (.ret (PySem.Value.ref s.heap.objs.size))) { s with heap := s.heap.push { cls := PySem.Value.type "tuple", data := Data.seq #[] }, toks := s.toks }) :=
  .of_wp fun prog w A R s h => by
    obtain ⟨hp, g, d, tk, os⟩ := s
    obtain ⟨hl, h⟩ := h
    have f1 := AutoSeq1.idx_int
    wp_walk using wpAny_loadPart' hl
    repeat (first
      | (refine wpAny_ite_false (decide_eq_false (by rw [c0]; exact Bool.false_ne_true)) ?_; wp_walk using wpAny_loadPart' hl)
      | (refine wpAny_ite_false (decide_eq_false (by rw [c1]; exact Bool.false_ne_true)) ?_; wp_walk using wpAny_loadPart' hl)
      | (refine wpAny_ite_true (decide_eq_true (by rw [c2])) ?_; wp_walk using wpAny_loadPart' hl))
    exact ⟨_, rfl, h⟩
def rRep01 (K : PySem.W.Frag) : R2 := fun x y H Q => ∃ l k xs, x = .ref l ∧ y = .int k ∧ SqT K H l xs ∧ xs ≠ [] ∧ ((k = 1 ∧ Q (.ref l) H) ∨ (-1000 ≤ k ∧ k ≤ 0 ∧ ∀ p, H p = none → Q (.ref p) (upd H p (.tup []))))
theorem op_rep01 {X : Cx} : OpR X (binaryOp .Mult) (rRep01 X.K) := by
  intro pins s σ H x y v u Q I rx ry h
  obtain ⟨l, k, xs, rfl, rfl, hT, hne, q⟩ := h
  cases rx
  obtain ⟨t, rfl⟩ := ry
  obtain ⟨its, r, ⟨⟨cls, dd, data, sl⟩, ho, hc, n, hd⟩, hs⟩ := I.tuple hT
  simp only at hc hd
  subst hc hd
  have hle : its.length = xs.length := r.length.symm
  have hn : its ≠ [] := fun e => hne (by
    rw [e] at hle
    exact List.eq_nil_of_length_eq_zero hle.symm)
  have hi : its.toArray.isEmpty = false := by
    cases its with
    | nil => exact absurd rfl hn
    | cons a b => rfl
  rcases q with ⟨rfl, q⟩ | ⟨k0, k1, q⟩
  · refine wpAny_binaryOp_repeat_ref (T := "tuple") (U := "int") (by decide) ⟨_, ho, rfl⟩ (fun s' => typeIs_int s' 1 t) noFill_tuple_mul F.fills_int_mul F.slot_int_rmul repeat_tuple F.slot_int_index.lookup
      (call_meets F.slot_int_rmul (typeIs_int s 1 t) F.entry_int_rmul (F.args_int_rmul_2 _ _) (int_rmul_tuple 1 t l its.toArray n dd sl)
        ⟨ho, rfl, ⟨_, ho, rfl⟩, call_meets F.slot_tuple_mul ⟨_, ho, rfl⟩ F.entry_tuple_mul (F.args_tuple_mul_2 _ _) (mul_one l its.toArray n dd sl t) ⟨ho, ?_⟩⟩)
    exact ⟨.ref l, H, I, rfl, q⟩
  · have c0 : (decide (k < -(2 ^ 63)) || decide (k ≥ 2 ^ 63)) = false := by
      rw [decide_eq_false (by omega), decide_eq_false (by omega)] <;> rfl
    have c1 : (its.toArray.isEmpty || k == 1) = false := by
      rw [hi, Bool.false_or]
      exact beq_eq_false_iff_ne.mpr (by omega)
    have c2 : (decide (k ≤ 0) || its.toArray.isEmpty) = true := by
      rw [decide_eq_true k1]
      rfl
    refine wpAny_binaryOp_repeat_ref (T := "tuple") (U := "int") (by decide) ⟨_, ho, rfl⟩ (fun s' => typeIs_int s' k t) noFill_tuple_mul F.fills_int_mul F.slot_int_rmul repeat_tuple F.slot_int_index.lookup
      (call_meets F.slot_int_rmul (typeIs_int s k t) F.entry_int_rmul (F.args_int_rmul_2 _ _) (int_rmul_tuple k t l its.toArray n dd sl)
        ⟨ho, rfl, ⟨_, ho, rfl⟩, call_meets F.slot_tuple_mul ⟨_, ho, rfl⟩ F.entry_tuple_mul (F.args_tuple_mul_2 _ _) (mul_nil l its.toArray n dd sl k t c0 c1 c2) ⟨ho, ?_⟩⟩)
    refine ⟨.ref s.heap.objs.size, _, I.laid (t' := s.toks) (o := .tup []) (fun b ob q => Heap.get?_push_of_some _ q) (Nat.le_refl _) ?_, rfl, q _ (I.hok.fresh (Nat.le_refl _))⟩
    exact ⟨Nat.zero_le _, [], .nil, IsTup.new _ _⟩
/-- a tuple times any number from -1000 to 1000 -/
theorem op_repAny {X : Cx} : OpR X (binaryOp .Mult) (fun x y H Q => rRep01 X.K x y H Q ∨ rRepT X.K x y H Q) := by
  intro pins s σ H x y v u Q I rx ry h
  rcases h with h | h
  · exact op_rep01 pins s σ H x y v u Q I rx ry h
  · exact op_repT pins s σ H x y v u Q I rx ry h
end AK

set_option Elab.async false
set_option linter.all false
set_option maxRecDepth 100000
set_option maxHeartbeats 4000000
namespace Tr
open PySem PySem.Spec PyProof.Rows L2

/-! ### what the head must say of an own error's class -/
def xcB (K : PySem.W.Frag) (C : Addr) : Bool := match K.lookup C with
  | some ⟨.type "type", _, .cls cd, sl⟩ => (match cd.mro, sl.toList with
    | .ref C' :: bm, [_, _, _, _, some (.builtin n), _] => C' == C && (n == "ValueError.__new__" && (!cd.hasDel && (cd.hasDict && PySem.HandSPX.refsVE bm)))
    | _, _ => false)
  | _ => false
theorem xcB_ok {K : PySem.W.Frag} {C : Addr} (q : xcB K C = true) :
    ∃ nm qn N bs bm sn sub ab col dd k0 k1 k2 k3 k5, K.lookup C = some (excClassObj nm qn C N bs bm true sn sub ab col dd k0 k1 k2 k3 k5 "ValueError.__new__") ∧ PySem.HandSPX.refsVE bm = true := by
  unfold xcB at q
  split at q
  · rename_i dd cd sl ho
    split at q
    · rename_i C1 bm k0 k1 k2 k3 n k5 hm hs
      obtain ⟨q1, q⟩ := Bool.and_eq_true_iff.mp q
      obtain ⟨q2, q⟩ := Bool.and_eq_true_iff.mp q
      obtain ⟨q3, q⟩ := Bool.and_eq_true_iff.mp q
      obtain ⟨q4, q5⟩ := Bool.and_eq_true_iff.mp q
      have e1 : C1 = C := beq_iff_eq.mp q1
      have e2 : n = "ValueError.__new__" := beq_iff_eq.mp q2
      subst e1 e2
      obtain ⟨nm, bs, mro, ns, qn, hd, sn, sub, ab, col, del⟩ := cd
      dsimp only at hm q3 q4
      obtain ⟨l⟩ := sl
      dsimp only at hs
      subst hm hs q4
      have e3 : del = false := by
        cases del with
        | false => rfl
        | true => cases q3
      subst e3
      exact ⟨nm, qn, ns, bs, bm, sn, sub, ab, col, dd, k0, k1, k2, k3, k5, ho, q5⟩
    · cases q
  · cases q
/-- a class of errors of one's own: how it is made, how its fields are stored and read, how isinstance asks its instances -/
structure Xc (K : PySem.W.Frag) (C : Addr) : Prop where
  o : OexC K C
  f : XfC K C
  i : ExcC K C
def xcAll (K : PySem.W.Frag) (C : Addr) : Bool :=
  xcB K C && (xfB K C && (decide (PySem.W.findIn K (.ref C) "__setattr__" = some (some (.builtin "object.__setattr__"))) && (decide (PySem.W.typeIn K (.ref C) = some (.type "type")) && (PySem.W.keepIn K (.ref C) &&
    (decide (PySem.W.findIn K (.ref C) "__class__" = some (some (.builtin "object.__class__"))) && (decide (PySem.W.specialIn K (.builtin "object.__class__") "__get__" = some (some (.builtin "getset_descriptor.__get__"))) &&
      (decide (PySem.W.takesIn K (.builtin "object.__class__") = some true) && decide (PySem.W.mroIn K C (.type "object") = some true))))))))
theorem xcAll_ok {K : PySem.W.Frag} {C : Addr} (h : xcAll K C = true) : Xc K C := by
  obtain ⟨h1, h⟩ := Bool.and_eq_true_iff.mp h
  obtain ⟨h2, h⟩ := Bool.and_eq_true_iff.mp h
  obtain ⟨h3, h⟩ := Bool.and_eq_true_iff.mp h
  obtain ⟨h4, h⟩ := Bool.and_eq_true_iff.mp h
  obtain ⟨h5, h⟩ := Bool.and_eq_true_iff.mp h
  obtain ⟨h6, h⟩ := Bool.and_eq_true_iff.mp h
  obtain ⟨h7, h⟩ := Bool.and_eq_true_iff.mp h
  obtain ⟨h8, h9⟩ := Bool.and_eq_true_iff.mp h
  have F := xfB_ok h2
  exact ⟨⟨xcB_ok h1, of_decide_eq_true h3, F.exC, of_decide_eq_true h4, h5⟩, F, ⟨F.ga, F.gg, F.exC, F.hdC, of_decide_eq_true h6, of_decide_eq_true h7, of_decide_eq_true h8, of_decide_eq_true h9⟩⟩
/-- isinstance among these classes: each is just itself -/
def kitB1 (K : PySem.W.Frag) (Cs : List Addr) : Bool := Cs.all fun c => Cs.all fun d => decide (PySem.W.kitOne K (.ref c) (.ref d) = some (c == d))
def kitUp (K : PySem.W.Frag) (Cs : List Addr) (t : PySem.Value) : Bool := Cs.all fun c => decide (PySem.W.kitOne K (.ref c) t = some true)
end Tr
/-! ### constants of the written part that are data -/
namespace AK
open PySem PySem.Spec PyProof.Rows L2
mutual
def datB (K : PySem.W.Frag) : Nat → PySem.Value → PyData → Bool
  | 0, _, _ => false
  | n + 1, v, d => match d, v with
    | .none, .none => true
    | .int i, .int j _ => decide (i = j)
    | .str x, .str y _ => decide (x = y)
    | .tuple ds, .ref a => (match K.lookup a with
      | some ⟨.type c, _, .seq its _, _⟩ => decide (c = "tuple") && (decide (its.size ≤ 100) && datsB K n its.toList ds)
      | _ => false)
    | _, _ => false
def datsB (K : PySem.W.Frag) : Nat → List PySem.Value → List PyData → Bool
  | 0, _, _ => false
  | _ + 1, [], [] => true
  | n + 1, v :: vs, d :: ds => datB K n v d && datsB K n vs ds
  | _ + 1, _, _ => false
end
mutual
theorem datB_ok {K : PySem.W.Frag} : ∀ (n : Nat) (v : PySem.Value) (d : PyData), datB K n v d = true → ∃ x, RelV x v ∧ ∀ H, Dp K H x d
  | 0, _, _, h => by
    unfold datB at h
    cases h
  | n + 1, v, d, h => by
    unfold datB at h
    split at h
    · exact ⟨.non, rfl, fun _ => .non⟩
    · rename_i i j t
      obtain rfl := of_decide_eq_true h
      exact ⟨.int i, ⟨t, rfl⟩, fun _ => .int i⟩
    · rename_i x y t
      obtain rfl := of_decide_eq_true h
      exact ⟨.str x, ⟨t, rfl⟩, fun _ => .str x⟩
    · rename_i ds a
      split at h
      · rename_i c od its k sl e
        obtain ⟨h1, h⟩ := Bool.and_eq_true_iff.mp h
        obtain ⟨h2, h3⟩ := Bool.and_eq_true_iff.mp h
        obtain rfl := of_decide_eq_true h1
        have h2 := of_decide_eq_true h2
        obtain ⟨xs, r, q⟩ := datsB_ok n _ _ h3
        have hn : its.size ≤ sizeLine := by
          rw [sizeLine_eq]
          omega
        refine ⟨.ref a, rfl, fun H => .tup (.inr ⟨_, its, k, e, rfl, rfl, hn, r⟩) (q H)⟩
      · cases h
    · cases h
theorem datsB_ok {K : PySem.W.Frag} : ∀ (n : Nat) (vs : List PySem.Value) (ds : List PyData), datsB K n vs ds = true → ∃ xs, Vals xs vs ∧ ∀ H, DpAll K H xs ds
  | 0, _, _, h => by
    unfold datsB at h
    cases h
  | n + 1, [], [], _ => ⟨[], .nil, fun _ => .nil⟩
  | n + 1, v :: vs, d :: ds, h => by
    unfold datsB at h
    obtain ⟨h1, h2⟩ := Bool.and_eq_true_iff.mp h
    obtain ⟨x, r, q⟩ := datB_ok n v d h1
    obtain ⟨xs, rs, qs⟩ := datsB_ok n vs ds h2
    exact ⟨x :: xs, .cons r rs, fun H => .cons (q H) (qs H)⟩
  | n + 1, [], _ :: _, h => by
    unfold datsB at h
    cases h
  | n + 1, _ :: _, [], h => by
    unfold datsB at h
    cases h
end
end AK
namespace Tr
open PySem PySem.Spec PyProof.Rows L2

/-! ### an own error as a value: made by its __init__, kept, its fields read -/
/-- x(e, ..): what __init__ must bear at the new error, which stays tracked -/
def tXmk (C : Addr) (sp : Sp) (ta : TA) : TE := fun σ H Q => ta σ H fun vs H1 =>
  vs.length ≤ 1000 ∧ ∀ a, H1 a = none → sp (.ref a :: vs) (upd H1 a (exo a C none)) (fun v H2 => v = .non ∧ Q (.ref a) H2) E0
section
variable {Y : Cx} {nm : Str} {C fI : Addr} {k : Nat} {fd : FuncData} {ps : List Str} {sp : Sp} {pins : List (Addr × Obj)} {σ : L2.St} {H : Hp}
/-- the class is called with values -/
theorem xmk_run {s : Shared} {us : List PySem.Value} {vs : List V} {Q : VK} (T : OexC Y.K C) (hi : PySem.W.findIn Y.K (.ref C) "__init__" = some (some (.ref fI))) (ht : PySem.W.typeIn Y.K (.ref fI) = some (.type "function"))
    (FF : FnOk Y.prog Y.w Y.K Y.mg Y.base CX0 k fI fd ps sp) (room : Room (k + 1) Y.A) (bs : Binds Y.K fd ps []) (I : L2.Inv Y pins σ H s) (rel : Vals vs us) (small : vs.length ≤ 1000)
    (want : ∀ a, H a = none → sp (.ref a :: vs) (upd H a (exo a C none)) (fun v H2 => v = .non ∧ Q (.ref a) H2) E0) :
    wpAny (model Y.prog Y.w) Y.A (call (.ref C) us) (EP Y pins σ Q) Y.xe s := by
  obtain ⟨n1, n2, n3, n4, bm, n5, n6, n7, n8, n9, l0, l1, l2, l3, l5, look, chain⟩ := T.cls
  obtain ⟨h0, gs, dr, tk, os⟩ := s
  have le1 : h0.objs.size ≤ h0.objs.size + 1 := Nat.le_succ _
  have new1 : H (h0.objs.size + 1) = none := I.hok.fresh le1
  have sp1 := want (h0.objs.size + 1) new1
  have keep2 : ∀ b o, h0.get? b = some o → ((h0.push (PySem.W.kdv_tup us)).push (PySem.HandSPX.excO C h0.objs.size)).get? b = some o :=
    fun b o e => Heap.get?_push_of_some _ (Heap.get?_push_of_some _ e)
  have at2 : ((h0.push (PySem.W.kdv_tup us)).push (PySem.HandSPX.excO C h0.objs.size)).get? (h0.objs.size + 1) = some (PySem.HandSPX.excO C h0.objs.size) := by heap_get
  have J : L2.Inv Y pins σ (upd H (h0.objs.size + 1) (exo (h0.objs.size + 1) C none))
      ⟨(h0.push (PySem.W.kdv_tup us)).push (PySem.HandSPX.excO C h0.objs.size), gs, dr, tk, os⟩ :=
    I.laid (t' := tk) (a := h0.objs.size + 1) (o := exo (h0.objs.size + 1) C none)
      (h' := (h0.push (PySem.W.kdv_tup us)).push (PySem.HandSPX.excO C h0.objs.size)) keep2 le1 (exo_ok at2)
  have relS : Vals (V.ref (h0.objs.size + 1) :: vs) (PySem.Value.ref (h0.objs.size + 1) :: us) := .cons rfl rel
  have lenS : (PySem.Value.ref (h0.objs.size + 1) :: us ++ []).length = ps.length := by
    rw [List.append_nil, ← relS.length]
    exact FF.len _ _ _ _ sp1
  have few : us.length ≤ sizeLine := by
    have e := Paired.length rel
    rw [sizeLine_eq]
    omega
  have bound : BindsTo ⟨(h0.push (PySem.W.kdv_tup us)).push (PySem.HandSPX.excO C h0.objs.size), gs, dr, tk, os⟩ fd ⟨PySem.Value.ref (h0.objs.size + 1) :: us, []⟩ (ps.zip (PySem.Value.ref (h0.objs.size + 1) :: us)) := by
    have b := bs _ (PySem.Value.ref (h0.objs.size + 1) :: us) J.kIn lenS
    rw [List.append_nil] at b
    exact b
  refine wpAny_call (PySem.HandSPX.call_own F.excBase_ValueError (fun Z => PySem.HandSPX.refsVE_contains Z bm chain) (I.kIn _ _ look)
    (PySem.W.looks_findIn I.kIn hi) (fun self => PySem.W.bind_fn I.kIn self ht) few
    (codeAny_mono (FF.run _ Y.stack _ _ _ _ _ _ E0 (room.make C us []) (J.env0.make C us []) bound relS sp1) fun r s' hq => ?_))
  match r, hq with
  | .ok (.ret u), hq =>
    obtain ⟨v, H', K1, rv, ev, q⟩ := J.after hq
    subst ev
    exact ⟨rv, ⟨V.ref (h0.objs.size + 1), H', K1, rfl, q⟩⟩
  | .ok .next, hq => exact hq.elim
  | .ok .brk, hq => exact hq.elim
  | .ok .cont, hq => exact hq.elim
  | .error _, hq => exact hq.elim
theorem pe_xmk {e : PySem.Expr} {es : List PySem.Expr} {ta : TA} {p pos : Pos} (T : OexC Y.K C) (hi : PySem.W.findIn Y.K (.ref C) "__init__" = some (some (.ref fI))) (ht : PySem.W.typeIn Y.K (.ref fI) = some (.type "function"))
    (FF : FnOk Y.prog Y.w Y.K Y.mg Y.base CX0 k fI fd ps sp) (room : Room (k + 1) Y.A) (bs : Binds Y.K fd ps []) (hm : Y.mg nm = some (.ref C)) (ha : PA Y (e :: es) ta) (hg : Gl Y nm := by rfl)
    (nodebug : (nm == ("__debug__" : Str)) = false := by decide) (stars : starEach (e :: es) Y.env = (false, eval e Y.env) :: starEach es Y.env := by rfl)
    (plain : (backTo pos (starEach es Y.env)).any (·.1) = false := by rfl) : PE Y (.Call (.Name nm p) (e :: es) [] pos) (tXmk C sp ta) := by
  refine ⟨fun pins s σ H Q I h => wpAny_Call_Name_kw (ld_glob I hg hm ?_ nodebug)⟩
  refine PySem.W.callWith_K (h₀ := Y.base) I.ok.mod.kin T.kC (thn (ha.run pos pins s σ H _ I h) ?_) stars plain
  rintro us s1 ⟨vs, H1, I1, rel, small, want⟩
  exact ⟨I1.kIn, xmk_run T hi ht FF room bs I1 rel small want⟩
theorem pe_xmk0 {p pos : Pos} (T : OexC Y.K C) (hi : PySem.W.findIn Y.K (.ref C) "__init__" = some (some (.ref fI))) (ht : PySem.W.typeIn Y.K (.ref fI) = some (.type "function"))
    (FF : FnOk Y.prog Y.w Y.K Y.mg Y.base CX0 k fI fd ps sp) (room : Room (k + 1) Y.A) (bs : Binds Y.K fd ps []) (hm : Y.mg nm = some (.ref C)) (hg : Gl Y nm := by rfl)
    (nodebug : (nm == ("__debug__" : Str)) = false := by decide) : PE Y (.Call (.Name nm p) [] [] pos) (tXmk C sp tNil) := by
  refine ⟨fun pins s σ H Q I h => wpAny_Call_Name_kw (ld_glob I hg hm ?_ nodebug)⟩
  exact PySem.W.callWith_K0 I.kIn T.kC (xmk_run (us := []) (vs := []) T hi ht FF room bs I .nil h.1 h.2)

/-- e.f of such an error -/
def tXget (K : PySem.W.Frag) (te : TE) (f : Str) : TE := fun σ H Q => te σ H fun x H1 => ∃ (a C d : Addr) (fs : List (Str × V)) (v : V),
  x = .ref a ∧ H1 a = some (exo a C (some d)) ∧ H1 d = some (exd d fs) ∧ XfC K C ∧ PySem.W.findIn K (.ref C) f = some none ∧ fs.lookup f = some v ∧ Q v H1
theorem xo_inst {h : Heap} {a C d t1 : Addr} {od : Obj} (e : h.get? a = some ({ cls := .ref C, dict := some d, data := .fields #[.ref t1, .none, .none, .none, .bool false, .none] } : Obj)) (hd : h.get? d = some od) :
    PySem.W.InstAt h a { cls := .ref C, dict := some d, data := .fields #[.ref t1, .none, .none, .none, .bool false, .none] } C (some od) := ⟨e, rfl, rfl, hd⟩
theorem pe_xget {e : PySem.Expr} {te : TE} {f : Str} {pos : Pos} (he : PE Y e te) (base : attributeBase e f Y.env (eval e Y.env) = eval e Y.env := by rfl) : PE Y (.Attribute e f pos) (tXget Y.K te f) := by
  refine ⟨fun pins s σ H Q I h => attr_of base (thn (he.run pins s σ H _ I h) ?_)⟩
  rintro u s1 ⟨x, H1, I1, rx, a, C, d, fs, v, rfl, ea, ed, T, hno, hl, q⟩
  obtain rfl : u = PySem.Value.ref a := rx
  obtain ⟨t1, oa⟩ := exo_at I1.hok ea
  obtain ⟨mA, hns, rel⟩ := exd_at I1.hok ed
  obtain ⟨od, ho, look⟩ := lookIn_ns hns
  have some_f : RelO (some v) (mA f) := by
    have z := rel f
    rw [hl] at z
    exact z
  obtain ⟨u2, hu, ru⟩ := RelO.some_of some_f
  have own : PySem.W.lookIn f od = some (some u2) := by rw [look, hu]
  exact PySem.HandSPX.exc_get I1.kIn (xo_inst oa ho) T.ga T.gg T.exC (PySem.W.findObj_own T.hdC hno rfl own) (handed_of ru) ⟨v, H1, I1.tok _, ru, q⟩
end

/-! ### repr of data -/
/-- the shown text of a value that is data -/
def rShow (K : PySem.W.Frag) : List V → Hp → VK → Prop := fun xs H Q => ∃ (a : Addr) (d : PyData), xs = [.ref a] ∧ Dp K H (.ref a) d ∧ d.showable = true ∧ d.hasDict = false ∧ d.depth ≤ 60 ∧ d.shown.length ≤ sizeLine ∧ Q (.str d.shown) H
theorem call_show {Y : Cx} (free : Y.A.guards = some []) (hu : Y.A.units + 64 < cLine) : CallR Y (.builtin "repr") (rShow Y.K) := by
  intro pins s σ H xs us Q I rel h
  obtain ⟨a, d, rfl, hd, hs, nd, deep, short, q⟩ := h
  obtain ⟨u, rfl, ru⟩ := vals1 rel
  obtain rfl : u = PySem.Value.ref a := ru
  obtain ⟨as, rd⟩ := Dp.reads I d (.ref a) (.ref a) hd rfl
  refine repr_of_reads' rd hs (PyData.noDict_hsm nd) free (by omega) (fun _ _ e => e) (fun h' t' tk keep => ?_) short
  exact ⟨.str d.shown, H, I.kept (t' := tk) keep, ⟨_, rfl⟩, q⟩
end Tr
namespace Tr
open PySem PySem.Spec PyProof.Rows L2
/-! ### isinstance of an own error that is held as a value -/
/-- an own error at a: its class C, its dict (none as yet, or one with these fields) -/
def XoAt (H : Hp) (a C : Addr) (fs : Option (List (Str × V))) : Prop := match fs with
  | none => H a = some (exo a C none)
  | some l => ∃ d, H a = some (exo a C (some d)) ∧ H d = some (exd d l)
theorem xo_some {Y : Cx} {pins : List (Addr × Obj)} {σ : L2.St} {H : Hp} {s : Shared} {a C : Addr} {fs : Option (List (Str × V))} (I : L2.Inv Y pins σ H s) (h : XoAt H a C fs) : ∃ ox od, PySem.W.InstAt s.heap a ox C od := by
  cases fs with
  | none =>
    obtain ⟨t, e⟩ := exo_at I.hok (show H a = some (exo a C none) from h)
    exact ⟨_, none, e, rfl, rfl, trivial⟩
  | some l =>
    obtain ⟨d, ea, ed⟩ := h
    obtain ⟨t, oa⟩ := exo_at I.hok ea
    obtain ⟨mA, hns, _⟩ := exd_at I.hok ed
    obtain ⟨od, ho, _⟩ := lookIn_ns hns
    exact ⟨_, some od, xo_inst oa ho⟩
def rIsX (K : PySem.W.Frag) : List V → Hp → VK → Prop := fun xs H Q => ∃ (a C : Addr) (fs : Option (List (Str × V))) (c : V) (cv : PySem.Value) (b : Bool),
  xs = [.ref a, c] ∧ XoAt H a C fs ∧ ClsV c cv ∧ Xc K C ∧ PySem.W.kitOne K (.ref C) cv = some b ∧ Q (.bl b) H
theorem call_isX {Y : Cx} : CallR Y (.builtin "isinstance") (rIsX Y.K) := by
  intro pins s σ H xs us Q I rel h
  obtain ⟨a, C, fs, c, cv, b, rfl, hx, hc, T, e, q⟩ := h
  obtain ⟨u, u2, rfl, ru, rc⟩ := vals2 rel
  obtain rfl : u = PySem.Value.ref a := ru
  obtain rfl := hc.eq rc
  obtain ⟨ox, od, J⟩ := xo_some I hx
  have isC : (PySem.W.clsIn Y.K C).isSome = true := by
    obtain ⟨cd, e, _⟩ := PySem.W.any_some T.f.hdC
    rw [e]
    rfl
  have Z := PySem.W.kitx_exc (x := a) (ox := ox) (od := od) isC T.f.ga T.f.gg T.f.exC T.i.ha T.i.hn T.i.ht T.i.hm
  exact PySem.W.kia_one Z I.kIn J e (fun z => nomatch z) fun tk => ⟨.bl b, H, I.tok tk, rfl, q⟩
end Tr
namespace Tr
open PySem PySem.Spec PyProof.Rows L2
/-! ### a def that runs where nothing is being shown: repr may be asked in it -/
structure GOk (P : Program) (w : World) (K : PySem.W.Frag) (mg : Str → Option PySem.Value) (base : Heap) (k : Nat) (f : Addr) (fd : FuncData) (ps : List Str) (sp : Sp) : Prop where
  len : ∀ vs H Q, sp vs H Q E0 → vs.length = ps.length
  run : ∀ (A : Around) (outer : List Env) (s : Shared) (H : Hp) (args : Args) (us : List PySem.Value) (vs : List V) (Q : VK), Room k A → A.guards = some [] → Env0 P w K mg base A outer s H →
    BindsTo s fd args (ps.zip us) → Vals vs us → sp vs H Q E0 → codeAny (model P w) A (.call (.ref f) args) (CR CX0 outer P w H s Q E0) s
section
variable {P : Program} {w : World} {K : PySem.W.Frag} {mg : Str → Option PySem.Value} {base : Heap} {x qual : Str} {params : Arguments} {body : List PySem.Stmt} {scope : Scope} {f : Addr} {fd : FuncData}
theorem GOk.of {N ps : List Str} {k : Nat} {sp : Sp} {dvs : List V} {kws : List (Str × V)} (D : FunD K x qual params body scope dvs kws f fd) (S : FnScope N ps scope) (len : ∀ vs H Q, sp vs H Q E0 → vs.length = ps.length)
    (walk : ∀ (cdv : PySem.Value) (A : Around) (outer : List Env) (s : Shared) (H : Hp) (vs : List V) (Q : VK), Room k (A.deeper (envOfC qual scope s.heap.objs.size f cdv)) → A.guards = some [] → sp vs H Q E0 →
      ∃ t, PSs (cxOf CX0 P w K mg base N qual scope f cdv A outer s H E0).nox body t ∧ t { nx := fun _ H' => Q .non H', rt := Q } (start N vs) H) : GOk P w K mg base (k + 1) f fd ps sp := by
  obtain ⟨oc, od, dV, kV, doc, pm, an, cdv, ct, osl, rfl, found, isCode, _, _⟩ := D.ex
  refine ⟨len, fun A outer s H args us vs Q room free e0 bound rel h => ?_⟩
  have inK : K.In s.heap := e0.mod.kin.keeps fun b o e => (e0.bs b o e).1
  have roomy : s.heap.NoLimit := e0.mod.nolimit.keeps fun b o e => (e0.bs b o e).1
  have kinds : ∀ y ∈ ps.zip us, scope.names.lookup y.1 = some .local ∨ (scope.names.lookup y.1 = some .cell ∧ ((cellsFrom (s.heap.objs.size + 1) scope.names []).lookup y.1).isSome = true) := by
    rintro ⟨n, v⟩ hy
    exact (S.par n (List.of_mem_zip hy).1).imp id fun c => ⟨c, PySem.W.cellsFrom_some _ _ _ (.inl c)⟩
  refine codeAny_call_function room.depth (inK _ _ found) rfl S.co S.gen rfl (PySem.W.codeRec_of inK isCode) (bound _ _ _ _ (wpAny_newFunctionEnv_cells S.kind kinds ?_))
  rintro env1 rfl s1 into
  refine ⟨roomy.keeps into.toInCall.keep, codeAny_func ?_⟩
  obtain ⟨t, term, reads⟩ := walk cdv A outer s H vs Q (room.deeper _) free h
  have I1 := inv_start (CX := CX0) (P := P) (w := w) (K := K) (mg := mg) (base := base) (qual := qual) (f := f) (cd := cdv) (E := E0) S room.hd e0 (len _ _ _ h) rel into
  refine wpAny_mono (term.nox.run [] s1 (start N vs) H _ I1 reads) (fun fl s' z => ?_) fun _ _ z => z
  have done : ∀ {v : V} {u : PySem.Value} {H' : Hp} {σ' : L2.St}, L2.Inv (cxOf CX0 P w K mg base N qual scope f cdv A outer s H E0) [] σ' H' s' → RelV v u → Q v H' → CE outer P w H s Q u s' :=
    fun {v u H' σ'} J r q => ⟨v, H', J.os, J.bare, J.base, J.hok, r, q⟩
  match fl, z with
  | .ret _, ⟨v, _, H', J, r, q⟩ => exact done J r q
  | .next, ⟨_, H', J, q⟩ => exact done (v := V.non) J rfl q
  | .brk, ⟨_, _, _, q⟩ => exact q.elim
  | .cont, ⟨_, _, _, q⟩ => exact q.elim
end
/-! ### the end: such a def is the law -/
section
variable {P : Program} {w : World} {K : PySem.W.Frag} {mg mb : Str → Option PySem.Value} {k : Nat} {fa a : Addr} {fd : FuncData} {x : Str} {sp : Sp} {s₁ : Shared} {vs : List PySem.Value} {ns : List Int}
theorem law_run (KX : K.In s₁.heap) (gl : s₁.heap.Ns mainGlobals mg) (bl : s₁.heap.Ns builtinsNs mb) (blb : ∀ x : Str, x ≠ "__name__" → mb x = bootBuiltins x) (lim : s₁.heap.NoLimit) (noGens : s₁.gens = #[])
    (script : s₁.heap.get? a = some { cls := .type "list", data := .seq vs.toArray }) (theInts : IntsAre vs ns) (few : ns.length ≤ sizeLine) (room : Room k callerA)
    (FF : ∀ base : Heap, K.In base → base.Ns mainGlobals mg → GOk P w K mg base k fa fd [x] sp) (bound : ∀ (s : Shared) (u : PySem.Value), BindsTo s fd ⟨[u], []⟩ [(x, u)])
    (asks : ∀ H : Hp, SqL K H a (ns.map V.int) → sp [.ref a] H (fun v _ => v = .bl true) E0) :
    codeAny (model P w) callerA (.call (.ref fa) ⟨[.ref a], []⟩) (fun r s' => r = .ok (.ret (.bool true)) ∧ OldK s₁.heap s'.heap ∧ s'.os = s₁.os ∧ AllBare s'.gens) s₁ := by
  have rel : Vals (ns.map V.int) vs := vals_ints theInts
  have sized : vs.length = ns.length := theInts.length
  -- the script is tracked, locked, unless it is an object of the written part
  have main : ∀ H : Hp, (∀ b o, H b = some o → b = a ∧ K.lookup a = none ∧ o = .frz { cls := .type "list", data := .seq vs.toArray } (.lst (ns.map V.int))) → SqL K H a (ns.map V.int) →
      codeAny (model P w) callerA (.call (.ref fa) ⟨[.ref a], []⟩) (fun r s' => r = .ok (.ret (.bool true)) ∧ OldK s₁.heap s'.heap ∧ s'.os = s₁.os ∧ AllBare s'.gens) s₁ := by
    intro H only sq
    have hok : HOk P w H s₁.heap := by
      intro b o e
      obtain ⟨rfl, _, rfl⟩ := only b o e
      exact ⟨script, by rw [List.length_map]; exact few, vs, _, rel, script⟩
    have off : ∀ {b : Addr}, (∀ o, H b ≠ some o) → H b = none := fun {b} z => by
      match e : H b with
      | none => rfl
      | some o => exact absurd e (z o)
    have notDict : ∀ {b : Addr} {o : Obj} {es : Array DictEntry} {n : Nat}, s₁.heap.get? b = some o → o.data = .dict es n → H b = none := fun {b o es n} e d => off fun u q => by
      obtain ⟨rfl, _, _⟩ := only b u q
      rw [script] at e
      obtain rfl := Option.some.inj e
      cases d
    have names : ∀ {b : Addr} {m : Str → Option PySem.Value}, s₁.heap.Ns b m → (hidT s₁.heap H).Ns b m := by
      rintro b m ⟨o, es, n, e, d, r⟩
      exact ⟨o, es, n, hidT_get e (notDict e d), d, r⟩
    have inK : K.In (hidT s₁.heap H) := fun b o e => hidT_get (KX b o e) (off fun u q => by
      obtain ⟨rfl, none_, _⟩ := only b u q
      rw [none_] at e
      cases e)
    obtain ⟨mc, lim1, lim2⟩ := lim
    have mod : Mod K mg (hidT s₁.heap H) := ⟨inK, names gl, ⟨mb, names bl, blb⟩, ⟨mc, names lim1, lim2⟩⟩
    have e0 : Env0 P w K mg (hidT s₁.heap H) callerA [] s₁ H :=
      ⟨rfl, mod, fun _ _ e => of_hidT e, Nat.le_of_eq (hidT_size _ _), trivial, fun _ z => (nomatch z), hok, .of_eq noGens⟩
    refine codeAny_mono ((FF _ inK (names gl)).run callerA [] s₁ H ⟨[.ref a], []⟩ [.ref a] [.ref a] _ room rfl e0 (bound s₁ _) (.cons rfl .nil) (asks H sq)) ?_
    intro r s' z
    match r, z with
    | .ok (.ret u), ⟨v, H', os, bare, un, hok', ru, q⟩ =>
      obtain rfl : v = .bl true := q
      obtain rfl : u = PySem.Value.bool true := ru
      refine ⟨rfl, OldK.of_keep fun b o e => ?_, os, bare⟩
      match eb : H b with
      | none => exact un.keep b o e eb (fun z => nomatch z) (fun z => nomatch z)
      | some u =>
        obtain ⟨rfl, _, rfl⟩ := only b u eb
        obtain ⟨there, _⟩ := hok' _ _ (un.frzs b _ _ eb)
        rw [script] at e
        obtain rfl := Option.some.inj e
        exact there
    | .ok .next, z => exact z.elim
    | .ok .brk, z => exact z.elim
    | .ok .cont, z => exact z.elim
    | .error _, z => exact z.elim
  match ek : K.lookup a with
  | some o =>
    have same := KX a o ek
    rw [script] at same
    obtain rfl := Option.some.inj same
    exact main (fun _ => none) (fun _ _ z => nomatch z) (.inr ⟨_, vs.toArray, _, ek, rfl, rfl, rfl, by rw [List.size_toArray, sized]; exact few, by simpa using rel⟩)
  | none =>
    refine main (fun b => if b = a then some (.frz { cls := .type "list", data := .seq vs.toArray } (.lst (ns.map V.int))) else none) (fun b o z => ?_) (.inl (.inr ⟨_, if_pos rfl⟩))
    by_cases hb : b = a
    · exact ⟨hb, ek, (Option.some.inj ((if_pos hb).symm.trans z)).symm⟩
    · exact nomatch (if_neg hb).symm.trans z
end
/-- for the goal that head_any leaves -/
theorem law_walk {l : PySem.W.OpenLaw} {n k : Nat} {q : Program} {loose : List Str} {XP : (Str → Option PySem.Value) → Heap → Prop} {YP : World → Heap → Prop} {d : DefRec} {x : Str}
    (most : l.most = some n) (small : n ≤ sizeLine) (plain : d.params.defaults = []) (room : Room k callerA)
    (told : ∀ (w : World) (mg : Str → Option PySem.Value) (fa : Addr) (h : Heap), YP w h → h.Ns mainGlobals mg → mg d.name = some (.ref fa) →
      ∃ (K : PySem.W.Frag) (fd : FuncData) (sp : Sp), K.In h ∧ (∀ (s : Shared) (u : PySem.Value), BindsTo s fd ⟨[u], []⟩ [(x, u)]) ∧
        (∀ (H : Hp) (a : Addr) (ns : List Int), ns.length ≤ n → SqL K H a (ns.map V.int) → sp [.ref a] H (fun v _ => v = .bl true) E0) ∧
        ∀ base : Heap, K.In base → base.Ns mainGlobals mg → GOk l.prog w K mg base k fa fd [x] sp) :
    PySem.W.WalkO q loose XP YP l.row.toRowW d [] (fun f vs => PySem.call f vs) := by
  refine Att.attach_call most plain ?_
  intro w s₀ s₁ mg mb fa o pm cd doc a vs ns G Y ho hd hcd hmg script theInts few noGens
  obtain ⟨K, fd, sp, KX, bound, asks, FF⟩ := told w mg fa _ Y G.T.g hmg
  exact law_run KX G.T.g G.T.b G.T.builtins G.T.nolimit noGens script theInts (Nat.le_trans few small) room FF bound fun H z => asks H a ns few z
end Tr
namespace Pen
open PySem PySem.Spec PyProof.Rows L2
/-! ### the pen: a dict of five names -/
def penK (l : Addr) (at_ dg ct fo : Int) : List (Key × V) := [(Sum.inr "cells", .ref l), (Sum.inr "at", .int at_), (Sum.inr "digits", .int dg), (Sum.inr "count", .int ct), (Sum.inr "fold", .int fo)]
section
variable {H : Hp} {p l : Addr} {a d c f z : Int}
theorem get_ {k : Str} {v : V} (e : valV (penK l a d c f) (Sum.inr k) = some v) (h : H p = some (.dK (penK l a d c f))) : DGet H p (.str k) (some v) := by
  have g := DGet.k (k := Sum.inr k) h
  rw [e] at g
  exact g
theorem put_ {k : Str} {v : V} {kvs : List (Key × V)} (e : putK (penK l a d c f) (Sum.inr k) v = kvs) (h : H p = some (.dK (penK l a d c f))) : DPut H p (.str k) v (upd H p (.dK kvs)) := by
  have g := DPut.k (k := Sum.inr k) (v := v) h (small1000 (by show 5 ≤ 1000; decide))
  rw [e] at g
  exact g
theorem gCells (h : H p = some (.dK (penK l a d c f))) : DGet H p (.str "cells") (some (.ref l)) := get_ (by kernel_rfl) h
theorem gAt (h : H p = some (.dK (penK l a d c f))) : DGet H p (.str "at") (some (.int a)) := get_ (by kernel_rfl) h
theorem gDigits (h : H p = some (.dK (penK l a d c f))) : DGet H p (.str "digits") (some (.int d)) := get_ (by kernel_rfl) h
theorem gCount (h : H p = some (.dK (penK l a d c f))) : DGet H p (.str "count") (some (.int c)) := get_ (by kernel_rfl) h
theorem gFold (h : H p = some (.dK (penK l a d c f))) : DGet H p (.str "fold") (some (.int f)) := get_ (by kernel_rfl) h
theorem pAt (h : H p = some (.dK (penK l a d c f))) : DPut H p (.str "at") (.int z) (upd H p (.dK (penK l z d c f))) := put_ (by kernel_rfl) h
theorem pDigits (h : H p = some (.dK (penK l a d c f))) : DPut H p (.str "digits") (.int z) (upd H p (.dK (penK l a z c f))) := put_ (by kernel_rfl) h
theorem pCount (h : H p = some (.dK (penK l a d c f))) : DPut H p (.str "count") (.int z) (upd H p (.dK (penK l a d z f))) := put_ (by kernel_rfl) h
theorem pFold (h : H p = some (.dK (penK l a d c f))) : DPut H p (.str "fold") (.int z) (upd H p (.dK (penK l a d c z))) := put_ (by kernel_rfl) h
end
/-- the pen at p with these fields -/
structure PenV (H : Hp) (p l : Addr) (cells : List Int) (a d c f : Int) : Prop where
  di : H p = some (.dK (penK l a d c f))
  li : H l = some (.lst (cells.map V.int))
  a0 : 0 ≤ a
  d0 : 0 ≤ d
  c0 : 0 ≤ c
  f0 : 0 ≤ f
  f1 : f < 2147483648
/-- a pen at p that was asked at most n times -/
def PenAt (H : Hp) (p l : Addr) (n : Nat) : Prop := ∃ cells a d c f, PenV H p l cells a d c f ∧ c ≤ n
/-- all that was tracked but p is as it was -/
def But (p : Addr) (H H' : Hp) : Prop := ∀ b o, H b = some o → b ≠ p → H' b = some o
theorem But.refl {p : Addr} {H : Hp} : But p H H := fun _ _ e _ => e
theorem But.trans {p : Addr} {H H1 H2 : Hp} (x : But p H H1) (y : But p H1 H2) : But p H H2 := fun b o e n => y b o (x b o e n) n
theorem But.upd {p : Addr} {H H1 : Hp} {o : HO} (x : But p H H1) : But p H (L2.upd H1 p o) := fun b u e n => by rw [upd_ne n]; exact x b u e n
theorem But.same {p : Addr} {H H1 : Hp} (x : Same H H1) : But p H H1 := fun b o e _ => x b o e
theorem PenV.keep {H H' : Hp} {p l : Addr} {cells : List Int} {a d c f : Int} (P : PenV H p l cells a d c f) (s : Same H H') : PenV H' p l cells a d c f := ⟨s _ _ P.di, s _ _ P.li, P.a0, P.d0, P.c0, P.f0, P.f1⟩
theorem PenAt.keep {H H' : Hp} {p l : Addr} {n : Nat} (P : PenAt H p l n) (s : Same H H') : PenAt H' p l n := by
  obtain ⟨cells, a, d, c, f, P, h⟩ := P
  exact ⟨cells, a, d, c, f, P.keep s, h⟩
theorem PenAt.mono {H : Hp} {p l : Addr} {n m : Nat} (P : PenAt H p l n) (h : n ≤ m) : PenAt H p l m := by
  obtain ⟨cells, a, d, c, f, P, h1⟩ := P
  exact ⟨cells, a, d, c, f, P, by omega⟩
theorem PenAt.is {H : Hp} {p l : Addr} {n : Nat} (P : PenAt H p l n) : ∃ kvs, H p = some (.dK kvs) := by
  obtain ⟨cells, a, d, c, f, P, _⟩ := P
  exact ⟨_, P.di⟩
theorem PenAt.lis {H : Hp} {p l : Addr} {n : Nat} (P : PenAt H p l n) : ∃ xs, H l = some (.lst xs) := by
  obtain ⟨cells, a, d, c, f, P, _⟩ := P
  exact ⟨_, P.li⟩
/-- another object changes -/
theorem PenAt.other {H : Hp} {p l D : Addr} {o : HO} {n : Nat} (P : PenAt H p l n) (h1 : D ≠ p) (h2 : D ≠ l) : PenAt (L2.upd H D o) p l n := by
  obtain ⟨cells, a, d, c, f, P, h⟩ := P
  exact ⟨cells, a, d, c, f, ⟨by rw [upd_ne (Ne.symm h1)]; exact P.di, by rw [upd_ne (Ne.symm h2)]; exact P.li, P.a0, P.d0, P.c0, P.f0, P.f1⟩, h⟩
/-- the pen with another dict -/
theorem PenV.set {H : Hp} {p l : Addr} {cells : List Int} {a d c f a' d' c' f' : Int} (P : PenV H p l cells a d c f) (a0 : 0 ≤ a') (d0 : 0 ≤ d') (c0 : 0 ≤ c') (f0 : 0 ≤ f') (f1 : f' < 2147483648) :
    PenV (upd H p (.dK (penK l a' d' c' f'))) p l cells a' d' c' f' :=
  ⟨upd_same, by rw [upd_ne (ne_of P.li P.di (by intro z; cases z))]; exact P.li, a0, d0, c0, f0, f1⟩
/-! ### promises -/
def spPen (K : PySem.W.Frag) : Sp := fun vs H Q _ => ∃ (a : Addr) (ns : List Int), vs = [.ref a] ∧ SqL K H a (ns.map V.int) ∧ ns.length ≤ 63 ∧ ∀ p l H', PenAt H' p l 0 → Same H H' → H p = none → Q (.ref p) H'
def spDraw : Sp := fun vs H Q _ => ∃ (p l : Addr) (n : Nat) (m : Int), vs = [.ref p, .int m] ∧ PenAt H p l n ∧ n ≤ 1000000 ∧ 1 ≤ m ∧ m < 1073741824 ∧
  ∀ r H', 0 ≤ r → r < m → PenAt H' p l (n + 1) → But p H H' → Q (.int r) H'
def spPick (K : PySem.W.Frag) : Sp := fun vs H Q _ => ∃ (p l s : Addr) (n : Nat) (xs : List V), vs = [.ref p, .ref s] ∧ PenAt H p l n ∧ n ≤ 1000000 ∧ SqL K H s xs ∧ xs ≠ [] ∧ xs.length < 1073741824 ∧ s ≠ p ∧
  ∀ (i : Nat) v H', xs[i]? = some v → PenAt H' p l (n + 1) → But p H H' → Q v H'
end Pen
namespace Pen
open PySem PySem.Spec PyProof.Rows L2
theorem But.seq {K : PySem.W.Frag} {p a : Addr} {H H' : Hp} {xs : List V} (s : But p H H') (n : a ≠ p) (h : SqL K H a xs) : SqL K H' a xs := by
  rcases h with (h | ⟨o, h⟩) | h
  · exact .inl (.inl (s _ _ h n))
  · exact .inl (.inr ⟨o, s _ _ h n⟩)
  · exact .inr h
theorem But.seqT {K : PySem.W.Frag} {p a : Addr} {H H' : Hp} {xs : List V} (s : But p H H') (n : a ≠ p) (h : SqT K H a xs) : SqT K H' a xs := by
  rcases h with (h | ⟨o, h⟩) | h
  · exact .inl (.inl (s _ _ h n))
  · exact .inl (.inr ⟨o, s _ _ h n⟩)
  · exact .inr h
/-! ### digits -/
theorem dv_lt : ∀ (cs : List Nat) (a : Nat), NumText.AllDigits cs → cs.foldl (fun acc c => acc * 10 + (c - 48)) a < (a + 1) * 10 ^ cs.length
  | [], a, _ => by
    show a < (a + 1) * 10 ^ 0
    omega
  | c :: cs, a, h => by
    have h0 := h.head
    have z := dv_lt cs (a * 10 + (c - 48)) h.tail
    show cs.foldl (fun acc c => acc * 10 + (c - 48)) (a * 10 + (c - 48)) < (a + 1) * 10 ^ (cs.length + 1)
    have e : (a + 1) * 10 ^ (cs.length + 1) = (a * 10 + 10) * 10 ^ cs.length := by
      rw [Nat.pow_succ, Nat.mul_comm (10 ^ cs.length) 10, ← Nat.mul_assoc]
      have : (a + 1) * 10 = a * 10 + 10 := by omega
      rw [this]
    rw [e]
    refine Nat.lt_of_lt_of_le z (Nat.mul_le_mul_right _ ?_)
    omega
/-- the last fg figures of a number, read back -/
theorem cut_num (n fg : Nat) (h1 : 1 ≤ fg) (short : (TL.numL n).length ≤ 640) :
    ∃ z : Nat, PySem.intText? (cutS (Str.ofString (toString (n : Int))) (some (-(fg : Int))) none) = some (z : Int) ∧ z < 10 ^ fg ∧ (cutS (Str.ofString (toString (n : Int))) (some (-(fg : Int))) none).length ≤ 640 := by
  have hd : (Str.ofString (toString (n : Int))).cps.toList = TL.numL n := TL.tl_num n
  have hlen : (Str.ofString (toString (n : Int))).length = (TL.numL n).length := by
    show (Str.ofString (toString (n : Int))).cps.size = _
    rw [← Array.length_toList, hd]
  have hne : 0 < (TL.numL n).length := List.length_pos_iff.mpr (TL.numL_ne n)
  have shape : cutS (Str.ofString (toString (n : Int))) (some (-(fg : Int))) none = SX.S ((TL.numL n).drop ((TL.numL n).length - fg)) := by
    unfold cutS
    rw [hd, hlen]
    have e1 : HT.sIx (TL.numL n).length 0 (some (-(fg : Int))) = (TL.numL n).length - fg := by
      show (if (-(fg : Int)) < 0 then ((-(fg : Int)) + ((TL.numL n).length : Int)).toNat else _) = _
      rw [if_pos (by omega)]
      omega
    have e2 : HT.sIx (TL.numL n).length (TL.numL n).length none = (TL.numL n).length := rfl
    rw [e1, e2, List.take_of_length_le (by rw [List.length_drop]; omega)]
  have dl : ((TL.numL n).drop ((TL.numL n).length - fg)).length ≤ fg := by rw [List.length_drop]; omega
  have dg : NumText.AllDigits ((TL.numL n).drop ((TL.numL n).length - fg)) := fun c hc => TL.numL_digits n c (List.mem_of_mem_drop hc)
  rw [shape]
  refine ⟨NumText.digitsVal ((TL.numL n).drop ((TL.numL n).length - fg)), SX.int_S ?_ ?_ ?_, ?_, ?_⟩
  · refine List.all_eq_true.mpr fun c hc => ?_
    obtain ⟨a, b⟩ := dg c hc
    rw [decide_eq_true a, decide_eq_true b] <;> rfl
  · intro e
    have := congrArg List.length e
    rw [List.length_drop] at this
    simp at this
    omega
  · rw [List.length_drop]
    omega
  · have z := dv_lt _ 0 dg
    refine Nat.lt_of_lt_of_le z ?_
    rw [Nat.zero_add, Nat.one_mul]
    exact Nat.pow_le_pow_right (by decide) dl
  · rw [SX.S_len, List.length_drop]
    omega
/-- _law_big: a number of at most fg figures -/
def spBig : Sp := fun vs H Q _ => ∃ (p l : Addr) (n fg : Nat), vs = [.ref p, .int fg] ∧ PenAt H p l n ∧ n ≤ 900000 ∧ 1 ≤ fg ∧ fg ≤ 500 ∧
  ∀ (z : Nat) H', z < 10 ^ fg → PenAt H' p l (n + 1 + (fg + 3)) → But p H H' → Q (.int z) H'
end Pen
namespace Tr
open PySem PySem.Spec PyProof.Rows L2
/-! ### defs that run where nothing is being shown; what they hold of code objects -/
structure GFn (P : Program) (w : World) (K : PySem.W.Frag) (mg : Str → Option PySem.Value) (base : Heap) (CX : CXT) (k : Nat) (f : Addr) (fd : FuncData) (ps : List Str) (sp : Sp) : Prop where
  len : ∀ vs H Q E, sp vs H Q E → vs.length = ps.length
  run : ∀ (A : Around) (outer : List Env) (s : Shared) (H : Hp) (args : Args) (us : List PySem.Value) (vs : List V) (Q : VK) (E : XK), Room k A → A.guards = some [] → Env0 P w K mg base A outer s H →
    BindsTo s fd args (ps.zip us) → Vals vs us → sp vs H Q E → codeAny (model P w) A (.call (.ref f) args) (CR CX outer P w H s Q E) s
section
variable {CX : CXT} {P : Program} {w : World} {K : PySem.W.Frag} {mg : Str → Option PySem.Value} {base : Heap} {x qual : Str} {params : Arguments} {body : List PySem.Stmt} {scope : Scope} {f : Addr} {fd : FuncData}
theorem GFn.of {N ps : List Str} {k : Nat} {sp : Sp} {dvs : List V} {kws : List (Str × V)} (D : FunD K x qual params body scope dvs kws f fd) (S : FnScope N ps scope) (len : ∀ vs H Q E, sp vs H Q E → vs.length = ps.length)
    (walk : ∀ (c : Addr) (A : Around) (outer : List Env) (s : Shared) (H : Hp) (vs : List V) (Q : VK) (E : XK), (∀ p, He.fAd K p = f → He.codeOf K p = c) → Room k (A.deeper (envOfC qual scope s.heap.objs.size f (.ref c))) → A.guards = some [] → sp vs H Q E →
      ∃ t, PSs (cxOf CX P w K mg base N qual scope f (.ref c) A outer s H E) body t ∧ t { nx := fun _ H' => Q .non H', rt := Q } (start N vs) H) : GFn P w K mg base CX (k + 1) f fd ps sp := by
  obtain ⟨oc, od, dV, kV, doc, pm, an, cdv, ct, osl, rfl, found, isCode, _, _⟩ := D.ex
  obtain ⟨c, rfl⟩ := He.codeIn_ref isCode
  refine ⟨len, fun A outer s H args us vs Q E room free e0 bound rel h => ?_⟩
  have inK : K.In s.heap := e0.mod.kin.keeps fun b o e => (e0.bs b o e).1
  have roomy : s.heap.NoLimit := e0.mod.nolimit.keeps fun b o e => (e0.bs b o e).1
  have kinds : ∀ y ∈ ps.zip us, scope.names.lookup y.1 = some .local ∨ (scope.names.lookup y.1 = some .cell ∧ ((cellsFrom (s.heap.objs.size + 1) scope.names []).lookup y.1).isSome = true) := by
    rintro ⟨n, v⟩ hy
    exact (S.par n (List.of_mem_zip hy).1).imp id fun c => ⟨c, PySem.W.cellsFrom_some _ _ _ (.inl c)⟩
  refine codeAny_call_function room.depth (inK _ _ found) rfl S.co S.gen rfl (PySem.W.codeRec_of inK isCode) (bound _ _ _ _ (wpAny_newFunctionEnv_cells S.kind kinds ?_))
  rintro env1 rfl s1 into
  refine ⟨roomy.keeps into.toInCall.keep, codeAny_func ?_⟩
  obtain ⟨t, term, reads⟩ := walk c A outer s H vs Q E (fun p e => He.codeOf_eq (by rw [e]; exact found) rfl) (room.deeper _) free h
  have I1 := inv_start (CX := CX) (P := P) (w := w) (K := K) (mg := mg) (base := base) (qual := qual) (f := f) (cd := PySem.Value.ref c) (E := E) S room.hd e0 (len _ _ _ _ h) rel into
  refine wpAny_mono (term.run [] s1 (start N vs) H _ I1 reads) (fun fl s' z => ?_) fun _ _ z => z
  have done : ∀ {v : V} {u : PySem.Value} {H' : Hp} {σ' : L2.St}, L2.Inv (cxOf CX P w K mg base N qual scope f (.ref c) A outer s H E) [] σ' H' s' → RelV v u → Q v H' → CE outer P w H s Q u s' :=
    fun {v u H' σ'} J r q => ⟨v, H', J.os, J.bare, J.base, J.hok, r, q⟩
  match fl, z with
  | .ret _, ⟨v, _, H', J, r, q⟩ => exact done J r q
  | .next, ⟨_, H', J, q⟩ => exact done (v := V.non) J rfl q
  | .brk, ⟨_, _, _, q⟩ => exact q.elim
  | .cont, ⟨_, _, _, q⟩ => exact q.elim
end
section
variable {X : Cx} {CX : CXT} {k : Nat} {f C : Addr} {fd : FuncData} {ps : List Str} {sp : Sp} {E : XK} {x m : Str} {p pos apos : Pos} {e o : Expr} {es : List Expr} {ta : TE} {t : TA}
theorem run_fnG {pins : List (Addr × Obj)} {σ : L2.St} {H : Hp} {s : Shared} {Q : VK} {us : List PySem.Value} {vs : List V} (F : GFn X.prog X.w X.K X.mg X.base CX k f fd ps sp) (hG : X.A.guards = some []) (hr : Room k X.A) (hb : L2.Binds X.K fd ps []) (hx : Passes CX X E)
    (I : L2.Inv X pins σ H s) (r : Vals vs us) (h : sp vs H Q E) : wpAny (model X.prog X.w) X.A (call (.ref f) us) (EP X pins σ Q) X.xe s := by
  have hl : (us ++ []).length = ps.length := by
    rw [List.append_nil, ← r.length]
    exact F.len _ _ _ _ h
  have b := hb s us I.kIn hl
  rw [List.append_nil] at b
  refine wpAny_call (codeAny_mono (F.run X.A X.stack s H ⟨us, []⟩ us vs Q E hr hG I.env0 b r h) fun r s' hq => ?_)
  cases r with
  | error e => exact hx pins σ H s e s' I hq
  | ok fl =>
    cases fl with
    | ret u => exact I.after hq
    | next => exact False.elim hq
    | brk => exact False.elim hq
    | cont => exact False.elim hq
theorem pe_callG (F : GFn X.prog X.w X.K X.mg X.base CX k f fd ps sp) (hG : X.A.guards = some []) (hr : Room k X.A) (hg : Gl X x) (hm : X.mg x = some (.ref f)) (hk : PySem.W.keepIn X.K (.ref f) = true) (hb : L2.Binds X.K fd ps []) (hx : Passes CX X E)
    (ha : PA X (e :: es) t) (hdb : (x == ("__debug__" : Str)) = false := by decide) (he : starEach (e :: es) X.env = (false, eval e X.env) :: starEach es X.env := by rfl) (hpl : (backTo pos (starEach es X.env)).any (·.1) = false := by rfl) :
    PE X (.Call (.Name x p) (e :: es) [] pos) (fun σ H Q => t σ H fun vs H1 => sp vs H1 Q E) := by
  refine ⟨fun pins s σ H Q I h => ?_⟩
  refine wpAny_Call_Name_kw (ld_glob I hg hm ?_ hdb)
  refine PySem.W.callWith_K (h₀ := X.base) I.ok.mod.kin hk (thn (ha.run pos pins s σ H _ I h) fun us s1 ⟨vs, H1, I1, r, q⟩ => ⟨I1.kIn, ?_⟩) he hpl
  exact run_fnG F hG hr hb hx I1 r q
def tMakeG (C : Addr) (sp : Sp) (E : XK) (t : TA) : TE := fun σ H Q => t σ H fun vs H1 => ∀ x dx, H1 x = none → H1 dx = none → dx ≠ x →
  sp (.ref x :: vs) (upd (upd H1 dx (.own x)) x (.ins C dx [])) (fun v H2 => v = .non ∧ Q (.ref x) H2) E
/-- for exceptions that look at the heap from which the call was made: a promise of the class's call as a whole -/
theorem run_makeG {pins : List (Addr × Obj)} {σ : L2.St} {H : Hp} {s : Shared} {Q : VK} {us : List PySem.Value} {vs : List V} (M : Mk X.K C f) (F : GFn X.prog X.w X.K X.mg X.base CX k f fd ps sp) (hG : X.A.guards = some []) (hr : Room (k + 1) X.A) (hb : L2.Binds X.K fd ps [])
    (hx : Passes CX X E) (I : L2.Inv X pins σ H s) (r : Vals vs us)
    (h : ∀ x dx, H x = none → H dx = none → dx ≠ x → sp (.ref x :: vs) (upd (upd H dx (.own x)) x (.ins C dx [])) (fun v H2 => v = .non ∧ Q (.ref x) H2) E) :
    wpAny (model X.prog X.w) X.A (call (.ref C) us) (EP X pins σ Q) X.xe s := by
  have hq := h (s.heap.objs.size + 1) s.heap.objs.size (I.hok.fresh (Nat.le_succ _)) (I.hok.fresh (Nat.le_refl _)) (Nat.ne_of_lt (Nat.lt_succ_self _))
  have I2 := Inv.made (C := C) I
  have r2 : Vals (V.ref (s.heap.objs.size + 1) :: vs) (PySem.Value.ref (s.heap.objs.size + 1) :: us) := .cons rfl r
  have hl : (PySem.Value.ref (s.heap.objs.size + 1) :: us ++ []).length = ps.length := by
    have e := r2.length
    rw [F.len _ _ _ _ hq] at e
    rw [List.append_nil]
    exact e.symm
  have b := hb { s with heap := _ } (PySem.Value.ref (s.heap.objs.size + 1) :: us) I2.kIn hl
  rw [List.append_nil] at b
  have hG2 : (X.A.under (.builtin "type.__call__" ⟨.ref C :: us, []⟩)).guards = some [] := by
    have e1 : (Code.builtin "type.__call__" ⟨.ref C :: us, []⟩).guards = [] := by
      have e2 : (Code.builtin "type.__call__" ⟨.ref C :: us, []⟩).isGuard = false := by
        show guardIds.contains "type.__call__" = false
        decide +kernel
      unfold Code.guards
      rw [e2]
      rfl
    show pushGuards (Code.builtin "type.__call__" ⟨.ref C :: us, []⟩).guards X.A.guards = some []
    rw [e1, hG]
    first | rfl | (rw [pushGuards_eq]; rfl)
  refine wpAny_call (make_map (f := f) I.kIn M.makes M.init (beq_iff_eq.mp M.fn) (codeAny_mono (F.run _ X.stack _ _ ⟨PySem.Value.ref (s.heap.objs.size + 1) :: us, []⟩ (PySem.Value.ref (s.heap.objs.size + 1) :: us) _ _ E (hr.make C us []) hG2
    (I2.env0.make C us []) b r2 hq) fun r s' hq' => ?_))
  cases r with
  | error e => exact hx pins σ _ _ e s' I2 hq'
  | ok fl =>
    cases fl with
    | ret u =>
      obtain ⟨v, H', I3, rv, ev, q3⟩ := I2.after hq'
      subst ev
      exact ⟨rv, ⟨V.ref (s.heap.objs.size + 1), H', I3, rfl, q3⟩⟩
    | next => exact False.elim hq'
    | brk => exact False.elim hq'
    | cont => exact False.elim hq'
theorem pe_makeG (M : Mk X.K C f) (F : GFn X.prog X.w X.K X.mg X.base CX k f fd ps sp) (hG : X.A.guards = some []) (hr : Room (k + 1) X.A) (hg : Gl X x) (hm : X.mg x = some (.ref C)) (hb : L2.Binds X.K fd ps []) (hx : Passes CX X E)
    (ha : PA X (e :: es) t) (hdb : (x == ("__debug__" : Str)) = false := by decide) (he : starEach (e :: es) X.env = (false, eval e X.env) :: starEach es X.env := by rfl) (hpl : (backTo pos (starEach es X.env)).any (·.1) = false := by rfl) :
    PE X (.Call (.Name x p) (e :: es) [] pos) (tMakeG C sp E t) := by
  refine ⟨fun pins s σ H Q I h => ?_⟩
  refine wpAny_Call_Name_kw (ld_glob I hg hm ?_ hdb)
  refine PySem.W.callWith_K (h₀ := X.base) I.ok.mod.kin M.kp (thn (ha.run pos pins s σ H _ I h) fun us s1 ⟨vs, H1, I1, r, q⟩ => ⟨I1.kIn, ?_⟩) he hpl
  exact run_makeG M F hG hr hb hx I1 r q
end
end Tr
namespace Tr
open PySem PySem.Spec PyProof.Rows L2 LamX AK
section
variable {prog : Program} {w : World} {A : Around} {E : PySem.Value → Shared → Prop} {s : Shared} {Q : PySem.Value → Shared → Prop}
theorem repr_any {v : PySem.Value} {d : PyData} {as : List Addr} (r : Reads s.heap v d as) (hs : d.showable = true) (nd : d.hasDict = false) (free : A.guards = some []) (hu : A.units + (d.depth + 1) < cLine) (short : d.shown.length ≤ sizeLine)
    (hQ : ∀ h' u tk, (∀ b o, s.heap.get? b = some o → h'.get? b = some o) → Q (.str d.shown u) { s with heap := h', toks := tk }) : wpAny (model prog w) A (call (.builtin "repr") [v]) Q E s := by
  cases r with
  | none => exact P.repr_of_none (hQ s.heap _ _ fun _ _ e => e)
  | bool b => exact P.repr_of_bool (hQ s.heap _ _ fun _ _ e => e)
  | int i t => exact P.repr_of_int (of_decide_eq_true hs) (hQ s.heap _ _ fun _ _ e => e)
  | str x t => exact P.repr_of_str (hQ s.heap _ _ fun _ _ e => e) short
  | list h1 h2 h3 h4 => exact repr_of_reads' (.list h1 h2 h3 h4) hs (PyData.noDict_hsm nd) free hu (fun _ _ e => e) hQ short
  | tuple h1 h2 h3 h4 => exact repr_of_reads' (.tuple h1 h2 h3 h4) hs (PyData.noDict_hsm nd) free hu (fun _ _ e => e) hQ short
  | dict _ _ _ _ _ => cases nd
end
/-- repr(x) of any data -/
def rShowV (K : PySem.W.Frag) : List V → Hp → VK → Prop := fun xs H Q => ∃ (x : V) (d : PyData), xs = [x] ∧ Dp K H x d ∧ d.showable = true ∧ d.hasDict = false ∧ d.depth ≤ 60 ∧ d.shown.length ≤ sizeLine ∧ Q (.str d.shown) H
theorem call_showV {Y : Cx} (free : Y.A.guards = some []) (hu : Y.A.units + 64 < cLine) : CallR Y (.builtin "repr") (rShowV Y.K) := by
  intro pins s σ H xs us Q I rel h
  obtain ⟨x, d, rfl, hd, hs, nd, deep, short, q⟩ := h
  obtain ⟨u, rfl, ru⟩ := vals1 rel
  obtain ⟨as, rd⟩ := Dp.reads I d x u hd ru
  refine repr_any rd hs nd free (by omega) short (fun h' t' tk keep => ?_)
  exact ⟨.str d.shown, H, I.kept (t' := tk) keep, ⟨_, rfl⟩, q⟩
/-! ### sorted(x, key=lambda n: repr(n)) -/
abbrev Vd := V × PyData
def srt (xs : List Vd) : List Vd := xs.mergeSort (PySem.W.dataLe false fun x : Vd => .str x.2.shown)
theorem srt_perm (xs : List Vd) : (srt xs).Perm xs := List.mergeSort_perm _ _
theorem srt_len (xs : List Vd) : (srt xs).length = xs.length := (srt_perm xs).length_eq
theorem ExtN.rd {H H' : Hp} (e : ExtN H H') {a : Addr} {o : HO} (n : ∀ ps, o ≠ .tbl ps) (h : Rd H a o) : Rd H' a o := h.elim (fun h => .inl (e _ _ h n)) fun ⟨u, h⟩ => .inr ⟨u, e _ _ h fun ps z => nomatch z⟩
theorem ExtN.tups {H H' : Hp} (e : ExtN H H') : Tups H H' := fun a xs h => ExtN.rd e (fun ps z => nomatch z) h
theorem ExtN.seq {K : PySem.W.Frag} {H H' : Hp} (e : ExtN H H') {a : Addr} {xs : List V} (h : SqL K H a xs) : SqL K H' a xs := h.elim (fun h => .inl (ExtN.rd e (fun ps z => nomatch z) h)) .inr
theorem ExtN.da {K : PySem.W.Frag} {w : World} {H H' : Hp} (e : ExtN H H') {d : Addr} {es : List Eh} (D : DA K w H d es) : DA K w H' d es :=
  ⟨ExtN.rd e (fun ps z => nomatch z) D.at_, fun x hx => ⟨(D.nk x hx).1.tups (ExtN.tups e), (D.nk x hx).2⟩, D.nd⟩
/-- its items, in order: a list's, a dict's keys -/
def Colls (K : PySem.W.Frag) (w : World) (H : Hp) (x : V) (xs : List V) : Prop := ∃ a, x = .ref a ∧ (SqL K H a xs ∨ ∃ es : List Eh, DA K w H a es ∧ es.map (·.2.1) = xs)
/-- what is known of the things that are shown -/
def ShowOk (K : PySem.W.Frag) (H : Hp) (p : Vd) : Prop := Dp K H p.1 p.2 ∧ p.2.showable = true ∧ p.2.hasDict = false ∧ p.2.depth ≤ 60 ∧ p.2.shown.length ≤ sizeLine ∧ ∃ k, keyD p.2 = some k
theorem ShowOk.tups {K : PySem.W.Frag} {H H' : Hp} {p : Vd} (t : Tups H H') (h : ShowOk K H p) : ShowOk K H' p := by
  obtain ⟨h1, h2, h3, h4, h5, k, h6⟩ := h
  exact ⟨dp_tups t _ _ k h6 h1, h2, h3, h4, h5, k, h6⟩
section
variable {X : Cx} {pins : List (Addr × Obj)} {σ : L2.St} {H : Hp} {s : Shared}
theorem colls_run {x : V} {xs : List V} {r : Addr} {R : List PySem.Value → Shared → Prop} {E : PySem.Value → Shared → Prop} {A : Around} (hh : A.handled = none) (I : L2.Inv X pins σ H s) (c : Colls X.K X.w H x xs) (e : x = .ref r) (hz : xs.length ≤ sizeLine)
    (h : ∀ (h' : Heap) (tk : Nat) (us : List PySem.Value), (∀ b o, s.heap.get? b = some o → h'.get? b = some o) → Vals xs us → R us { s with heap := h', toks := tk }) : wpAny (model X.prog X.w) A (collect (.ref r)) R E s := by
  obtain ⟨a, rfl, c⟩ := c
  cases e
  rcases c with hs | ⟨es, D, rfl⟩
  · obtain ⟨its, rv, pl, _⟩ := I.list hs
    refine collect_list pl.isList ?_ (by rw [← rv.length]; exact hz)
    refine h _ _ its (fun b o q => ?_) rv
    rw [Heap.get?_update_ne _ _ _ _ (Nat.ne_of_lt (Heap.lt_size q))]
    exact Heap.get?_push_of_some _ q
  · obtain ⟨hd, _, us, ⟨⟨o, arr, ep, ho, hc, hdat, he⟩, his, nd⟩, rel⟩ := D.raw I
    have hsz : arr.size = es.length := by
      rw [ent_size he]
      exact (Paired.length rel).symm
    rw [List.length_map] at hz
    refine PySem.W.kdu_collect (KdlSrc.rawDict hd) hh ⟨o, ho, hc, hdat⟩ (by rw [hsz]; exact hz) fun h' tk acc keep items => h h' tk acc.toList keep ?_
    obtain ⟨hl, hi⟩ := items
    have key : acc.toList = us.map (·.2.1) := by
      refine List.ext_getElem? fun i => ?_
      by_cases hlt : i < arr.size
      · obtain ⟨v, h1⟩ : ∃ v, acc.toList[i]? = some v := ⟨_, List.getElem?_eq_getElem (by rw [Array.length_toList, hl]; exact hlt)⟩
        obtain ⟨hlt2, e2⟩ := hi i v (by rw [← Array.getElem?_toList]; exact h1)
        have h3 : arr[i]? = some arr[i] := Array.getElem?_eq_getElem hlt2
        have h4 := ent_at he i
        rw [h3] at h4
        obtain ⟨f, hf1, hf2⟩ := Option.map_eq_some_iff.mp h4.symm
        rw [h1, e2, List.getElem?_map, hf1, ← hf2]
        rfl
      · rw [List.getElem?_eq_none (by rw [Array.length_toList, hl]; omega), List.getElem?_eq_none (by rw [List.length_map, ← ent_size he]; omega)]
    rw [key]
    clear key
    have gen : ∀ {l : List Eh} {m : List En}, Paired (fun (p : Eh) (q : En) => p.1 = q.1 ∧ RelV p.2.1 q.2.1 ∧ RelV p.2.2 q.2.2) l m → Vals (l.map (·.2.1)) (m.map (·.2.1)) := by
      intro l m q
      induction q with
      | nil => exact .nil
      | cons hq t ih => exact .cons hq.2.1 ih
    exact gen rel
end
end Tr
namespace Tr
open PySem PySem.Spec PyProof.Rows L2 LamX AK
/-- the lambda's scope: its one name is local, repr is none of its own -/
structure LamR (scope : Scope) (n : Str) : Prop where
  kind : scope.kind = .function
  co : scope.isCoroutine = false
  gen : scope.isGenerator = false
  loc : scope.names.lookup n = some .local
  rep : scope.names.lookup ("repr" : Str) = some .globalImplicit
  nocell : ∀ y ∈ scope.names, y.2 ≠ .cell
  nofree : ∀ y ∈ scope.names, y.2 ≠ .free
section
variable {X : Cx} {pins : List (Addr × Obj)} {σ : L2.St} {H : Hp} {s : Shared}
/-- the lambda called where all that was there stays -/
theorem lam_repr {f c' : Addr} {pm ctv : PySem.Value} {params : Arguments} {scope : Scope} {n : Str} {p1 p2 p3 : Pos} {k : Nat} {h : Heap} {tk : Nat} {x : V} {v : PySem.Value} {d : PyData} (I : L2.Inv X pins σ H s) (L : LamR scope n) (hr : Room (k + 3) X.A) (free : X.A.guards = some [])
    (hm : X.mg "repr" = none) (hnd : (n == ("__debug__" : Str)) = false)
    (hf : s.heap.get? f = some (PySem.W.kla_obj "<lambda>" (X.env.qual ++ "<lambda>") params (.Call (.Name "repr" p1) [.Name n p2] [] p3) scope (cloFrom X.env.cells scope.names []) pm c' ctv)) (hc : H c' = some (CodeO c' (X.env.qual ++ "<lambda>")))
    (hbind : ∀ (q : Str) (cl : List (Str × Addr)) (pm cv ctv u : PySem.Value), bindArgs (PySem.W.kla_fn "<lambda>" q params (.Call (.Name "repr" p1) [.Name n p2] [] p3) scope cl pm cv ctv) ⟨[u], []⟩ = pure [(n, u)])
    (kept : ∀ b o, s.heap.get? b = some o → h.get? b = some o) (rx : RelV x v) (hd : ShowOk X.K H (x, d)) :
    wpAny (model X.prog X.w) X.A.in1.in1 (call (.ref f) [v]) (PySem.W.KeyPure (.str d.shown) { s with heap := h, toks := tk }) (fun _ _ => False) { s with heap := h, toks := tk } := by
  have J : L2.Inv X pins σ H { s with heap := h, toks := tk } := I.kept kept
  obtain ⟨hD, hs, nd, deep, short, _⟩ := hd
  obtain ⟨as, rd⟩ := Dp.reads J d x v hD rx
  have of1 := kept _ _ hf
  obtain ⟨⟨oc, vs, t, hoc, hdc, hvc⟩, _, _⟩ := J.hok c' _ hc
  have rc : codeAny (model X.prog X.w) X.A.in1.in1 (.call (.ref f) ⟨[v], []⟩) (fun r s' => ∃ u, r = .ok (.ret u) ∧ PySem.W.KeyPure (.str d.shown) { s with heap := h, toks := tk } u s') { s with heap := h, toks := tk } := by
    refine PySem.W.kla_callFunE (hr.in1.in1).depth of1 rfl L.co L.gen rfl ⟨c', oc, vs, t, rfl, hoc, hdc, hvc⟩ ?_
    rw [hbind]
    refine wpAny_pure (wpAny_newFunctionEnv (fun y hy => L.nocell y hy) (fun y hy => by
      obtain rfl : y = (n, v) := by simpa using hy
      exact L.loc) (fun h₁ hns hsb => ⟨J.nolimit.fresh _ hsb, ?_⟩) L.kind)
    have kp : ∀ b o, h.get? b = some o → h₁.get? b = some o := fun b o e => hsb.extBut b o (Nat.ne_of_lt (Heap.lt_size e)) (Heap.get?_push_of_some _ e)
    have J1 : L2.Inv X pins σ H { s with heap := h₁, toks := tk + 1 } := J.kept kp
    show codeAny _ _ (.expr (.Call (.Name "repr" p1) [.Name n p2] [] p3) (PySem.W.envX (X.env.qual ++ "<lambda>") scope h.objs.size f (.ref c') (cloFrom X.env.cells scope.names []))) _ _
    refine PySem.W.kla_codeExpr ?_
    obtain ⟨mb, b1, b2⟩ := J1.mod.blt
    refine wpAny_Call_Name_kw (Calls.Name_function_global L.kind L.rep (Calls.loadGlobal_builtin (J1.mod.glob.keeps J1.bk) hm (b1.keeps J1.bk) ((b2 "repr" (by decide)).trans boot_repr) ?_) (by decide))
    refine PyProof.Rows.callWith_builtin1 (Calls.spliced_cons ?_) rfl rfl
    show wpAny _ _ (eval (.Name n p2) (PySem.W.envX (X.env.qual ++ "<lambda>") scope h.objs.size f (.ref c') (cloFrom X.env.cells scope.names []))) _ _ _
    refine wpAny_Name (wpAny_loadName_local (m := fun y => ([(n, v)] : List (Str × PySem.Value)).reverse.lookup y) L.kind L.loc hns (show ([(n, v)] : List (Str × PySem.Value)).reverse.lookup n = some v by simp) ?_) hnd
    refine Calls.spliced_nil ?_
    have hu := hr.units
    refine repr_any (PyProof.Rows.Reads.keeps kp rd) hs nd (by exact free) (by
      show X.A.units + 1 + 1 + 3 + (d.depth + 1) < cLine
      have := hr.un
      have deep : d.depth ≤ 60 := deep
      omega) short fun h2 u tk2 keep => ?_
    exact ⟨_, rfl, h2, tk2, rfl, fun b o e => keep b o (kp b o e), .str _ _⟩
  refine wpAny_call (codeAny_mono rc fun r s' hq => ?_)
  obtain ⟨u, rfl, q⟩ := hq
  exact q
/-- the whole call's reading -/
def aSortR (K : PySem.W.Frag) (w : World) (T : List (Addr × Str)) (Q : VK) (x : V) (H1 : Hp) : Prop := Tabs T H1 ∧ ∃ xs : List Vd, Colls K w H1 x (xs.map (·.1)) ∧ (∀ q ∈ xs, ShowOk K H1 q) ∧ xs.length ≤ sizeLine ∧
  ∀ H2 p, ExtN H1 H2 → Tabs T H2 → H2 p = none → Q (.ref p) (upd H2 p (.lst ((srt xs).map (·.1))))
def tSortR (K : PySem.W.Frag) (w : World) (T : List (Addr × Str)) (te : TE) : TE := fun σ H Q => te σ H fun x H1 => aSortR K w T Q x H1
def oneOf (R : V → Hp → Prop) : List V → Hp → Prop := fun vs H => match vs with
  | [x] => R x H
  | _ => False
theorem oneOf_is {R : V → Hp → Prop} {vs : List V} {H : Hp} (h : oneOf R vs H) : ∃ x, vs = [x] ∧ R x H := by
  match vs, h with
  | [x], h => exact ⟨x, rfl, h⟩
theorem objok_get {P : Program} {w : World} {H : Hp} {h : Heap} {a : Addr} {o : HO} (x : ObjOk P w H h a o) : ∃ ob, h.get? a = some ob := by
  cases o with
  | lst xs => obtain ⟨_, _, _, _, e⟩ := x; exact ⟨_, e⟩
  | tup xs => obtain ⟨_, _, _, o, e, _⟩ := x; exact ⟨_, e⟩
  | dK kvs => obtain ⟨_, _, _, _, o, _, _, e, _⟩ := x; exact ⟨_, e⟩
  | dT kvs => obtain ⟨_, _, _, _, o, _, _, e, _⟩ := x; exact ⟨_, e⟩
  | set S n => obtain ⟨o, _, _, _, e, _⟩ := x; exact ⟨_, e⟩
  | ins C dx fs => obtain ⟨_, _, _, e, _⟩ := x; exact ⟨_, e⟩
  | own y => exact x
  | xd fs => obtain ⟨_, ⟨_, _, _, e, _⟩, _⟩ := x; exact ⟨_, e⟩
  | rng lo hi => obtain ⟨_, _, _, e⟩ := x; exact ⟨_, e⟩
  | frz ob u => obtain ⟨e, _⟩ := x; exact ⟨_, e⟩
  | tbl ps => exact ⟨_, x⟩
  | met f y => exact ⟨_, x⟩
  | ext φ => obtain ⟨_, e, _⟩ := x; exact e
theorem each_of : ∀ {xs : List Vd} {us : List PySem.Value}, Vals (xs.map (·.1)) us → PySem.W.EachIs (fun (v : PySem.Value) (x : Vd) => RelV x.1 v) us xs
  | [], _, r => by cases r; exact .nil
  | x :: xs, _, r => by
    cases r with
    | cons h t => exact .cons h (each_of t)
theorem of_each : ∀ {xs : List Vd} {us : List PySem.Value}, PySem.W.EachIs (fun (v : PySem.Value) (x : Vd) => RelV x.1 v) us xs → Vals (xs.map (·.1)) us
  | _, _, .nil => .nil
  | _, _, .cons h t => .cons h (of_each t)
theorem boot_sortedN : bootBuiltins ("sorted" : Str) = some (.builtin "sorted") := by decide +kernel
theorem key_kz {xs : List Vd} : ∀ d ∈ xs.map (fun x : Vd => PyData.str x.2.shown), ∃ z, d = .str z := fun d hd => by
  obtain ⟨x, _, rfl⟩ := List.mem_map.mp hd
  exact ⟨_, rfl⟩
theorem pe_sortR {T : List (Addr × Str)} {c P : Addr} {te : TE} {e : PySem.Expr} {params : Arguments} {scope : Scope} {n : Str} {p pos lp kp p1 p2 p3 : Pos} {k : Nat} (he : PE X e te) (TB : TabB X.base X.mg c P) (hcode : X.env.code = .ref c)
    (hmT : (P, X.env.qual ++ "<lambda>") ∈ T) (huT : ∀ p ∈ T, p.1 = P → p.2 = X.env.qual ++ "<lambda>") (L : LamR scope n) (hr : Room (k + 3) X.A) (free : X.A.guards = some []) (hm : X.mg "repr" = none) (hms : X.mg "sorted" = none) (hgs : Gl X "sorted")
    (hnd : (n == ("__debug__" : Str)) = false) (hdef : defaultsOf params X.env = ([], []))
    (hbind : ∀ (q : Str) (cl : List (Str × Addr)) (pm cv ctv u : PySem.Value), bindArgs (PySem.W.kla_fn "<lambda>" q params (.Call (.Name "repr" p1) [.Name n p2] [] p3) scope cl pm cv ctv) ⟨[u], []⟩ = pure [(n, u)])
    (hst : starEach [e] X.env = (false, eval e X.env) :: starEach [] X.env := by rfl) :
    PE X (.Call (.Name "sorted" p) [e] [⟨some "key", .Lambda params (.Call (.Name "repr" p1) [.Name n p2] [] p3) scope lp, kp⟩] pos) (tSortR X.K X.w T te) := by
  refine ⟨fun pins s σ H Q I h => ?_⟩
  refine wpAny_Call_Name_kw (ld_blt I hgs hms boot_sortedN ?_ (by decide))
  refine PyProof.Rows.callWith_kw (thn ((pa_cons he pa_nil hst).run pos pins s σ H (oneOf (aSortR X.K X.w T Q)) I h) fun xsv s1 ⟨vs, H1, I1, rvs, one⟩ => ?_) (by rw [hst] <;> rfl) (by rw [hst] <;> rfl) rfl rfl
  obtain ⟨x, rfl, hT, xs, hC, hS, hz, q1⟩ := oneOf_is one
  obtain ⟨xv, rfl, rx⟩ := vals1 rvs
  show wpAny _ _ (evalAll [do let v ← eval (.Lambda params (.Call (.Name "repr" p1) [.Name n p2] [] p3) scope lp) X.env; standAt pos; pure v]) _ _ s1
  refine wpAny_evalAll_cons (wpAny_bind (lam_make2 I1 TB hcode hmT huT hT hdef (fun y hy e => absurd e (L.nofree y hy)) fun f c' pm ctv H2 s2 I2 ext hT2 hf hfn hfr hco => ?_))
  refine wpAny_bind (wpAny_standAt (wpAny_pure (wpAny_evalAll_nil ?_)))
  obtain ⟨r, rfl, hC⟩ := hC
  cases rx
  have hC2 : Colls X.K X.w H2 (.ref r) (xs.map (·.1)) := ⟨r, rfl, hC.elim (fun z => .inl (ExtN.seq ext z)) fun ⟨es, D, e⟩ => .inr ⟨es, ExtN.da ext D, e⟩⟩
  have hS2 : ∀ q ∈ xs, ShowOk X.K H2 q := fun q hq => (hS q hq).tups (ExtN.tups ext)
  show wpAny _ _ (call (.builtin "sorted") [.ref r] [(Str.ofString "key", .ref f)]) _ _ s2
  have hz2 : (xs.map (·.1)).length ≤ sizeLine := by
    rw [List.length_map]
    exact hz
  refine call_function_entry_kw PyProof.Rows.kind_sorted PyProof.Rows.plain_sorted PyProof.Rows.entry_sorted (PyProof.Rows.ksk_s1 _ _) ?_
  unfold Builtin.«sorted»
  refine wpAny_bind (m := checkCount "sorted" 1 1 _) (wpAny_pure ?_)
  refine wpAny_bind (colls_run (A := X.A.in1) hr.hd I2 hC2 rfl hz2 fun h' tk us keep rel => ?_)
  have hus : us.length = xs.length := by
    rw [← rel.length, List.length_map]
  refine wpAny_bind (wpAny_newList ?_ (by rw [hus]; exact hz))
  have at1 : (h'.push (seqObj "list" us.toArray 0)).get? h'.objs.size = some (seqObj "list" us.toArray 0) := Heap.get?_push_size _ rfl
  have keep1 : ∀ b o, s2.heap.get? b = some o → b ≠ h'.objs.size ∧ (h'.push (seqObj "list" us.toArray 0)).get? b = some o := fun b o e => ⟨Nat.ne_of_lt (Heap.lt_size (keep b o e)), Heap.get?_push_of_some _ (keep b o e)⟩
  refine wpAny_bind (wpAny_holding (wpAny_call_entry_kw PyProof.Rows.slot_list_sort ⟨_, at1, rfl⟩ PyProof.Rows.entry_list_sort ?_ (PyProof.Rows.ksk_l1 _ _)))
  rw [PyProof.Rows.ksk_t1]
  have alk : PySem.W.AllAlike (xs.map fun x : Vd => PyData.str x.2.shown) := fun d hd d' hd' => by
    obtain ⟨z, rfl⟩ := key_kz d hd
    obtain ⟨z', rfl⟩ := key_kz d' hd'
    rfl
  have srtb : PySem.W.Sortable (xs.map fun x : Vd => PyData.str x.2.shown) := .inr fun d hd => by
    obtain ⟨z, rfl⟩ := key_kz d hd
    exact ⟨(fun e => nomatch e), (fun _ e => nomatch e)⟩
  have eu := each_of rel
  refine PySem.W.keyH_tree (A := X.A.in1.in1) (b := false) (kz := xs.map fun x : Vd => PyData.str x.2.shown) (vs := us) (s := { s2 with heap := h'.push (seqObj "list" us.toArray 0), toks := tk }) at1 (by rw [List.length_map, hus]) (by rw [hus]; exact hz) alk srtb (fun d hd => ?_)
    (PySem.W.keyH_turns (bs := xs) (k := fun x : Vd => PyData.str x.2.shown) (s := { s2 with heap := h'.push (seqObj "list" us.toArray 0), toks := tk }) eu fun v x hR hx g tk2 kp => ?_) fun h3 tk3 out c3 kp hD ko => ?_
  · obtain ⟨z, rfl⟩ := key_kz d hd
    have := hr.un
    show X.A.units + 1 + 1 + 0 < cLine
    omega
  · exact lam_repr (s := s2) (h := g) (tk := tk2) I2 L hr free hm hnd hf hco hbind (fun b o e => kp b o (keep1 b o e).1 (keep1 b o e).2) hR (hS2 x hx)
  · have eo := of_each (PySem.W.keyedOut_each (fun x : Vd => PyData.str x.2.shown) ko eu)
    have np : ∀ o, s2.heap.get? h'.objs.size ≠ some o := fun o e => Nat.lt_irrefl _ (Heap.lt_size (keep _ _ e))
    have n1 : s2.heap.get? h'.objs.size = none := by
      cases q : s2.heap.get? h'.objs.size with
      | none => rfl
      | some o => exact absurd q (np o)
    have n2 : H2 h'.objs.size = none := by
      cases q : H2 h'.objs.size with
      | none => rfl
      | some o =>
        obtain ⟨ob, e⟩ := objok_get (I2.hok _ _ q)
        exact absurd e (np ob)
    refine ⟨_, rfl, wpAny_pure ⟨_, rfl, .ref h'.objs.size, _, I2.laidN (t' := tk3) (fun b o e => kp b o (keep1 b o e).1 (keep1 b o e).2) n1 n2 (show ObjOk X.prog X.w _ h3 _ (.lst ((srt xs).map (·.1))) from ⟨?_, out, c3, eo, hD⟩), rfl, q1 H2 _ ext hT2 n2⟩⟩
    rw [List.length_map, srt_len]
    exact hz
end
end Tr
namespace Tr
open PySem PySem.Spec PyProof.Rows L2 AK
/-- the type of a datum -/
def tyD : PyData → String
  | .none => "NoneType"
  | .bool _ => "bool"
  | .int _ => "int"
  | .str _ => "str"
  | .list _ => "list"
  | .tuple _ => "tuple"
  | .dict _ => "dict"
/-- isinstance(x, c), x a datum, c a built-in type -/
def rIsD (K : PySem.W.Frag) : List V → Hp → VK → Prop := fun xs H Q => ∃ (x : V) (c : String) (d : PyData) (b : Bool), xs = [x, .ty c] ∧ Dp K H x d ∧ kitB (tyD d) c = some b ∧ Q (.bl b) H
theorem call_isD {X : Cx} : CallR X (.builtin "isinstance") (rIsD X.K) := by
  intro pins s σ H xs us Q I r h
  obtain ⟨x, c, d, b, rfl, hD, e, q⟩ := h
  obtain ⟨u1, u2, rfl, r1, r2⟩ := vals2 r
  obtain rfl : u2 = PySem.Value.type c := r2
  have kit : ∃ P : Heap → Prop, PySem.W.KitX X.K u1 (.type (tyD d)) P ∧ P s.heap ∧ u1 ≠ .builtin "__main__.__loader__#opaque" := by
    cases hD with
    | non => cases (show u1 = PySem.Value.none from r1); exact ⟨_, PySem.W.kitx_none, True.intro, fun z => nomatch z⟩
    | bl y => cases (show u1 = PySem.Value.bool y from r1); exact ⟨_, PySem.W.kitx_bool, True.intro, fun z => nomatch z⟩
    | int i => obtain ⟨t, rfl⟩ := r1; exact ⟨_, PySem.W.kitx_int, True.intro, fun z => nomatch z⟩
    | str y => obtain ⟨t, rfl⟩ := r1; exact ⟨_, PySem.W.kitx_str, True.intro, fun z => nomatch z⟩
    | lst hs ha =>
      cases r1
      obtain ⟨its, rv, ⟨o, n, ho, hc, _⟩, _⟩ := I.list hs
      exact ⟨_, PySem.W.kitx_list, ⟨o, ho, hc⟩, fun z => nomatch z⟩
    | tup hs ha =>
      cases r1
      obtain ⟨its, rv, ⟨o, ho, hc, _⟩, _⟩ := I.tuple hs
      exact ⟨_, PySem.W.kitx_tuple, ⟨o, ho, hc⟩, fun z => nomatch z⟩
  obtain ⟨P, Z, p, hx⟩ := kit
  exact PySem.W.kia_one Z I.kIn p (kit_ty e) hx fun tk => ⟨.bl b, H, I.tok tk, rfl, q⟩
def isIntD : PyData → Bool
  | .int _ => true
  | _ => false
def isTupD : PyData → Bool
  | .tuple _ => true
  | _ => false
def notBoolD : PyData → Bool
  | .bool _ => false
  | _ => true
theorem kit_int (d : PyData) (nd : ∀ kvs, d ≠ .dict kvs) : ∃ b, kitB (tyD d) "int" = some b ∧ (b = true → ∃ c, kitB (tyD d) "bool" = some c ∧ (!c) = isIntD d) ∧ (b = false → isIntD d = false) := by
  have k1 : kitB "NoneType" "int" = some false := by decide +kernel
  have k2 : kitB "bool" "int" = some true := by decide +kernel
  have k3 : kitB "int" "int" = some true := by decide +kernel
  have k4 : kitB "str" "int" = some false := by decide +kernel
  have k5 : kitB "list" "int" = some false := by decide +kernel
  have k6 : kitB "tuple" "int" = some false := by decide +kernel
  have k7 : kitB "bool" "bool" = some true := by decide +kernel
  have k8 : kitB "int" "bool" = some false := by decide +kernel
  cases d with
  | none => exact ⟨false, k1, nofun, fun _ => rfl⟩
  | bool b => exact ⟨true, k2, fun _ => ⟨true, k7, rfl⟩, nofun⟩
  | int i => exact ⟨true, k3, fun _ => ⟨false, k8, rfl⟩, nofun⟩
  | str x => exact ⟨false, k4, nofun, fun _ => rfl⟩
  | list xs => exact ⟨false, k5, nofun, fun _ => rfl⟩
  | tuple xs => exact ⟨false, k6, nofun, fun _ => rfl⟩
  | dict kvs => exact absurd rfl (nd kvs)
theorem kit_tup (d : PyData) (nd : ∀ kvs, d ≠ .dict kvs) : kitB (tyD d) "tuple" = some (isTupD d) := by
  have k1 : kitB "NoneType" "tuple" = some false := by decide +kernel
  have k2 : kitB "bool" "tuple" = some false := by decide +kernel
  have k3 : kitB "int" "tuple" = some false := by decide +kernel
  have k4 : kitB "str" "tuple" = some false := by decide +kernel
  have k5 : kitB "list" "tuple" = some false := by decide +kernel
  have k6 : kitB "tuple" "tuple" = some true := by decide +kernel
  cases d with
  | none => exact k1
  | bool b => exact k2
  | int i => exact k3
  | str x => exact k4
  | list xs => exact k5
  | tuple xs => exact k6
  | dict kvs => exact absurd rfl (nd kvs)
theorem dp_nodict {K : PySem.W.Frag} {H : Hp} {v : V} {d : PyData} (h : Dp K H v d) : ∀ kvs, d ≠ .dict kvs := by
  intro kvs e
  subst e
  cases h
/-- called with a datum: whether it is such a one -/
def spAsk (f : PyData → Bool) (K : PySem.W.Frag) : Sp := fun vs H Q _ => ∃ (v : V) (d : PyData), vs = [v] ∧ Dp K H v d ∧ Q (.bl (f d)) H
theorem spAsk_len {f : PyData → Bool} {K : PySem.W.Frag} {x : Str} {vs : List V} {H : Hp} {Q : VK} {E : XK} (h : spAsk f K vs H Q E) : vs.length = [x].length := by
  obtain ⟨v, d, rfl, _⟩ := h
  rfl
end Tr
namespace Tr
open PySem PySem.Spec PyProof.Rows L2 Pen
/-! ### what __init__ of an own error bears: each parameter stored under its name -/
def spI (C : Addr) (fs : List Str) : Sp := fun vs H Q _ => ∃ (a : Addr) (ws : List V), vs = .ref a :: ws ∧ ws.length = fs.length ∧ H a = some (exo a C none) ∧
  ∀ (H' : Hp) (d : Addr), H d = none → H' a = some (exo a C (some d)) → H' d = some (exd d (fs.zip ws).reverse) → But a H H' → Q .non H'
theorem spI_len {C : Addr} {fs : List Str} {vs : List V} {H : Hp} {Q : VK} {E : XK} (h : spI C fs vs H Q E) : vs.length = (("self" : Str) :: fs).length := by
  obtain ⟨a, ws, rfl, hl, _⟩ := h
  exact congrArg Nat.succ hl
theorem XoAt.keep {H H' : Hp} {a C : Addr} {fs : Option (List (Str × V))} (x : XoAt H a C fs) (s : Same H H') : XoAt H' a C fs := by
  cases fs with
  | none => exact s _ _ x
  | some l =>
    obtain ⟨d, e1, e2⟩ := x
    exact ⟨d, s _ _ e1, s _ _ e2⟩
theorem same_new {H H1 : Hp} {a : Addr} {o : HO} (n : H a = none) (b : But a (upd H a o) H1) : Same H H1 := fun c u e => by
  have ne := ne_of_none e n
  exact b c u (by rw [upd_ne ne]; exact e) ne
/-- the first field -/
theorem xo_first {H : Hp} {a C d : Addr} {f : Str} {v : V} (hd : H d = none) (hne : d ≠ a) : XoAt (upd (upd H d (exd d [(f, v)])) a (exo a C (some d))) a C (some [(f, v)]) :=
  ⟨d, upd_same, by rw [upd_ne hne, upd_same]⟩
theorem but_first {H : Hp} {a C d : Addr} {f : Str} {v : V} (hd : H d = none) : But a H (upd (upd H d (exd d [(f, v)])) a (exo a C (some d))) := fun b o e n => by
  rw [upd_ne n, upd_ne (ne_of_none e hd)]
  exact e
/-- a class of errors, all that a body asks -/
structure Er (P : Program) (w : World) (K : PySem.W.Frag) (mg : Str → Option PySem.Value) (base : Heap) (x : Str) (C : Addr) (fs : List Str) : Prop where
  t : Xc K C
  no : ∀ f ∈ fs, PySem.W.findIn K (.ref C) f = some none
  mgx : mg x = some (.ref C)
  ini : ∃ fI fd, PySem.W.findIn K (.ref C) "__init__" = some (some (.ref fI)) ∧ PySem.W.typeIn K (.ref fI) = some (.type "function") ∧ FnOk P w K mg base CX0 1 fI fd ("self" :: fs) (spI C fs) ∧ L2.Binds K fd ("self" :: fs) []
/-- raise x(e, ..) -/
theorem pmk_er {X : Cx} {k : Nat} {x : Str} {C : Addr} {fs : List Str} {ta : TA} {e : PySem.Expr} {es : List PySem.Expr} {p pos : Pos} (T : Er X.prog X.w X.K X.mg X.base x C fs) (hr : Room (k + 2) X.A) (hg : Gl X x) (ha : PA X (e :: es) ta)
    (hdb : (x == ("__debug__" : Str)) = false := by decide) (he : starEach (e :: es) X.env = (false, eval e X.env) :: starEach es X.env := by rfl) (hpl : (backTo pos (starEach es X.env)).any (·.1) = false := by rfl) :
    PMk X (.Call (.Name x p) (e :: es) [] pos) (tMkO C (spI C fs) [] ta) := by
  obtain ⟨fI, fd, i1, i2, F, b⟩ := T.ini
  exact pmk_oex (p := p) (pos := pos) T.t.o i1 i2 F (hr.mono (by omega)) b .nil pass0 hg T.mgx ha hdb he hpl
/-- .. what is to be shown then: cls is the class, its dict is new -/
theorem raise_sp {C : Addr} {fs : List Str} {vs : List V} {H1 : Hp} {Q : XK} (z1 : vs.length = fs.length) (z0 : fs.length ≤ 10) (z3 : ∀ d, H1 d = none → ∀ H2, Same H1 H2 → H2 d = some (.xd (fs.zip vs).reverse) → Q (.ref C) (some d) H2) :
    vs.length ≤ 1000 ∧ ∀ a, H1 a = none → spI C fs (.ref a :: (vs ++ [])) (upd H1 a (exo a C none)) (fun v H2 => v = .non ∧ ∃ (d : Addr) (gs : List (Str × V)), H2 a = some (exo a C (some d)) ∧ H2 d = some (exd d gs) ∧ H1 d = none ∧ Q (.ref C) (some d) (upd (del H2 a) d (.xd gs))) (fun _ _ _ => False) := by
  refine ⟨by omega, fun a na => ⟨a, vs, by rw [List.append_nil], z1, upd_same, fun H' d hd e1 e2 but => ⟨rfl, d, _, e1, e2, ?_, ?_⟩⟩⟩
  · by_cases eda : d = a
    · subst eda
      exact na
    · rw [upd_ne eda] at hd
      exact hd
  · have nda : d ≠ a := by
      rintro rfl
      rw [upd_same] at hd
      cases hd
    have hd1 : H1 d = none := by
      rw [upd_ne nda] at hd
      exact hd
    refine z3 d hd1 _ (fun b o e => ?_) upd_same
    have nb : b ≠ a := ne_of_none e na
    rw [upd_ne (ne_of_none e hd1)]
    show del H' a b = some o
    unfold del
    rw [if_neg nb]
    exact but b o (by rw [upd_ne nb]; exact e) nb
end Tr
namespace Tr
open PySem PySem.Spec PyProof.Rows L2 AK Pen
/-- a value is looked at, else the error C is raised with the fields that are told -/
def spCheck (K : PySem.W.Frag) (f : PyData → Bool) (C : Addr) (fs : V → List (Str × V)) : Sp := fun vs H Q E => ∃ v d, vs = [v] ∧ Dp K H v d ∧ (f d = true → Q .non H) ∧ (f d = false → ∀ dd H2, H dd = none → Same H H2 → H2 dd = some (.xd (fs v)) → E (.ref C) (some dd) H2)
theorem spCheck_len {K : PySem.W.Frag} {f : PyData → Bool} {C : Addr} {fs : V → List (Str × V)} {x : Str} {vs : List V} {H : Hp} {Q : VK} {E : XK} (h : spCheck K f C fs vs H Q E) : vs.length = [x].length := by
  obtain ⟨v, d, rfl, _⟩ := h
  rfl
theorem same_refl {H : Hp} : Same H H := fun _ _ e => e
theorem same_trans {H H1 H2 : Hp} (a : Same H H1) (b : Same H1 H2) : Same H H2 := fun c o e => b c o (a c o e)
theorem same_upd {H : Hp} {a : Addr} {o : HO} (n : H a = none) : Same H (upd H a o) := fun b u e => by
  rw [upd_ne (ne_of_none e n)]
  exact e
theorem same_rd {H H' : Hp} (s : Same H H') {a : Addr} {o : HO} (h : Rd H a o) : Rd H' a o := h.elim (fun h => .inl (s _ _ h)) fun ⟨u, h⟩ => .inr ⟨u, s _ _ h⟩
mutual
theorem dp_same {K : PySem.W.Frag} {H H' : Hp} (s : Same H H') : ∀ (d : PyData) (v : V), Dp K H v d → Dp K H' v d
  | .none, _, h => by cases h; exact .non
  | .bool b, _, h => by cases h; exact .bl b
  | .int i, _, h => by cases h; exact .int i
  | .str x, _, h => by cases h; exact .str x
  | .list ds, _, h => by
    cases h with
    | lst hs ha => exact .lst (hs.elim (fun z => .inl (same_rd s z)) .inr) (dps_same s ds _ ha)
  | .tuple ds, _, h => by
    cases h with
    | tup hs ha => exact .tup (hs.elim (fun z => .inl (same_rd s z)) .inr) (dps_same s ds _ ha)
  | .dict _, _, h => by cases h
theorem dps_same {K : PySem.W.Frag} {H H' : Hp} (s : Same H H') : ∀ (ds : List PyData) (vs : List V), DpAll K H vs ds → DpAll K H' vs ds
  | [], _, h => by cases h; exact .nil
  | d :: ds, _, h => by
    cases h with
    | cons h1 h2 => exact .cons (dp_same s d _ h1) (dps_same s ds _ h2)
end
theorem but_of_same {a : Addr} {H H1 H2 : Hp} (s : Same H H1) (b : But a H1 H2) : But a H H2 := fun c o e n => b c o (s c o e) n
end Tr

set_option Elab.async false
set_option linter.all false
set_option maxRecDepth 100000
set_option maxHeartbeats 4000000
namespace Tr
open PySem PySem.Spec PyProof.Rows L2 AK Pen LamX
theorem yes_if {σ : L2.St} {H : Hp} {A B : Hp → Prop} (h : A H) : tYes σ H (fun b H => if b = true then A H else B H) := by
  show (if true = true then A H else B H)
  rw [if_pos rfl]
  exact h
theorem at_new {T : Hp → Prop} {H1 : Hp} (h : ∀ H2, H2 = H1 → T H2) : T H1 := h H1 rfl
theorem rd_nil {σ : L2.St} {H : Hp} {Q : List V → Hp → Prop} (h : Q [] H) : tNil σ H Q := h
theorem dps_len {K : PySem.W.Frag} : ∀ {xs : List V} {ds : List PyData} {H : Hp}, DpAll K H xs ds → xs.length = ds.length
  | [], _, _, h => by cases h; rfl
  | x :: xs, _, _, h => by
    cases h with
    | cons _ t => exact congrArg Nat.succ (dps_len t)
/-- all but these stay -/
def Stay (S : Addr → Prop) (H H' : Hp) : Prop := ∀ b o, H b = some o → ¬ S b → H' b = some o
theorem Stay.rfl' {S : Addr → Prop} {H : Hp} : Stay S H H := fun _ _ e _ => e
theorem Stay.of {S : Addr → Prop} {H H' : Hp} (s : Same H H') : Stay S H H' := fun b o e _ => s b o e
theorem Stay.trans {S : Addr → Prop} {H H1 H2 : Hp} (a : Stay S H H1) (b : Stay S H1 H2) : Stay S H H2 := fun c o e n => b c o (a c o e n) n
theorem Stay.mono {S S' : Addr → Prop} {H H1 : Hp} (a : Stay S H H1) (h : ∀ b, S b → S' b) : Stay S' H H1 := fun c o e n => a c o e fun z => n (h c z)
theorem Stay.upd {S : Addr → Prop} {H H1 : Hp} {p : Addr} {o : HO} (a : Stay S H H1) (h : S p) : Stay S H (L2.upd H1 p o) := fun c u e n => by
  have ne : c ≠ p := by
    rintro rfl
    exact n h
  rw [upd_ne ne]
  exact a c u e n
theorem Stay.new {S : Addr → Prop} {H H1 : Hp} {p : Addr} {o : HO} (a : Stay S H H1) (h : H p = none) : Stay S H (L2.upd H1 p o) := fun c u e n => by
  rw [upd_ne (ne_of_none e h)]
  exact a c u e n
/-- what changes are no tuples -/
theorem Stay.tups {S : Addr → Prop} {H H' : Hp} (a : Stay S H H') (h : ∀ b, S b → ∀ xs, ¬ Rd H b (.tup xs)) : Tups H H' := fun c xs r => by
  have n : ¬ S c := fun z => h c z xs r
  exact r.elim (fun r => .inl (a c _ r n)) fun ⟨o, r⟩ => .inr ⟨o, a c _ r n⟩
theorem lst_ntup {H : Hp} {l : Addr} {ys : List V} (e : H l = some (.lst ys)) : ∀ xs, ¬ Rd H l (.tup xs) := fun xs h => by
  unfold Rd at h
  rw [e] at h
  rcases h with h | ⟨_, h⟩ <;> cases h
theorem daPut {K : PySem.W.Frag} {w : World} {H : Hp} {d : Addr} {es : List Eh} (D : DA K w H d es) (e : H d = some (DkO w d es)) {k : NestedKey} {v x : V} (n : NK K H k v) (kd : k.depth ≤ 8) : DA K w (upd H d (DkO w d (putE es k v x))) d (putE es k v x) := by
  have t : Tups H (upd H d (DkO w d (putE es k v x))) := Tups.upd (dk_ntup e)
  refine ⟨.inl upd_same, fun f hf => ?_, putE_nd D.nd⟩
  rcases putE_mem hf with ⟨g, hg, e1, e2⟩ | ⟨e1, e2⟩
  · rw [← e1, ← e2]
    exact ⟨(D.nk g hg).1.tups t, (D.nk g hg).2⟩
  · rw [e1, e2]
    exact ⟨n.tups t, kd⟩
theorem daKeep {K : PySem.W.Frag} {w : World} {H H' : Hp} {d : Addr} {es : List Eh} (D : DA K w H d es) (t : Tups H H') (e : Rd H' d (DkO w d es)) : DA K w H' d es := ⟨e, fun x hx => ⟨(D.nk x hx).1.tups t, (D.nk x hx).2⟩, D.nd⟩
theorem atK_mem {es : List Eh} {k : NestedKey} {v : V} (h : atK es k = some v) : ∃ e ∈ es, e.2.2 = v := by
  unfold atK at h
  obtain ⟨e, h1, h2⟩ := Option.map_eq_some_iff.mp h
  exact ⟨e, List.mem_of_find?_eq_some h1, h2⟩
theorem putE_vals {es : List Eh} {k : NestedKey} {u v : V} {e : Eh} (h : e ∈ putE es k u v) : e.2.2 = v ∨ ∃ f ∈ es, f.2.2 = e.2.2 := by
  cases q : atK es k with
  | none =>
    rw [putE_new q] at h
    rcases List.mem_append.mp h with h | h
    · exact .inr ⟨e, h, rfl⟩
    · obtain rfl : e = (k, u, v) := by simpa using h
      exact .inl rfl
  | some y =>
    rw [putE_old q] at h
    obtain ⟨f, hf, rfl⟩ := List.mem_map.mp h
    by_cases z : f.1 = k
    · rw [if_pos z]
      exact .inl rfl
    · rw [if_neg z]
      exact .inr ⟨f, hf, rfl⟩
theorem passE {P : Program} {w : World} {X : Cx} : Passes (L2.CX P w) X E0 := fun _ _ _ _ _ _ _ h => by
  obtain ⟨_, _, _, _, _, _, _, _, _, _, _, _, h⟩ := h
  exact h.elim
/-- all but a and the tables stay -/
def ButN (a : Addr) (H H' : Hp) : Prop := ∀ b o, H b = some o → (∀ ps, o ≠ .tbl ps) → b ≠ a → H' b = some o
/-- tuple(x): one that holds what x holds -/
def rTupOf (K : PySem.W.Frag) : List V → Hp → VK → Prop := fun xs H Q => ∃ x ys, xs = [.ref x] ∧ (SqL K H x ys ∨ SqT K H x ys) ∧ ∀ l H1, Same H H1 → SqT K H1 l ys → Q (.ref l) H1
theorem call_tupR {X : Cx} : CallR X (.type "tuple") (rTupOf X.K) := by
  intro pins s σ H xs us Q I r h
  obtain ⟨x, ys, rfl, hx, q⟩ := h
  exact call_tuple_of pins s σ H _ us Q I r ⟨x, ys, rfl, hx.imp (fun z => ⟨z, fun l nl => q l _ (same_upd nl) (SqT.of upd_same)⟩) fun z => ⟨z, q x H same_refl z⟩⟩
theorem ins_ntup {H : Hp} {a C dx : Addr} {fs : List (Str × V)} (e : H a = some (.ins C dx fs)) : ∀ xs, ¬ Rd H a (.tup xs) := fun xs h => by
  rcases h with h | ⟨u, h⟩ <;> rw [e] at h <;> cases h
/-- not there, or a table -/
def NewB (H : Hp) (b : Addr) : Prop := ∀ o, H b = some o → ∃ ps, o = .tbl ps
theorem ButN.of {a : Addr} {H H' : Hp} (b : But a H H') : ButN a H H' := fun c o e _ n => b c o e n
theorem ButN.trans {a : Addr} {H H1 H2 : Hp} (x : ButN a H H1) (y : ButN a H1 H2) : ButN a H H2 := fun c o e t n => y c o (x c o e t n) t n
theorem ButN.tups {a C dx : Addr} {fs : List (Str × V)} {H H' : Hp} (x : ButN a H H') (ha : H a = some (.ins C dx fs)) : Tups H H' := fun c xs r => by
  have n : c ≠ a := by
    rintro rfl
    exact ins_ntup ha xs r
  rcases r with r | ⟨o, r⟩
  · exact .inl (x _ _ r (fun ps z => nomatch z) n)
  · exact .inr ⟨o, x _ _ r (fun ps z => nomatch z) n⟩
theorem NewB.of {a C dx b : Addr} {fs : List (Str × V)} {H H' : Hp} (x : ButN a H H') (ha : H' a = some (.ins C dx fs)) (n : H' b = none) : NewB H b := fun o e => by
  by_cases t : ∃ ps, o = .tbl ps
  · exact t
  · have nb : b ≠ a := by
      rintro rfl
      rw [ha] at n
      cases n
    rw [x _ _ e (fun ps z => t ⟨ps, z⟩) nb] at n
    cases n
theorem Tabs.but {T : List (Addr × Str)} {a C dx : Addr} {fs : List (Str × V)} {H H' : Hp} (t : Tabs T H) (ha : H a = some (.ins C dx fs)) (b : But a H H') : Tabs T H' := fun p hp => by
  obtain ⟨ps, h1, h2, h3⟩ := t p hp
  refine ⟨ps, b _ _ h1 (ne_of h1 ha fun z => nomatch z), h2, fun pos cv hc => ?_⟩
  obtain ⟨c, e1, e2⟩ := h3 pos cv hc
  exact ⟨c, e1, b _ _ e2 (ne_of e2 ha fun z => nomatch z)⟩
theorem pen_tups {p pl : Addr} {Ha Hb : Hp} {m : Nat} (PA : PenAt Ha p pl m) (b : But p Ha Hb) : Tups Ha Hb := fun c xs h => by
  obtain ⟨kvs, hp⟩ := PA.is
  have n : c ≠ p := by
    rintro rfl
    rcases h with h | ⟨u, h⟩ <;> rw [hp] at h <;> cases h
  exact h.imp (fun h => b _ _ h n) fun ⟨u, h⟩ => ⟨u, b _ _ h n⟩
/-- o.m(..) where what the method lets out is told at the slots -/
def tMethW (C : Addr) (m : Str) (sp : Sp) (E : L2.St → XK) (ta : TE) (t : TA) : TE := fun σ H Q => ta σ H fun x H1 => ∃ a dx fs, x = .ref a ∧ H1 a = some (.ins C dx fs) ∧ fs.lookup m = none ∧ t σ H1 fun vs H2 => sp (x :: vs) H2 Q (E σ)
theorem pe_methW {X : Cx} {CX : CXT} {k : Nat} {C f : Addr} {m : Str} {fd : FuncData} {ps : List Str} {sp : Sp} {E : L2.St → XK} {o e : PySem.Expr} {es : List PySem.Expr} {ta : TE} {t : TA} {apos pos : Pos} {pl : Sem Bool} (he : PE X o ta) (c : Cls X.K C) (hm : Meth X.K C m f)
    (F : FnOk X.prog X.w X.K X.mg X.base CX k f fd ps sp) (hr : Room k X.A) (hb : L2.Binds X.K fd ps []) (hx : ∀ σ, PassesAt CX X σ (E σ)) (ha : PA X (e :: es) t)
    (hst : starEach (e :: es) X.env = (false, eval e X.env) :: starEach es X.env := by rfl) (hpl : (backTo pos (starEach es X.env)).any (·.1) = false := by rfl)
    (ht : eval (.Call (.Attribute o m apos) (e :: es) [] pos) X.env = (do
      let ov ← eval o X.env
      standAt apos.atName
      let (f, first) ← holding [ov] (getMethod ov m pl)
      callWith pos f first (backTo pos (starEach (e :: es) X.env)) (backToKw pos (keywordEach [] X.env))) := by rfl) :
    PE X (.Call (.Attribute o m apos) (e :: es) [] pos) (tMethW C m sp E ta t) := by
  refine ⟨fun pins s σ H Q I h => ?_⟩
  refine PySem.W.methodCall_KW (pl := pl) (thn (he.run pins s σ H _ I h) fun u s1 ⟨x, H1, I1, rx, a, dx, fs, ex, ea, l, q⟩ => ?_) ht
  subst ex
  obtain rfl : u = PySem.Value.ref a := rx
  refine getmeth_ok I1 ea c hm l ?_
  refine PySem.W.callWith_K (first := [.ref a]) (h₀ := X.base) I.ok.mod.kin hm.kp (thn (ha.run pos pins s1 σ H1 _ I1 q) fun us s2 ⟨vs, H2, I2, r, q2⟩ => ⟨I2.kIn, ?_⟩) hst hpl
  exact run_fnS (us := .ref a :: us) (vs := .ref a :: vs) F hr hb (hx σ) I2 (.cons rfl r) q2
/-! ### C(..) within try: what __init__ lets out is told at the slots -/
def tMakeW (C : Addr) (sp : Sp) (E : L2.St → XK) (t : TA) : TE := fun σ H Q => t σ H fun vs H1 => ∀ x dx, H1 x = none → H1 dx = none → dx ≠ x →
  sp (.ref x :: vs) (upd (upd H1 dx (.own x)) x (.ins C dx [])) (fun v H2 => v = .non ∧ Q (.ref x) H2) (E σ)
section
variable {X : Cx} {CX : CXT} {k : Nat} {f C : Addr} {fd : FuncData} {ps : List Str} {sp : Sp} {E : L2.St → XK} {x : Str} {p pos : Pos} {e : PySem.Expr} {es : List PySem.Expr} {t : TA}
theorem run_makeGW {pins : List (Addr × Obj)} {σ : L2.St} {H : Hp} {s : Shared} {Q : VK} {us : List PySem.Value} {vs : List V} (M : Mk X.K C f) (F : GFn X.prog X.w X.K X.mg X.base CX k f fd ps sp) (hG : X.A.guards = some []) (hr : Room (k + 1) X.A) (hb : L2.Binds X.K fd ps [])
    (hx : PassesAt CX X σ (E σ)) (I : L2.Inv X pins σ H s) (r : Vals vs us)
    (h : ∀ x dx, H x = none → H dx = none → dx ≠ x → sp (.ref x :: vs) (upd (upd H dx (.own x)) x (.ins C dx [])) (fun v H2 => v = .non ∧ Q (.ref x) H2) (E σ)) :
    wpAny (model X.prog X.w) X.A (call (.ref C) us) (EP X pins σ Q) X.xe s := by
  have hq := h (s.heap.objs.size + 1) s.heap.objs.size (I.hok.fresh (Nat.le_succ _)) (I.hok.fresh (Nat.le_refl _)) (Nat.ne_of_lt (Nat.lt_succ_self _))
  have I2 := Inv.made (C := C) I
  have r2 : Vals (V.ref (s.heap.objs.size + 1) :: vs) (PySem.Value.ref (s.heap.objs.size + 1) :: us) := .cons rfl r
  have hl : (PySem.Value.ref (s.heap.objs.size + 1) :: us ++ []).length = ps.length := by
    have e := r2.length
    rw [F.len _ _ _ _ hq] at e
    rw [List.append_nil]
    exact e.symm
  have b := hb { s with heap := _ } (PySem.Value.ref (s.heap.objs.size + 1) :: us) I2.kIn hl
  rw [List.append_nil] at b
  have hG2 : (X.A.under (.builtin "type.__call__" ⟨.ref C :: us, []⟩)).guards = some [] := by
    have e1 : (Code.builtin "type.__call__" ⟨.ref C :: us, []⟩).guards = [] := by
      have e2 : (Code.builtin "type.__call__" ⟨.ref C :: us, []⟩).isGuard = false := by
        show guardIds.contains "type.__call__" = false
        decide +kernel
      unfold Code.guards
      rw [e2]
      rfl
    show pushGuards (Code.builtin "type.__call__" ⟨.ref C :: us, []⟩).guards X.A.guards = some []
    rw [e1, hG]
    first | rfl | (rw [pushGuards_eq]; rfl)
  refine wpAny_call (make_map (f := f) I.kIn M.makes M.init (beq_iff_eq.mp M.fn) (codeAny_mono (F.run _ X.stack _ _ ⟨PySem.Value.ref (s.heap.objs.size + 1) :: us, []⟩ (PySem.Value.ref (s.heap.objs.size + 1) :: us) _ _ (E σ) (hr.make C us []) hG2
    (I2.env0.make C us []) b r2 hq) fun r s' hq' => ?_))
  cases r with
  | error e => exact hx pins _ _ e s' I2 hq'
  | ok fl =>
    cases fl with
    | ret u =>
      obtain ⟨v, H', I3, rv, ev, q3⟩ := I2.after hq'
      subst ev
      exact ⟨rv, ⟨V.ref (s.heap.objs.size + 1), H', I3, rfl, q3⟩⟩
    | next => exact False.elim hq'
    | brk => exact False.elim hq'
    | cont => exact False.elim hq'
theorem pe_makeGW (M : Mk X.K C f) (F : GFn X.prog X.w X.K X.mg X.base CX k f fd ps sp) (hG : X.A.guards = some []) (hr : Room (k + 1) X.A) (hg : Gl X x) (hm : X.mg x = some (.ref C)) (hb : L2.Binds X.K fd ps []) (hx : ∀ σ, PassesAt CX X σ (E σ))
    (ha : PA X (e :: es) t) (hdb : (x == ("__debug__" : Str)) = false := by decide) (he : starEach (e :: es) X.env = (false, eval e X.env) :: starEach es X.env := by rfl) (hpl : (backTo pos (starEach es X.env)).any (·.1) = false := by rfl) :
    PE X (.Call (.Name x p) (e :: es) [] pos) (tMakeW C sp E t) := by
  refine ⟨fun pins s σ H Q I h => ?_⟩
  refine wpAny_Call_Name_kw (ld_glob I hg hm ?_ hdb)
  refine PySem.W.callWith_K (h₀ := X.base) I.ok.mod.kin M.kp (thn (ha.run pos pins s σ H _ I h) fun us s1 ⟨vs, H1, I1, r, q⟩ => ⟨I1.kIn, ?_⟩) he hpl
  exact run_makeGW M F hG hr hb (hx σ) I1 r q
/-- a def that needs no free guards, where they are free -/
theorem FnOk.gfn {P : Program} {w : World} {K : PySem.W.Frag} {mg : Str → Option PySem.Value} {base : Heap} (F : FnOk P w K mg base CX k f fd ps sp) : GFn P w K mg base CX k f fd ps sp :=
  ⟨F.len, fun A outer s H args us vs Q E hr _ e0 b r h => F.run A outer s H args us vs Q E hr e0 b r h⟩
end
/-! ### l != [] -/
def rNeE (K : PySem.W.Frag) : R2 := fun x y H Q => ∃ a b xs, x = .ref a ∧ y = .ref b ∧ SqL K H a xs ∧ SqL K H b [] ∧ Q (.bl (decide (xs ≠ []))) H
theorem op_neE {X : Cx} (hu : X.A.units < cLine) : OpR X (compareOp .NotEq) (rNeE X.K) := by
  intro pins s σ H x y v u Q I rx ry h
  obtain ⟨a, b, xs, rfl, rfl, ha, hb, q⟩ := h
  cases rx
  cases ry
  obtain ⟨its, r1, p1, _⟩ := I.list ha
  obtain ⟨its2, r2, p2, _⟩ := I.list hb
  cases r2
  cases r1 with
  | nil => exact SeqAt.RcNeAt.lists (e := fun _ => true) p1.isList p2.isList rfl hu (fun j h => nomatch h) _ _ _ _ ⟨.bl false, H, I, rfl, q⟩
  | cons h t => exact SeqAt.RcNeAt.lists_lengths p1.isList p2.isList (by simp) hu _ _ _ _ ⟨.bl true, H, I, rfl, q⟩
/-- isinstance(x, tuple) of a tuple of anything -/
def rIsTu (K : PySem.W.Frag) : List V → Hp → VK → Prop := fun xs H Q => ∃ a ys, xs = [.ref a, .ty "tuple"] ∧ SqT K H a ys ∧ Q (.bl true) H
theorem call_isTu {X : Cx} : CallR X (.builtin "isinstance") (rIsTu X.K) := by
  intro pins s σ H xs us Q I r h
  obtain ⟨a, ys, rfl, hs, q⟩ := h
  obtain ⟨u1, u2, rfl, r1, r2⟩ := vals2 r
  obtain rfl : u2 = PySem.Value.type "tuple" := r2
  cases r1
  obtain ⟨its, rv, ⟨o, ho, hc, _⟩, _⟩ := I.tuple hs
  exact PySem.W.kia_one PySem.W.kitx_tuple I.kIn ⟨o, ho, hc⟩ (kit_ty (show kitB "tuple" "tuple" = some true by decide +kernel)) (fun z => nomatch z) fun tk => ⟨.bl true, H, I.tok tk, rfl, q⟩
/-! ### what stays while the pen draws, tables change, new things come -/
def Kp (H H' : Hp) : Prop := ∀ b o, H b = some o → (∀ ps, o ≠ .tbl ps) → (∀ kvs, o ≠ .dK kvs) → H' b = some o
theorem Kp.rfl' {H : Hp} : Kp H H := fun _ _ e _ _ => e
theorem Kp.trans {H H1 H2 : Hp} (x : Kp H H1) (y : Kp H1 H2) : Kp H H2 := fun b o e t k => y b o (x b o e t k) t k
theorem Kp.same {H H' : Hp} (s : Same H H') : Kp H H' := fun b o e _ _ => s b o e
theorem Kp.ext {H H' : Hp} (s : ExtN H H') : Kp H H' := fun b o e t _ => s b o e t
theorem Kp.pen {H H' : Hp} {p pl : Addr} {n : Nat} (PA : PenAt H p pl n) (s : But p H H') : Kp H H' := fun b o e _ k => s b o e (by
  rintro rfl
  obtain ⟨kvs, hp⟩ := PA.is
  rw [hp] at e
  cases e
  exact k _ rfl)
theorem Kp.tups {H H' : Hp} (k : Kp H H') : Tups H H' := fun c xs r => r.elim (fun r => .inl (k _ _ r (fun _ z => nomatch z) fun _ z => nomatch z)) fun ⟨u, r⟩ => .inr ⟨u, k _ _ r (fun _ z => nomatch z) fun _ z => nomatch z⟩
theorem Kp.lst {H H' : Hp} (k : Kp H H') {a : Addr} {xs : List V} (e : H a = some (.lst xs)) : H' a = some (.lst xs) := k _ _ e (fun _ z => nomatch z) fun _ z => nomatch z
theorem Kp.tup {H H' : Hp} (k : Kp H H') {a : Addr} {xs : List V} (e : H a = some (.tup xs)) : H' a = some (.tup xs) := k _ _ e (fun _ z => nomatch z) fun _ z => nomatch z
theorem Kp.ins {H H' : Hp} (k : Kp H H') {a C dx : Addr} {fs : List (Str × V)} (e : H a = some (.ins C dx fs)) : H' a = some (.ins C dx fs) := k _ _ e (fun _ z => nomatch z) fun _ z => nomatch z
theorem Kp.dko {w : World} {H H' : Hp} (k : Kp H H') {a : Addr} {es : List Eh} (e : H a = some (DkO w a es)) : H' a = some (DkO w a es) := k _ _ e (fun _ z => nomatch z) fun _ z => nomatch z
theorem Kp.da {K : PySem.W.Frag} {w : World} {H H' : Hp} (k : Kp H H') {a : Addr} {es : List Eh} (D : DA K w H a es) : DA K w H' a es :=
  daKeep D k.tups (D.at_.elim (fun h => .inl (k.dko h)) fun ⟨u, h⟩ => .inr ⟨u, k _ _ h (fun _ z => nomatch z) fun _ z => nomatch z⟩)
theorem Kp.sql {K : PySem.W.Frag} {H H' : Hp} (k : Kp H H') {a : Addr} {xs : List V} (h : SqL K H a xs) : SqL K H' a xs :=
  h.elim (fun h => .inl (h.elim (fun h => .inl (k.lst h)) fun ⟨u, h⟩ => .inr ⟨u, k _ _ h (fun _ z => nomatch z) fun _ z => nomatch z⟩)) .inr
theorem Kp.sqt {K : PySem.W.Frag} {H H' : Hp} (k : Kp H H') {a : Addr} {xs : List V} (h : SqT K H a xs) : SqT K H' a xs := SqT.tups k.tups h
/-- all but the lists that H0 had -/
def Kl (H0 H H' : Hp) : Prop := ∀ b o, H b = some o → (∀ ps, o ≠ .tbl ps) → (∀ kvs, o ≠ .dK kvs) → (NewB H0 b ∨ ∀ xs, o ≠ .lst xs) → H' b = some o
theorem Kp.kl {H0 H H' : Hp} (k : Kp H H') : Kl H0 H H' := fun b o e t d _ => k b o e t d
theorem Kl.upd {H0 H : Hp} {x : Addr} {xs ys zs : List V} (h0 : H0 x = some (.lst xs)) (h1 : H x = some (.lst ys)) : Kl H0 H (L2.upd H x (.lst zs)) := fun b o e _ _ c => by
  have n : b ≠ x := by
    rintro rfl
    rcases c with c | c
    · obtain ⟨ps, z⟩ := c _ h0
      cases z
    · rw [h1] at e
      cases e
      exact c _ rfl
  rw [upd_ne n]
  exact e
theorem Kl.tups {H0 H H' : Hp} (k : Kl H0 H H') : Tups H H' := fun c xs r => r.elim (fun r => .inl (k _ _ r (fun _ z => nomatch z) (fun _ z => nomatch z) (.inr fun _ z => nomatch z))) fun ⟨u, r⟩ => .inr ⟨u, k _ _ r (fun _ z => nomatch z) (fun _ z => nomatch z) (.inr fun _ z => nomatch z)⟩
theorem Kl.da {K : PySem.W.Frag} {w : World} {H0 H H' : Hp} (k : Kl H0 H H') {a : Addr} {es : List Eh} (D : DA K w H a es) : DA K w H' a es :=
  daKeep D k.tups (D.at_.elim (fun h => .inl (k _ _ h (fun _ z => nomatch z) (fun _ z => nomatch z) (.inr fun _ z => nomatch z))) fun ⟨u, h⟩ => .inr ⟨u, k _ _ h (fun _ z => nomatch z) (fun _ z => nomatch z) (.inr fun _ z => nomatch z)⟩)
/-- the pen across all but a and the tables -/
theorem PenAt.butN {H H' : Hp} {a p pl : Addr} {n : Nat} (PA : PenAt H p pl n) (b : ButN a H H') (h1 : p ≠ a) (h2 : pl ≠ a) : PenAt H' p pl n := by
  obtain ⟨cells, x, d, c, f, P, h⟩ := PA
  exact ⟨cells, x, d, c, f, ⟨b _ _ P.di (fun _ z => nomatch z) h1, b _ _ P.li (fun _ z => nomatch z) h2, P.a0, P.d0, P.c0, P.f0, P.f1⟩, h⟩
theorem PenAt.extN {H H' : Hp} {p pl : Addr} {n : Nat} (PA : PenAt H p pl n) (b : ExtN H H') : PenAt H' p pl n := by
  obtain ⟨cells, x, d, c, f, P, h⟩ := PA
  exact ⟨cells, x, d, c, f, ⟨b _ _ P.di (fun _ z => nomatch z), b _ _ P.li (fun _ z => nomatch z), P.a0, P.d0, P.c0, P.f0, P.f1⟩, h⟩
/-! ### tables by key -/
theorem atK_find {α : Type} {kf : α → NestedKey} {nf vf : α → V} {k : NestedKey} : ∀ l : List α, (∃ x ∈ l, kf x = k ∧ atK (l.map fun x => (kf x, nf x, vf x)) k = some (vf x)) ∨ ((∀ x ∈ l, kf x ≠ k) ∧ atK (l.map fun x => (kf x, nf x, vf x)) k = none)
  | [] => .inr ⟨(fun _ h => nomatch h), rfl⟩
  | x :: l => by
    by_cases h : kf x = k
    · exact .inl ⟨x, List.mem_cons_self .., h, atK_pos (e := (kf x, nf x, vf x)) h⟩
    · have e : atK ((x :: l).map fun x => (kf x, nf x, vf x)) k = atK (l.map fun x => (kf x, nf x, vf x)) k := atK_neg (e := (kf x, nf x, vf x)) h
      rcases atK_find (kf := kf) (nf := nf) (vf := vf) (k := k) l with ⟨y, h1, h2, h3⟩ | ⟨h1, h2⟩
      · exact .inl ⟨y, List.mem_cons_of_mem _ h1, h2, e.trans h3⟩
      · exact .inr ⟨fun y hy => (List.mem_cons.mp hy).elim (fun z => z ▸ h) (h1 y), e.trans h2⟩
theorem nodup_inj {α β : Type} {f : α → β} : ∀ {l : List α}, (l.map f).Nodup → ∀ {x y}, x ∈ l → y ∈ l → f x = f y → x = y
  | [], _, _, _, h, _, _ => nomatch h
  | a :: l, nd, x, y, hx, hy, e => by
    have nd2 : f a ∉ l.map f ∧ (l.map f).Nodup := List.nodup_cons.mp (by simpa using nd)
    rcases List.mem_cons.mp hx with e1 | hx2 <;> rcases List.mem_cons.mp hy with e2 | hy2
    · rw [e1, e2]
    · subst e1
      exact (nd2.1 (List.mem_map.mpr ⟨y, hy2, e.symm⟩)).elim
    · subst e2
      exact (nd2.1 (List.mem_map.mpr ⟨x, hx2, e⟩)).elim
    · exact nodup_inj nd2.2 hx2 hy2 e
theorem lay_all {ds : List PyData} {m : Nat} (h : ∀ d ∈ ds, d.canLay0 = true ∧ d.depth ≤ m) : PyData.canLayAll0 ds = true ∧ PyData.depthAll ds ≤ m := by
  induction ds with
  | nil => exact ⟨by simp [PyData.canLayAll0], by simp [PyData.depthAll]⟩
  | cons d ds ih =>
    obtain ⟨h1, h2⟩ := h d (List.mem_cons_self ..)
    obtain ⟨h3, h4⟩ := ih fun d hd => h d (List.mem_cons_of_mem _ hd)
    refine ⟨by simp [PyData.canLayAll0, h1, h3], ?_⟩
    simp only [PyData.depthAll]
    omega
theorem shaped_list {ds : List PyData} (h : ∀ d ∈ ds, d.canLay0 = true ∧ d.depth ≤ 40) : SeqAt.shaped (.list ds) = true := by
  obtain ⟨h1, h2⟩ := lay_all h
  unfold SeqAt.shaped
  rw [show PyData.canLay0 (.list ds) = true by simpa [PyData.canLay0] using h1, show decide (PyData.depth (.list ds) ≤ 64) = true from decide_eq_true (by simp only [PyData.depth]; omega)]
  rfl
theorem shaped_tuple {ds : List PyData} (h : ∀ d ∈ ds, d.canLay0 = true ∧ d.depth ≤ 40) : SeqAt.shaped (.tuple ds) = true := by
  obtain ⟨h1, h2⟩ := lay_all h
  unfold SeqAt.shaped
  rw [show PyData.canLay0 (.tuple ds) = true by simpa [PyData.canLay0] using h1, show decide (PyData.depth (.tuple ds) ≤ 64) = true from decide_eq_true (by simp only [PyData.depth]; omega)]
  rfl
theorem shaped_flat {d : PyData} (h1 : d.canLay0 = true) (h2 : d.depth ≤ 40) : SeqAt.shaped d = true := by
  unfold SeqAt.shaped
  rw [h1, decide_eq_true (show d.depth ≤ 64 by omega)]
  rfl
theorem Tabs.pen {T : List (Addr × Str)} {p pl : Addr} {n : Nat} {H H' : Hp} (t : Tabs T H) (PA : PenAt H p pl n) (b : But p H H') : Tabs T H' := fun x hx => by
  obtain ⟨ps, h1, h2, h3⟩ := t x hx
  obtain ⟨kvs, hp⟩ := PA.is
  refine ⟨ps, b _ _ h1 (ne_of h1 hp fun z => nomatch z), h2, fun pos cv hc => ?_⟩
  obtain ⟨c, e1, e2⟩ := h3 pos cv hc
  exact ⟨c, e1, b _ _ e2 (ne_of e2 hp fun z => nomatch z)⟩
/-- from H to H': what stays, the pen, the tables -/
structure Go (T : List (Addr × Str)) (p pl : Addr) (H H' : Hp) (m : Nat) : Prop where
  kp : Kp H H'
  pen : PenAt H' p pl m
  tabs : Tabs T H'
section
variable {T : List (Addr × Str)} {p pl : Addr} {H H1 H2 : Hp} {m k : Nat}
theorem Go.same (g : Go T p pl H H1 m) (s : Same H1 H2) : Go T p pl H H2 m := ⟨g.kp.trans (.same s), g.pen.keep s, g.tabs.ext s⟩
theorem Go.draw (g : Go T p pl H H1 m) (PA : PenAt H2 p pl k) (b : But p H1 H2) : Go T p pl H H2 k := ⟨g.kp.trans (.pen g.pen b), PA, Tabs.pen g.tabs g.pen b⟩
theorem Go.mono (g : Go T p pl H H1 m) (h : m ≤ k) : Go T p pl H H1 k := ⟨g.kp, g.pen.mono h, g.tabs⟩
end
theorem cut_take {xs : List V} {n : Nat} (h : n ≤ xs.length) : cutV xs none (some (n : Int)) = xs.take n := by
  unfold cutV
  rw [HT.sIx_nat, HT.sIx_none, Nat.min_eq_left h, List.drop_zero, Nat.sub_zero]
theorem cut_drop {xs : List V} {n : Nat} (h : n ≤ xs.length) : cutV xs (some (n : Int)) none = xs.drop n := by
  unfold cutV
  rw [HT.sIx_nat, HT.sIx_none, Nat.min_eq_left h]
  exact List.take_of_length_le (by rw [List.length_drop]; omega)
theorem Tabs.updL {T : List (Addr × Str)} {H : Hp} {x : Addr} {xs ys : List V} (t : Tabs T H) (h : H x = some (.lst xs)) : Tabs T (L2.upd H x (.lst ys)) := fun y hy => by
  obtain ⟨ps, h1, h2, h3⟩ := t y hy
  refine ⟨ps, by rw [upd_ne (ne_of h1 h fun z => nomatch z)]; exact h1, h2, fun pos cv hc => ?_⟩
  obtain ⟨c, e1, e2⟩ := h3 pos cv hc
  exact ⟨c, e1, by rw [upd_ne (ne_of e2 h fun z => nomatch z)]; exact e2⟩
section
variable {K : PySem.W.Frag} {w : World} {CS CT CN : Addr} {T : List (Addr × Str)} {p pl x dx y : Addr} {m : Nat} {H : Hp} {ts : List Til}
theorem ins_new {C : Addr} (nx : H x = none) (ndx : H dx = none) : Same H (upd (upd H dx (.own x)) x (.ins C dx [])) := fun b o e => by
  rw [upd_ne (ne_of_none e nx), upd_ne (ne_of_none e ndx)]
  exact e
theorem butN_kp {H0 H1 H2 : Hp} {a : Addr} (s : Same H0 H1) (na : H0 a = none) (b : ButN a H1 H2) : Kp H0 H2 := fun c o e t _ => b _ _ (s _ _ e) t (ne_of_none e na)
theorem butN_pen {H0 H1 H2 : Hp} {a : Addr} (s : Same H0 H1) (na : H0 a = none) (b : ButN a H1 H2) (PA : PenAt H0 p pl m) : PenAt H2 p pl m := by
  obtain ⟨kvs, hp⟩ := PA.is
  obtain ⟨xs, hl⟩ := PA.lis
  exact PenAt.butN (PA.keep s) b (ne_of_none hp na) (ne_of_none hl na)
end
/-! ### the end, where tables of code are tracked, too -/
section
variable {P : Program} {w : World} {K : PySem.W.Frag} {mg mb : Str → Option PySem.Value} {k : Nat} {fa a : Addr} {cs : List (Addr × Addr)} {fd : FuncData} {x : Str} {sp : Sp} {s₁ : Shared} {vs : List PySem.Value} {ns : List Int}
/-- the script, unless it stands in the written part, and the tables -/
def seen (K : PySem.W.Frag) (a : Addr) (o : HO) (ts : List Addr) : Hp := fun b => if b = a ∧ (K.lookup a).isNone = true then some o else if b ∈ ts then some (.tbl #[]) else none
theorem run_tab (KX : K.In s₁.heap) (gl : s₁.heap.Ns mainGlobals mg) (bl : s₁.heap.Ns builtinsNs mb) (blb : ∀ x : Str, x ≠ "__name__" → mb x = bootBuiltins x) (lim : s₁.heap.NoLimit) (noGens : s₁.gens = #[])
    (mods : ∃ (bm : Addr) (ob : Obj), mg "__builtins__" = some (.ref bm) ∧ bm ≠ builtinsNs ∧ s₁.heap.get? bm = some ob ∧ ob.cls = .type "module" ∧ ob.dict = some builtinsNs ∧ ob.data = .plain)
    (script : s₁.heap.get? a = some { cls := .type "list", data := .seq vs.toArray }) (theInts : IntsAre vs ns) (few : ns.length ≤ sizeLine) (room : Room k callerA)
    (empt : ∀ p ∈ cs, s₁.heap.get? p.2 = some { cls := .none, data := .fields #[] }) (out : ∀ p ∈ cs, K.lookup p.2 = none) (hd : ∀ p ∈ cs, PySem.W.codeHdIn K p.1 p.2 = true)
    (FF : ∀ base : Heap, K.In base → base.Ns mainGlobals mg → (∀ p ∈ cs, TabB base mg p.1 p.2) → GFn P w K mg base CX0 k fa fd [x] sp) (bound : ∀ (s : Shared) (u : PySem.Value), BindsTo s fd ⟨[u], []⟩ [(x, u)])
    (asks : ∀ H : Hp, (∀ p ∈ cs, H p.2 = some (.tbl #[])) → SqL K H a (ns.map V.int) → sp [.ref a] H (fun v _ => v = .bl true) E0) :
    codeAny (model P w) callerA (.call (.ref fa) ⟨[.ref a], []⟩) (fun r s' => r = .ok (.ret (.bool true)) ∧ OldK s₁.heap s'.heap ∧ s'.os = s₁.os ∧ AllBare s'.gens) s₁ := by
  have rel : Vals (ns.map V.int) vs := vals_ints theInts
  have sized : vs.length = ns.length := theInts.length
  have emptyAt : ∀ b ∈ cs.map (·.2), s₁.heap.get? b = some { cls := .none, data := .fields #[] } := fun b hb => by
    obtain ⟨p, hp, rfl⟩ := List.mem_map.mp hb
    exact empt p hp
  have apart : a ∉ cs.map (·.2) := fun hb => by
    have e := (emptyAt a hb).symm.trans script
    cases e
  obtain ⟨H, hH⟩ : ∃ H, H = seen K a (.frz { cls := .type "list", data := .seq vs.toArray } (.lst (ns.map V.int))) (cs.map (·.2)) := ⟨_, rfl⟩
  have only : ∀ b o, H b = some o → (b = a ∧ K.lookup a = none ∧ o = .frz { cls := .type "list", data := .seq vs.toArray } (.lst (ns.map V.int))) ∨ (b ∈ cs.map (·.2) ∧ o = .tbl #[]) := fun b o z => by
    rw [hH] at z
    unfold seen at z
    split at z
    · rename_i h
      exact .inl ⟨h.1, Option.isNone_iff_eq_none.mp h.2, (Option.some.inj z).symm⟩
    · split at z
      · rename_i h
        exact .inr ⟨h, (Option.some.inj z).symm⟩
      · cases z
  have tabsAt : ∀ p ∈ cs, H p.2 = some (.tbl #[]) := fun p hp => by
    have m : p.2 ∈ cs.map (·.2) := List.mem_map.mpr ⟨p, hp, rfl⟩
    rw [hH]
    unfold seen
    have nz : ¬ (p.2 = a ∧ (K.lookup a).isNone = true) := fun z => apart (z.1 ▸ m)
    rw [if_neg nz, if_pos m]
  have sq : SqL K H a (ns.map V.int) := by
    cases ek : K.lookup a with
    | some o =>
      have same := KX a o ek
      rw [script] at same
      obtain rfl := Option.some.inj same
      exact .inr ⟨_, vs.toArray, _, ek, rfl, rfl, rfl, by rw [List.size_toArray, sized]; exact few, by simpa using rel⟩
    | none =>
      refine .inl (.inr ⟨{ cls := .type "list", data := .seq vs.toArray }, ?_⟩)
      rw [hH]
      unfold seen
      rw [if_pos ⟨rfl, by rw [ek]; rfl⟩]
  clear hH
  have hok : HOk P w H s₁.heap := fun b o e => by
    rcases only b o e with ⟨rfl, _, rfl⟩ | ⟨m, rfl⟩
    · exact ⟨script, by rw [List.length_map]; exact few, vs, _, rel, script⟩
    · exact emptyAt b m
  -- what is neither a list nor an empty table is not tracked
  have off : ∀ {b : Addr} {o : Obj}, s₁.heap.get? b = some o → (∀ xs n, o.data ≠ .seq xs n) → o.data ≠ .fields #[] → H b = none := fun {b o} e n1 n2 => by
    cases q : H b with
    | none => rfl
    | some u =>
      rcases only b u q with ⟨rfl, _, _⟩ | ⟨m, _⟩
      · rw [script] at e
        cases e
        exact absurd rfl (n1 _ _)
      · rw [emptyAt b m] at e
        cases e
        exact absurd rfl n2
  have names : ∀ {b : Addr} {m : Str → Option PySem.Value}, s₁.heap.Ns b m → (hidT s₁.heap H).Ns b m := by
    rintro b m ⟨o, es, n, e, d, r⟩
    exact ⟨o, es, n, hidT_get e (off e (fun _ _ z => by rw [d] at z; cases z) fun z => by rw [d] at z; cases z), d, r⟩
  have inK : K.In (hidT s₁.heap H) := fun b o e => hidT_get (KX b o e) (by
    cases q : H b with
    | none => rfl
    | some u =>
      rcases only b u q with ⟨rfl, none_, _⟩ | ⟨m, _⟩
      · rw [none_] at e
        cases e
      · obtain ⟨p, hp, rfl⟩ := List.mem_map.mp m
        rw [out p hp] at e
        cases e)
  obtain ⟨mc, lim1, lim2⟩ := lim
  have mod : Mod K mg (hidT s₁.heap H) := ⟨inK, names gl, ⟨mb, names bl, blb⟩, ⟨mc, names lim1, lim2⟩⟩
  have notG : ∀ p ∈ cs, mainGlobals ≠ p.2 := fun p hp z => by
    obtain ⟨o, es, n, e, d, _⟩ := gl
    rw [z, empt p hp] at e
    cases e
    cases d
  have tb : ∀ p ∈ cs, TabB (hidT s₁.heap H) mg p.1 p.2 := fun p hp => by
    refine NdefX.tabB_of_K inK (hd p hp) ?_ (notG p hp)
    obtain ⟨bm, ob, b1, b2, b3, b4, b5, b6⟩ := mods
    refine ⟨bm, ob, b1, b2, fun z => ?_, fun z => ?_, hidT_get b3 (off b3 (fun _ _ z => by rw [b6] at z; cases z) fun z => by rw [b6] at z; cases z), b4, b5, b6⟩
    · obtain ⟨o, es, n, e, d, _⟩ := gl
      rw [← z, b3] at e
      cases e
      rw [b6] at d
      cases d
    · rw [z, empt p hp] at b3
      cases b3
      cases b6
  have e0 : Env0 P w K mg (hidT s₁.heap H) callerA [] s₁ H :=
    ⟨rfl, mod, fun _ _ e => of_hidT e, Nat.le_of_eq (hidT_size _ _), trivial, fun _ z => (nomatch z), hok, .of_eq noGens⟩
  refine codeAny_mono ((FF _ inK (names gl) tb).run callerA [] s₁ H ⟨[.ref a], []⟩ [.ref a] [.ref a] _ E0 room rfl e0 (bound s₁ _) (.cons rfl .nil) (asks H tabsAt sq)) ?_
  intro r s' z
  match r, z with
  | .ok (.ret u), ⟨v, H', os, bare, un, hok', ru, q⟩ =>
    obtain rfl : v = .bl true := q
    obtain rfl : u = PySem.Value.bool true := ru
    have kept : ∀ b o, b ∉ cs.map (·.2) → s₁.heap.get? b = some o → s'.heap.get? b = some o := fun b o nb e => by
      cases eb : H b with
      | none => exact un.keep b o e eb (fun z => nomatch z) (fun z => nomatch z)
      | some u =>
        rcases only b u eb with ⟨rfl, _, rfl⟩ | ⟨m, _⟩
        · obtain ⟨there, _⟩ := hok' _ _ (un.frzs b _ _ eb)
          rw [script] at e
          obtain rfl := Option.some.inj e
          exact there
        · exact absurd m nb
    have more : ∀ b ∈ cs.map (·.2), ∃ p ∈ cs, p.2 = b ∧ ∃ ps : Array PySem.Value, s'.heap.get? b = some { cls := .none, data := .fields ps } := fun b hb => by
      obtain ⟨p, hp, rfl⟩ := List.mem_map.mp hb
      obtain ⟨ps, e⟩ := un.tbls _ _ (tabsAt p hp)
      exact ⟨p, hp, rfl, _, hok' _ _ e⟩
    refine ⟨rfl, ⟨fun b o e => ?_, fun b o e => ?_⟩, os, bare⟩
    · by_cases hb : b ∈ cs.map (·.2)
      · obtain ⟨p, hp, rfl, ps, e2⟩ := more b hb
        rw [empt p hp] at e
        cases e
        exact .inr (.inl ⟨((PySem.W.codeHd_of_K KX (hd p hp)).tab (empt p hp)).isCodeTable, rfl, #[], ps, rfl, by rw [Array.empty_append]; exact e2⟩)
      · exact .inl (kept b o hb e)
    · by_cases hb : b ∈ cs.map (·.2)
      · obtain ⟨_, _, _, ps, e2⟩ := more b hb
        exact ⟨_, e2⟩
      · exact ⟨o, kept b o hb e⟩
  | .ok .next, z => exact z.elim
  | .ok .brk, z => exact z.elim
  | .ok .cont, z => exact z.elim
  | .error _, z => exact z.elim
end
/-- for the goal that head_any leaves -/
theorem law_walkT {l : PySem.W.OpenLaw} {n k : Nat} {q : Program} {loose : List Str} {XP : (Str → Option PySem.Value) → Heap → Prop} {YP : World → Heap → Prop} {d : DefRec} {x : Str}
    (most : l.most = some n) (small : n ≤ sizeLine) (plain : d.params.defaults = []) (room : Room k callerA)
    (told : ∀ (w : World) (mg : Str → Option PySem.Value) (fa : Addr) (h : Heap), YP w h → h.Ns mainGlobals mg → mg d.name = some (.ref fa) →
      ∃ (K : PySem.W.Frag) (fd : FuncData) (sp : Sp) (cs : List (Addr × Addr)), K.In h ∧ (∀ p ∈ cs, h.get? p.2 = some { cls := .none, data := .fields #[] }) ∧ (∀ p ∈ cs, K.lookup p.2 = none) ∧ (∀ p ∈ cs, PySem.W.codeHdIn K p.1 p.2 = true) ∧ (∀ (s : Shared) (u : PySem.Value), BindsTo s fd ⟨[u], []⟩ [(x, u)]) ∧
        (∀ (H : Hp) (a : Addr) (ns : List Int), ns.length ≤ n → (∀ p ∈ cs, H p.2 = some (.tbl #[])) → SqL K H a (ns.map V.int) → sp [.ref a] H (fun v _ => v = .bl true) E0) ∧
        ∀ base : Heap, K.In base → base.Ns mainGlobals mg → (∀ p ∈ cs, TabB base mg p.1 p.2) → GFn l.prog w K mg base CX0 k fa fd [x] sp) :
    PySem.W.WalkO q loose XP YP l.row.toRowW d [] (fun f vs => PySem.call f vs) := by
  refine Att.attach_call most plain ?_
  intro w s₀ s₁ mg mb fa o pm cd doc a vs ns G Y ho hd hcd hmg script theInts few noGens
  obtain ⟨K, fd, sp, cs, KX, empt, out, hcs, bound, asks, FF⟩ := told w mg fa _ Y G.T.g hmg
  exact run_tab KX G.T.g G.T.b G.T.builtins G.T.nolimit noGens G.T.bmain script theInts (Nat.le_trans few small) room empt out hcs FF bound fun H ht z => asks H a ns few ht z
end Tr

set_option Elab.async false
set_option linter.all false
set_option maxRecDepth 100000
set_option maxHeartbeats 4000000
namespace AK
open PySem PySem.Spec PyProof.Rows L2
/-! ### a walk over the keys of such a dict, locked -/
def ItA (w : World) (d : Addr) (o : Obj) (es : List Eh) : It :=
  ⟨fun i H => H d = some (.frz o (DkO w d es)) ∧ i < es.length, fun i H x H' => H' = H ∧ ∃ e, es[i]? = some e ∧ x = e.2.1, fun i H => H d = some (.frz o (DkO w d es)) ∧ es.length ≤ i⟩
theorem frzA {X : Cx} {pins : List (Addr × Obj)} {σ : L2.St} {H : Hp} {s : Shared} {d : Addr} {o : Obj} {es : List Eh} (I : L2.Inv X pins σ H s) (h : H d = some (.frz o (DkO X.w d es))) :
    (d == sysModules) = false ∧ s.heap.get? d = some o ∧ o.ExactDict ∧ ∃ (arr : Array DictEntry) (ep : Nat) (us : List En), o.data = .dict arr ep ∧ arr.toList = us.map (ent X.w) ∧ Paired (fun (p : Eh) (q : En) => p.1 = q.1 ∧ RelV p.2.1 q.2.1 ∧ RelV p.2.2 q.2.2) es us := by
  obtain ⟨there, raw, _⟩ := I.hok d _ h
  obtain ⟨h1, h2, o', arr, ep, us, g, ex, dt, l, pr⟩ := raw
  rw [there] at g
  cases g
  exact ⟨h1, there, ex, arr, ep, us, dt, l, pr⟩
theorem pair_at {es : List Eh} {us : List En} (r : Paired (fun (p : Eh) (q : En) => p.1 = q.1 ∧ RelV p.2.1 q.2.1 ∧ RelV p.2.2 q.2.2) es us) {i : Nat} {e : Eh} (h : es[i]? = some e) : ∃ u, us[i]? = some u ∧ RelV e.2.1 u.2.1 := by
  induction r generalizing i with
  | nil => simp at h
  | cons p t ih =>
    cases i with
    | zero =>
      cases (show some _ = some e from h)
      exact ⟨_, rfl, p.2.1⟩
    | succ j =>
      obtain ⟨u, h1, h2⟩ := ih (i := j) (by simpa using h)
      exact ⟨u, by simpa using h1, h2⟩
theorem turn_keysA {P : Program} {w : World} {K : PySem.W.Frag} {tg : PySem.Expr} {d : Addr} {o : Obj} {es : List Eh} {arr : Array DictEntry} {ep : Nat} (it : Addr) (hod : o.data = .dict arr ep) :
    Turn P w K tg (ItA w d o es) [it] it (fun i h => h.IsKeyIter it d i es.length ep) where
  mem := by simp
  obj := fun i h st b hb => by
    obtain rfl := List.mem_singleton.mp hb
    obtain ⟨oi, e, _, dd⟩ := st
    exact ⟨oi, e, fun v z => by rw [dd] at z; cases z⟩
  keep := fun i h h' st k => st.at fun oi e => k it (List.mem_singleton.mpr rfl) oi e
  item := by
    intro X hP hw hK hc i pins s σ H E I apart st go
    subst hP hw hK
    obtain ⟨lock, few⟩ := go
    obtain ⟨f0, f1, f2, f3, f4, f5⟩ := apart it (List.mem_singleton.mpr rfl)
    obtain ⟨_, there, _, arr', ep', us, dt, l, pr⟩ := frzA I lock
    rw [hod] at dt
    cases dt
    have at_ := List.getElem?_eq_getElem few
    obtain ⟨u, hu, ru⟩ := pair_at pr at_
    have size : arr.size = es.length := by
      have z := congrArg List.length l
      rw [Array.length_toList, List.length_map] at z
      exact z.trans (Paired.length pr).symm
    have ea : arr[i]? = some (ent X.w u) := by
      rw [← Array.getElem?_toList, l, List.getElem?_map, hu]
      rfl
    refine next_key_item st there hod size ea fun h' st' sb => ?_
    have J : L2.Inv X pins σ H { s with heap := h' } := I.turned (t' := s.toks) (fun b ob hb e => (sb.2 b hb).trans e) f0 f1 f3 f4 f5
    obtain ⟨oi, e, c, dd⟩ := id st'
    exact ⟨(ent X.w u).key, rfl, go_of (s := { s with heap := h' }) e c dd (by decide) ⟨_, H, J, ru, ⟨rfl, _, at_, rfl⟩, st', fun b hb => (apart b hb).1⟩⟩
  done := by
    intro X hP hw hK hc i pins s σ H E I apart st go
    subst hP hw hK
    obtain ⟨lock, few⟩ := go
    obtain ⟨f0, f1, f2, f3, f4, f5⟩ := apart it (List.mem_singleton.mpr rfl)
    obtain ⟨_, there, _, arr', ep', us, dt, l, pr⟩ := frzA I lock
    rw [hod] at dt
    cases dt
    have size : arr.size = es.length := by
      have z := congrArg List.length l
      rw [Array.length_toList, List.length_map] at z
      exact z.trans (Paired.length pr).symm
    exact next_key_end (I.ok.hd hc) st there hod size few fun h' eb => ⟨rfl, I.turned (t' := s.toks) (fun b o hb e => eb b o hb e) f0 f1 f3 f4 f5⟩
  self := fun A i s Q E st h => wpAny_pyIter_keyiter st h
def iKeysA (w : World) (td : TE) : TI := fun σ H R => td σ H fun x H1 => ∃ d o es, x = .ref d ∧ H1 d = some (.frz o (DkO w d es)) ∧ R (ItA w d o es) H1
theorem pi_keysA {X : Cx} {tg e : PySem.Expr} {td : TE} (he : PE X e td) : PI X tg e (iKeysA X.w td) := by
  refine ⟨fun pins s σ H R I h => ?_⟩
  refine thn (he.run pins s σ H _ I h) fun u s1 ⟨x, H1, I1, rx, d, o, es, ex, lock, q⟩ => ?_
  subst ex
  obtain rfl : u = PySem.Value.ref d := rx
  obtain ⟨hs, there, exact_, arr, ep, us, dt, l, pr⟩ := frzA I1 lock
  have size : arr.size = es.length := by
    have z := congrArg List.length l
    rw [Array.length_toList, List.length_map] at z
    exact z.trans (Paired.length pr).symm
  refine iter_keys hs there exact_ dt (pi_one (tk := s1.toks) I1 _ (turn_keysA _ dt) ⟨_, Heap.get?_push_size _ rfl, rfl, ?_⟩ q)
  rw [size] <;> rfl
theorem walk_keysA {w : World} {d : Addr} {o : Obj} {es : List Eh} : Walk (ItA w d o es) es.length (fun H => H d = some (.frz o (DkO w d es))) (fun i H x H' => H' = H ∧ ∃ e, es[i]? = some e ∧ x = e.2.1) :=
  ⟨fun _ _ hi q => ⟨q, hi⟩, fun _ q => ⟨q, Nat.le_refl _⟩, fun _ _ _ _ _ _ y => y⟩
end AK
namespace Tr
open PySem PySem.Spec PyProof.Rows L2 AK Pen LamX
/-! ### what is never run -/
theorem pe_never {X : Cx} {e : PySem.Expr} : PE X e (fun _ _ _ => False) := ⟨fun _ _ _ _ _ _ h => h.elim⟩
theorem pss_never {X : Cx} {b : List PySem.Stmt} : PSs X b (fun _ _ _ => False) := ⟨fun _ _ _ _ _ _ h => h.elim⟩
theorem ps_never {X : Cx} {b : PySem.Stmt} : PS X b (fun _ _ _ => False) := ⟨fun _ _ _ _ _ _ h => h.elim⟩
/-- isinstance(x, dict) of such a dict -/
def rIsDi (K : PySem.W.Frag) (w : World) : List V → Hp → VK → Prop := fun xs H Q => ∃ a es, xs = [.ref a, .ty "dict"] ∧ DA K w H a es ∧ Q (.bl true) H
theorem call_isDi {X : Cx} : CallR X (.builtin "isinstance") (rIsDi X.K X.w) := by
  intro pins s σ H xs us Q I r h
  obtain ⟨a, es, rfl, D, q⟩ := h
  obtain ⟨u1, u2, rfl, r1, r2⟩ := vals2 r
  obtain rfl : u2 = PySem.Value.type "dict" := r2
  cases r1
  obtain ⟨_, _, us, dk, _⟩ := D.raw I
  obtain ⟨o, arr, ep, ho, hx, _⟩ := dk.ex
  exact PySem.W.kia_one PySem.W.kitx_dict I.kIn ⟨o, ho, hx.1⟩ (kit_ty (show kitB "dict" "dict" = some true by decide +kernel)) (fun z => nomatch z) fun tk => ⟨.bl true, H, I.tok tk, rfl, q⟩
/-- l.extend(t), t a tuple -/
theorem ext_tup (l b : Addr) (xs ys : Array PySem.Value) (n m : Nat) (dd : Option Addr) (sl : Array (Option PySem.Value)) (fits : ¬(!xs.isEmpty && Builtin.List.listTooLong (xs.size + ys.size)) = true) (z1 : xs.size ≤ sizeLine) (z2 : xs.size + ys.size ≤ sizeLine + 1) :
    Meets (Builtin.«list.extend» ⟨[.ref l, .ref b], []⟩) (fun _ R s => s.heap.get? l = some { cls := .type "list", dict := none, data := .seq xs n, slots := #[] } ∧ s.heap.get? b = some { cls := .type "tuple", dict := dd, data := .seq ys m, slots := sl } ∧
      R (.ok (.ret PySem.Value.none)) { s with heap := s.heap.update l (Obj.mapSeq fun x => x ++ ys), toks := s.toks }) :=
  .of_wp fun prog w A R s both => by
    obtain ⟨hp, gs, dr, tk, os⟩ := s
    obtain ⟨here, there, ends⟩ := both
    have f1 := AutoSeq1.idx_int
    have f2 := AutoSeq1.sub_tuple_tuple
    have f3 := AutoSeq1.sub_list_list
    have f4 := AutoSeq1.sub_tuple_list
    have f5 := AutoSeq1.sub_list_tuple
    have z3 : (xs ++ ys).size ≤ sizeLine + 1 := by
      rw [Array.size_append]
      exact z2
    wp_walk using (wpAny_updateSeq here rfl (hz := z1) (_hz' := z3)), wpAny_loadPart' here, wpAny_loadPart' there
    exact ⟨_, rfl, ends⟩
def rExtT (K : PySem.W.Frag) : V → List V → Hp → VK → Prop := fun x vs H Q => ∃ l b xs zs, x = .ref l ∧ vs = [.ref b] ∧ H l = some (.lst xs) ∧ SqT K H b zs ∧ xs.length + zs.length ≤ sizeLine ∧ Q .non (upd H l (.lst (xs ++ zs)))
theorem mt_extT {X : Cx} : MtM X "list.extend" (rExtT X.K) := by
  intro pins s σ H x vs v us Q I rx rv h
  obtain ⟨l, b, xs, zs, rfl, rfl, hl, hb, hz, q⟩ := h
  cases rx
  obtain ⟨u, rfl, ru⟩ := rv.one
  cases ru
  obtain ⟨z, its, n, r, hl2, e⟩ := I.lstM hl
  obtain ⟨its2, r2, ⟨⟨cls, dd, data, sl⟩, ho, hc, m, hd⟩, z2⟩ := I.tuple hb
  have hc : cls = .type "tuple" := hc
  have hd : data = .seq its2.toArray m := hd
  subst hc hd
  have l1 := r.length
  have l2 := r2.length
  have sized : its.toArray.size + its2.toArray.size ≤ sizeLine := by
    rw [List.size_toArray, List.size_toArray]
    omega
  have fits : ¬ (!its.toArray.isEmpty && Builtin.List.listTooLong (its.toArray.size + its2.toArray.size)) = true := by
    rw [notLongL sized, Bool.and_false]
    exact Bool.false_ne_true
  refine call_meets F.slot_list_extend ⟨_, e, rfl⟩ F.entry_list_extend (F.args_list_extend_2 _ _) (ext_tup l b its.toArray its2.toArray n m dd sl fits (by omega) (by omega)) ⟨e, ho, ?_⟩
  refine ⟨.non, _, I.lset (its' := its ++ its2) hl e (by simp) (r.append r2) ?_, rfl, q⟩
  rw [List.length_append]
  omega
end Tr
namespace Tr
open PySem PySem.Spec PyProof.Rows L2 AK Pen LamX
/-! ### t[::-1], t a tuple -/
theorem adjust_rev (n : Nat) : Builtin.Slice.sliceAdjust none none (-1) (n : Int) = ((n : Int) - 1, -1) := by
  unfold Builtin.Slice.sliceAdjust
  simp
theorem places_rev (n : Nat) : Builtin.Slice.slicePlaces ((n : Int) - 1) (-1) (-1) = n := by
  unfold Builtin.Slice.slicePlaces
  simp
  try omega
theorem fm_congr {α β : Type} {f g : α → Option β} : ∀ {l : List α}, (∀ x ∈ l, f x = g x) → l.filterMap f = l.filterMap g
  | [], _ => rfl
  | x :: l, h => by
    rw [List.filterMap_cons, List.filterMap_cons, h x (List.mem_cons_self ..), fm_congr fun y hy => h y (List.mem_cons_of_mem _ hy)]
theorem pick_rev (xs : Array PySem.Value) : ((List.range xs.size).filterMap fun (m : Nat) => xs[(((xs.size : Int) - 1) + (m : Int) * (-1)).toNat]?).toArray = xs.toList.reverse.toArray := by
  have e := PySem.W.krv_pick xs
  unfold slicePick at e
  rw [PySem.W.krv_bounds] at e
  have e : ((sliceRange ((xs.size : Int) - 1) (-1) (-1)).filterMap (xs[·]?)).toArray = xs.toList.reverse.toArray := e
  rw [PySem.W.krv_sliceRange, List.filterMap_map] at e
  rw [← e]
  congr 1
  refine fm_congr fun m hm => ?_
  have hm := List.mem_range.mp hm
  have z : (((xs.size : Int) - 1) + (m : Int) * (-1)).toNat = xs.size - 1 - m := by omega
  rw [z]
  rfl
section
variable {prog : Program} {w : World} {A : Around} {E : PySem.Value → Shared → Prop} {s : Shared}
theorem applied_rev {sl : Addr} {vl vu vs : PySem.Value} {n : Nat} {Q : Int × Int × Nat → Shared → Prop} (hs : s.heap.IsSliceOf sl vl vu vs) (pl : IsPart vl none) (pu : IsPart vu none) (ps : IsPart vs (some (-1))) (h : Q ((n : Int) - 1, -1, n) s) :
    wpAny (model prog w) A (Builtin.Slice.sliceApplied (.ref sl) (pure (n : Int))) Q E s := by
  obtain ⟨ob, there, isSl, parts⟩ := id hs
  unfold Builtin.Slice.sliceApplied Builtin.Slice.sliceFields
  refine wpAny_bind (wpAny_bind (wpAny_field there parts (x := vl) rfl (wpAny_bind (wpAny_field there parts (x := vu) rfl (wpAny_bind (wpAny_field there parts (x := vs) rfl (wpAny_pure ?_)))))))
  refine wpAny_bind (HT.slicePart_ ps ?_)
  show wpAny _ _ (if ((-1 : Int) == 0) = true then _ else _) _ _ s
  rw [if_neg (by decide)]
  refine wpAny_bind (HT.slicePart_ pl (wpAny_bind (HT.slicePart_ pu (wpAny_bind (wpAny_pure ?_)))))
  show wpAny _ _ (match Builtin.Slice.sliceAdjust none none (-1) (n : Int) with | (a, b) => pure (a, (-1 : Int), Builtin.Slice.slicePlaces a b (-1))) _ _ s
  rw [adjust_rev]
  show wpAny _ _ (pure ((n : Int) - 1, (-1 : Int), Builtin.Slice.slicePlaces ((n : Int) - 1) (-1) (-1))) _ _ s
  rw [places_rev]
  exact wpAny_pure h
theorem item_rev {t sl : Addr} {xs : Array PySem.Value} {vl vu vs : PySem.Value} {Q : PySem.Value → Shared → Prop} (ht : IsTup s.heap t xs) (hs : s.heap.IsSliceOf sl vl vu vs) (pl : IsPart vl none) (pu : IsPart vu none) (ps : IsPart vs (some (-1))) (hz : xs.size ≤ sizeLine)
    (h : Q (.ref s.heap.objs.size) { s with heap := s.heap.push { cls := .type "tuple", data := .seq xs.toList.reverse.toArray } }) : wpAny (model prog w) A (getItem (.ref t) (.ref sl)) Q E s := by
  obtain ⟨ob, there, isSl, parts⟩ := id hs
  have ty : s.TypeIs (.ref sl) "slice" := ⟨ob, there, isSl⟩
  have fits : sizeOk (.seq xs.toList.reverse.toArray) := by
    show xs.toList.reverse.toArray.size ≤ sizeLine
    rw [List.size_toArray, List.length_reverse, Array.length_toList]
    exact hz
  unfold getItem
  try with_reducible refine wpAny_holding ?_
  first
    | refine wpAny_bind (wpAny_pure ?_)
    | skip
  refine wpAny_bind (wpAny_sequenceKey ht.typeIs (by decide) ?_)
  refine wpAny_bind (wpAny_callSpecial?_slot (name := Str.ofString "__getitem__") ht.typeIs PyProof.Rows.slot_tuple_getitem (wpAny_call_entry PyProof.Rows.slot_tuple_getitem ht.typeIs entry_tuple_getitem ?_ (args_tuple_getitem _ _)))
  show wpAny _ _ (Builtin.Tuple.tupleItemsOf (.ref t) >>= _) _ _ s
  refine wpAny_bind (PyProof.Rows.tupleItemsOf_ ht ?_)
  refine wpAny_bind (wpAny_typeOf ty ?_)
  rw [if_pos (by decide)]
  refine wpAny_bind (applied_rev hs pl pu ps ?_)
  have no : ¬ ((((xs.size : Int) - 1) == 0 && (-1 : Int) == 1 && xs.size == xs.size) = true) := by
    intro z
    rw [Bool.and_eq_true, Bool.and_eq_true] at z
    exact absurd (eq_of_beq z.1.2) (by decide)
  show wpAny _ _ (if (((xs.size : Int) - 1) == 0 && (-1 : Int) == 1 && xs.size == xs.size) = true then _ else _) _ _ s
  rw [if_neg no, pick_rev]
  first
    | exact wpAny_bind (m := Builtin.Tuple.tupleExact xs.toList.reverse.toArray) (wpAny_newObj_type (wpAny_pure ⟨_, rfl, wpAny_pure h⟩) fits)
    | exact wpAny_bind (m := Builtin.Tuple.tupleExact xs.toList.reverse.toArray) (wpAny_newObj_type (wpAny_bind (wpAny_pure (wpAny_pure ⟨_, rfl, wpAny_pure h⟩))) fits)
    | exact wpAny_bind (wpAny_bind (m := Builtin.Tuple.tupleExact xs.toList.reverse.toArray) (wpAny_newObj_type (wpAny_pure (wpAny_pure ⟨_, rfl, wpAny_pure h⟩)) fits))
    | exact wpAny_bind (wpAny_bind (m := Builtin.Tuple.tupleExact xs.toList.reverse.toArray) (wpAny_newObj_type (wpAny_pure ⟨_, rfl, wpAny_pure h⟩) fits))
end
def tRevT (K : PySem.W.Frag) (te : TE) : TE := fun σ H Q => te σ H fun x H1 => ∃ a xs, x = .ref a ∧ SqT K H1 a xs ∧ ∀ p, H1 p = none → Q (.ref p) (upd H1 p (.tup xs.reverse))
theorem pe_revT {X : Cx} {e : PySem.Expr} {te : TE} {k : Nat} {p1 p2 p3 pos : Pos} (he : PE X e te) : PE X (.Subscript e (.Slice none none (some (.UnaryOp .USub (.Constant (.int 1) k p1) p2)) p3) pos) (tRevT X.K te) := by
  refine ⟨fun pins s σ H Q I h => ?_⟩
  refine Subscript_ (thn (he.run pins s σ H _ I h) fun v s1 ⟨x, H1, I1, r1, a, xs, ex, hx, q⟩ => ?_)
  subst ex
  cases r1
  have step : PO X (some (.UnaryOp .USub (.Constant (.int 1) k p1) p2)) (tPart (tUn (rU fun i => .int (-i)) (tC (.int 1)))) := po_some (pe_un un_neg pe_int)
  refine wpAny_Slice (thn (po_none.run pins s1 σ H1 (fun o H2 => o = none ∧ H2 = H1) I1 ⟨rfl, rfl⟩) fun vl s2 ⟨l, H2, I2, pl, el, e2⟩ => ?_)
  subst el e2
  refine thn (po_none.run pins s2 σ H2 (fun o H3 => o = none ∧ H3 = H2) I2 ⟨rfl, rfl⟩) fun vu s3 ⟨u, H3, I3, pu, eu, e3⟩ => ?_
  subst eu e3
  refine thn (step.run pins s3 σ H3 (fun o H4 => o = some (-1) ∧ H4 = H3) I3 ⟨1, rfl, -1, rfl, rfl, rfl⟩) fun vs s4 ⟨o, H4, I4, ps, eo, e4⟩ => ?_
  subst eo e4
  have J : L2.Inv X pins σ H4 { s4 with heap := s4.heap.push { cls := .type "slice", data := .fields #[vl, vu, vs] } } := I4.kept (t' := s4.toks) fun b ob z => Heap.get?_push_of_some _ z
  obtain ⟨its, r, tup, hz⟩ := J.tuple hx
  have len := r.length
  show wpAny (model X.prog X.w) X.A (subscriptTail e (.Slice none none (some (.UnaryOp .USub (.Constant (.int 1) k p1) p2)) p3) (.ref a) (.ref s4.heap.objs.size)) (EP X pins σ Q) X.xe { s4 with heap := s4.heap.push { cls := .type "slice", data := .fields #[vl, vu, vs] } }
  refine tail_any (ops := [.ref a, .ref s4.heap.objs.size]) tup.typeIs PyProof.Rows.slot_tuple_getitem.lookup ?_ (by with_unfolding_all rfl)
  refine item_rev tup (Heap.IsSliceOf.new _ vl vu vs) pl pu ps (by rw [List.size_toArray]; omega) ?_
  refine ⟨.ref _, _, J.laid (t' := s4.toks) (o := .tup xs.reverse) (fun b ob z => Heap.get?_push_of_some _ z) (Nat.le_refl _) ?_, rfl, q _ (J.hok.fresh (Nat.le_refl _))⟩
  exact ⟨by rw [List.length_reverse]; exact hz, _, r.reverse, IsTup.new _ _⟩
end Tr

set_option Elab.async false
set_option linter.all false
set_option maxRecDepth 100000
set_option maxHeartbeats 4000000
namespace Tr
open PySem PySem.Spec PyProof.Rows L2 AK Pen LamX
/-! ### several clauses `except X as n` -/
/-- one clause: its class, the slot of its name, its suite's reading -/
abbrev Cl : Type := PySem.Value × Nat × (Addr → PySem.Value → Option Addr → TS)
/-- the ends of a suite: the name at slot i is gone behind it -/
def gone (i : Nat) (D : Ends) : Ends := { nx := fun σ H => D.nx (σ.set i none) H, rt := D.rt, bk := fun σ H => D.bk (σ.set i none) H, ct := fun σ H => D.ct (σ.set i none) H }
/-- what the clauses wish of what the body lets out -/
def wCls (K : PySem.W.Frag) (Wo : WX) (D : Ends) : List Cl → WX
  | [] => Wo
  | (c, i, ts) :: more => fun cls d σ H => ∃ b, PySem.W.exmOne K cls c = some b ∧ (b = true → ∀ a, H a = none → ts a cls d (gone i D) (σ.set i (some (.ref a))) H) ∧ (b = false → wCls K Wo D more cls d σ H)
inductive ClsOk (X : Cx) : List ExceptHandler → List Cl → Prop
  | nil : ClsOk X [] []
  | cons {x n : Str} {c : PySem.Value} {i : Nat} {ts : Addr → PySem.Value → Option Addr → TS} {st : PySem.Stmt} {sts : List PySem.Stmt} {p q : Pos} {hs : List ExceptHandler} {l : List Cl} (named : Names X x c) (slot : X.N[i]? = some n) (loc : X.env.kindOf n = some .local)
      (suite : ∀ (a : Addr) (ob : Obj) (cls : PySem.Value) (d : Option Addr) (pn : List (Addr × Obj)), Zc cls d ob → (∃ vs, ob.data = .fields vs) → PSs (X.suite a ((a, ob) :: pn)) (st :: sts) (ts a cls d)) (rest : ClsOk X hs l) :
      ClsOk X (.ExceptHandler (some (.Name x p)) (some n) (st :: sts) q :: hs) ((c, i, ts) :: l)
theorem ps_try_cls {X : Cx} {body : List PySem.Stmt} {h1 : ExceptHandler} {hs : List ExceptHandler} {l : List Cl} {pos : Pos} {tb : WX → TS} {Wo : WX} (st : X.stack = X.env :: X.outer) (fr : X.env.frame = some X.env.locals) (nd : X.N.Nodup) (tk : L2.Takes X Wo)
    (hb : ∀ (W : WX) (pn : List (Addr × Obj)) (xe : PySem.Value → Shared → Prop), L2.Takes (X.tr pn xe) W → PassesOwn (model X.prog X.w) X.A X.env xe → PSs (X.tr pn xe) body (tb W)) (cls_ : ClsOk X (h1 :: hs) l) :
    PS X (.Try body (h1 :: hs) [] [] pos) (fun D σ H => tb (wCls X.K Wo D l) D σ H) := by
  refine ⟨fun pins s σ H D I reads => ?_⟩
  have okI := I.ok
  have frames : X.A.frames = some (X.env :: X.outer) := by
    rw [okI.frames, st]
  refine wpAny_Try_except ?_
  have body_ := hb (wCls X.K Wo D l) (X.pn ++ pins) (fun e sa => wpAny (model X.prog X.w) X.A (noteFrame e X.env) (fun _ sb => wpAny (model X.prog X.w) X.A (setFlight e none) (fun _ sc => wpAny (model X.prog X.w) X.A (handleBy e X.env (h1 :: hs)) (SP X pins D) X.xe sc) X.xe sb) X.xe sa)
  refine wpAny_mono ((body_ (fun u sx caught => ?_) PassesOwn.looking).run [] s σ H D (I.toTry _) reads) (fun fl sx ended => ?_) (fun e sx z => z)
  · obtain ⟨a, B, s0, pins0, σ0, H0, cls, d, rfl, I0, nb, up, sky, fresh, os, ag, wish⟩ := caught
    have I1 : L2.Inv X pins σ0 H0 s0 := I0.ofTry okI
    have sky1 : Sky B (X.env :: X.outer) a (Zc cls d) X.env.locals sx.heap := by
      rw [← st]
      exact sky
    show wpAny (model X.prog X.w) X.A (noteFrame (.ref a) X.env) _ _ _
    refine Sky.land Zc.steady frames fr sky1 fun g fl up1 => ?_
    have I2 : L2.Inv X pins σ0 H0 { sx with heap := g } := I1.landed nb fl.1 (up.trans up1) os ag
    obtain ⟨ob, vs, at_, zc, dat⟩ := fl.there
    have notIn : ∀ {h : Heap} {o : Obj} {us : Array PySem.Value}, h.FunFrames B (X.env :: X.outer) → h.get? a = some o → o.data = .fields us → a ∉ frs (X.env :: X.outer) := fun {h o us} ff e isF m => by
      obtain ⟨_, o2, e2, no⟩ := ff.mem m
      rw [e] at e2
      cases e2
      exact no _ isF
    have out := notIn fl.2.2.1 at_ dat
    have notL : a ≠ X.env.locals := fun z => out (List.mem_filterMap.mpr ⟨X.env, List.mem_cons_self, by rw [fr, z]⟩)
    have notF : a ∉ X.fs := fun m => by
      obtain ⟨e, me, z⟩ := List.mem_filterMap.mp m
      exact out (List.mem_filterMap.mpr ⟨e, List.mem_cons_of_mem _ me, z⟩)
    have S2 := I2.suite at_ dat fresh notL notF
    suffices run : ∀ {gs : List ExceptHandler} {k : List Cl}, ClsOk X gs k → wCls X.K Wo D k cls d σ0 H0 → wpAny (model X.prog X.w) X.A (handleBy (.ref a) X.env gs) (SP X pins D) X.xe { sx with heap := g } by
      exact run cls_ wish
    intro gs k ok
    induction ok with
    | nil =>
      intro wish
      refine wpAny_handleBy_nil ?_
      obtain ⟨_, _, _, o3, us, T, oT, tsT, at3, zc3, dat3, first_, _⟩ := id fl
      unfold PySem.passOn
      refine wpAny_bind (wpAny_field at3 dat3 first_ ?_)
      have no : ¬ ((PySem.Value.ref T == PySem.Value.none) = true) := by simp
      rw [if_neg no]
      have pass_ : wpAny (model X.prog X.w) X.A (setFlight (.ref a) X.env.frame) (fun _ sy => wpAny (model X.prog X.w) X.A (throw (.ref a) : Sem Flow) (SP X pins D) X.xe sy) X.xe { sx with heap := g } := by
        rw [fr]
        refine HandSPX.setFlight_upZ fl fun g2 fl2 up2 => wpAny_throw (tk _ _ ?_)
        exact ⟨a, B, s0, pins, σ0, H0, cls, d, rfl, I1, nb, (up.trans up1).trans up2, .inr (.inr (by rw [st]; exact fl2)), fresh, os, ag, wish⟩
      first
        | exact wpAny_bind (wpAny_pure (wpAny_bind pass_))
        | exact wpAny_bind pass_
    | @cons x n c i ts sm sms p q gs2 k2 named slot loc suite rest ih =>
      intro wish
      obtain ⟨b, match_, yes, no⟩ := wish
      refine wpAny_handleBy_cons (codeAny_handlers_test ?_) (by intro z; cases z)
      have looks : PySem.W.Looks (model X.prog X.w) g (typeOf (.ref a)) cls := fun A' Q' E' s' kp z => wpAny_typeOf_ref (kp _ _ at_) (by rw [zc.1]; exact z)
      have asks := PySem.W.exm_one (M := model X.prog X.w) I2.kIn looks match_
      have told : ∀ {Q' : PySem.Value → Shared → Prop} {E' : PySem.Value → Shared → Prop}, Q' c { sx with heap := g } → wpAny (model X.prog X.w) (X.A.mark (some (.ref a))) (eval (.Name x p) X.env) Q' E' { sx with heap := g } := fun {Q' E'} z => by
        obtain ⟨gl, dbg, m | ⟨m, v, nn⟩⟩ := named
        · exact ld_glob (X := X.suite a ((a, ob) :: (X.pn ++ pins))) S2 gl m z dbg
        · exact ld_blt (X := X.suite a ((a, ob) :: (X.pn ++ pins))) S2 gl m v z nn dbg
      refine told (asks.here ?_)
      cases b with
      | true =>
        refine codeAny_handlers_suite_as ?_
        refine HandSPX.lands_againZ fl fun g2 fl2 up2 => ?_
        have I3 : L2.Inv X pins σ0 H0 { sx with heap := g2 } := I1.landed nb fl2.1 ((up.trans up1).trans up2) os ag
        obtain ⟨ob2, vs2, at2, zc2, dat2⟩ := fl2.there
        have S3 := I3.suite at2 dat2 fresh notL notF
        refine store_ok (X := X.suite a ((a, ob2) :: (X.pn ++ pins))) (v := .ref a) S3 nd slot (.inl loc) rfl (fun s5 S5 => ?_) (.inr loc)
        refine wpAny_mono ((suite a ob2 cls d (X.pn ++ pins) zc2 ⟨_, dat2⟩).run [] s5 _ H0 _ S5 (yes rfl a fresh)) (fun f6 s6 z6 => ?_) (fun _ _ z => False.elim z)
        have last : ∀ {σ6 : L2.St} {H6 : Hp} {Q' : Shared → Prop}, L2.Inv (X.suite a ((a, ob2) :: (X.pn ++ pins))) [] σ6 H6 s6 → (∀ s7, L2.Inv X pins (σ6.set i none) H6 s7 → Q' s7) →
            wpAny (model X.prog X.w) X.A (do bindName X.env n .none; unbindBehindTheSuite X.env n q) (fun _ s7 => Q' s7) X.xe s6 := fun {σ6 H6 Q'} S6 z => gone_ok (S6.unsuite okI) nd slot loc z
        match f6, z6 with
        | .next, ⟨σ6, H6, S6, z⟩ => exact last S6 fun s7 J7 => ⟨_, _, J7, z⟩
        | .brk, ⟨σ6, H6, S6, z⟩ => exact last S6 fun s7 J7 => ⟨_, _, J7, z⟩
        | .cont, ⟨σ6, H6, S6, z⟩ => exact last S6 fun s7 J7 => ⟨_, _, J7, z⟩
        | .ret u, ⟨v6, σ6, H6, S6, r6, z⟩ => exact last S6 fun s7 J7 => ⟨_, _, _, J7, r6, z⟩
      | false =>
        show wpAny _ X.A (handleBy (.ref a) X.env gs2) _ _ _
        exact ih (no rfl)
  · match fl, ended with
    | .next, ⟨σ6, H6, S6, z⟩ => exact wpAny_execs_nil ⟨_, _, S6.ofTry okI, z⟩
    | .brk, ⟨σ6, H6, S6, z⟩ => exact ⟨_, _, S6.ofTry okI, z⟩
    | .cont, ⟨σ6, H6, S6, z⟩ => exact ⟨_, _, S6.ofTry okI, z⟩
    | .ret u, ⟨v6, σ6, H6, S6, r6, z⟩ => exact ⟨_, _, _, S6.ofTry okI, r6, z⟩
end Tr

set_option Elab.async false
set_option linter.all false
set_option maxRecDepth 100000
set_option maxHeartbeats 4000000
namespace Tr
open PySem PySem.Spec PyProof.Rows L2 AK Pen LamX
section
variable {K : PySem.W.Frag} {H H' : Hp}
/-! ### lists of data -/
theorem dpall_tups (t : Tups H H') : ∀ {vs : List V} {ds : List PyData}, (∀ d ∈ ds, ∃ k, keyD d = some k) → DpAll K H vs ds → DpAll K H' vs ds
  | _, _, _, .nil => .nil
  | _, _, h, .cons h1 h2 => by
    obtain ⟨k, hk⟩ := h _ (List.mem_cons_self ..)
    exact .cons (dp_tups t _ _ _ hk h1) (dpall_tups t (fun d hd => h d (List.mem_cons_of_mem _ hd)) h2)
theorem dpall_append : ∀ {vs us : List V} {ds es : List PyData}, DpAll K H vs ds → DpAll K H us es → DpAll K H (vs ++ us) (ds ++ es)
  | _, _, _, _, .nil, h => h
  | _, _, _, _, .cons h1 h2, h => .cons h1 (dpall_append h2 h)
theorem dpall_snoc : ∀ {xs : List V} {y : V} {ds : List PyData}, DpAll K H (xs ++ [y]) ds → ∃ es e, ds = es ++ [e] ∧ DpAll K H xs es ∧ Dp K H y e
  | [], y, _, h => by
    cases h with
    | cons h1 h2 =>
      cases h2
      exact ⟨[], _, rfl, .nil, h1⟩
  | x :: xs, y, _, h => by
    cases h with
    | cons h1 h2 =>
      obtain ⟨es, e, rfl, h3, h4⟩ := dpall_snoc (xs := xs) h2
      exact ⟨_ :: es, e, rfl, .cons h1 h3, h4⟩
/-! ### data of integers, strings, None and tuples of these -/
mutual
def symD : PyData → Bool
  | .none => true
  | .int _ => true
  | .str _ => true
  | .tuple ds => symDs ds
  | .bool _ => false
  | .list _ => false
  | .dict _ => false
def symDs : List PyData → Bool
  | [] => true
  | d :: ds => symD d && symDs ds
end
mutual
def wtD : PyData → Nat
  | .tuple ds => 1 + wtDs ds
  | _ => 1
def wtDs : List PyData → Nat
  | [] => 0
  | d :: ds => wtD d + wtDs ds
end
mutual
theorem sym_key : ∀ d : PyData, symD d = true → ∃ k, keyD d = some k
  | .none, _ => ⟨_, rfl⟩
  | .int _, _ => ⟨_, rfl⟩
  | .str _, _ => ⟨_, rfl⟩
  | .tuple ds, h => by
    obtain ⟨ks, e⟩ := syms_key ds (by simpa [symD] using h)
    exact ⟨.tup ks, by simp [keyD, e]⟩
  | .bool _, h => by simp [symD] at h
  | .list _, h => by simp [symD] at h
  | .dict _, h => by simp [symD] at h
theorem syms_key : ∀ ds : List PyData, symDs ds = true → ∃ ks, keyDs ds = some ks
  | [], _ => ⟨[], by simp [keyDs]⟩
  | d :: ds, h => by
    obtain ⟨h1, h2⟩ := Bool.and_eq_true_iff.mp (by simpa [symDs] using h : (symD d && symDs ds) = true)
    obtain ⟨k, e1⟩ := sym_key d h1
    obtain ⟨ks, e2⟩ := syms_key ds h2
    exact ⟨k :: ks, by simp [keyDs, e1, e2]⟩
end
theorem syms_mem : ∀ {ds : List PyData}, symDs ds = true → ∀ d ∈ ds, symD d = true
  | [], _, _, h => nomatch h
  | e :: ds, h, d, hd => by
    obtain ⟨h1, h2⟩ := Bool.and_eq_true_iff.mp (by simpa [symDs] using h : (symD e && symDs ds) = true)
    rcases List.mem_cons.mp hd with rfl | hd
    · exact h1
    · exact syms_mem h2 d hd
theorem syms_app : ∀ {ds es : List PyData}, symDs (ds ++ es) = (symDs ds && symDs es)
  | [], es => by simp [symDs]
  | d :: ds, es => by
    have := syms_app (ds := ds) (es := es)
    simp only [List.cons_append, symDs, this, Bool.and_assoc]
theorem wts_app : ∀ {ds es : List PyData}, wtDs (ds ++ es) = wtDs ds + wtDs es
  | [], es => by simp [wtDs]
  | d :: ds, es => by
    have := wts_app (ds := ds) (es := es)
    simp only [List.cons_append, wtDs, this]
    omega
theorem wt_pos (d : PyData) : 1 ≤ wtD d := by
  cases d <;> simp [wtD]
theorem wts_len : ∀ ds : List PyData, ds.length ≤ wtDs ds
  | [] => by simp [wtDs]
  | d :: ds => by
    have := wts_len ds
    have := wt_pos d
    simp only [List.length_cons, wtDs]
    omega
end
end Tr

set_option Elab.async false
set_option linter.all false
set_option maxRecDepth 100000
set_option maxHeartbeats 4000000
namespace RU
open PySem PySem.Spec PyProof.Rows L2 Tr AK LamX
/-- t + u, whatever of them is empty -/
def rCatU (K : PySem.W.Frag) : R2 := fun x y H Q => ∃ a b xs ys, x = .ref a ∧ y = .ref b ∧ SqT K H a xs ∧ SqT K H b ys ∧ xs.length + ys.length ≤ sizeLine ∧ ∀ p H', Same H H' → SqT K H' p (xs ++ ys) → Q (.ref p) H'
theorem op_catU {X : Cx} : OpR X (binaryOp .Add) (rCatU X.K) := by
  intro pins s σ H x y v u Q I rx ry h
  obtain ⟨a, b, xs, ys, rfl, rfl, h1, h2, hl, q⟩ := h
  refine op_catA pins s σ H _ _ v u Q I rx ry ⟨a, b, xs, ys, rfl, rfl, h1, h2, hl, fun z => ?_, fun _ z => ?_, fun _ _ p np => ?_⟩
  · refine q b H same_refl ?_
    rw [z]
    exact h2
  · refine q a H same_refl ?_
    rw [z, List.append_nil]
    exact h1
  · exact q p _ (same_upd np) (SqT.of upd_same)
/-- (z,) * k -/
def rRepU (K : PySem.W.Frag) : R2 := fun x y H Q => ∃ l k z, x = .ref l ∧ y = .int k ∧ SqT K H l [z] ∧ -1000 ≤ k ∧ k ≤ 1000 ∧ ∀ p H', Same H H' → SqT K H' p (List.replicate k.toNat z) → Q (.ref p) H'
theorem rep_flat {α : Type} (a : α) : ∀ n, (List.replicate n [a]).flatten = List.replicate n a
  | 0 => rfl
  | n + 1 => by rw [List.replicate_succ, List.flatten_cons, rep_flat a n, List.replicate_succ]; rfl
theorem op_repU {X : Cx} : OpR X (binaryOp .Mult) (rRepU X.K) := by
  intro pins s σ H x y v u Q I rx ry h
  obtain ⟨l, k, z, rfl, rfl, h1, k0, k1, q⟩ := h
  refine op_repAny pins s σ H _ _ v u Q I rx ry ?_
  by_cases c0 : k ≤ 0
  · refine .inl ⟨l, k, [z], rfl, rfl, h1, (fun e => nomatch e), .inr ⟨k0, c0, fun p np => q p _ (same_upd np) ?_⟩⟩
    rw [show k.toNat = 0 by omega]
    exact SqT.of upd_same
  · by_cases c1 : k = 1
    · refine .inl ⟨l, k, [z], rfl, rfl, h1, (fun e => nomatch e), .inl ⟨c1, q l H same_refl ?_⟩⟩
      rw [c1]
      exact h1
    · refine .inr ⟨l, k, [z], rfl, rfl, h1, (fun e => nomatch e), by omega, k1, (by show 1 ≤ 1000; decide), fun p np => q p _ (same_upd np) ?_⟩
      have e : (List.replicate k.toNat [z]).flatten = List.replicate k.toNat z := rep_flat z _
      rw [← e]
      exact SqT.of upd_same
end RU

set_option Elab.async false
set_option linter.all false
set_option maxRecDepth 100000
set_option maxHeartbeats 4000000
/-! what runs within an except suite: a tuple walked by a comprehension; errors of one's own that are known to have no context -/
namespace Hs
open PySem PySem.Spec PyProof.Rows L2 HotX
section
variable {prog : Program} {w : World} {A : Around} {E : PySem.Value → Shared → Prop} {s : Shared}
/-- the tuple's walk is over -/
theorem tuple_over {it t x1 : Addr} {i : Nat} {xs : Array PySem.Value} {Q : Option PySem.Value → Shared → Prop} (hot : HotAt A x1 s.heap) (apart : x1 ≠ it) (walk : s.heap.IsTupleIter it t i) (ht : s.heap.IsTuple t xs) (out : xs[i]? = none)
    (k : ∀ h', Heap.ExtBut it s.heap h' → Q none { s with heap := h' }) : wpAny (model prog w) A (pyNext (.ref it)) Q E s := by
  obtain ⟨hh, ox, vx, gx, dx, cx⟩ := hot
  obtain ⟨ow, gw, cw, dw⟩ := id walk
  obtain ⟨ot, gt, _, nt, dt⟩ := ht
  unfold pyNext
  refine wpAny_bind (wpAny_attempt (wpAny_callSpecial?_slot (name := Str.ofString "__next__") walk.typeIs F.slot_tuple_iterator_next (wpAny_call_entry F.slot_tuple_iterator_next walk.typeIs F.entry_tuple_iterator_next ?_ (F.args_tuple_iterator_next_1 _))))
  show wpAny _ _ ((field (Value.ref it) 0) >>= _) _ _ s
  refine wpAny_bind (wpAny_field gw dw (x := Value.ref t) rfl ?_)
  show wpAny _ _ (if (Value.ref t == Value.none) = true then _ else _) _ _ _
  have never : ¬ ((Value.ref t == Value.none) = true) := fun z => Bool.false_ne_true z
  rw [if_neg never]
  show wpAny _ _ ((field (Value.ref it) 1) >>= _) _ _ s
  refine wpAny_bind (wpAny_field gw dw (x := Value.int i 0) rfl ?_)
  show wpAny _ _ ((seqItems? (Value.ref t)) >>= _) _ _ s
  refine wpAny_bind (wpAny_seqItems gt dt ?_)
  simp only [Int.toNat_natCast, out]
  refine wpAny_bind (wpAny_rule (wpAny_bind (wpAny_setField gw dw (by simp) ?_)))
  show wpAny _ _ ((newExc (.type "StopIteration") []) >>= _) _ _ _
  refine wpAny_bind ?_
  simp only [newExc, newTuple]
  refine wpAny_bind (wpAny_newObj_type ?_ (by size_fits))
  refine wpAny_bind (m := firstArgMember _ _) (wpAny_of_eq (a := PySem.Value.none) (by first | rfl | (simp only [firstArgMember]; rfl)) ?_)
  refine wpAny_newObj_type ?_ (by size_fits)
  have g1 := (Heap.get?_update_other s.heap (Obj.mapFields (·.setIfInBounds 0 PySem.Value.none)) (Ne.symm apart)).trans gx
  refine raiseNew_hot ⟨hh, ox, vx, Heap.get?_push_of_some _ (Heap.get?_push_of_some _ g1), dx, cx⟩ (Nat.ne_of_lt (Heap.lt_size (Heap.get?_push_of_some _ g1))) (Heap.get?_push_size _ rfl) rfl (by first | (simp; done) | (simp; omega) | (simp only [Array.size_append]; simp; omega)) ?_
  refine wpAny_bind (wpAny_isInstance (T := "StopIteration") (b := true) ⟨_, Heap.get?_update_self _ (Heap.get?_push_size _ rfl) rfl, rfl⟩ isSubtype_stop (wpAny_pure (k _ fun b o nb e => ?_)))
  have g2 := (Heap.get?_update_other s.heap (Obj.mapFields (·.setIfInBounds 0 PySem.Value.none)) (Ne.symm nb)).trans e
  rw [Heap.get?_update_other _ _ (Nat.ne_of_gt (Heap.lt_size (Heap.get?_push_of_some _ g2)))]
  exact Heap.get?_push_of_some _ (Heap.get?_push_of_some _ g2)
end

theorem hot_mark {X : Cx} {a : Addr} {oe : Obj} {cls : PySem.Value} {d : Option Addr} {pn : List (Addr × Obj)} (z : L2N.Zn cls d oe) (hf : ∃ vs, oe.data = .fields vs) : L2H.HotC (X.suite a ((a, oe) :: pn)) := by
  obtain ⟨vs, e⟩ := hf
  exact ⟨(a, oe), ⟨rfl, vs, e, z.2.2 vs e⟩, List.mem_cons_self ..⟩
/-- a comprehension of a tuple, within an except suite -/
theorem pe_lcH {X : Cx} {elt tg src : PySem.Expr} {ifs : List PySem.Expr} {scope : Scope} {own : List (Str × Nat)} {pos : Pos} {tl : TE} {g : TG} {tt : TT} {te : TE} (hot : L2H.HotC X) (nd : X.N.Nodup) (tuple : PE X src tl) (blk : BlkOk X.N X.env.scope scope own)
    (target : ∀ (s : Shared) (H : Hp) (C : Addr) (cl : List (Str × Addr)) (fp : List Addr), PG (X.blk s H scope (compEnvC scope cl C X.env) fp) tg g)
    (tests : ∀ (s : Shared) (H : Hp) (C : Addr) (cl : List (Str × Addr)) (fp : List Addr), PTs (X.blk s H scope (compEnvC scope cl C X.env) fp) ifs tt)
    (elem : ∀ (s : Shared) (H : Hp) (C : Addr) (cl : List (Str × Addr)) (fp : List Addr), PE (X.blk s H scope (compEnvC scope cl C X.env) fp) elt te) (plain : ∀ x, foldedSetIterable src X.env x = pure x := by intro _; rfl) :
    PE X (.ListComp elt [⟨tg, src, ifs, 0⟩] scope pos) (tLc (iTup X.K tl) g tt te (own.map (·.2))) := by
  obtain ⟨px, ⟨hh, vx, dx, cx⟩, hpx⟩ := hot
  refine ⟨fun pins s0 σ H0 Q I0 start => ?_⟩
  rw [eval_ListComp]
  have caught : ∀ y ∈ scope.names, y.2 = .free → ∃ c, X.env.cells.lookup y.1 = some c := fun y hy e => (blk.free y hy e).elim (fun k => I0.ok.has _ (.inl k)) fun k => I0.ok.has _ (.inr k)
  refine wpAny_comprehension_free (use := _) rfl plain (closure_ok caught) blk.kind (fun y hy e => by rw [blk.uniq y hy, e]) (thn (tuple.run pins s0 σ H0 _ I0 start) fun _ sa ha => ?_)
  obtain ⟨x, Ha, Ia, rx, a, rfl, ⟨xs, hxs⟩, more⟩ := ha
  cases rx
  obtain ⟨its, _, pt, _⟩ := Ia.tuple hxs
  refine wpAny_pyIter_tuple (show sa.heap.IsTuple a its.toArray from pt) ?_
  have feetA : FpOk X pins Ha sa.heap.objs.size := Ia.fpOk (Nat.le_refl _) (Ia.hok.fresh (Nat.le_refl _))
  have Ib : L2.Inv X pins σ Ha { sa with heap := sa.heap.push { cls := .type "tuple_iterator", data := .fields #[.ref a, .int 0 0] } } := Ia.kept (t' := sa.toks) fun b o e => Heap.get?_push_of_some _ e
  have atA : (sa.heap.push { cls := .type "tuple_iterator", data := .fields #[.ref a, .int 0 0] }).IsTupleIter sa.heap.objs.size a 0 := ⟨_, Heap.get?_push_size _ rfl, rfl, rfl⟩
  have ltA : sa.heap.objs.size < (sa.heap.push { cls := .type "tuple_iterator", data := .fields #[.ref a, .int 0 0] }).objs.size := by rw [Heap.size_push]; exact Nat.lt_succ_self _
  generalize eB : ({ sa with heap := sa.heap.push { cls := .type "tuple_iterator", data := .fields #[.ref a, .int 0 0] } } : Shared) = sb at Ib
  have hB : sa.heap.push { cls := .type "tuple_iterator", data := .fields #[.ref a, .int 0 0] } = sb.heap := by rw [← eB]
  rw [hB] at atA ltA
  generalize sa.heap.objs.size = it at feetA atA ltA ⊢
  refine wpAny_newObj_type (newEnv_comp ?_) (by show 0 ≤ sizeLine; decide)
  obtain ⟨Left, ⟨mFirst, first⟩, each⟩ := more sb.heap.objs.size (Ib.hok.fresh (Nat.le_refl _))
  have Ic : L2.Inv X pins σ (upd Ha sb.heap.objs.size (.lst [])) { sb with heap := sb.heap.push { cls := .type "list", data := .seq ([] : List PySem.Value).toArray } } :=
    Ib.laid (t' := sb.toks) (fun b o e => Heap.get?_push_of_some _ e) (Nat.le_refl _) ⟨Nat.zero_le _, [], 0, .nil, Heap.get?_push_size _ rfl⟩
  have feet1 : FpOk X pins (upd Ha sb.heap.objs.size (.lst [])) it := ⟨by rw [upd_ne (Nat.ne_of_lt ltA)]; exact feetA.1, feetA.2⟩
  have at1 : (sb.heap.push { cls := .type "list", data := .seq ([] : List PySem.Value).toArray }).IsTupleIter it a 0 := atA.at fun o e => Heap.get?_push_of_some _ e
  have lt1 : it < (sb.heap.push { cls := .type "list", data := .seq ([] : List PySem.Value).toArray }).objs.size := by rw [Heap.size_push]; exact Nat.lt_succ_of_lt ltA
  generalize eC : ({ sb with heap := sb.heap.push { cls := .type "list", data := .seq ([] : List PySem.Value).toArray } } : Shared) = sc at Ic
  have hC : sb.heap.push { cls := .type "list", data := .seq ([] : List PySem.Value).toArray } = sc.heap := by rw [← eC]
  rw [hC] at at1 lt1
  generalize sb.heap.objs.size = d at Ic feet1 first each ⊢
  generalize eH : upd Ha d (.lst []) = HC at Ic feet1 first
  have feetC : ∀ b ∈ [it], FpOk X pins HC b ∧ b < sc.heap.objs.size := fun b hb => by
    obtain rfl := List.mem_singleton.mp hb
    exact ⟨feet1, lt1⟩
  have Id := block_start Ic blk nd feetC
  have ptg := target sc HC sc.heap.objs.size (cellsFrom (sc.heap.objs.size + 1) scope.names (cloFrom X.env.cells scope.names [])) [it]
  have pts := tests sc HC sc.heap.objs.size (cellsFrom (sc.heap.objs.size + 1) scope.names (cloFrom X.env.cells scope.names [])) [it]
  have pel := elem sc HC sc.heap.objs.size (cellsFrom (sc.heap.objs.size + 1) scope.names (cloFrom X.env.cells scope.names [])) [it]
  show codeAny _ _ (.compStart (.ListComp elt [⟨tg, src, ifs, 0⟩] scope pos) 0 (.ref it) (.ref d) (compEnvC scope (cellsFrom (sc.heap.objs.size + 1) scope.names (cloFrom X.env.cells scope.names [])) sc.heap.objs.size X.env)) (compPost (model X.prog X.w) X.A X.xe none (EP X pins σ Q) (.ref d) sc.heap.objs.size) { sc with heap := pushCells (sc.heap.push { cls := .type "dict", data := .dict #[] }) scope.names }
  generalize eEnv : compEnvC scope (cellsFrom (sc.heap.objs.size + 1) scope.names (cloFrom X.env.cells scope.names [])) sc.heap.objs.size X.env = env at Id ptg pts pel ⊢
  have eLoc : env.locals = sc.heap.objs.size := by rw [← eEnv] <;> rfl
  generalize eD : ({ sc with heap := pushCells (sc.heap.push { cls := .type "dict", data := .dict #[] }) scope.names } : Shared) = sd at Id ⊢
  have at2 : sd.heap.IsTupleIter it a 0 := by
    rw [← eD]
    exact at1.at fun o e => pushCells_keeps _ _ _ _ (Heap.get?_push_of_some _ e)
  -- the exception that is handled stays as it is
  obtain ⟨x1, x2, _, x4, _⟩ := Ic.pin px (List.mem_append_left _ hpx)
  have notIt : px.1 ≠ it := feet1.2.2.2.2.2 px (List.mem_append_left _ hpx)
  have notFr : px.1 ∉ frs X.stack := fun m => (List.mem_cons.mp (Ic.stkSub px.1 m)).elim (Ic.pin px (List.mem_append_left _ hpx)).2.2.1 x4
  have warm : ∀ {σ' : L2.St} {H' : Hp} {s' : Shared}, L2.Inv (X.blk sc HC scope env [it]) [] σ' H' s' → HotAt X.A px.1 s'.heap := fun I' =>
    ⟨hh, px.2, vx, I'.base.keep px.1 px.2 x1 x2 notFr (fun m => notIt (List.mem_singleton.mp m)), dx, cx⟩
  have keptApart : ∀ {σ' : L2.St} {H' : Hp} {s' : Shared}, L2.Inv (X.blk sc HC scope env [it]) [] σ' H' s' → H' it = none → FpOk (X.blk sc HC scope env [it]) [] H' it := fun I' no => by
    obtain ⟨y1, y2⟩ := I'.ok.exf it (List.mem_singleton.mpr rfl)
    exact ⟨no, y1, I'.ok.exfs it (List.mem_singleton.mpr rfl), .inl (List.mem_singleton.mpr rfl), fun x c e => y2 x c e, fun p hp => by simp at hp⟩
  have turns : codeAny (model X.prog X.w) X.A (.compLoop (.ListComp elt [⟨tg, src, ifs, 0⟩] scope pos) 0 (.ref it) (.ref d) env) (compPost (model X.prog X.w) X.A X.xe none (EP X pins σ Q) (.ref d) sc.heap.objs.size) sd := by
    refine compLoop_any (fun n s' => ∃ i H', L2.Inv (X.blk sc HC scope env [it]) [] (wipe σ (own.map (·.2))) H' s' ∧ s'.heap.IsTupleIter it a i ∧ H' it = none ∧ Left i n H') ?_ mFirst ⟨0, HC, Id, at2, feet1.1, first⟩
    rintro n s1 ⟨i, H1, I1, p1, no1, left⟩
    obtain ⟨f0, f1, f2, f3, f4, f5⟩ := keptApart I1 no1
    rcases each i n H1 left with ⟨⟨ys, hys, past⟩, here⟩ | ⟨⟨ys, x, hys, hx⟩, Next, down, turn⟩
    · obtain ⟨its1, rv1, pt1, _⟩ := I1.tuple hys
      have same := rv1.length
      refine tuple_over (warm I1) notIt p1 (show s1.heap.IsTuple a its1.toArray from pt1) (by simp; omega) fun h' eb => ?_
      have I2 : L2.Inv (X.blk sc HC scope env [it]) [] (wipe σ (own.map (·.2))) H1 { s1 with heap := h' } := I1.turned (t' := s1.toks) (fun b o hb e => eb b o hb e) f0 f1 f3 f4 f5
      have back : L2.Inv X pins σ H1 { s1 with heap := h' } := Ic.call' (ch := [it]) I2.os I2.base I2.hok I2.bare fun b hb => by
        obtain ⟨⟨_, y1, _, y2, y3, y4⟩, _⟩ := feetC b hb
        exact ⟨y2, y1, y3, y4⟩
      have nLoc : H1 sc.heap.objs.size = none := by
        rw [← eLoc]
        exact I2.free
      obtain ⟨m, hm, _⟩ := I2.loc
      have hm2 : h'.Ns sc.heap.objs.size m := by
        rw [← eLoc]
        exact hm
      refine ⟨m, hm2, fun h'' sb2 => ?_⟩
      obtain ⟨y0, y1, y2, y3, y4, y5⟩ := Ic.fpOk (Nat.le_refl _) nLoc
      exact ⟨.ref d, H1, back.turned (t' := s1.toks) (fun b o hb e => (sb2.2 b hb).trans e) y0 y1 y3 y4 y5, rfl, here⟩
    · obtain ⟨its1, rv1, pt1, _⟩ := I1.tuple hys
      obtain ⟨u, hu, ru⟩ := rv1.get hx
      refine wpAny_pyNext_tuple_item p1 (show s1.heap.IsTuple a its1.toArray from pt1) (x := u) (by simpa using hu) fun h' st' sb2 => ?_
      have I2 : L2.Inv (X.blk sc HC scope env [it]) [] (wipe σ (own.map (·.2))) H1 { s1 with heap := h' } := I1.turned (t' := s1.toks) (fun b o hb e => (sb2.2 b hb).trans e) f0 f1 f3 f4 f5
      obtain ⟨ow, gw, cw, dw⟩ := id st'
      refine go_of (s := { s1 with heap := h' }) gw cw dw (by decide) ?_
      have I2p := I2.pinned (fp := [it]) (fun b hb => by
        obtain rfl := List.mem_singleton.mp hb
        exact keptApart I2 no1) (fun b hb => by
        obtain rfl := List.mem_singleton.mp hb
        exact ⟨ow, gw, fun v z => by rw [dw] at z; cases z⟩)
      refine thnF (ptg.run _ _ _ H1 x u _ I2p ru (turn x H1 ⟨rfl, fun zs hzs => by rw [I1.tuple_inj hzs hys]; exact hx⟩)) fun _ s4 z => ?_
      obtain ⟨σ4, H4, I4, same, q4⟩ := z
      refine thnF (pts.run _ s4 σ4 H4 _ I4 q4) fun good s5 z => ?_
      obtain ⟨H5, I5, q5⟩ := z
      have ends : ∀ {se : Shared} {He : Hp}, L2.Inv (X.blk sc HC scope env [it]) ([] ++ pinsAt [it] h') σ4 He se → Next He → ∃ m, m < n ∧ ∃ i H', L2.Inv (X.blk sc HC scope env [it]) [] (wipe σ (own.map (·.2))) H' se ∧ se.heap.IsTupleIter it a i ∧ H' it = none ∧ Left i m H' := fun {se He} Ie nx => by
        obtain ⟨m', lower, left'⟩ := down He nx
        have z := Ie.pin (it, ow) (List.mem_append_right _ (List.mem_append_right _ (mem_pinsAt (List.mem_singleton.mpr rfl) gw)))
        refine ⟨m', lower, i + 1, He, (Ie.unpinned (pins := [])).weak (by rw [← same, wipe_length]) (fun j v e => ?_), ⟨ow, z.1, cw, dw⟩, z.2.1, left'⟩
        rw [← same] at e
        exact (wipe_some e).1
      cases good with
      | false =>
        simp only [Bool.false_eq_true, if_false] at q5 ⊢
        exact ends I5 q5
      | true =>
        simp only [if_true] at q5 ⊢
        refine thnF (pel.run _ s5 σ4 H5 _ I5 q5) fun yv s6 z => ?_
        obtain ⟨y, H6, I6, ry, acc, e6, few, nx⟩ := z
        exact app_ok (X := X.blk sc HC scope env [it]) I6 e6 few ry fun s7 I7 => ends I7 nx
  exact codeAny_compStart_list turns (wpAny_pyIter_tupleiter at2 turns)
/-! ### defs that run within an except suite -/
section
variable {P : Program} {w : World} {K : PySem.W.Frag} {mg : Str → Option PySem.Value} {base : Heap} {x qual : Str} {params : Arguments} {body : List PySem.Stmt} {scope : Scope} {dvs : List V} {kws : List (Str × V)} {f : Addr} {fd : FuncData}
theorem okH {CX : CXT} {N ps : List Str} {k : Nat} {sp : Sp} (D : FunD K x qual params body scope dvs kws f fd) (S : FnScope N ps scope) (len : ∀ vs H Q E, sp vs H Q E → vs.length = ps.length)
    (walk : ∀ (cdv : PySem.Value) (A : Around) (outer : List Env) (s : Shared) (H : Hp) (vs : List V) (Q : VK) (E : XK) (p : Addr × Obj), L2H.Hot1 A p → L2H.RoomH k (A.deeper (envOfC qual scope s.heap.objs.size f cdv)) → sp vs H Q E →
      ∃ t, PSs (L2H.cxH CX P w K mg base N qual scope f cdv A outer s H E p) body t ∧ t { nx := fun _ H' => Q .non H', rt := Q } (start N vs) H) : L2H.FnH P w K mg base CX (k + 1) f fd ps sp := by
  obtain ⟨_, _, _, _, _, _, _, _, _, _, rfl, found, isCode, _, _⟩ := D.ex
  exact L2H.fn_ofH found isCode S len fun A outer s H vs Q E p hot room h => walk _ A outer s H vs Q E p hot room h
end
/-! ### errors of one's own: nothing stands behind them -/
theorem pmk_erN {X : Cx} {k : Nat} {x : Str} {C : Addr} {fs : List Str} {ta : TA} {e : PySem.Expr} {es : List PySem.Expr} {p pos : Pos} (T : Tr.Er X.prog X.w X.K X.mg X.base x C fs) (room : Room (k + 2) X.A) (glob : Gl X x) (ha : PA X (e :: es) ta)
    (hdb : (x == ("__debug__" : Str)) = false := by decide) (he : starEach (e :: es) X.env = (false, eval e X.env) :: starEach es X.env := by rfl) (hpl : (backTo pos (starEach es X.env)).any (·.1) = false := by rfl) :
    L2N.PMk X (.Call (.Name x p) (e :: es) [] pos) (tMkO C (Tr.spI C fs) [] ta) := by
  obtain ⟨fI, fd, iC, tI, F1, hb⟩ := T.ini
  obtain ⟨nm, q, N, bs, bm, sn, sub, ab, col, dd, k0, k1, k2, k3, k5, hC, hbm⟩ := T.t.o.cls
  intro pins s σ H Q I h
  refine wpAny_Call_Name_kw (ld_glob I glob T.mgx ?_ hdb)
  refine PySem.W.callWith_K (h₀ := X.base) I.ok.mod.kin T.t.o.kC (thn (ha.run pos pins s σ H _ I h) fun us s1 hus => ?_) he hpl
  obtain ⟨vs, H1, I1, r1, hz, q1⟩ := hus
  refine ⟨I1.kIn, ?_⟩
  show wpAny _ _ (call (Value.ref C) us) _ _ _
  obtain ⟨hp, g, dr, tk, os⟩ := s1
  have above : hp.objs.size ≤ hp.objs.size + 1 := Nat.le_succ _
  have hq := q1 (hp.objs.size + 1) (I1.hok.fresh above)
  rw [List.append_nil] at hq
  have keep : ∀ b o, hp.get? b = some o → ((hp.push (PySem.W.kdv_tup us)).push (PySem.HandSPX.excO C hp.objs.size)).get? b = some o := fun b o z => Heap.get?_push_of_some _ (Heap.get?_push_of_some _ z)
  have I2 : L2.Inv X pins σ (upd H1 (hp.objs.size + 1) (exo (hp.objs.size + 1) C none)) ⟨(hp.push (PySem.W.kdv_tup us)).push (PySem.HandSPX.excO C hp.objs.size), g, dr, tk, os⟩ :=
    I1.laid (t' := tk) (a := hp.objs.size + 1) (o := exo (hp.objs.size + 1) C none) (h' := (hp.push (PySem.W.kdv_tup us)).push (PySem.HandSPX.excO C hp.objs.size)) keep above (exo_ok (by heap_get))
  have r2 : Vals (V.ref (hp.objs.size + 1) :: vs) (Value.ref (hp.objs.size + 1) :: us) := .cons rfl r1
  have many : (Value.ref (hp.objs.size + 1) :: us).length = (("self" : Str) :: fs).length := by
    rw [← r2.length]
    exact F1.len _ _ _ _ hq
  have few : us.length ≤ sizeLine := by
    rw [← Paired.length r1, sizeLine_eq]
    omega
  have b2 := hb ⟨(hp.push (PySem.W.kdv_tup us)).push (PySem.HandSPX.excO C hp.objs.size), g, dr, tk, os⟩ (Value.ref (hp.objs.size + 1) :: us) I2.kIn (by rw [List.append_nil]; exact many)
  rw [List.append_nil] at b2
  refine wpAny_call (PySem.HandSPX.call_own F.excBase_ValueError (fun Y => PySem.HandSPX.refsVE_contains Y bm hbm) (I1.kIn _ _ hC) (PySem.W.looks_findIn I1.kIn iC) (fun self => PySem.W.bind_fn I1.kIn self tI) few (codeAny_mono (F1.run _ X.stack _ _ ⟨Value.ref (hp.objs.size + 1) :: us, []⟩ (Value.ref (hp.objs.size + 1) :: us) _ _ (fun _ _ _ => False) ((room.mono (show 1 + 1 ≤ k + 2 by omega)).make C us []) (I2.env0.make C us []) b2 r2 hq) fun r s' z => ?_))
  cases r with
  | error er => exact pass0 pins σ _ _ er s' I2 z
  | ok fl =>
    cases fl with
    | next => exact z.elim
    | brk => exact z.elim
    | cont => exact z.elim
    | ret u =>
      obtain ⟨v, H2, os2, bare2, un2, hok2, rv, rfl, d, gs, ea, ed, hd1, q2⟩ := z
      obtain ⟨h2, g2, d2, t2, os'⟩ := s'
      obtain ⟨t0, G, J, kG, ge, hoe, na⟩ := mk_end0 (d2 := d2) (t2 := t2) I1 above keep un2 hok2 os2 bare2 ea ed hd1
      exact ⟨rv, hp.objs.size + 1, _, _, ⟨G, g2, d2, t2, os'⟩, _, .ref C, some d, rfl, J, kG, ge, hoe, ⟨rfl, rfl, fun vs hv => by cases hv; rfl⟩, rfl, rfl, na, rfl, bare2, raises_own T.t.o.exC T.t.o.tyC, q2⟩
theorem passN {X : Cx} : Passes (L2N.CX X.prog X.w) X E0 := fun _ _ _ _ _ _ _ h => by
  obtain ⟨a, B, H', cls, d, z⟩ := h
  exact z.2.2.2.2.2.2.2.elim
end Hs

set_option Elab.async false
set_option linter.all false
set_option maxRecDepth 100000
set_option maxHeartbeats 4000000
namespace RU
open PySem PySem.Spec PyProof.Rows L2 Tr AK LamX
/-- one walk or another -/
theorem pi_or {X : Cx} {tg it : PySem.Expr} {a b : TI} (ha : PI X tg it a) (hb : PI X tg it b) : PI X tg it (fun σ H R => a σ H R ∨ b σ H R) := ⟨fun pins s σ H R I h => h.elim (ha.run pins s σ H R I) (hb.run pins s σ H R I)⟩
/-- isinstance, of data or by the kind -/
def rIsB (K : PySem.W.Frag) : List V → Hp → VK → Prop := fun xs H Q => rIsD K xs H Q ∨ rIsi K xs H Q
theorem call_isB {X : Cx} : CallR X (.builtin "isinstance") (rIsB X.K) := fun pins s σ H xs us Q I r h => h.elim (call_isD pins s σ H xs us Q I r) (call_isi pins s σ H xs us Q I r)
/-! ### repr of data with an empty dict in it -/
mutual
inductive DpE (K : PySem.W.Frag) (H : Hp) : V → PyData → Prop
  | plain {v : V} {d : PyData} : Dp K H v d → DpE K H v d
  | dict {a : Addr} : H a = some (.dK []) → DpE K H (.ref a) (.dict [])
  | tup {a : Addr} {xs : List V} {ds : List PyData} : SqT K H a xs → DpEs K H xs ds → DpE K H (.ref a) (.tuple ds)
inductive DpEs (K : PySem.W.Frag) (H : Hp) : List V → List PyData → Prop
  | nil : DpEs K H [] []
  | cons {v : V} {d : PyData} {vs : List V} {ds : List PyData} : DpE K H v d → DpEs K H vs ds → DpEs K H (v :: vs) (d :: ds)
end
mutual
theorem dp_has {K : PySem.W.Frag} {H : Hp} : ∀ (d : PyData) (v : V), Dp K H v d → d.hasDict = false
  | .none, _, _ => by simp [PyData.hasDict]
  | .bool _, _, _ => by simp [PyData.hasDict]
  | .int _, _, _ => by simp [PyData.hasDict]
  | .str _, _, _ => by simp [PyData.hasDict]
  | .list ds, _, h => by
    cases h with
    | lst _ ha =>
      simp only [PyData.hasDict]
      exact dps_has ds _ ha
  | .tuple ds, _, h => by
    cases h with
    | tup _ ha =>
      simp only [PyData.hasDict]
      exact dps_has ds _ ha
  | .dict _, _, h => by cases h
theorem dps_has {K : PySem.W.Frag} {H : Hp} : ∀ (ds : List PyData) (vs : List V), DpAll K H vs ds → PyData.hasDictAll ds = false
  | [], _, _ => by simp [PyData.hasDictAll]
  | d :: ds, _, h => by
    cases h with
    | cons h1 h2 =>
      simp only [PyData.hasDictAll, dp_has d _ h1, dps_has ds _ h2, Bool.or_self]
end
section
variable {X : Cx} {pins : List (Addr × Obj)} {σ : L2.St} {H : Hp} {s : Shared}
theorem pairs_nil {prog : Program} {w : World} : ∀ {l : List DictEntry}, Pairs (mixKind prog w) l [] → l = []
  | [], _ => rfl
mutual
theorem dpe_shows (I : L2.Inv X pins σ H s) : ∀ {v : V} {d : PyData} {u : PySem.Value}, DpE X.K H v d → RelV v u → d.showable = true → d.shown.length ≤ sizeLine → (∃ as, Reads s.heap u d as) ∧ ∃ bs, ReadAtMost s.heap d.depth bs ∧ ReprK X.prog X.w bs s.heap d.depth u d.shown
  | _, d, u, .plain h, r, hs, hz => by
    obtain ⟨as, rd⟩ := Dp.reads I d _ u h r
    exact ⟨⟨as, rd⟩, ReprK.of_reads rd hs (PyData.noDict_hsm (dp_has d _ h)) hz⟩
  | _, _, u, .dict (a := a) h, r, hs, hz => by
    cases r
    obtain ⟨_, hm, vs, kv, o, es, ep, h1, h2, h3, _, h4, _⟩ := (show ObjOk X.prog X.w H s.heap a (.dK []) from I.hok a _ h)
    cases kv
    have e0 := pairs_nil h4
    have rd : Reads s.heap (.ref a) (.dict []) (a :: [] ++ []) := .dict h1 h2.1 h3 (by rw [e0]; exact .nil) (by rw [e0]; exact .nil)
    refine ⟨⟨_, rd⟩, [a], ReadAtMost.cons (n := 0) rd (Nat.zero_le _) (fun _ h => nomatch h), ?_⟩
    have k := ReprK.dict (prog := X.prog) (w := X.w) (as := []) (d := PyData.depthKv []) (ps := []) h1 h2.1 h3 hm (fun h => nomatch h) (by rw [e0]; exact .nil)
    simpa only [PyData.depth, PyData.shown, PyData.shownKv] using k
  | _, _, u, .tup (a := a) (ds := ds) h ha, r, hs, hz => by
    cases r
    obtain ⟨its, rv, ⟨o, ho, hc, n, hd⟩, _⟩ := I.tuple h
    have hs' : PyData.showableAll ds = true := by simpa [PyData.showable] using hs
    have hz' : (tupleText (PyData.shownAll ds)).length ≤ sizeLine := by simpa only [PyData.shown] using hz
    obtain ⟨⟨as, rds⟩, bs, hb, hk⟩ := dpes_shows I ha rv hs' fun t ht => Nat.le_trans (tupleText_mem_le ht) hz'
    have rd : Reads s.heap (.ref a) (.tuple ds) as := .tuple ho hc hd rds
    have hna : a ∉ bs := not_mem_of_deeper rd (by simp only [PyData.depth]; omega) hb
    refine ⟨⟨as, rd⟩, a :: bs, ReadAtMost.cons rd (by simp only [PyData.depth]; omega) hb, ?_⟩
    simp only [PyData.depth, PyData.shown]
    exact ReprK.tuple ho hc hd hna hk
theorem dpes_shows (I : L2.Inv X pins σ H s) : ∀ {vs : List V} {ds : List PyData} {us : List PySem.Value}, DpEs X.K H vs ds → Vals vs us → PyData.showableAll ds = true → (∀ t ∈ PyData.shownAll ds, t.length ≤ sizeLine) →
    (∃ as, ReadsAll s.heap us ds as) ∧ ∃ bs, ReadAtMost s.heap (PyData.depthAll ds) bs ∧ ReprAllK X.prog X.w bs s.heap (PyData.depthAll ds) us (PyData.shownAll ds)
  | _, _, us, .nil, r, _, _ => by
    cases r
    refine ⟨⟨_, .nil⟩, [], (fun _ h => nomatch h), ?_⟩
    simp only [PyData.shownAll]
    exact .nil
  | _, _, us, .cons (d := d) (ds := ds) h1 h2, r, hs, hz => by
    cases r with
    | cons r1 r2 =>
      have hs' : d.showable = true ∧ PyData.showableAll ds = true := by simpa [PyData.showableAll] using hs
      obtain ⟨⟨as, q1⟩, b1, m1, k1⟩ := dpe_shows I h1 r1 hs'.1 (hz _ (by simp only [PyData.shownAll]; exact List.mem_cons_self ..))
      obtain ⟨⟨bs, q2⟩, b2, m2, k2⟩ := dpes_shows I h2 r2 hs'.2 fun t ht => hz t (by simp only [PyData.shownAll]; exact List.mem_cons_of_mem _ ht)
      have e : PyData.depthAll (d :: ds) = max d.depth (PyData.depthAll ds) := by simp only [PyData.depthAll]
      refine ⟨⟨_, .cons q1 q2⟩, b1 ++ b2, ?_, ?_⟩
      · rw [e]
        exact (m1.mono (Nat.le_max_left _ _)).append (m2.mono (Nat.le_max_right _ _))
      · rw [e]
        simp only [PyData.shownAll]
        exact .cons ((k1.more fun b hb => List.mem_append_left _ hb).level_le (Nat.le_max_left _ _)) (k2.more_le (fun b hb => List.mem_append_right _ hb) (Nat.le_max_right _ _))
end
end
/-- repr(x): of any data, or of a list of such -/
def rShowE (K : PySem.W.Frag) : List V → Hp → VK → Prop := fun xs H Q => rShowV K xs H Q ∨ ∃ (a : Addr) (x : V) (ys : List V) (ds : List PyData), xs = [.ref a] ∧ SqL K H a (x :: ys) ∧ DpEs K H (x :: ys) ds ∧ (PyData.list ds).showable = true ∧ (PyData.list ds).depth ≤ 60 ∧ (PyData.list ds).shown.length ≤ sizeLine ∧ Q (.str (PyData.list ds).shown) H
theorem call_showE {Y : Cx} (free : Y.A.guards = some []) (hu : Y.A.units + 64 < cLine) : CallR Y (.builtin "repr") (rShowE Y.K) := by
  intro pins s σ H xs us Q I rel h
  rcases h with h | ⟨a, x, ys, ds, rfl, hL, hE, hs, deep, short, q⟩
  · exact call_showV free hu pins s σ H xs us Q I rel h
  obtain ⟨u, rfl, ru⟩ := vals1 rel
  cases ru
  obtain ⟨its, rv, ⟨o, n, ho, hc, _, hd⟩, _⟩ := I.list hL
  have hs' : PyData.showableAll ds = true := by simpa [PyData.showable] using hs
  have hz' : (listText (PyData.shownAll ds)).length ≤ sizeLine := by simpa only [PyData.shown] using short
  obtain ⟨⟨as, rds⟩, bs, hb, hk⟩ := dpes_shows I hE rv hs' fun t ht => Nat.le_trans (listText_mem_le ht) hz'
  have rd : Reads s.heap (.ref a) (.list ds) _ := .list ho hc hd rds
  have hna : a ∉ bs := not_mem_of_deeper rd (by simp only [PyData.depth]; omega) hb
  simp only [PyData.depth] at deep
  refine call_repr_slot (by omega) ⟨o, ho, hc⟩ F.slot_list_repr.toG ?_
  cases rv with
  | @cons _ u0 _ us0 r0 rs0 =>
    refine call_list_reprK ho hc hd hna (by simpa using hk.length_eq) (fun i y e => hk.item i y (by simpa using e)) free (fun b _ => Clear.nil b) (by show Y.A.units + 1 + (PyData.depthAll ds + 1) < cLine; omega) (fun _ _ e => e) (fun h' u tk keep => ?_) hz'
    refine ⟨_, _, rfl, .str (PyData.list ds).shown, H, I.kept (t' := tk) keep, ?_, q⟩
    simp only [PyData.shown]
    exact ⟨_, rfl⟩
end RU
namespace RU
open PySem PySem.Spec PyProof.Rows L2 Tr AK LamX
/-! ### the turns of a list's comprehension with two `for` -/
theorem lc2_in {Jb : It} {n : Nat} {G : Hp → Prop} {Y : Nat → Hp → V → Hp → Prop} {g1 : TG} {tt1 : TT} {te : TE} {us : List Nat} {σ2 : L2.St} {H3 : Hp} {D : Addr} {Next : Hp → Prop} (W : Walk Jb n G Y) (Pv : Nat → Hp → Prop) (h0 : Pv 0 H3) (hG : ∀ j H, j ≤ n → Pv j H → G H)
    (hs : ∀ j x H H', j < n → Pv j H → Y j H x H' → g1 x (wipe σ2 us) H' fun σ3 H5 => wipe σ3 us = wipe σ2 us ∧ tt1 σ3 H5 fun b H6 => if b = true then te σ3 H6 fun y H7 => ∃ acc, H7 D = some (.lst acc) ∧ acc.length < sizeLine ∧ Pv (j + 1) (upd H7 D (.lst (acc ++ [y]))) else Pv (j + 1) H6) (hd : ∀ H, Pv n H → Next H) :
    ∃ W1 : Nat → Nat → Hp → Prop, (∃ m, W1 0 m H3) ∧ ∀ j k H, W1 j k H → (Jb.stop j H ∧ Next H) ∨ (Jb.go j H ∧ ∃ N1 : Hp → Prop, (∀ H', N1 H' → ∃ k', k' < k ∧ W1 (j + 1) k' H') ∧ ∀ x H', Jb.yld j H x H' → g1 x (wipe σ2 us) H' fun σ3 H5 => wipe σ3 us = wipe σ2 us ∧ tt1 σ3 H5 fun b H6 =>
      if b = true then te σ3 H6 fun y H7 => ∃ acc, H7 D = some (.lst acc) ∧ acc.length < sizeLine ∧ N1 (upd H7 D (.lst (acc ++ [y]))) else N1 H6) := by
  refine ⟨fun i m H => m = n - i ∧ i ≤ n ∧ Pv i H, ⟨n, by simp, Nat.zero_le _, h0⟩, ?_⟩
  rintro i m H ⟨rfl, hi, p⟩
  have q := hG i H hi p
  by_cases hlt : i < n
  · exact .inr ⟨W.goes i H hlt q, Pv (i + 1), fun H' p' => ⟨n - (i + 1), by omega, rfl, hlt, p'⟩, fun x H' y => hs i x H H' hlt p (W.yields i H x H' hlt q y)⟩
  · have e : i = n := by omega
    subst e
    exact .inl ⟨W.stops H q, hd H p⟩
theorem lc2_out {J : It} {n : Nat} {G : Hp → Prop} {Y : Nat → Hp → V → Hp → Prop} {g g1 : TG} {tt tt1 : TT} {wj : TI} {te : TE} {vs us : List Nat} {σ : L2.St} {H1 : Hp} {D : Addr} {Qd : Hp → Prop} (W : Walk J n G Y) (Pv : Nat → Hp → Prop) (h0 : Pv 0 (upd H1 D (.lst []))) (hG : ∀ j H, j ≤ n → Pv j H → G H)
    (hs : ∀ i x H H', i < n → Pv i H → Y i H x H' → g x (wipe σ vs) H' fun σ2 H2 => wipe σ2 vs = wipe σ vs ∧ tt σ2 H2 fun b H3 => if b = true then wj σ2 H3 fun J1 H4 => ∃ W1 : Nat → Nat → Hp → Prop, (∃ m, W1 0 m H4) ∧ ∀ j k H, W1 j k H →
      (J1.stop j H ∧ Pv (i + 1) H) ∨ (J1.go j H ∧ ∃ N1 : Hp → Prop, (∀ H', N1 H' → ∃ k', k' < k ∧ W1 (j + 1) k' H') ∧ ∀ x H', J1.yld j H x H' → g1 x (wipe σ2 us) H' fun σ3 H5 => wipe σ3 us = wipe σ2 us ∧ tt1 σ3 H5 fun b H6 =>
        if b = true then te σ3 H6 fun y H7 => ∃ acc, H7 D = some (.lst acc) ∧ acc.length < sizeLine ∧ N1 (upd H7 D (.lst (acc ++ [y]))) else N1 H6)
      else Pv (i + 1) H3) (hd : ∀ H, Pv n H → Qd H) :
    ∃ W0 : Nat → Nat → Hp → Prop, (∃ m, W0 0 m (upd H1 D (.lst []))) ∧ ∀ i m H, W0 i m H → (J.stop i H ∧ Qd H) ∨ (J.go i H ∧ ∃ N0 : Hp → Prop, (∀ H', N0 H' → ∃ m', m' < m ∧ W0 (i + 1) m' H') ∧ ∀ x H', J.yld i H x H' → g x (wipe σ vs) H' fun σ2 H2 => wipe σ2 vs = wipe σ vs ∧ tt σ2 H2 fun b H3 =>
      if b = true then wj σ2 H3 fun J1 H4 => ∃ W1 : Nat → Nat → Hp → Prop, (∃ m, W1 0 m H4) ∧ ∀ j k H, W1 j k H →
        (J1.stop j H ∧ N0 H) ∨ (J1.go j H ∧ ∃ N1 : Hp → Prop, (∀ H', N1 H' → ∃ k', k' < k ∧ W1 (j + 1) k' H') ∧ ∀ x H', J1.yld j H x H' → g1 x (wipe σ2 us) H' fun σ3 H5 => wipe σ3 us = wipe σ2 us ∧ tt1 σ3 H5 fun b H6 =>
          if b = true then te σ3 H6 fun y H7 => ∃ acc, H7 D = some (.lst acc) ∧ acc.length < sizeLine ∧ N1 (upd H7 D (.lst (acc ++ [y]))) else N1 H6)
      else N0 H3) := by
  refine ⟨fun i m H => m = n - i ∧ i ≤ n ∧ Pv i H, ⟨n, by simp, Nat.zero_le _, h0⟩, ?_⟩
  rintro i m H ⟨rfl, hi, p⟩
  have q := hG i H hi p
  by_cases hlt : i < n
  · exact .inr ⟨W.goes i H hlt q, Pv (i + 1), fun H' p' => ⟨n - (i + 1), by omega, rfl, hlt, p'⟩, fun x H' y => hs i x H H' hlt p (W.yields i H x H' hlt q y)⟩
  · have e : i = n := by omega
    subst e
    exact .inl ⟨W.stops H q, hd H p⟩
/-! ### isinstance(x, tuple), isinstance(x, (list, tuple)) -/
def rIsU (K : PySem.W.Frag) : List V → Hp → VK → Prop := fun xs H Q => rIsTu K xs H Q ∨ rIsi K xs H Q
theorem call_isU {X : Cx} : CallR X (.builtin "isinstance") (rIsU X.K) := fun pins s σ H xs us Q I r h => h.elim (call_isTu pins s σ H xs us Q I r) (call_isi pins s σ H xs us Q I r)
def rIsLT (K : PySem.W.Frag) : List V → Hp → VK → Prop := fun xs H Q => ∃ (x : V) (tp : Addr), xs = [x, .ref tp] ∧ H tp = some (.tup [.ty "list", .ty "tuple"]) ∧
  ((∃ a ys, x = .ref a ∧ (SqL K H a ys ∨ SqT K H a ys) ∧ Q (.bl true) H) ∨ ∃ (t : PySem.Value), TyX K H x t ∧ PySem.W.kitAny K t [.type "list", .type "tuple"] = some false ∧ Q (.bl false) H)
theorem kit_LT {K : PySem.W.Frag} : PySem.W.kitAny K (.type "list") [.type "list", .type "tuple"] = some true :=
  kitAny_cons (kit_ty (show kitB "list" "list" = some true by decide +kernel)) (fun z => nomatch z) fun _ => rfl
theorem kit_TT {K : PySem.W.Frag} : PySem.W.kitAny K (.type "tuple") [.type "list", .type "tuple"] = some true :=
  kitAny_cons (kit_ty (show kitB "tuple" "list" = some false by decide +kernel)) (fun _ => kitAny_cons (kit_ty (show kitB "tuple" "tuple" = some true by decide +kernel)) (fun z => nomatch z) fun _ => rfl) fun z => nomatch z
theorem call_isLT {X : Cx} : CallR X (.builtin "isinstance") (rIsLT X.K) := by
  intro pins s σ H xs us Q I r h
  obtain ⟨x, tp, rfl, hT, h⟩ := h
  rcases h with ⟨a, ys, rfl, hs, q⟩ | ⟨t, ty, e, q⟩
  · obtain ⟨u1, u2, rfl, r1, r2⟩ := vals2 r
    cases (show u2 = Value.ref tp from r2)
    cases r1
    obtain ⟨_, its, rv, o, h1, h2, n, h3⟩ := (show ObjOk X.prog X.w H s.heap tp (.tup [.ty "list", .ty "tuple"]) from I.hok tp _ hT)
    have e3 := vals_ty2 rv
    subst e3
    obtain ⟨oc, od, dt, sl⟩ := o
    simp only at h2 h3
    subst h2 h3
    rcases hs with hs | hs
    · obtain ⟨its, rv, ⟨o, n, ho, hc, _⟩, _⟩ := I.list hs
      exact PySem.W.kia_tup PySem.W.kitx_list I.kIn ⟨o, ho, hc⟩ h1 kit_LT (fun z => nomatch z) fun tk => ⟨.bl true, H, I.tok tk, rfl, q⟩
    · obtain ⟨its, rv, ⟨o, ho, hc, _⟩, _⟩ := I.tuple hs
      exact PySem.W.kia_tup PySem.W.kitx_tuple I.kIn ⟨o, ho, hc⟩ h1 kit_TT (fun z => nomatch z) fun tk => ⟨.bl true, H, I.tok tk, rfl, q⟩
  · exact call_isiT pins s σ H _ us Q I r ⟨x, tp, _, t, _, false, rfl, hT, .cons (.ty _) (.cons (.ty _) .nil), ty, e, q⟩
/-- a promise of two kinds -/
theorem fn_or {P : Program} {w : World} {K : PySem.W.Frag} {mg : Str → Option PySem.Value} {base : Heap} {CX : CXT} {k : Nat} {f : Addr} {fd : FuncData} {ps : List Str} {a b : Sp} (ha : FnOk P w K mg base CX k f fd ps a) (hb : FnOk P w K mg base CX k f fd ps b) :
    FnOk P w K mg base CX k f fd ps (fun vs H Q E => a vs H Q E ∨ b vs H Q E) :=
  ⟨fun vs H Q E h => h.elim (ha.len vs H Q E) (hb.len vs H Q E), fun A outer s H args us vs Q E r e bt v h => h.elim (ha.run A outer s H args us vs Q E r e bt v) (hb.run A outer s H args us vs Q E r e bt v)⟩
end RU

set_option Elab.async false
set_option linter.all false
set_option maxRecDepth 100000
set_option maxHeartbeats 4000000
namespace K15
open PySem PySem.Spec PyProof.Rows L2 Tr
def top (i : Nat) : Stmt := PySem.Challenge.pw_tilesregrow_k15_whole_words_fed.main.body.getD i (.Pass ⟨0, 0, 0, 0⟩)
abbrev sPen : Stmt := top 28
abbrev sDraw : Stmt := top 29
abbrev sPick : Stmt := top 30
abbrev cReach (j : Nat) : Stmt := inClass (top 16) j
abbrev cSw (j : Nat) : Stmt := inClass (top 18) j
abbrev cWk (j : Nat) : Stmt := inClass (top 24) j
def mkD (x : Str) (st : Stmt) : He.DefD := ⟨(x, none), x, x, defArgs st, defBody st, defScope st, [], []⟩
def mkM (x m : Str) (q : Str) (st : Stmt) : He.DefD := ⟨(x, some m), m, q, defArgs st, defBody st, defScope st, [], []⟩
def errs : List Str := ["BadTile"]
def fn : List He.DefD := [mkD "is_direction" (top 3), mkD "in_order" (top 4), mkD "is_integer" (top 9), mkD "is_datum" (top 10), mkD "is_symbol" (top 11), mkD "is_tuple_of" (top 12), mkD "is_list" (top 13), mkD "by_repr" (top 14), mkD "is_first" (top 19), mkD "are_steps" (top 20), mkD "is_step" (top 21), mkD "are_turns" (top 22), mkD "is_turn" (top 23), mkD "are_words" (top 25), mkD "fed" (top 26), mkD "_law_pen" (top 28), mkD "_law_draw" (top 29), mkD "_law_pick" (top 30), mkD "_law_shuffled" (top 31), mkD "_law_sw_machine" (top 32), mkD "_law_sw_made" (top 33), mkD "_law_sw_sorted" (top 34), mkD "_law_sw_closed" (top 35), mkD "_law_sw_letters" (top 36), mkD "_law_sw_more" (top 37), mkD "_law_sw_walk" (top 38), mkD "_law_sw_fed" (top 39), mkD "_law_sw_words" (top 40), mkD "_law_refused" (top 41), mkD "law" (top 42),
  mkM "BadTile" "__init__" "BadTile.__init__" (inClass (top 7) 0), mkM "Reach" "__init__" "Reach.__init__" (inClass (top 16) 0), mkM "Reach" "_add_letter" "Reach._add_letter" (inClass (top 16) 1), mkM "Reach" "_add_state" "Reach._add_state" (inClass (top 16) 2), mkM "Reach" "_look_at" "Reach._look_at" (inClass (top 16) 3), mkM "Reach" "_look_at_step" "Reach._look_at_step" (inClass (top 16) 4), mkM "Reach" "_look_at_turn" "Reach._look_at_turn" (inClass (top 16) 5), mkM "Sweeps" "__init__" "Sweeps.__init__" (inClass (top 18) 0), mkM "Walker" "__init__" "Walker.__init__" (inClass (top 24) 0), mkM "Walker" "sweep" "Walker.sweep" (inClass (top 24) 1), mkM "Walker" "_turn" "Walker._turn" (inClass (top 24) 2)]
def fa1 : List He.Fa := [.free "len", .free "int", .free "list", .free "range", .free "repr", .free "isinstance", .free "tuple", .free "bool", .free "sorted", .free "all", .free "dict", .free "str", .free "max", .glo "is_direction", .glo "in_order", .glo "is_integer", .glo "is_datum", .glo "is_symbol", .glo "is_tuple_of", .glo "is_list", .glo "by_repr", .glo "is_first", .glo "are_steps", .glo "is_step", .glo "are_turns", .glo "is_turn"]
def fa2 : List He.Fa := [.glo "are_words", .glo "fed", .glo "_law_pen", .glo "_law_draw", .glo "_law_pick", .glo "_law_shuffled", .glo "_law_sw_machine", .glo "_law_sw_made", .glo "_law_sw_sorted", .glo "_law_sw_closed", .glo "_law_sw_letters", .glo "_law_sw_more", .glo "_law_sw_walk", .glo "_law_sw_fed", .glo "_law_sw_words", .glo "_law_refused", .glo "law", .glo "DIRECTIONS", .glo "OTHER_DIRECTION", .glo "Reach", .glo "Sweeps", .glo "Walker", .glo "BadTile", .meth "BadTile" "__init__", .cls "Reach", .mkr "Reach"]
def fa3 : List He.Fa := [.meth "Reach" "_add_letter", .meth "Reach" "_add_state", .meth "Reach" "_look_at", .meth "Reach" "_look_at_step", .meth "Reach" "_look_at_turn", .noat "Reach" "_steps", .noat "Reach" "_turns", .noat "Reach" "_todo", .noat "Reach" "letters", .noat "Reach" "states", .noat "Reach" "missing", .cls "Sweeps", .mkr "Sweeps", .noat "Sweeps" "first", .noat "Sweeps" "begin", .noat "Sweeps" "steps", .noat "Sweeps" "turns", .noat "Sweeps" "letters", .noat "Sweeps" "states", .cls "Walker", .mkr "Walker", .meth "Walker" "sweep", .meth "Walker" "_turn", .noat "Walker" "_sweeps", .noat "Walker" "direction", .noat "Walker" "state"]
def fa : List He.Fa := fa1 ++ (fa2 ++ fa3)
def flds : List Str := ["tile"]
def tf : List He.Defn := [("by_repr", none)]
def ts : List He.Tab := [(fun K => He.ga K "OTHER_DIRECTION", ["l", "r"])]
def cs (K : PySem.W.Frag) : List Addr := errs.map (He.ga K)
def dDirs : PyData := .tuple [.str "l", .str "r"]
def strAt (K : PySem.W.Frag) (a : Addr) (x y : Str) : Bool := match PySem.W.nsIn K a x with
  | some (some (.str z _)) => decide (z = y)
  | _ => false
def ex (K : PySem.W.Frag) : Bool := (cs K).all (Tr.xcAll K) && (((cs K).all fun c => (cs K).all fun d => decide (PySem.W.exmOne K (.ref c) (.ref d) = some (c == d))) && (((cs K).all fun c => flds.all fun f => decide (PySem.W.findIn K (.ref c) f = some none)) &&
  (AK.datB K 20 (.ref (He.ga K "DIRECTIONS")) dDirs && (strAt K (He.ga K "OTHER_DIRECTION") "l" "r" && strAt K (He.ga K "OTHER_DIRECTION") "r" "l"))))
end K15

set_option Elab.async false
set_option linter.all false
set_option maxRecDepth 100000
set_option maxHeartbeats 4000000
namespace K15
open PySem PySem.Spec PyProof.Rows L2 Pen
/-! ### what the top's names hold -/
structure Txt (mg : Str → Option PySem.Value) : Prop where
  len : mg "len" = none
  int : mg "int" = none
  list : mg "list" = none
  range : mg "range" = none
  repr : mg "repr" = none
  isi : mg "isinstance" = none
  tuple : mg "tuple" = none
  bool : mg "bool" = none
  sorted : mg "sorted" = none
  all : mg "all" = none
  dict : mg "dict" = none
  str : mg "str" = none
  max : mg "max" = none
abbrev FnT (K : PySem.W.Frag) (x : Str) (i : Nat) (f : Addr) (fd : FuncData) : Prop := FunD K x x (defArgs (top i)) (defBody (top i)) (defScope (top i)) [] [] f fd
abbrev FnM (K : PySem.W.Frag) (m q : Str) (st : PySem.Stmt) (f : Addr) (fd : FuncData) : Prop := FunD K m q (defArgs st) (defBody st) (defScope st) [] [] f fd
abbrev FnP (K : PySem.W.Frag) (x : Str) (st : PySem.Stmt) (f : Addr) (fd : FuncData) : Prop := FunD K x x (defArgs st) (defBody st) (defScope st) [] [] f fd
section
variable {P : Program} {w : World} {K : PySem.W.Frag} {mg : Str → Option PySem.Value} {base : Heap} {f : Addr} {fd : FuncData}
theorem scPen : FnScope ["_law_script", "_law_fold", "_law_cell"] ["_law_script"] (defScope sPen) := ⟨rfl, rfl, rfl, by decide +kernel, rfl, by decide +kernel, by decide +kernel⟩
theorem ok_pen (F : FnP K "_law_pen" sPen f fd) (T : Txt mg) : FnOk P w K mg base CX0 1 f fd ["_law_script"] (spPen K) := by
  refine F.ok scPen (fun vs H Q E h => ?_) (fun cdv A outer s H vs Q E hr h => ?_)
  · obtain ⟨a, ns, rfl, _⟩ := h
    rfl
  · obtain ⟨a, ns, rfl, hS, hl, k⟩ := h
    have nd := scPen.nd
    suffices z : ∃ t, PSs (cxOf CX0 P w K mg base ["_law_script", "_law_fold", "_law_cell"] "_law_pen" (defScope sPen) f cdv A outer s H E).nox (defBody sPen) t ∧ t { nx := fun _ H' => Q .non H', rt := Q } (start ["_law_script", "_law_fold", "_law_cell"] [.ref a]) H by
      obtain ⟨t, h1, h2⟩ := z
      exact ⟨t, h1.nox, h2⟩
    refine ⟨_, pss_cons (ps_set (i := 1) nd rfl (.inl rfl) pe_int)
      (pss_cons (ps_for PassesOwn.never rfl (pi_list (pv 0)) (pg_name (i := 2) nd rfl (.inl rfl))
        (pss_one (ps_set (i := 1) nd rfl (.inl rfl) (pe_op op_mod (pe_callTy call_int1 (by rfl) T.int (by decide +kernel) (pa_cons (pe_op op_add (pe_op op_mul (pv 1) pe_int) (pv 2)) pa_nil)) pe_int))))
      (pss_one (ps_ret (pe_disp (pps_cons pe_str (pe_callTy call_list_of (by rfl) T.list (by decide +kernel) (pa_cons (pv 0) pa_nil)) (pps_cons pe_str pe_int (pps_cons pe_str pe_int (pps_cons pe_str pe_int (pps_cons pe_str (pv 1) pps_nil)))))
        rfl rfl (by intro z; cases z) (by decide))))), ?_⟩
    refine ⟨_, rfl, a, rfl, ⟨_, hS⟩, for_list (K := K) (a := a) (xs := ns.map V.int) (fun i σ H2 => ∃ (fo : Int) (v : Option V), σ = [some (.ref a), some (.int fo), v] ∧ H2 = H ∧ 0 ≤ fo ∧ fo < 1000000007)
      ⟨0, none, rfl, rfl, by decide, by decide⟩ (fun i σ H2 _ ⟨_, _, _, e, _⟩ => by rw [e]; exact hS) ?_ ?_⟩
    · rintro i y σ H2 hi ⟨fo, v, rfl, rfl, f0, f1⟩
      obtain ⟨z, _, rfl⟩ : ∃ z, ns[i]? = some z ∧ V.int z = y := by
        rw [List.getElem?_map] at hi
        exact Option.map_eq_some_iff.mp hi
      refine ⟨_, rfl, _, _, rfl, rfl, .inr ⟨by decide, by decide⟩, _, rfl, _, _, rfl, rfl, .inl ⟨_, rfl, _, _, rfl, rfl, (by show (0 : Int) < 1000000007; decide), ?_⟩⟩
      exact ⟨(fo * 41 + z) % 1000000007, _, rfl, rfl, Int.emod_nonneg _ (by decide), Int.emod_lt_of_pos _ (by decide)⟩
    · rintro σ H2 ⟨fo, v, rfl, rfl, f0, f1⟩
      intro p hp
      refine ⟨_, rfl, a, _, rfl, .inl (Same.seq (fun b o e => by rw [upd_ne (ne_of_none e hp)]; exact e) hS), fun l hl => ?_⟩
      have nlp : p ≠ l := ne_of_none (upd_same (H := H2) (a := p)) hl
      have hl2 : H2 l = none := by rw [← hl, upd_ne nlp.symm]
      refine ⟨_, rfl, ?_⟩
      refine ⟨(by rw [upd_ne nlp]; exact upd_same), penK l 0 0 0 fo, rfl, (by show 5 ≤ 15; decide), ?_⟩
      have e0 : mergeK [] (penK l 0 0 0 fo) = penK l 0 0 0 fo := by kernel_rfl
      rw [e0]
      refine k p l _ ⟨ns, 0, 0, 0, fo, ⟨upd_same, by rw [upd_ne nlp.symm, upd_same], by decide, by decide, by decide, f0, by omega⟩, by decide⟩ (fun b o e => ?_) hp
      rw [upd_ne (ne_of_none e hp), upd_ne (ne_of_none e hl2), upd_ne (ne_of_none e hp)]
      exact e
end
end K15
namespace K15
open PySem PySem.Spec PyProof.Rows L2 Pen
section
variable {P : Program} {w : World} {K : PySem.W.Frag} {mg : Str → Option PySem.Value} {base : Heap} {f : Addr} {fd : FuncData}
abbrev nDraw : List Str := ["_law_pen_here", "_law_many", "_law_cell", "_law_digit", "_law_blend"]
theorem scDraw : FnScope nDraw ["_law_pen_here", "_law_many"] (defScope sDraw) := ⟨rfl, rfl, rfl, by decide +kernel, rfl, by decide +kernel, by decide +kernel⟩
theorem ok_draw (F : FnP K "_law_draw" sDraw f fd) (T : Txt mg) : FnOk P w K mg base CX0 1 f fd ["_law_pen_here", "_law_many"] spDraw := by
  refine F.ok scDraw (fun vs H Q E h => ?_) (fun cdv A outer s H vs Q E hr h => ?_)
  · obtain ⟨a, _, ns, _, rfl, _⟩ := h
    rfl
  · obtain ⟨p, l, n, m, rfl, ⟨cells, at_, dg, ct, fo, PV, cn⟩, hn, m1, m2, k⟩ := h
    have nd := scDraw.nd
    have hu := hu_of hr
    suffices z : ∃ t, PSs (cxOf CX0 P w K mg base nDraw "_law_draw" (defScope sDraw) f cdv A outer s H E).nox (defBody sDraw) t ∧ t { nx := fun _ H' => Q .non H', rt := Q } (start nDraw [.ref p, .int m]) H by
      obtain ⟨t, h1, h2⟩ := z
      exact ⟨t, h1.nox, h2⟩
    refine ⟨_, pss_cons (ps_dput hu (pv 0) pe_str (pe_op op_add (pe_dget hu (pv 0) pe_str (fun _ _ => rfl)) pe_int) rfl)
      (C8.pss_cut (ps_if (PW.pt (pw_and (pt_cmpR op_eq (pe_dget hu (pv 0) pe_str (fun _ _ => rfl)) pe_int (nomark _))
          (pw_and1 (pt_cmpR op_lt (pe_dget hu (pv 0) pe_str (fun _ _ => rfl)) (pe_callB call_len_seq (by rfl) T.len PySem.boot_len (pa_cons (pe_dget hu (pv 0) pe_str (fun _ _ => rfl)) pa_nil)) (nomark _)))))
        (pss_cons (ps_set (i := 2) nd rfl (.inl rfl) (pe_ix ix_list (pe_dget hu (pv 0) pe_str (fun _ _ => rfl)) (pe_dget hu (pv 0) pe_str (fun _ _ => rfl)) (fun _ _ => rfl)))
        (pss_cons (ps_dput hu (pv 0) pe_str (pe_op op_add (pe_dget hu (pv 0) pe_str (fun _ _ => rfl)) pe_int) rfl)
        (pss_one (ps_if (pt_cmpR op_ge (pv 2) (pe_op op_pow pe_int pe_int) (nomark _))
          (pss_one (ps_dput hu (pv 0) pe_str (pe_op op_sub (pv 2) (pe_op op_pow pe_int pe_int)) rfl))
          (pss_one (ps_dput hu (pv 0) pe_str (pe_op op_mod (pe_callTy call_int1 (by rfl) T.int (by decide +kernel) (pa_cons (pe_op op_add (pe_op op_mul (pe_dget hu (pv 0) pe_str (fun _ _ => rfl)) pe_int) (pv 2)) pa_nil)) pe_int) rfl))))))
        pss_nil)
      (pss_cons (ps_if (pt_cmpR op_gt (pe_dget hu (pv 0) pe_str (fun _ _ => rfl)) pe_int (nomark _))
        (pss_cons (ps_set (i := 3) nd rfl (.inl rfl) (pe_op op_mod (pe_callTy call_int1 (by rfl) T.int (by decide +kernel) (pa_cons (pe_dget hu (pv 0) pe_str (fun _ _ => rfl)) pa_nil)) (pv 1)))
        (pss_cons (ps_dput hu (pv 0) pe_str (pe_op op_fdiv (pe_dget hu (pv 0) pe_str (fun _ _ => rfl)) (pv 1)) rfl)
        (pss_one (ps_ret (pv 3)))))
        pss_nil)
      (pss_cons (ps_set (i := 4) nd rfl (.inl rfl) (pe_op op_add (pe_op op_add (pe_dget hu (pv 0) pe_str (fun _ _ => rfl)) (pe_op op_mul (pe_dget hu (pv 0) pe_str (fun _ _ => rfl)) pe_int)) pe_int))
      (pss_one (ps_ret (pe_op op_mod (pe_op op_fdiv (pe_callTy call_int1 (by rfl) T.int (by decide +kernel) (pa_cons (pe_op op_mod (pe_op op_pow (pv 4) pe_int) pe_int) pa_nil)) pe_int) (pv 1))))))), ?_⟩
    -- count
    refine ⟨_, rfl, p, _, rfl, gCount PV.di, _, _, rfl, rfl, _, rfl, p, _, rfl, pCount PV.di, ?_⟩
    have P1 := PV.set (c' := ct + 1) PV.a0 PV.d0 (by have := PV.c0; omega) PV.f0 PV.f1
    -- behind the draw of a cell
    refine ⟨fun σ H2 => ∃ (v : Option V) (a d f : Int), σ = [some (.ref p), some (.int m), v, none, none] ∧ PenV H2 p l cells a d (ct + 1) f ∧ But p H H2, ?_, ?_⟩
    · refine ⟨_, rfl, p, _, rfl, gDigits P1.di, rfl, _, rfl, ?_⟩
      by_cases hd : dg = 0
      · subst hd
        refine iteT ⟨_, rfl, p, _, rfl, gAt P1.di, _, rfl, p, _, rfl, gCells P1.di, l, _, rfl, .inl (.of P1.li), _, _, rfl, rfl, _, rfl, ?_⟩
        by_cases hlt : at_ < ((cells.map V.int).length : Int)
        · rw [decide_eq_true hlt]
          refine iteT ?_
          have a0 := PV.a0
          have hlt2 : at_.toNat < cells.length := by
            rw [List.length_map] at hlt
            omega
          obtain ⟨z, item⟩ : ∃ z, L2.atI (cells.map V.int) at_ = some (.int z) := by
            obtain ⟨i, rfl⟩ : ∃ i : Nat, at_ = (i : Int) := ⟨at_.toNat, by omega⟩
            exact ⟨cells[i]'hlt2, atI_nat (by rw [List.getElem?_map, List.getElem?_eq_getElem (show i < cells.length from hlt2)] <;> rfl)⟩
          refine ⟨_, rfl, p, _, rfl, gCells P1.di, _, rfl, p, _, rfl, gAt P1.di, l, _, _, _, rfl, rfl, .of P1.li, item, ?_⟩
          refine ⟨_, rfl, p, _, rfl, gAt P1.di, _, _, rfl, rfl, _, rfl, p, _, rfl, pAt P1.di, ?_⟩
          have P2 := P1.set (a' := at_ + 1) (by omega) P1.d0 P1.c0 P1.f0 P1.f1
          refine ⟨_, rfl, _, _, rfl, rfl, ⟨by decide, by decide, by decide⟩, _, _, rfl, rfl, _, rfl, ?_⟩
          refine ite2 (fun hbig => ?_) (fun _ => ?_)
          · refine ⟨_, rfl, _, _, rfl, rfl, ⟨by decide, by decide, by decide⟩, _, _, rfl, rfl, _, rfl, p, _, rfl, pDigits P2.di, ?_⟩
            have big := of_decide_eq_true hbig
            exact ⟨_, _, _, _, rfl, P2.set P2.a0 (by omega) P2.c0 P2.f0 P2.f1, But.refl.upd.upd.upd⟩
          · refine ⟨_, rfl, p, _, rfl, gFold P2.di, _, _, rfl, rfl, .inr ⟨by decide, by decide⟩, _, rfl, _, _, rfl, rfl, .inl ⟨_, rfl, _, _, rfl, rfl, (by show (0 : Int) < 2147483587; decide), _, rfl, p, _, rfl, pFold P2.di, ?_⟩⟩
            exact ⟨_, _, _, _, rfl, P2.set P2.a0 P2.d0 P2.c0 (Int.emod_nonneg _ (by decide)) (by have := Int.emod_lt_of_pos (fo * 69069 + z) (show (0 : Int) < 2147483587 by decide); omega), But.refl.upd.upd.upd⟩
        · rw [decide_eq_false hlt]
          exact iteF ⟨_, _, _, _, rfl, P1, But.refl.upd⟩
      · have e : decide (V.int dg = V.int 0) = false := decide_eq_false (fun z => hd (by injection z))
        rw [e]
        exact iteF ⟨_, _, _, _, rfl, P1, But.refl.upd⟩
    · rintro σ H2 ⟨v, a, d, f, rfl, P2, b2⟩
      refine ⟨_, rfl, p, _, rfl, gDigits P2.di, _, _, rfl, rfl, _, rfl, ?_⟩
      refine ite2 (fun hpos => ?_) (fun _ => ?_)
      · have pos := of_decide_eq_true hpos
        refine ⟨_, rfl, p, _, rfl, gDigits P2.di, .inl ⟨_, rfl, _, rfl, _, _, rfl, rfl, (by omega), ?_⟩⟩
        refine ⟨_, rfl, p, _, rfl, gDigits P2.di, _, rfl, _, _, rfl, rfl, ⟨by omega, m2⟩, _, rfl, p, _, rfl, pDigits P2.di, ?_⟩
        refine ⟨_, rfl, ?_⟩
        refine k _ _ (Int.emod_nonneg _ (by omega)) (Int.emod_lt_of_pos _ (by omega)) ⟨cells, _, _, _, _, P2.set P2.a0 (Int.ediv_nonneg P2.d0 (by omega)) P2.c0 P2.f0 P2.f1, by omega⟩ b2.upd
      · have c0 := P2.c0
        have f0 := P2.f0
        have f1 := P2.f1
        refine ⟨_, rfl, p, _, rfl, gFold P2.di, _, rfl, p, _, rfl, gCount P2.di, _, _, rfl, rfl, .inr ⟨by decide, by decide⟩, _, _, rfl, rfl, _, _, rfl, rfl, ?_⟩
        refine ⟨_, rfl, _, _, rfl, rfl, ⟨by decide, by decide, by omega⟩, _, _, rfl, rfl, (by show (0 : Int) < 2305843009213693951; decide), .inl ⟨_, rfl, _, _, rfl, rfl, ⟨by decide, by decide⟩, _, rfl, _, _, rfl, rfl, (by omega), ?_⟩⟩
        exact k _ _ (Int.emod_nonneg _ (by omega)) (Int.emod_lt_of_pos _ (by omega)) ⟨cells, _, _, _, _, P2, by omega⟩ b2
end
end K15
namespace K15
open PySem PySem.Spec PyProof.Rows L2 Pen
section
variable {P : Program} {w : World} {K : PySem.W.Frag} {mg : Str → Option PySem.Value} {base : Heap} {f fD fP : Addr} {fd fdD fdP : FuncData}
theorem scPick : FnScope ["_law_pen_here", "_law_some"] ["_law_pen_here", "_law_some"] (defScope sPick) := ⟨rfl, rfl, rfl, by decide +kernel, rfl, by decide +kernel, by decide +kernel⟩
theorem ok_pick (F : FnP K "_law_pick" sPick f fd) (T : Txt mg) (FD : FnP K "_law_draw" sDraw fD fdD) (gD : mg "_law_draw" = some (.ref fD)) : FnOk P w K mg base CX0 2 f fd ["_law_pen_here", "_law_some"] (spPick K) := by
  have GD : FnOk P w K mg base CX0 1 fD fdD ["_law_pen_here", "_law_many"] spDraw := ok_draw FD T
  have bD : Binds K fdD ["_law_pen_here", "_law_many"] [] := FD.bindsN fun _ _ _ _ _ _ us hl => match us, hl with | [_, _], _ => rfl
  refine F.ok scPick (fun vs H Q E h => ?_) (fun cdv A outer s H vs Q E hr h => ?_)
  · obtain ⟨_, _, _, _, _, rfl, _⟩ := h
    rfl
  · obtain ⟨p, l, a, n, xs, rfl, PA, hn, hS, ne, many, nap, k⟩ := h
    suffices z : ∃ t, PSs (cxOf CX0 P w K mg base ["_law_pen_here", "_law_some"] "_law_pick" (defScope sPick) f cdv A outer s H E).nox (defBody sPick) t ∧ t { nx := fun _ H' => Q .non H', rt := Q } (start ["_law_pen_here", "_law_some"] [.ref p, .ref a]) H by
      obtain ⟨t, h1, h2⟩ := z
      exact ⟨t, h1.nox, h2⟩
    refine ⟨_, pss_one (ps_ret (pe_ix ix_list (pv 1) (pe_call GD hr (by rfl) gD FD.kp bD .nil pass0 (pa_cons (pv 0) (pa_cons (pe_callB call_len_seq (by rfl) T.len PySem.boot_len (pa_cons (pv 1) pa_nil)) pa_nil))) (fun _ _ => rfl))), ?_⟩
    have pos : 0 < xs.length := List.length_pos_iff.mpr ne
    refine ⟨_, rfl, _, rfl, _, rfl, a, xs, rfl, .inl hS, p, l, n, _, rfl, PA, hn, by omega, by omega, fun r H' r0 r1 PA' but => ?_⟩
    obtain ⟨i, rfl⟩ : ∃ i : Nat, r = (i : Int) := ⟨r.toNat, by omega⟩
    have hi : i < xs.length := by omega
    exact ⟨a, xs, _, _, rfl, rfl, but.seq nap hS, atI_nat (List.getElem?_eq_getElem hi), k i _ H' (List.getElem?_eq_getElem hi) PA' but⟩
end
end K15

set_option Elab.async false
set_option linter.all false
set_option maxRecDepth 100000
set_option maxHeartbeats 4000000
namespace K15
open PySem PySem.Spec PyProof.Rows L2 Pen Tr AK LamX
section
variable {P : Program} {w : World} {K : PySem.W.Frag} {mg : Str → Option PySem.Value} {base : Heap} {f fI fD : Addr} {fd fdI fdD : FuncData}
theorem scInt : FnScope ["value"] ["value"] (defScope (top 9)) := ⟨rfl, rfl, rfl, by decide +kernel, rfl, by decide +kernel, by decide +kernel⟩
theorem ok_int (F : FnT K "is_integer" 9 f fd) (T : Txt mg) : FnOk P w K mg base CX0 1 f fd ["value"] (spAsk isIntD K) := by
  refine F.ok scInt (fun vs H Q E h => spAsk_len h) (fun cdv A outer s H vs Q E hr h => ?_)
  obtain ⟨v, d, rfl, hD, q⟩ := h
  suffices z : ∃ t, PSs (cxOf CX0 P w K mg base ["value"] "is_integer" (defScope (top 9)) f cdv A outer s H E).nox (defBody (top 9)) t ∧ t { nx := fun _ H' => Q .non H', rt := Q } (start ["value"] [v]) H by
    obtain ⟨t, h1, h2⟩ := z
    exact ⟨t, h1.nox, h2⟩
  refine ⟨_, pss_one (ps_ret (pe_and (pe_callB call_isD (by rfl) T.isi (by decide +kernel) (pa_cons (pv 0) (pa_cons (pe_bltn (by rfl) T.int (by decide +kernel) (v := .ty "int") rfl) pa_nil)))
    (pe_one (pe_not (pe_callB call_isD (by rfl) T.isi (by decide +kernel) (pa_cons (pv 0) (pa_cons (pe_bltn (by rfl) T.bool (by decide +kernel) (v := .ty "bool") rfl) pa_nil))))))), ?_⟩
  obtain ⟨b, h1, h2, h3⟩ := kit_int d (dp_nodict hD)
  refine ⟨_, rfl, _, "int", d, b, rfl, hD, h1, b, rfl, ?_⟩
  by_cases hb : b = true
  · rw [if_pos hb]
    obtain ⟨c, c1, c2⟩ := h2 hb
    refine ⟨_, rfl, _, "bool", d, c, rfl, hD, c1, c, rfl, ?_⟩
    rw [c2]
    exact q
  · rw [if_neg hb]
    rw [h3 (by simpa using hb)] at q
    exact q
/-- is_datum, is_symbol of integers, strings, None and tuples of these -/
def spSym (K : PySem.W.Frag) : Sp := fun vs H Q _ => ∃ v d, vs = [v] ∧ Dp K H v d ∧ symD d = true ∧ wtD d ≤ 100000 ∧ ∀ H', Same H H' → Q (.bl true) H'
abbrev nDat : List Str := ["value", "todo", "item"]
theorem scDat : FnScope nDat ["value"] (defScope (top 10)) := ⟨rfl, rfl, rfl, by decide +kernel, rfl, by decide +kernel, by decide +kernel⟩
theorem ok_datum (F : FnT K "is_datum" 10 f fd) (T : Txt mg) (FI : FnT K "is_integer" 9 fI fdI) (gI : mg "is_integer" = some (.ref fI)) : FnOk P w K mg base CX0 2 f fd ["value"] (spSym K) := by
  refine F.ok scDat (fun vs H Q E h => by obtain ⟨v, d, rfl, _⟩ := h; rfl) (fun cdv A outer s H vs Q E hr h => ?_)
  obtain ⟨v, d, rfl, hD, sy, wt, q⟩ := h
  have nd := scDat.nd
  suffices z : ∃ t, PSs (cxOf CX0 P w K mg base nDat "is_datum" (defScope (top 10)) f cdv A outer s H E).nox (defBody (top 10)) t ∧ t { nx := fun _ H' => Q .non H', rt := Q } (start nDat [v]) H by
    obtain ⟨t, h1, h2⟩ := z
    exact ⟨t, h1.nox, h2⟩
  have GI := ok_int (P := P) (w := w) (mg := mg) (base := base) FI T
  have bI : L2.Binds K fdI ["value"] [] := FunD.bindsN FI fun _ _ _ _ _ _ us hl => match us, hl with | [_], _ => rfl
  refine ⟨_, pss_cons (ps_asg (pe_lst (pa_cons (pv 0) pa_nil)) (pg_name (i := 1) nd rfl (.inl rfl)))
    (pss_cons (ps_while PassesOwn.never (pt_truth (pv 1) (by intro _; rfl))
      (pss_cons (ps_asg (pe_bm0 PySem.F.plainAttrs_list PySem.F.slot_list_pop PySem.F.type_list_pop mt_pop (pv 1)) (pg_name (i := 2) nd rfl (.inl rfl)))
      (pss_one (ps_if (pt_val (pe_callB call_isD (by rfl) T.isi (by decide +kernel) (pa_cons (pv 2) (pa_cons (pe_bltn (by rfl) T.tuple (by decide +kernel) (v := .ty "tuple") rfl) pa_nil))))
        (pss_one (ps_expr (pe_bm PySem.F.plainAttrs_list PySem.F.slot_list_extend PySem.F.type_list_extend mt_extT (pv 1) (pa_cons (pv 2) pa_nil))))
        (pss_one (ps_if (PW.pt (pw_and (pt_cmpR op_notN (pv 2) pe_non (nomark _)) (pw_and (pt_not (pt_val (pe_callB call_isD (by rfl) T.isi (by decide +kernel) (pa_cons (pv 2) (pa_cons (pe_bltn (by rfl) T.str (by decide +kernel) (v := .ty "str") rfl) pa_nil)))))
          (pw_and1 (pt_not (pt_val (pe_call GI hr (by rfl) gI FI.kp bI .nil pass0 (pa_cons (pv 2) pa_nil))))))))
          (pss_one (ps_ret pe_bl)) pss_nil))))))
    (pss_one (ps_ret pe_bl))), ?_⟩
  refine ⟨_, rfl, (by show 1 ≤ sizeLine; decide), fun D nD => ?_⟩
  have s0 := same_upd (o := .lst [v]) nD
  refine ⟨fun m σ H' => ∃ xs ds o, σ = [some v, some (.ref D), o] ∧ H' D = some (.lst xs) ∧ DpAll K H' xs ds ∧ symDs ds = true ∧ wtDs ds = m ∧ m ≤ 100000 ∧ Same H H', ⟨wtDs [d], [v], [d], none, rfl, upd_same, .cons (dp_same s0 _ _ hD) .nil, by simp [symDs, sy], rfl, by simp only [wtDs]; omega, s0⟩, ?_⟩
  rintro m σ H1 ⟨xs, ds, o, rfl, l1, dp1, sy1, rfl, wt1, s1⟩
  refine ⟨_, rfl, !xs.isEmpty, .inl ⟨xs, SqL.of l1, rfl⟩, ?_⟩
  rcases List.eq_nil_or_concat xs with rfl | ⟨xs0, y, ex⟩
  · exact iteF (q _ s1)
  · rw [List.concat_eq_append] at ex
    subst ex
    have ne : (!(xs0 ++ [y]).isEmpty) = true := by simp
    rw [ne]
    obtain ⟨es, e, rfl, dp0, dpy⟩ := dpall_snoc dp1
    rw [syms_app] at sy1
    obtain ⟨syE, sye⟩ := Bool.and_eq_true_iff.mp sy1
    have sye : symD e = true := by simpa [symDs] using sye
    have wtE : wtDs (es ++ [e]) = wtDs es + wtD e := by
      rw [wts_app]
      simp [wtDs]
    have len0 : xs0.length ≤ wtDs es := by
      rw [dps_len dp0]
      exact wts_len es
    refine iteT ⟨fun σ' H' => ∃ m', m' < wtDs (es ++ [e]) ∧ ∃ xs ds o, σ' = [some v, some (.ref D), o] ∧ H' D = some (.lst xs) ∧ DpAll K H' xs ds ∧ symDs ds = true ∧ wtDs ds = m' ∧ m' ≤ 100000 ∧ Same H H', fun σ' H' h => h, ?_⟩
    refine ⟨_, rfl, .inl ⟨rfl, _, SqL.of l1⟩, D, xs0 ++ [y], y, rfl, rfl, l1, by simp, ?_⟩
    refine at_new fun H2 e2 => ?_
    have e2 : H2 = upd H1 D (.lst xs0) := by
      rw [e2, List.dropLast_concat]
    have tu : Tups H1 H2 := by
      rw [e2]
      exact Tups.upd (lst_ntup l1)
    have l2 : H2 D = some (.lst xs0) := by
      rw [e2]
      exact upd_same
    have s2 : Same H H2 := fun b o eb => by
      rw [e2, upd_ne (ne_of_none eb nD)]
      exact s1 _ _ eb
    have dp02 := dpall_tups tu (fun d hd => sym_key d (syms_mem syE d hd)) dp0
    obtain ⟨ke, hke⟩ := sym_key e sye
    have dpy2 := dp_tups tu _ _ ke hke dpy
    clear e2 l1 dp0 dpy
    refine ⟨_, rfl, y, "tuple", e, isTupD e, rfl, dpy2, kit_tup e (dp_nodict dpy2), isTupD e, rfl, ?_⟩
    have stay : ∀ o, ∃ m', m' < wtDs (es ++ [e]) ∧ ∃ xs ds o', [some v, some (.ref D), o] = [some v, some (.ref D), o'] ∧ H2 D = some (.lst xs) ∧ DpAll K H2 xs ds ∧ symDs ds = true ∧ wtDs ds = m' ∧ m' ≤ 100000 ∧ Same H H2 := fun o =>
      ⟨wtDs es, by have := wt_pos e; omega, xs0, es, o, rfl, l2, dp02, syE, rfl, by omega, s2⟩
    cases dpy2 with
    | @tup a zs gs hz ha =>
      refine iteT ⟨_, rfl, .inl ⟨rfl, _, SqL.of l2⟩, _, rfl, D, a, xs0, zs, rfl, rfl, l2, hz, ?_, ?_⟩
      · have e3 := dps_len ha
        have e4 := wts_len gs
        have e5 : wtD (.tuple gs) = 1 + wtDs gs := by simp [wtD]
        rw [sizeLine_eq]
        omega
      · refine ⟨wtDs es + wtDs gs, ?_, xs0 ++ zs, es ++ gs, _, rfl, upd_same, ?_, ?_, wts_app, ?_, ?_⟩
        · have e5 : wtD (.tuple gs) = 1 + wtDs gs := by simp [wtD]
          omega
        · have t3 : Tups H2 (upd H2 D (.lst (xs0 ++ zs))) := Tups.upd (lst_ntup l2)
          exact dpall_append (dpall_tups t3 (fun d hd => sym_key d (syms_mem syE d hd)) dp02) (dpall_tups t3 (fun d hd => sym_key d (syms_mem (by simpa [symD] using sye) d hd)) ha)
        · rw [syms_app, syE]
          simpa [symD] using sye
        · have e5 : wtD (.tuple gs) = 1 + wtDs gs := by simp [wtD]
          omega
        · exact fun b o eb => by
            rw [upd_ne (ne_of_none eb nD)]
            exact s2 _ _ eb
    | non =>
      refine iteF ⟨_, rfl, rfl, _, rfl, ?_⟩
      exact iteF (stay _)
    | int i =>
      refine iteF ⟨_, rfl, rfl, _, rfl, ?_⟩
      refine iteT ⟨_, rfl, _, "str", .int i, false, rfl, .int i, (show kitB "int" "str" = some false by decide +kernel), false, rfl, ?_⟩
      refine iteT ⟨_, rfl, _, .int i, rfl, .int i, true, rfl, ?_⟩
      exact iteF (stay _)
    | str x =>
      refine iteF ⟨_, rfl, rfl, _, rfl, ?_⟩
      refine iteT ⟨_, rfl, _, "str", .str x, true, rfl, .str x, (show kitB "str" "str" = some true by decide +kernel), true, rfl, ?_⟩
      exact iteF (stay _)
    | bl b => simp [symD] at sye
    | lst _ _ => simp [symD] at sye
theorem scSym : FnScope ["value"] ["value"] (defScope (top 11)) := ⟨rfl, rfl, rfl, by decide +kernel, rfl, by decide +kernel, by decide +kernel⟩
/-- is_symbol: not None -/
def spSymb (K : PySem.W.Frag) : Sp := fun vs H Q _ => ∃ v d, vs = [v] ∧ Dp K H v d ∧ symD d = true ∧ v ≠ .non ∧ wtD d ≤ 100000 ∧ ∀ H', Same H H' → Q (.bl true) H'
theorem ok_symbol (F : FnT K "is_symbol" 11 f fd) (FD : FnT K "is_datum" 10 fD fdD) (gD : mg "is_datum" = some (.ref fD)) (GD : FnOk P w K mg base CX0 2 fD fdD ["value"] (spSym K)) : FnOk P w K mg base CX0 3 f fd ["value"] (spSymb K) := by
  refine F.ok scSym (fun vs H Q E h => by obtain ⟨v, d, rfl, _⟩ := h; rfl) (fun cdv A outer s H vs Q E hr h => ?_)
  obtain ⟨v, d, rfl, hD, sy, nn, wt, q⟩ := h
  suffices z : ∃ t, PSs (cxOf CX0 P w K mg base ["value"] "is_symbol" (defScope (top 11)) f cdv A outer s H E).nox (defBody (top 11)) t ∧ t { nx := fun _ H' => Q .non H', rt := Q } (start ["value"] [v]) H by
    obtain ⟨t, h1, h2⟩ := z
    exact ⟨t, h1.nox, h2⟩
  have bD : L2.Binds K fdD ["value"] [] := FunD.bindsN FD fun _ _ _ _ _ _ us hl => match us, hl with | [_], _ => rfl
  refine ⟨_, pss_one (ps_ret (pe_and (pe_cmpR op_notN (pv 0) pe_non (by rfl)) (pe_one (pe_call GD hr (by rfl) gD FD.kp bD .nil pass0 (pa_cons (pv 0) pa_nil))))), ?_⟩
  refine ⟨_, rfl, rfl, !decide (v = .non), rfl, ?_⟩
  rw [decide_eq_false nn]
  exact ⟨_, rfl, v, d, rfl, hD, sy, wt, q⟩
theorem scTup : FnScope ["many", "value"] ["many", "value"] (defScope (top 12)) := ⟨rfl, rfl, rfl, by decide +kernel, rfl, by decide +kernel, by decide +kernel⟩
/-- is_tuple_of: a tuple of just so many -/
def spTup (K : PySem.W.Frag) : Sp := fun vs H Q _ => ∃ (a : Addr) (xs : List V), vs = [.int xs.length, .ref a] ∧ SqT K H a xs ∧ Q (.bl true) H
theorem ok_tupof (F : FnT K "is_tuple_of" 12 f fd) (T : Txt mg) : FnOk P w K mg base CX0 1 f fd ["many", "value"] (spTup K) := by
  refine F.ok scTup (fun vs H Q E h => by obtain ⟨a, xs, rfl, _⟩ := h; rfl) (fun cdv A outer s H vs Q E hr h => ?_)
  obtain ⟨a, xs, rfl, hs, q⟩ := h
  suffices z : ∃ t, PSs (cxOf CX0 P w K mg base ["many", "value"] "is_tuple_of" (defScope (top 12)) f cdv A outer s H E).nox (defBody (top 12)) t ∧ t { nx := fun _ H' => Q .non H', rt := Q } (start ["many", "value"] [.int xs.length, .ref a]) H by
    obtain ⟨t, h1, h2⟩ := z
    exact ⟨t, h1.nox, h2⟩
  refine ⟨_, pss_one (ps_ret (pe_and (pe_callB call_isTu (by rfl) T.isi (by decide +kernel) (pa_cons (pv 1) (pa_cons (pe_bltn (by rfl) T.tuple (by decide +kernel) (v := .ty "tuple") rfl) pa_nil)))
    (pe_one (pe_cmpR op_eq (pe_callB call_len_seq (by rfl) T.len PySem.boot_len (pa_cons (pv 1) pa_nil)) (pv 0) (by rfl))))), ?_⟩
  refine ⟨_, rfl, a, xs, rfl, hs, true, rfl, ?_⟩
  rw [if_pos rfl]
  refine ⟨_, rfl, a, xs, rfl, .inr hs, _, rfl, rfl, ?_⟩
  rw [decide_eq_true rfl]
  exact q
/-! ### directions -/
def wayS (b : Bool) : Str := if b then "r" else "l"
theorem scDir : FnScope ["value"] ["value"] (defScope (top 3)) := ⟨rfl, rfl, rfl, by decide +kernel, rfl, by decide +kernel, by decide +kernel⟩
def spDir (_ : PySem.W.Frag) : Sp := fun vs H Q _ => ∃ b, vs = [.str (wayS b)] ∧ Q (.bl true) H
theorem ok_dir {aD : Addr} (F : FnT K "is_direction" 3 f fd) (gD : mg "DIRECTIONS" = some (.ref aD)) (hD : ∀ H, Dp K H (.ref aD) dDirs) : FnOk P w K mg base CX0 1 f fd ["value"] (spDir K) := by
  refine F.ok scDir (fun vs H Q E h => by obtain ⟨b, rfl, _⟩ := h; rfl) (fun cdv A outer s H vs Q E hr h => ?_)
  obtain ⟨b, rfl, q⟩ := h
  suffices z : ∃ t, PSs (cxOf CX0 P w K mg base ["value"] "is_direction" (defScope (top 3)) f cdv A outer s H E).nox (defBody (top 3)) t ∧ t { nx := fun _ H' => Q .non H', rt := Q } (start ["value"] [.str (wayS b)]) H by
    obtain ⟨t, h1, h2⟩ := z
    exact ⟨t, h1.nox, h2⟩
  refine ⟨_, pss_one (ps_ret (pe_cmpR op_in_seq (pv 0) (pe_glob (by rfl) gD (v := .ref aD) rfl) (by rfl))), ?_⟩
  have hd := hD H
  generalize e : dDirs = dd at hd
  cases hd with
  | @tup a xs ds hs ha =>
    unfold dDirs at e
    cases e
    cases ha with
    | cons h1 z => cases z with
      | cons h2 z =>
        cases z
        cases h1
        cases h2
        refine ⟨_, rfl, aD, _, rfl, .inr hs, by cases b <;> rfl, rfl, ?_⟩
        cases b with
        | true => exact q
        | false => exact q
  | _ => cases e
theorem scOrd : FnScope ["direction", "columns"] ["direction", "columns"] (defScope (top 4)) := ⟨rfl, rfl, rfl, by decide +kernel, rfl, by decide +kernel, by decide +kernel⟩
def ordV (b : Bool) (xs : List V) : List V := if b then xs else xs.reverse
def spOrd (K : PySem.W.Frag) : Sp := fun vs H Q _ => ∃ b a xs, vs = [.str (wayS b), .ref a] ∧ (SqL K H a xs ∨ SqT K H a xs) ∧ ∀ p H', Same H H' → SqT K H' p (ordV b xs) → Q (.ref p) H'
theorem ok_ord (F : FnT K "in_order" 4 f fd) (T : Txt mg) : FnOk P w K mg base CX0 1 f fd ["direction", "columns"] (spOrd K) := by
  refine F.ok scOrd (fun vs H Q E h => by obtain ⟨b, a, xs, rfl, _⟩ := h; rfl) (fun cdv A outer s H vs Q E hr h => ?_)
  obtain ⟨b, a, xs, rfl, hx, q⟩ := h
  suffices z : ∃ t, PSs (cxOf CX0 P w K mg base ["direction", "columns"] "in_order" (defScope (top 4)) f cdv A outer s H E).nox (defBody (top 4)) t ∧ t { nx := fun _ H' => Q .non H', rt := Q } (start ["direction", "columns"] [.str (wayS b), .ref a]) H by
    obtain ⟨t, h1, h2⟩ := z
    exact ⟨t, h1.nox, h2⟩
  refine ⟨_, pss_one (ps_ret (pe_ifExp (pt_cmpR op_eq (pv 0) pe_str (nomark _)) (pe_revT (pe_callTy call_tupR (by rfl) T.tuple (by decide +kernel) (pa_cons (pv 1) pa_nil))) (pe_callTy call_tupR (by rfl) T.tuple (by decide +kernel) (pa_cons (pv 1) pa_nil)))), ?_⟩
  refine ⟨_, rfl, rfl, decide (V.str (wayS b) = V.str "l"), rfl, ?_⟩
  cases b with
  | true =>
    rw [show decide (V.str (wayS true) = V.str "l") = false by decide]
    exact iteF ⟨_, rfl, a, xs, rfl, hx, fun p H' s' hp => q p H' s' hp⟩
  | false =>
    rw [show decide (V.str (wayS false) = V.str "l") = true by decide]
    refine iteT ⟨_, rfl, a, xs, rfl, hx, fun p H1 s1 hp => ⟨p, xs, rfl, hp, fun t nt => ?_⟩⟩
    exact q t _ (same_trans s1 (same_upd nt)) (SqT.of upd_same)
/-! ### by_repr -/
theorem scBy : FnScope ["values"] ["values"] (defScope (top 14)) := ⟨rfl, rfl, rfl, by decide +kernel, rfl, by decide +kernel, by decide +kernel⟩
def spBy (K : PySem.W.Frag) (w : World) (TT : List (Addr × Str)) : Sp := fun vs H Q _ => ∃ (x : V) (xs : List Vd), vs = [x] ∧ Tabs TT H ∧ Colls K w H x (xs.map (·.1)) ∧ (∀ q ∈ xs, ShowOk K H q) ∧ xs.length ≤ 1000 ∧ ∀ p H', ExtN H H' → Tabs TT H' → SqT K H' p ((srt xs).map (·.1)) → Q (.ref p) H'
theorem ok_by {TT : List (Addr × Str)} {Pt : Addr} (F : FnT K "by_repr" 14 f fd) (TX : Txt mg) (hf : He.fAd K ("by_repr", none) = f) (TB : TabB base mg (He.codeOf K ("by_repr", none)) Pt) (hT : (Pt, ("by_repr" ++ ".<locals>." ++ "<lambda>" : Str)) ∈ TT) (uT : ∀ p ∈ TT, p.1 = Pt → p.2 = ("by_repr" ++ ".<locals>." ++ "<lambda>" : Str)) :
    GFn P w K mg base CX0 4 f fd ["values"] (spBy K w TT) := by
  refine GFn.of F scBy (fun vs H Q E h => by obtain ⟨x, xs, rfl, _⟩ := h; rfl) (fun c A outer s0 H vs Q E hc hr free h => ?_)
  obtain ⟨x, xs, rfl, tabs, hx, sh, few, q⟩ := h
  suffices z : ∃ t, PSs (cxOf CX0 P w K mg base ["values"] "by_repr" (defScope (top 14)) f (.ref c) A outer s0 H E).nox (defBody (top 14)) t ∧ t { nx := fun _ H' => Q .non H', rt := Q } (start ["values"] [x]) H by
    obtain ⟨t, h1, h2⟩ := z
    exact ⟨t, h1.nox, h2⟩
  refine ⟨_, pss_one (ps_ret (pe_callTy call_tupR (by rfl) TX.tuple (by decide +kernel) (pa_cons (pe_sortR (T := TT) (pv 0) TB ?_ hT uT ⟨rfl, rfl, rfl, rfl, rfl, by decide +kernel, by decide +kernel⟩ hr free TX.repr TX.sorted (by rfl) (by decide +kernel) (by rfl) (by intros; rfl)) pa_nil))), ?_⟩
  · rw [hc _ hf]
    rfl
  refine ⟨_, rfl, tabs, xs, hx, sh, (by rw [sizeLine_eq]; omega), fun H2 p e2 t2 np => ⟨p, _, rfl, .inl (SqL.of upd_same), fun l H3 s3 hl => ?_⟩⟩
  have s2 := same_upd (o := .lst ((srt xs).map (·.1))) np
  exact q l H3 (ExtN.trans e2 (ExtN.of (same_trans s2 s3))) ((t2.ext s2).ext s3) hl
end
end K15

set_option Elab.async false
set_option linter.all false
set_option maxRecDepth 100000
set_option maxHeartbeats 4000000
namespace K15
open PySem PySem.Spec PyProof.Rows L2 Pen Tr AK LamX
/-! ### the letters and states of the law -/
/-- the state of a row, as the program writes it -/
def rowS (n : Nat) : Str := ("row" : Str) ++ (toString (n : Int) : Str)
def xD : PyData := .str "x"
def rowD (n : Nat) : PyData := .str (rowS n)
def menuW : List PyData := [.tuple [.str "a"], .str "b", .int 7, .str "", .tuple [.str "x", .int 1], .str "zz", .str "s", .str "t", .int 0, .tuple [.str "u", .int 1], .str "v", .str "w", .tuple [.str "s"], .int 12]
def menuT : List PyData := xD :: .str "0" :: .str "1" :: .str "back" :: .str "keep" :: .str "add" :: .str "end" :: (List.range 80).map rowD
def menuD : List PyData := menuW ++ menuT
def kOf (d : PyData) : NestedKey := (keyD d).getD .none
theorem menu_str {d : PyData} (hd : d ∈ menuT) : ∃ s, d = .str s := by
  simp only [menuT, List.mem_cons] at hd
  rcases hd with rfl | rfl | rfl | rfl | rfl | rfl | rfl | hd
  · exact ⟨_, rfl⟩
  · exact ⟨_, rfl⟩
  · exact ⟨_, rfl⟩
  · exact ⟨_, rfl⟩
  · exact ⟨_, rfl⟩
  · exact ⟨_, rfl⟩
  · exact ⟨_, rfl⟩
  · obtain ⟨n, _, rfl⟩ := List.mem_map.mp hd
    exact ⟨_, rfl⟩
theorem menuW_key : ∀ d ∈ menuW, keyD d = some (kOf d) := fun d hd => by
  simp only [menuW, List.mem_cons, List.not_mem_nil, or_false] at hd
  rcases hd with rfl | rfl | rfl | rfl | rfl | rfl | rfl | rfl | rfl | rfl | rfl | rfl | rfl | rfl <;> rfl
theorem menu_key : ∀ d ∈ menuD, keyD d = some (kOf d) := fun d hd => by
  rcases List.mem_append.mp hd with hd | hd
  · exact menuW_key d hd
  · obtain ⟨s, rfl⟩ := menu_str hd
    rfl
theorem menuW_deep : ∀ d ∈ menuW, (kOf d).depth ≤ 1 := by decide +kernel
theorem menu_deep : ∀ d ∈ menuD, (kOf d).depth ≤ 1 := fun d hd => by
  rcases List.mem_append.mp hd with hd | hd
  · exact menuW_deep d hd
  · obtain ⟨s, rfl⟩ := menu_str hd
    exact Nat.zero_le _
theorem menu_sym : ∀ d ∈ menuD, symD d = true ∧ wtD d ≤ 10 := by decide +kernel
theorem menu_show : ∀ d ∈ menuD, d.showable = true ∧ d.hasDict = false ∧ d.depth ≤ 1 ∧ d.shown.length ≤ 20 ∧ d.canLay0 = true := by decide +kernel
theorem menu_nn : ∀ d ∈ menuD, d ≠ .none := fun d hd z => by
  subst z
  rcases List.mem_append.mp hd with hd | hd
  · simp [menuW] at hd
  · obtain ⟨s, z⟩ := menu_str hd
    cases z
theorem menu_w {d : PyData} (h : d ∈ menuW) : d ∈ menuD := List.mem_append_left _ h
theorem menu_t {d : PyData} (h : d ∈ menuT) : d ∈ menuD := List.mem_append_right _ h
theorem row_inj : ∀ n, n < 80 → ∀ m, m < 80 → rowS n = rowS m → n = m := by decide +kernel
theorem row_menu {n : Nat} (h : n < 80) : rowD n ∈ menuD := menu_t (by
  simp only [menuT, List.mem_cons]
  exact .inr (.inr (.inr (.inr (.inr (.inr (.inr (List.mem_map.mpr ⟨n, List.mem_range.mpr h, rfl⟩))))))))
theorem x_menu : xD ∈ menuD := menu_t (List.mem_cons_self ..)
/-- a letter or a state: its value, its datum -/
abbrev Sy := V × PyData
structure SyOk (K : PySem.W.Frag) (H : Hp) (s : Sy) : Prop where
  dp : Dp K H s.1 s.2
  mem : s.2 ∈ menuD
section
variable {K : PySem.W.Frag} {w : World} {H H' : Hp}
theorem SyOk.tups {s : Sy} (o : SyOk K H s) (t : Tups H H') : SyOk K H' s := ⟨dp_tups t _ _ _ (menu_key _ o.mem) o.dp, o.mem⟩
theorem SyOk.nk {s : Sy} (o : SyOk K H s) : NK K H (kOf s.2) s.1 := ⟨s.2, o.dp, menu_key _ o.mem⟩
theorem SyOk.deep {s : Sy} (o : SyOk K H s) : (kOf s.2).depth ≤ 8 := Nat.le_trans (menu_deep _ o.mem) (by decide)
theorem SyOk.nn {s : Sy} (o : SyOk K H s) : s.1 ≠ .non := fun z => by
  have h := o.dp
  rw [z] at h
  have nn := menu_nn _ o.mem
  generalize s.2 = d at h nn
  cases h
  exact nn rfl
theorem SyOk.sh {s : Sy} (o : SyOk K H s) : ShowOk K H s := by
  obtain ⟨h1, h2, h3, h4, h5⟩ := menu_show _ o.mem
  exact ⟨o.dp, h1, h2, Nat.le_trans h3 (by decide), Nat.le_trans h4 (by rw [sizeLine_eq]; decide), _, menu_key _ o.mem⟩
/-! ### a machine -/
structure Mac where
  ld : List PyData
  sd : Bool → List PyData
  step : Bool → PyData → PyData → Sy × Sy
  turn : Bool → PyData → Option (Sy × Option Sy)
structure MacOk (K : PySem.W.Frag) (H : Hp) (m : Mac) : Prop where
  lm : ∀ d ∈ m.ld, d ∈ menuD
  sm : ∀ b, ∀ d ∈ m.sd b, d ∈ menuD
  lf : m.ld.length ≤ 3
  sf : ∀ b, (m.sd b).length ≤ 80
  st : ∀ b d e, d ∈ m.sd b → e ∈ m.ld → SyOk K H (m.step b d e).1 ∧ (m.step b d e).1.2 ∈ m.sd b ∧ SyOk K H (m.step b d e).2 ∧ (m.step b d e).2.2 ∈ m.ld
  tu : ∀ b d s x, d ∈ m.sd b → m.turn b d = some (s, x) → SyOk K H s ∧ s.2 ∈ m.sd (!b) ∧ ∀ l, x = some l → b = true ∧ SyOk K H l ∧ l.2 ∈ m.ld
theorem MacOk.tups {m : Mac} (o : MacOk K H m) (t : Tups H H') : MacOk K H' m :=
  ⟨o.lm, o.sm, o.lf, o.sf, fun b d e hd he => by
    obtain ⟨h1, h2, h3, h4⟩ := o.st b d e hd he
    exact ⟨h1.tups t, h2, h3.tups t, h4⟩, fun b d s x hd ht => by
    obtain ⟨h1, h2, h3⟩ := o.tu b d s x hd ht
    exact ⟨h1.tups t, h2, fun l hl => by
      obtain ⟨z1, z2, z3⟩ := h3 l hl
      exact ⟨z1, z2.tups t, z3⟩⟩⟩
def kS (b : Bool) (d e : PyData) : NestedKey := .tup [.text (wayS b), kOf d, kOf e]
def kT (b : Bool) (d : PyData) : NestedKey := .tup [.text (wayS b), kOf d]
def optV : Option Sy → V
  | none => .non
  | some l => l.1
/-- what stands in a turn -/
def TurnAt (K : PySem.W.Frag) (H : Hp) (v : V) : Option (Sy × Option Sy) → Prop
  | none => v = .non
  | some (s, x) => ∃ q, v = .ref q ∧ SqT K H q [s.1, optV x]
/-- the two tables -/
structure TabM (K : PySem.W.Frag) (w : World) (H : Hp) (ds dt : Addr) (m : Mac) : Prop where
  ex : ∃ es et : List Eh, DA K w H ds es ∧ DA K w H dt et ∧ (∀ b d e, d ∈ m.sd b → e ∈ m.ld → ∃ q, atK es (kS b d e) = some (.ref q) ∧ SqT K H q [(m.step b d e).1.1, (m.step b d e).2.1]) ∧
    (∀ b d, d ∈ m.sd b → ∃ v, atK et (kT b d) = some v ∧ TurnAt K H v (m.turn b d))
theorem TurnAt.tups {v : V} {t : Option (Sy × Option Sy)} (h : TurnAt K H v t) (tu : Tups H H') : TurnAt K H' v t := by
  match t, h with
  | none, h => exact h
  | some (s, x), ⟨q, e, hq⟩ => exact ⟨q, e, SqT.tups tu hq⟩
theorem TabM.keep {ds dt : Addr} {m : Mac} (T : TabM K w H ds dt m) (t : Tups H H') (k : ∀ b es, b = ds ∨ b = dt → Rd H b (DkO w b es) → Rd H' b (DkO w b es)) : TabM K w H' ds dt m := by
  obtain ⟨es, et, h1, h2, h3, h4⟩ := T.ex
  refine ⟨es, et, daKeep h1 t (k _ _ (.inl rfl) h1.at_), daKeep h2 t (k _ _ (.inr rfl) h2.at_), fun b d e hd he => ?_, fun b d hd => ?_⟩
  · obtain ⟨q, z1, z2⟩ := h3 b d e hd he
    exact ⟨q, z1, SqT.tups t z2⟩
  · obtain ⟨v, z1, z2⟩ := h4 b d hd
    exact ⟨v, z1, z2.tups t⟩
theorem TabM.same {ds dt : Addr} {m : Mac} (T : TabM K w H ds dt m) (s : Same H H') : TabM K w H' ds dt m := T.keep (fun b xs h => same_rd s h) fun b es _ h => same_rd s h
/-- no more of them than in the list -/
theorem sub_len {α : Type} [DecidableEq α] : ∀ {l r : List α}, l.Nodup → (∀ x ∈ l, x ∈ r) → l.length ≤ r.length
  | [], r, _, _ => Nat.zero_le _
  | a :: l, r, nd, h => by
    have nd2 : a ∉ l ∧ l.Nodup := List.nodup_cons.mp nd
    have ha := h a (List.mem_cons_self ..)
    have e : (r.erase a).length = r.length - 1 := List.length_erase_of_mem ha
    have z : l.length ≤ (r.erase a).length := sub_len nd2.2 fun x hx => by
      have ne : x ≠ a := fun q => nd2.1 (q ▸ hx)
      exact (List.mem_erase_of_ne ne).mpr (h x (List.mem_cons_of_mem _ hx))
    have p : 0 < r.length := List.length_pos_of_mem ha
    simp only [List.length_cons]
    omega
end
end K15

set_option Elab.async false
set_option linter.all false
set_option maxRecDepth 100000
set_option maxHeartbeats 4000000
namespace K15
open PySem PySem.Spec PyProof.Rows L2 Pen Tr AK LamX
/-- what is to be done: a way, a state, perhaps a letter -/
abbrev Td := V × Bool × Sy × Option Sy
/-- where a reach has its things -/
structure RA where
  a : Addr
  C : Addr
  dx : Addr
  ds : Addr
  dt : Addr
  td : Addr
  dl : Addr
  dS : Addr
  d0 : Addr
  d1 : Addr
  pm : Addr
/-- how far it has come -/
structure St where
  todo : List Td
  ls : List Sy
  ss : Bool → List Sy
def RA.db (R : RA) (b : Bool) : Addr := if b then R.d1 else R.d0
def entS (l : List Sy) : List Eh := l.map fun s => (kOf s.2, s.1, .bl true)
def entB (R : RA) : List Eh := [(.text "l", .str "l", .ref R.d0), (.text "r", .str "r", .ref R.d1)]
def tdV (b : Bool) (s : Sy) : Option Sy → List V
  | none => [.str (wayS b), s.1]
  | some l => [.str (wayS b), s.1, l.1]
/-- an entry is as it is told -/
structure TdOk (K : PySem.W.Frag) (H : Hp) (m : Mac) (e : Td) : Prop where
  at_ : ∃ q, e.1 = .ref q ∧ SqT K H q (tdV e.2.1 e.2.2.1 e.2.2.2)
  st : SyOk K H e.2.2.1 ∧ e.2.2.1.2 ∈ m.sd e.2.1
  le : ∀ l, e.2.2.2 = some l → SyOk K H l ∧ l.2 ∈ m.ld
def fldsR (R : RA) : List (Str × V) := [("_steps", .ref R.ds), ("_turns", .ref R.dt), ("_todo", .ref R.td), ("letters", .ref R.dl), ("states", .ref R.dS), ("missing", .ref R.pm)]
structure RS (K : PySem.W.Frag) (w : World) (H0 : Hp) (R : RA) (m : Mac) (t : St) (H : Hp) : Prop where
  ins : H R.a = some (.ins R.C R.dx (fldsR R))
  td : H R.td = some (.lst (t.todo.map (·.1)))
  pm : H R.pm = some (.lst [])
  dl : H R.dl = some (DkO w R.dl (entS t.ls))
  dS : H R.dS = some (DkO w R.dS (entB R))
  db : ∀ b, H (R.db b) = some (DkO w (R.db b) (entS (t.ss b)))
  lnd : ((entS t.ls).map (·.1)).Nodup
  snd : ∀ b, ((entS (t.ss b)).map (·.1)).Nodup
  tds : ∀ e ∈ t.todo, TdOk K H m e
  lsO : ∀ s ∈ t.ls, SyOk K H s ∧ s.2 ∈ m.ld
  ssO : ∀ b, ∀ s ∈ t.ss b, SyOk K H s ∧ s.2 ∈ m.sd b
  mac : MacOk K H m
  tab : TabM K w H R.ds R.dt m
  out : ∀ b o, H0 b = some o → b ≠ R.a → H b = some o
  tdN : H0 R.td = none
  dlN : H0 R.dl = none
  dbN : ∀ b, H0 (R.db b) = none
  nd : [R.ds, R.dt, R.dl, R.dS, R.d0, R.d1].Nodup
  ptn : R.pm ≠ R.td
section
variable {K : PySem.W.Frag} {w : World} {H0 H H' : Hp} {R : RA} {m : Mac} {t : St}
theorem TdOk.tups {e : Td} (o : TdOk K H m e) (tu : Tups H H') : TdOk K H' m e := by
  obtain ⟨q, h1, h2⟩ := o.at_
  exact ⟨⟨q, h1, SqT.tups tu h2⟩, ⟨o.st.1.tups tu, o.st.2⟩, fun l hl => ⟨(o.le l hl).1.tups tu, (o.le l hl).2⟩⟩
theorem da_ent {d : Addr} {l : List Sy} (h : Rd H d (DkO w d (entS l))) (o : ∀ s ∈ l, SyOk K H s) (nd : ((entS l).map (·.1)).Nodup) : DA K w H d (entS l) :=
  ⟨h, fun x hx => by
    obtain ⟨s, hs, rfl⟩ := List.mem_map.mp hx
    exact ⟨(o s hs).nk, (o s hs).deep⟩, nd⟩
theorem RS.dla (r : RS K w H0 R m t H) : DA K w H R.dl (entS t.ls) := da_ent (.inl r.dl) (fun s hs => (r.lsO s hs).1) r.lnd
theorem RS.dba (r : RS K w H0 R m t H) (b : Bool) : DA K w H (R.db b) (entS (t.ss b)) := da_ent (.inl (r.db b)) (fun s hs => (r.ssO b s hs).1) (r.snd b)
theorem nk_text {x : Str} : NK K H (.text x) (.str x) := ⟨.str x, .str x, rfl⟩
theorem RS.dSa (r : RS K w H0 R m t H) : DA K w H R.dS (entB R) := ⟨.inl r.dS, fun x hx => by
  simp only [entB, List.mem_cons, List.not_mem_nil, or_false] at hx
  rcases hx with rfl | rfl <;> exact ⟨nk_text, (show (0 : Nat) ≤ 8 by decide)⟩, (show ([NestedKey.text "l", NestedKey.text "r"] : List NestedKey).Nodup by decide)⟩
theorem entB_at (b : Bool) : atK (entB R) (.text (wayS b)) = some (.ref (R.db b)) := by
  cases b
  · exact atK_pos rfl
  · exact (atK_neg (show ¬ (NestedKey.text "l" : NestedKey) = NestedKey.text "r" by decide)).trans (atK_pos rfl)
/-- the rest of the facts stays -/
theorem RS.keep (r : RS K w H0 R m t H) {t' : St} (tu : Tups H H') (ins : H' R.a = some (.ins R.C R.dx (fldsR R))) (td : H' R.td = some (.lst (t'.todo.map (·.1)))) (pm : H' R.pm = some (.lst []))
    (dl : H' R.dl = some (DkO w R.dl (entS t'.ls))) (dS : H' R.dS = some (DkO w R.dS (entB R))) (db : ∀ b, H' (R.db b) = some (DkO w (R.db b) (entS (t'.ss b))))
    (lnd : ((entS t'.ls).map (·.1)).Nodup) (snd : ∀ b, ((entS (t'.ss b)).map (·.1)).Nodup)
    (tds : ∀ e ∈ t'.todo, e ∈ t.todo ∨ TdOk K H' m e) (lsO : ∀ s ∈ t'.ls, s ∈ t.ls ∨ (SyOk K H' s ∧ s.2 ∈ m.ld)) (ssO : ∀ b, ∀ s ∈ t'.ss b, s ∈ t.ss b ∨ (SyOk K H' s ∧ s.2 ∈ m.sd b))
    (tab : TabM K w H' R.ds R.dt m) (out : ∀ b o, H0 b = some o → b ≠ R.a → H' b = some o) : RS K w H0 R m t' H' :=
  ⟨ins, td, pm, dl, dS, db, lnd, snd, fun e he => (tds e he).elim (fun h => (r.tds e h).tups tu) id, fun s hs => (lsO s hs).elim (fun h => ⟨(r.lsO s h).1.tups tu, (r.lsO s h).2⟩) id,
    fun b s hs => (ssO b s hs).elim (fun h => ⟨(r.ssO b s h).1.tups tu, (r.ssO b s h).2⟩) id, r.mac.tups tu, tab, out, r.tdN, r.dlN, r.dbN, r.nd, r.ptn⟩
theorem RS.same (r : RS K w H0 R m t H) (s : Same H H') : RS K w H0 R m t H' :=
  r.keep (fun b xs h => same_rd s h) (s _ _ r.ins) (s _ _ r.td) (s _ _ r.pm) (s _ _ r.dl) (s _ _ r.dS) (fun b => s _ _ (r.db b)) r.lnd r.snd (fun e h => .inl h) (fun e h => .inl h) (fun b e h => .inl h) (r.tab.same s) (fun b o e n => s _ _ (r.out b o e n))
/-- H' is H but at d -/
theorem RS.dne (r : RS K w H0 R m t H) {d : Addr} {o o' : HO} {b : Addr} (h : H b = some o') (e : H d = some o) (ne : ∀ z : o' = o, b ≠ d) : b ≠ d := by
  rintro rfl
  rw [h] at e
  exact ne (Option.some.inj e) rfl
theorem rd_ne {b d : Addr} {es : List Eh} {o : HO} (h : Rd H b (DkO w b es)) (e : H d = some o) (n1 : ∀ b es, o ≠ DkO w b es) (n2 : ∀ x u, o ≠ .frz x u) : b ≠ d := by
  rintro rfl
  rcases h with h | ⟨u, h⟩
  · rw [h] at e
    exact n1 _ _ (Option.some.inj e).symm
  · rw [h] at e
    exact n2 _ _ (Option.some.inj e).symm
theorem rd_upd {b d : Addr} {o : HO} {es : List Eh} (n : b ≠ d) (h : Rd H b (DkO w b es)) : Rd (upd H d o) b (DkO w b es) := h.imp (fun h => by rw [upd_ne n]; exact h) fun ⟨u, h⟩ => ⟨u, by rw [upd_ne n]; exact h⟩
theorem RA.nes (nd : [R.ds, R.dt, R.dl, R.dS, R.d0, R.d1].Nodup) : R.ds ≠ R.dl ∧ R.dt ≠ R.dl ∧ R.dS ≠ R.dl ∧ (∀ b, R.ds ≠ R.db b ∧ R.dt ≠ R.db b ∧ R.dS ≠ R.db b ∧ R.dl ≠ R.db b) ∧ R.d0 ≠ R.d1 := by
  simp only [List.nodup_cons, List.mem_cons, List.not_mem_nil, or_false, not_or] at nd
  obtain ⟨⟨a1, a2, a3, a4, a5⟩, ⟨b1, b2, b3, b4⟩, ⟨c1, c2, c3⟩, ⟨d1, d2⟩, e1, -⟩ := nd
  exact ⟨a2, b1, Ne.symm c1, fun b => by cases b <;> exact ⟨by assumption, by assumption, by assumption, by assumption⟩, e1⟩
theorem RA.dbne {b c : Bool} (n : R.d0 ≠ R.d1) (h : b ≠ c) : R.db b ≠ R.db c := by
  cases b <;> cases c <;> first | exact absurd rfl h | exact n | exact Ne.symm n
/-- another list of what is to be done -/
theorem RS.setTd (r : RS K w H0 R m t H) {l : List Td} (h : ∀ e ∈ l, e ∈ t.todo ∨ TdOk K H m e) : RS K w H0 R m { t with todo := l } (upd H R.td (.lst (l.map (·.1)))) := by
  have tu : Tups H (upd H R.td (.lst (l.map (·.1)))) := Tups.upd (lst_ntup r.td)
  have st : ∀ {b : Addr} {o : HO}, b ≠ R.td → H b = some o → upd H R.td (.lst (l.map (·.1))) b = some o := fun n e => by
    rw [upd_ne n]
    exact e
  refine r.keep tu (st (ne_of r.ins r.td fun z => nomatch z) r.ins) upd_same (st r.ptn r.pm) (st (ne_of r.dl r.td fun z => nomatch z) r.dl) (st (ne_of r.dS r.td fun z => nomatch z) r.dS) (fun b => st (ne_of (r.db b) r.td fun z => nomatch z) (r.db b)) r.lnd r.snd
    (fun e he => (h e he).imp id fun o => o.tups tu) (fun s h => .inl h) (fun b s h => .inl h) (r.tab.keep tu fun b es hb h => rd_upd (rd_ne h r.td (fun _ _ z => nomatch z) (fun _ _ z => nomatch z)) h) (fun b o e n => st (ne_of_none e r.tdN) (r.out b o e n))
/-- one more letter -/
theorem RS.addL (r : RS K w H0 R m t H) {s : Sy} (h : SyOk K H s ∧ s.2 ∈ m.ld) (new : atK (entS t.ls) (kOf s.2) = none) : RS K w H0 R m { t with ls := t.ls ++ [s] } (upd H R.dl (DkO w R.dl (putE (entS t.ls) (kOf s.2) s.1 (.bl true)))) := by
  have pe : putE (entS t.ls) (kOf s.2) s.1 (.bl true) = entS (t.ls ++ [s]) := by
    rw [putE_new new]
    simp [entS]
  have nd2 : ((entS (t.ls ++ [s])).map (·.1)).Nodup := by
    rw [← pe]
    exact putE_nd r.lnd
  rw [pe]
  obtain ⟨n1, n2, n3, n4, n5⟩ := RA.nes r.nd
  have tu : Tups H (upd H R.dl (DkO w R.dl (entS (t.ls ++ [s])))) := Tups.upd (dk_ntup r.dl)
  have st : ∀ {b : Addr} {o : HO}, b ≠ R.dl → H b = some o → upd H R.dl (DkO w R.dl (entS (t.ls ++ [s]))) b = some o := fun n e => by
    rw [upd_ne n]
    exact e
  refine r.keep tu (st (ne_of r.ins r.dl fun z => nomatch z) r.ins) (st (ne_of r.td r.dl fun z => nomatch z) r.td) (st (ne_of r.pm r.dl fun z => nomatch z) r.pm) upd_same (st n3 r.dS) (fun b => st (Ne.symm (n4 b).2.2.2) (r.db b)) nd2 r.snd
    (fun e he => .inl he) (fun x hx => ?_) (fun b s h => .inl h) (r.tab.keep tu fun b es hb h => rd_upd (by rcases hb with rfl | rfl; exact n1; exact n2) h) (fun b o e n => st (ne_of_none e r.dlN) (r.out b o e n))
  rcases List.mem_append.mp hx with hx | hx
  · exact .inl hx
  · obtain rfl := List.mem_singleton.mp hx
    exact .inr ⟨h.1.tups tu, h.2⟩
def setB (f : Bool → List Sy) (b : Bool) (l : List Sy) : Bool → List Sy := fun c => if c = b then l else f c
/-- one more state -/
theorem RS.addS (r : RS K w H0 R m t H) {b : Bool} {s : Sy} (h : SyOk K H s ∧ s.2 ∈ m.sd b) (new : atK (entS (t.ss b)) (kOf s.2) = none) : RS K w H0 R m { t with ss := setB t.ss b (t.ss b ++ [s]) } (upd H (R.db b) (DkO w (R.db b) (putE (entS (t.ss b)) (kOf s.2) s.1 (.bl true)))) := by
  have pe : putE (entS (t.ss b)) (kOf s.2) s.1 (.bl true) = entS (t.ss b ++ [s]) := by
    rw [putE_new new]
    simp [entS]
  have nd2 : ((entS (t.ss b ++ [s])).map (·.1)).Nodup := by
    rw [← pe]
    exact putE_nd (r.snd b)
  rw [pe]
  obtain ⟨n1, n2, n3, n4, n5⟩ := RA.nes r.nd
  obtain ⟨m1, m2, m3, m4⟩ := n4 b
  have tu : Tups H (upd H (R.db b) (DkO w (R.db b) (entS (t.ss b ++ [s])))) := Tups.upd (dk_ntup (r.db b))
  have st : ∀ {c : Addr} {o : HO}, c ≠ R.db b → H c = some o → upd H (R.db b) (DkO w (R.db b) (entS (t.ss b ++ [s]))) c = some o := fun n e => by
    rw [upd_ne n]
    exact e
  have sb : setB t.ss b (t.ss b ++ [s]) b = t.ss b ++ [s] := if_pos rfl
  have sn : ∀ c, c ≠ b → setB t.ss b (t.ss b ++ [s]) c = t.ss c := fun c n => if_neg n
  refine r.keep tu (st (ne_of r.ins (r.db b) fun z => nomatch z) r.ins) (st (ne_of r.td (r.db b) fun z => nomatch z) r.td) (st (ne_of r.pm (r.db b) fun z => nomatch z) r.pm) (st m4 r.dl) (st m3 r.dS) (fun c => ?_) r.lnd (fun c => ?_)
    (fun e he => .inl he) (fun x hx => .inl hx) (fun c x hx => ?_) (r.tab.keep tu fun c es hb h => rd_upd (by rcases hb with rfl | rfl; exact m1; exact m2) h) (fun c o e n => st (ne_of_none e (r.dbN b)) (r.out c o e n))
  · by_cases e : c = b
    · subst e
      show _ = some (DkO w (R.db c) (entS (setB t.ss c (t.ss c ++ [s]) c)))
      rw [sb]
      exact upd_same
    · show _ = some (DkO w (R.db c) (entS (setB t.ss b (t.ss b ++ [s]) c)))
      rw [sn c e]
      exact st (RA.dbne n5 e) (r.db c)
  · by_cases e : c = b
    · subst e
      show ((entS (setB t.ss c (t.ss c ++ [s]) c)).map (·.1)).Nodup
      rw [sb]
      exact nd2
    · show ((entS (setB t.ss b (t.ss b ++ [s]) c)).map (·.1)).Nodup
      rw [sn c e]
      exact r.snd c
  · by_cases e : c = b
    · subst e
      rw [show (St.mk t.todo t.ls (setB t.ss c (t.ss c ++ [s]))).ss c = t.ss c ++ [s] from sb] at hx
      rcases List.mem_append.mp hx with hx | hx
      · exact .inl hx
      · obtain rfl := List.mem_singleton.mp hx
        exact .inr ⟨h.1.tups tu, h.2⟩
    · rw [show (St.mk t.todo t.ls (setB t.ss b (t.ss b ++ [s]))).ss c = t.ss c from sn c e] at hx
      exact .inl hx
/-! ### what is left falls -/
def pot (m : Mac) (t : St) : Nat := t.todo.length + 200 * (m.ld.length - t.ls.length) + 20 * ((m.sd false).length - (t.ss false).length) + 20 * ((m.sd true).length - (t.ss true).length)
theorem ent_len {l : List Sy} {r : List PyData} (nd : ((entS l).map (·.1)).Nodup) (h : ∀ s ∈ l, s.2 ∈ r) : l.length ≤ r.length := by
  have z := sub_len (r := r.map kOf) nd fun x hx => by
    obtain ⟨e, he, rfl⟩ := List.mem_map.mp hx
    obtain ⟨s, hs, rfl⟩ := List.mem_map.mp he
    exact List.mem_map.mpr ⟨s.2, h s hs, rfl⟩
  simpa [entS] using z
theorem RS.lle (r : RS K w H0 R m t H) : t.ls.length ≤ m.ld.length := ent_len r.lnd fun s hs => (r.lsO s hs).2
theorem RS.sle (r : RS K w H0 R m t H) (b : Bool) : (t.ss b).length ≤ (m.sd b).length := ent_len (r.snd b) fun s hs => (r.ssO b s hs).2
end
end K15

set_option Elab.async false
set_option linter.all false
set_option maxRecDepth 100000
set_option maxHeartbeats 4000000
namespace K15
open PySem PySem.Spec PyProof.Rows L2 Pen Tr AK LamX
/-! ### what is reached is closed -/
theorem menu_nd : (menuD.map kOf).Nodup := by decide +kernel
theorem inj_of {α β : Type} {f : α → β} : ∀ {l : List α}, (l.map f).Nodup → ∀ {a b : α}, a ∈ l → b ∈ l → f a = f b → a = b
  | x :: l, nd, a, b, ha, hb, e => by
    rw [List.map_cons, List.nodup_cons] at nd
    rcases List.mem_cons.mp ha with ea | ha2
    · rcases List.mem_cons.mp hb with eb | hb2
      · rw [ea, eb]
      · exact absurd (show f x ∈ l.map f by rw [← ea, e]; exact List.mem_map.mpr ⟨b, hb2, rfl⟩) nd.1
    · rcases List.mem_cons.mp hb with eb | hb2
      · exact absurd (show f x ∈ l.map f by rw [← eb, ← e]; exact List.mem_map.mpr ⟨a, ha2, rfl⟩) nd.1
      · exact inj_of nd.2 ha2 hb2 e
theorem kOf_inj {a b : PyData} (ha : a ∈ menuD) (hb : b ∈ menuD) (e : kOf a = kOf b) : a = b := inj_of menu_nd ha hb e
def St.inL (t : St) (d : PyData) : Prop := d ∈ t.ls.map (·.2)
def St.inS (t : St) (b : Bool) (d : PyData) : Prop := d ∈ (t.ss b).map (·.2)
structure St.Le (t t' : St) : Prop where
  l : ∀ d, t.inL d → t'.inL d
  s : ∀ b d, t.inS b d → t'.inS b d
theorem St.Le.rfl' {t : St} : t.Le t := ⟨fun _ h => h, fun _ _ h => h⟩
theorem St.Le.trans {t u v : St} (a : t.Le u) (b : u.Le v) : t.Le v := ⟨fun d h => b.l d (a.l d h), fun c d h => b.s c d (a.s c d h)⟩
def StepD (m : Mac) (t : St) (b : Bool) (d e : PyData) : Prop := t.inS b (m.step b d e).1.2 ∧ t.inL (m.step b d e).2.2
def TurnD (m : Mac) (t : St) (b : Bool) (d : PyData) : Prop := ∀ s x, m.turn b d = some (s, x) → t.inS (!b) s.2 ∧ ∀ l, x = some l → t.inL l.2
abbrev Dn := Bool × Sy × Option Sy
def Due (t : St) (pend : Option Dn) (x : Dn) : Prop := (∃ v, (v, x) ∈ t.todo) ∨ pend = some x
/-- whatever follows is there, or is still to be done -/
structure Cl (m : Mac) (t : St) (pend : Option Dn) : Prop where
  tu : ∀ b, ∀ s ∈ t.ss b, Due t pend (b, s, none) ∨ TurnD m t b s.2
  st : ∀ b, ∀ s ∈ t.ss b, ∀ l ∈ t.ls, Due t pend (b, s, some l) ∨ StepD m t b s.2 l.2
section
variable {m : Mac} {t t' : St} {pd : Option Dn}
theorem StepD.le {b : Bool} {d e : PyData} (h : StepD m t b d e) (le : t.Le t') : StepD m t' b d e := ⟨le.s _ _ h.1, le.l _ h.2⟩
theorem TurnD.le {b : Bool} {d : PyData} (h : TurnD m t b d) (le : t.Le t') : TurnD m t' b d := fun s x e => ⟨le.s _ _ (h s x e).1, fun l hl => le.l _ ((h s x e).2 l hl)⟩
theorem Cl.more (c : Cl m t pd) (le : t.Le t') (td : ∀ e ∈ t.todo, e ∈ t'.todo) (nt : ∀ b, ∀ s ∈ t'.ss b, s ∈ t.ss b ∨ ∃ v, (v, b, s, none) ∈ t'.todo)
    (ns : ∀ b, ∀ s ∈ t'.ss b, ∀ l ∈ t'.ls, (s ∈ t.ss b ∧ l ∈ t.ls) ∨ ∃ v, (v, b, s, some l) ∈ t'.todo) : Cl m t' pd :=
  ⟨fun b s hs => (nt b s hs).elim (fun h => (c.tu b s h).imp (fun d => d.imp (fun ⟨v, hv⟩ => ⟨v, td _ hv⟩) id) fun d => d.le le) fun h => .inl (.inl h),
   fun b s hs l hl => (ns b s hs l hl).elim (fun h => (c.st b s h.1 l h.2).imp (fun d => d.imp (fun ⟨v, hv⟩ => ⟨v, td _ hv⟩) id) fun d => d.le le) fun h => .inl (.inl h)⟩
def DoneD (m : Mac) (t : St) : Dn → Prop
  | (b, s, none) => TurnD m t b s.2
  | (b, s, some l) => StepD m t b s.2 l.2
theorem Cl.done {x : Dn} (c : Cl m t (some x)) (h : DoneD m t x) : Cl m t none :=
  ⟨fun b s hs => (c.tu b s hs).elim (fun d => d.elim (fun a => .inl (.inl a)) fun e => by cases e; exact .inr h) .inr,
   fun b s hs l hl => (c.st b s hs l hl).elim (fun d => d.elim (fun a => .inl (.inl a)) fun e => by cases e; exact .inr h) .inr⟩
theorem due_pop {td : List Td} {e : Td} {x : Dn} (ex : t.todo = td ++ [e]) (d : Due t none x) : Due { t with todo := td } (some e.2) x := by
  rcases d with ⟨v, hv⟩ | d
  · rw [ex] at hv
    rcases List.mem_append.mp hv with h | h
    · exact .inl ⟨v, h⟩
    · have z := List.mem_singleton.mp h
      exact .inr (by rw [← z])
  · cases d
theorem Cl.pop {td : List Td} {e : Td} (c : Cl m t none) (ex : t.todo = td ++ [e]) : Cl m { t with todo := td } (some e.2) :=
  ⟨fun b s hs => (c.tu b s hs).imp (due_pop ex) id, fun b s hs l hl => (c.st b s hs l hl).imp (due_pop ex) id⟩
theorem inL_at {K : PySem.W.Frag} {H : Hp} {ls : List Sy} {s : Sy} {z : V} (o : ∀ x ∈ ls, SyOk K H x) (hs : SyOk K H s) (h : atK (entS ls) (kOf s.2) = some z) : s.2 ∈ ls.map (·.2) := by
  by_cases c : ∃ x ∈ entS ls, x.1 = kOf s.2
  · obtain ⟨x, hx, e⟩ := c
    obtain ⟨y, hy, rfl⟩ := List.mem_map.mp hx
    exact List.mem_map.mpr ⟨y, hy, kOf_inj (o y hy).mem hs.mem e⟩
  · rw [atK_none.mpr fun x hx e => c ⟨x, hx, e⟩] at h
    cases h
/-- closed, all of it -/
structure Clo (m : Mac) (first : List Sy) (be : Sy) (L : List PyData) : Prop where
  ex : ∃ S : Bool → List PyData, (∀ s ∈ first, s.2 ∈ L) ∧ be.2 ∈ S false ∧ ∀ b, ∀ d ∈ S b, (∀ e ∈ L, (m.step b d e).1.2 ∈ S b ∧ (m.step b d e).2.2 ∈ L) ∧ ∀ s x, m.turn b d = some (s, x) → s.2 ∈ S (!b) ∧ ∀ l, x = some l → l.2 ∈ L
theorem Cl.clo {first : List Sy} {be : Sy} (c : Cl m t none) (e : t.todo = []) (hf : ∀ s ∈ first, t.inL s.2) (hb : t.inS false be.2) : Clo m first be (t.ls.map (·.2)) := by
  have no : ∀ {x : Dn}, ¬ Due t none x := fun d => by
    rcases d with ⟨v, hv⟩ | d
    · rw [e] at hv
      cases hv
    · cases d
  refine ⟨⟨fun b => (t.ss b).map (fun s : Sy => s.2), hf, (show be.2 ∈ (t.ss false).map (fun s : Sy => s.2) from hb), fun b d hd => ?_⟩⟩
  obtain ⟨s, hs, rfl⟩ := List.mem_map.mp hd
  refine ⟨fun x hx => ?_, fun s2 x e2 => (c.tu b s hs).elim (fun d => (no d).elim) fun d => d s2 x e2⟩
  obtain ⟨l, hl, rfl⟩ := List.mem_map.mp hx
  exact (c.st b s hs l hl).elim (fun d => (no d).elim) id
end
end K15

set_option Elab.async false
set_option linter.all false
set_option maxRecDepth 100000
set_option maxHeartbeats 4000000
namespace K15
open PySem PySem.Spec PyProof.Rows L2 Pen Tr AK LamX
/-- the class Reach -/
structure ReF (K : PySem.W.Frag) (C : Addr) : Prop where
  cl : Cls K C
  st : NoAttr K C "_steps"
  tu : NoAttr K C "_turns"
  td : NoAttr K C "_todo"
  le : NoAttr K C "letters"
  ss : NoAttr K C "states"
  mi : NoAttr K C "missing"
theorem paired_app {α β : Type} {F : α → β → Prop} : ∀ {l1 m1 : List α} {l2 m2 : List β}, Paired F l1 l2 → Paired F m1 m2 → Paired F (l1 ++ m1) (l2 ++ m2)
  | _, _, _, _, .nil, h => h
  | _, _, _, _, .cons h1 h2, h => .cons h1 (paired_app h2 h)
theorem news_of {K : PySem.W.Frag} {H : Hp} {m : Mac} {g : Sy → Bool × Sy × Option Sy} : ∀ {l : List Sy} {acc : List V}, Paired (fun (s : Sy) (v : V) => ∃ p, v = .ref p ∧ SqT K H p (tdV (g s).1 (g s).2.1 (g s).2.2)) l acc →
    (∀ s ∈ l, (SyOk K H (g s).2.1 ∧ (g s).2.1.2 ∈ m.sd (g s).1) ∧ ∀ z, (g s).2.2 = some z → SyOk K H z ∧ z.2 ∈ m.ld) → ∃ news : List Td, news.map (·.1) = acc ∧ news.length = l.length ∧ (∀ e ∈ news, TdOk K H m e) ∧ ∀ s ∈ l, ∃ v, (v, g s) ∈ news
  | _, _, .nil, _ => ⟨[], rfl, rfl, (fun _ h => nomatch h), fun _ h => nomatch h⟩
  | s :: l, v :: acc, .cons ⟨p, h1, h2⟩ pr, ok => by
    obtain ⟨news, e1, e2, e3, e4⟩ := news_of pr fun z hz => ok z (List.mem_cons_of_mem _ hz)
    obtain ⟨o1, o2⟩ := ok s (List.mem_cons_self ..)
    refine ⟨(v, g s) :: news, by rw [List.map_cons, e1], by rw [List.length_cons, e2, List.length_cons], fun e he => ?_, fun z hz => ?_⟩
    · rcases List.mem_cons.mp he with rfl | he
      · exact ⟨⟨p, h1, h2⟩, o1, o2⟩
      · exact e3 e he
    · rcases List.mem_cons.mp hz with rfl | hz
      · exact ⟨v, List.mem_cons_self ..⟩
      · obtain ⟨y, hy⟩ := e4 z hz
        exact ⟨y, List.mem_cons_of_mem _ hy⟩
/-- a list of tuples, one for each key of such a dict -/
theorem lc_tups {K : PySem.W.Frag} {w : World} {H : Hp} {Q : VK} {d : Addr} {l : List Sy} {fv : Sy → List V} {td te : TE} {v0 v1 v2 o : Option V} (hd : H d = some (DkO w d (entS l))) (few : l.length ≤ 1000)
    (htd : ∀ od (R : VK), R (.ref d) (upd H d (.frz od (DkO w d (entS l)))) → td [v0, v1, v2, o] (upd H d (.frz od (DkO w d (entS l)))) R)
    (hte : ∀ s H1 (R : VK), (∀ p, H1 p = none → R (.ref p) (upd H1 p (.tup (fv s)))) → te [v0, v1, v2, some (s : Sy).1] H1 R)
    (q : ∀ D H' (acc : List V), Same H H' → H D = none → H' D = some (.lst acc) → Paired (fun (s : Sy) (v : V) => ∃ p, v = .ref p ∧ SqT K H' p (fv s)) l acc → Q (.ref D) H') :
    tLockE (tLc (iKeysA w td) (gName 3) tYes te [3]) [v0, v1, v2, o] H Q := by
  refine ⟨d, _, hd, trivial, fun od => ?_⟩
  refine htd od _ ⟨d, od, _, rfl, upd_same, fun D nD => ?_⟩
  have nDd : D ≠ d := by
    rintro rfl
    rw [upd_same] at nD
    cases nD
  have nDH : H D = none := by
    rw [upd_ne nDd] at nD
    exact nD
  have len : (entS l).length = l.length := by simp [entS]
  have s0 : Same (upd H d (.frz od (DkO w d (entS l)))) (upd (upd H d (.frz od (DkO w d (entS l)))) D (.lst [])) := same_upd nD
  refine lc_it (walk_keysA (w := w) (d := d) (o := od) (es := entS l)) (fun i H' => Same (upd H d (.frz od (DkO w d (entS l)))) H' ∧ ∃ acc, H' D = some (.lst acc) ∧ Paired (fun (s : Sy) (v : V) => ∃ p, v = .ref p ∧ SqT K H' p (fv s)) (l.take i) acc)
    ⟨s0, [], upd_same, .nil⟩ (fun i H' _ ⟨s, _⟩ => s _ _ upd_same) ?_ ?_
  · rintro i x H1 H2 hi ⟨s1, acc, hacc, pr⟩ ⟨rfl, e, he, rfl⟩
    rw [len] at hi
    obtain ⟨s, hs, rfl⟩ : ∃ s, l[i]? = some s ∧ (kOf s.2, s.1, V.bl true) = e := by
      unfold entS at he
      rw [List.getElem?_map] at he
      exact Option.map_eq_some_iff.mp he
    refine ⟨rfl, ?_⟩
    show te [v0, v1, v2, some s.1] H2 _
    refine hte s _ _ fun p np => ?_
    have npD : D ≠ p := ne_of_none hacc np
    have al : acc.length = (l.take i).length := (Paired.length pr).symm
    refine ⟨acc, by rw [upd_ne npD]; exact hacc, ?_, ?_, _, upd_same, ?_⟩
    · rw [al, List.length_take, sizeLine_eq]
      omega
    · intro b ob eb
      have n1 : b ≠ D := ne_of_none eb nD
      rw [upd_ne n1, upd_ne (ne_of_none (s1 _ _ eb) np)]
      exact s1 _ _ eb
    · have tu1 : Tups H2 (upd H2 p (.tup (fv s))) := Tups.new np
      have tu2 : Tups (upd H2 p (.tup (fv s))) (upd (upd H2 p (.tup (fv s))) D (.lst (acc ++ [.ref p]))) := Tups.upd (lst_ntup (by rw [upd_ne npD]; exact hacc))
      have tu := Tups.trans tu1 tu2
      rw [List.take_add_one, hs]
      refine paired_app (Paired.mono (fun a b ⟨c, h1, h2⟩ => ⟨c, h1, SqT.tups tu h2⟩) pr) (.cons ⟨p, rfl, SqT.tups tu2 (SqT.of upd_same)⟩ .nil)
  · rintro H' ⟨s1, acc, hacc, pr⟩
    have lock := s1 _ _ (upd_same (H := H) (a := d))
    refine ⟨lock, ?_⟩
    have tu : Tups H' (upd H' d (DkO w d (entS l))) := Tups.upd fun xs h => by
      rcases h with h | ⟨u, h⟩ <;> rw [lock] at h <;> cases h
    refine q D _ acc (fun b ob eb => ?_) nDH (by rw [upd_ne nDd]; exact hacc) ?_
    · by_cases e : b = d
      · subst e
        rw [hd] at eb
        cases eb
        exact upd_same
      · rw [upd_ne e]
        exact s1 _ _ (by rw [upd_ne e]; exact eb)
    · rw [len, List.take_length] at pr
      exact Paired.mono (fun a b ⟨c, h1, h2⟩ => ⟨c, h1, SqT.tups tu h2⟩) pr
section
variable {P : Program} {w : World} {K : PySem.W.Frag} {mg : Str → Option PySem.Value} {base : Heap} {f C aD : Addr} {fd : FuncData} {H0 H : Hp} {R : RA} {m : Mac} {t : St}
theorem pot_few {m : Mac} {t : St} {n : Nat} (h : pot m t ≤ n) : t.todo.length ≤ n := by
  unfold pot at h
  omega
def spAddL (K : PySem.W.Frag) (w : World) (C : Addr) : Sp := fun vs H Q _ => ∃ H0 R m t s, vs = [.ref R.a, (s : Sy).1] ∧ R.C = C ∧ RS K w H0 R m t H ∧ pot m t ≤ 5000 ∧ SyOk K H s ∧ s.2 ∈ m.ld ∧ ∀ t' H', RS K w H0 R m t' H' → pot m t' ≤ pot m t → (∀ b, (t.ss b) = t'.ss b) → t'.ls ≠ [] → t.Le t' → t'.inL s.2 → (∀ pd, Cl m t pd → Cl m t' pd) → Q .non H'
abbrev nAL : List Str := ["self", "letter", "direction", "state"]
theorem scAL : FnScope nAL ["self", "letter"] (defScope (cReach 1)) := ⟨rfl, rfl, rfl, by decide +kernel, rfl, by decide +kernel, by decide +kernel⟩
theorem ok_addL (F : FnM K "_add_letter" "Reach._add_letter" (cReach 1) f fd) (RF : ReF K C) (gD : mg "DIRECTIONS" = some (.ref aD)) (hD : ∀ H, SqT K H aD [.str "l", .str "r"]) : FnOk P w K mg base CX0 1 f fd ["self", "letter"] (spAddL K w C) := by
  refine F.ok scAL (fun vs H Q E h => by obtain ⟨H0, R, m, t, s, rfl, _⟩ := h; rfl) (fun cdv A outer s0 H vs Q E hr h => ?_)
  obtain ⟨H0, R, m, t, s, rfl, rfl, r, few0, hs, ms, q⟩ := h
  have few := pot_few few0
  have nd := scAL.nd
  have hu := hr.units
  suffices z : ∃ t, PSs (cxOf CX0 P w K mg base nAL "Reach._add_letter" (defScope (cReach 1)) f cdv A outer s0 H E).nox (defBody (cReach 1)) t ∧ t { nx := fun _ H' => Q .non H', rt := Q } (start nAL [.ref R.a, s.1]) H by
    obtain ⟨t, h1, h2⟩ := z
    exact ⟨t, h1.nox, h2⟩
  refine ⟨_, pss_cons (ps_if (pt_cmpR (op_inA hu) (pv 1) (pe_fld (pv 0) rfl) (by rfl)) (pss_one (ps_retN)) pss_nil)
   (pss_cons (ps_asg pe_bl (pg_sub (pe_fld (pv 0) rfl) (pv 1) (set_dictA hu)))
   (pss_one (ps_for PassesOwn.never rfl (pi_tup (pe_glob (by rfl) gD (v := .ref aD) rfl)) (pg_name (i := 2) nd rfl (.inr rfl))
    (pss_one (ps_expr (pe_bm PySem.F.plainAttrs_list PySem.F.slot_list_extend PySem.F.type_list_extend mt_extend (pe_fld (pv 0) rfl) (pa_cons (pe_lock (pe_lc (own := [("state", 3)]) (g := gName 3) (tt := tYes) (te := tTup (tCons (tVar 2) (tCons (tVar 3) (tCons (tVar 1) tNil)))) (by rfl) nd
      (pi_keysA (pe_ix (ix_dictA hu) (pe_fld (pv 0) rfl) (pv 2) (fun _ _ => rfl))) (blkOk_by (own := [("state", 3)]) (N := nAL) (sc := defScope (cReach 1)) (by decide +kernel)) (fun _ _ _ _ _ => pg_name (i := 3) nd rfl (Or.inl rfl)) (fun _ _ _ _ _ => pts_nil)
      (fun _ _ _ _ _ => pe_tup (pa_cons (pv 2) (pa_cons (pv 3) (pa_cons (pv 1) pa_nil)))))) pa_nil))))))), ?_⟩
  refine ⟨_, rfl, _, rfl, R.a, R.C, R.dx, _, .ref R.dl, rfl, r.ins, RF.cl, RF.le, rfl, R.dl, _, kOf s.2, rfl, r.dla, hs.nk, hs.deep, _, rfl, ?_⟩
  cases new : atK (entS t.ls) (kOf s.2) with
  | some z =>
    exact iteT (q t H r (Nat.le_refl _) (fun _ => rfl) (by intro z0; rw [z0] at new; cases new) St.Le.rfl' (inL_at (fun x hx => (r.lsO x hx).1) hs new) fun _ c => c)
  | none =>
    refine iteF ⟨_, rfl, R.a, R.C, R.dx, _, .ref R.dl, rfl, r.ins, RF.cl, RF.le, rfl, _, rfl, R.dl, _, kOf s.2, rfl, r.dl, r.dla, hs.nk, hs.deep, ?_, ?_⟩
    · have := r.lle
      have := r.mac.lf
      simp only [entS, List.length_map]
      rw [sizeLine_eq]
      omega
    have r1 := r.addL ⟨hs, ms⟩ new
    refine ⟨aD, rfl, ⟨_, hD _⟩, ?_⟩
    have lss : ∀ b, (t.ss b).length ≤ 80 := fun b => Nat.le_trans (r.sle b) (r.mac.sf b)
    refine for_it (walk_tup (K := K) (a := aD) (xs := [.str "l", .str "r"])) (fun j σ H' => (∃ o, σ = [some (.ref R.a), some s.1, o, none]) ∧ ∃ td, td.length ≤ t.todo.length + 80 * j ∧ RS K w H0 R m { t with todo := td, ls := t.ls ++ [s] } H' ∧ (∀ e ∈ t.todo, e ∈ td) ∧ ∀ b, (if b then 1 else 0) < j → ∀ z ∈ t.ss b, ∃ v, (v, b, z, some s) ∈ td) ?_ ?_ ?_ ?_
    · exact ⟨⟨none, rfl⟩, t.todo, Nat.le_refl _, r1, (fun _ h => h), fun _ h => absurd h (Nat.not_lt_zero _)⟩
    · rintro j σ H' hj _
      exact hD _
    · rintro j y σ H5 H4 hj ⟨⟨o, rfl⟩, td, ltd, r4, keepT, newT⟩ ⟨rfl, hx⟩
      have hj : j < 2 := hj
      obtain ⟨b, rfl, bj⟩ : ∃ b, y = .str (wayS b) ∧ j = if b then 1 else 0 := by
        match j, hj with
        | 0, _ => exact ⟨false, (Option.some.inj hx).symm, rfl⟩
        | 1, _ => exact ⟨true, (Option.some.inj hx).symm, rfl⟩
      have lb := lss b
      refine ⟨_, rfl, R.a, R.C, R.dx, _, .ref R.td, rfl, r4.ins, RF.cl, RF.td, rfl, .inl ⟨rfl, _, SqL.of r4.td⟩, ?_⟩
      refine lc_tups (K := K) (l := t.ss b) (fv := fun z => tdV b z (some s)) (r4.db b) (by omega) (fun od R' q' => ?_) (fun z H6 R' q' => ?_) fun D H6 acc s6 nD hD6 pr => ?_
      · have nS : R.dS ≠ R.db b := ((RA.nes r.nd).2.2.2.1 b).2.2.1
        have na : R.a ≠ R.db b := ne_of r4.ins (r4.db b) fun z => nomatch z
        refine ⟨_, rfl, R.a, R.C, R.dx, _, .ref R.dS, rfl, (by rw [upd_ne na]; exact r4.ins), RF.cl, RF.ss, rfl, _, rfl, R.dS, _, .text (wayS b), _, rfl, ?_, nk_text, (Nat.zero_le _), entB_at b, q'⟩
        exact ⟨.inl (by rw [upd_ne nS]; exact r4.dS), fun x hx => ⟨(r4.dSa.nk x hx).1.tups (Tups.upd (dk_ntup (r4.db b))), (r4.dSa.nk x hx).2⟩, r4.dSa.nd⟩
      · exact ⟨_, rfl, _, rfl, _, rfl, (by show 3 ≤ sizeLine; rw [sizeLine_eq]; decide), q'⟩
      · have r6 := r4.same s6
        obtain ⟨news, e1, e2, e3, e4⟩ := news_of (m := m) (g := fun z => (b, z, some s)) pr fun z hz => ⟨r6.ssO b z hz, fun x hx => by
          cases hx
          exact r6.lsO s (List.mem_append_right _ (List.mem_singleton.mpr rfl))⟩
        refine ⟨R.td, D, _, acc, rfl, rfl, r6.td, hD6, ?_, ?_⟩
        · rw [← e1, List.length_map, List.length_map, sizeLine_eq, e2]
          show td.length + (t.ss b).length ≤ _
          omega
        · refine ⟨⟨_, rfl⟩, td ++ news, ?_, ?_⟩
          · rw [List.length_append, e2]
            omega
          · have r7 := r6.setTd (l := td ++ news) fun e he => (List.mem_append.mp he).imp id (e3 e)
            rw [List.map_append, e1] at r7
            refine ⟨r7, fun e he => List.mem_append_left _ (keepT e he), fun c hc z hz => ?_⟩
            by_cases e : c = b
            · subst e
              obtain ⟨y, hy⟩ := e4 z hz
              exact ⟨y, List.mem_append_right _ hy⟩
            · obtain ⟨y, hy⟩ := newT c (by cases b <;> cases c <;> simp_all) z hz
              exact ⟨y, List.mem_append_left _ hy⟩
    · rintro σ H' ⟨⟨o, rfl⟩, td, ltd, r4, keepT, newT⟩
      have le : t.Le ⟨td, t.ls ++ [s], t.ss⟩ := ⟨fun d h => by show d ∈ (t.ls ++ [s]).map (·.2); rw [List.map_append]; exact List.mem_append_left _ h, fun _ _ h => h⟩
      refine q _ H' r4 ?_ (fun _ => rfl) (by simp) le (List.mem_map.mpr ⟨s, List.mem_append_right _ (List.mem_singleton.mpr rfl), rfl⟩) fun pd c => c.more le keepT (fun b z hz => .inl hz) fun b z hz l hl => ?_
      rotate_left
      · rcases List.mem_append.mp hl with hl | hl
        · exact .inl ⟨hz, hl⟩
        · obtain rfl := List.mem_singleton.mp hl
          exact .inr (newT b (by show (if b then 1 else 0) < 2; cases b <;> decide) z hz)
      have h1 := r4.lle
      have h2 : td.length ≤ t.todo.length + 80 * 2 := ltd
      simp only [List.length_append, List.length_singleton] at h1
      simp only [pot, List.length_append, List.length_singleton]
      omega
theorem RS.ssp (r : RS K w H0 R m t H) (b : Bool) : (t.ss b).length ≤ 80 := Nat.le_trans (r.sle b) (r.mac.sf b)
def spAddS (K : PySem.W.Frag) (w : World) (C : Addr) : Sp := fun vs H Q _ => ∃ H0 R m t b s, vs = [.ref R.a, .str (wayS b), (s : Sy).1] ∧ R.C = C ∧ RS K w H0 R m t H ∧ pot m t ≤ 5000 ∧ SyOk K H s ∧ s.2 ∈ m.sd b ∧ ∀ t' H', RS K w H0 R m t' H' → pot m t' ≤ pot m t → t'.ls = t.ls → t.Le t' → t'.inS b s.2 → (∀ pd, Cl m t pd → Cl m t' pd) → Q .non H'
abbrev nAS : List Str := ["self", "direction", "state", "letter"]
theorem scAS : FnScope nAS ["self", "direction", "state"] (defScope (cReach 2)) := ⟨rfl, rfl, rfl, by decide +kernel, rfl, by decide +kernel, by decide +kernel⟩
theorem ok_addS (F : FnM K "_add_state" "Reach._add_state" (cReach 2) f fd) (RF : ReF K C) : FnOk P w K mg base CX0 1 f fd ["self", "direction", "state"] (spAddS K w C) := by
  refine F.ok scAS (fun vs H Q E h => by obtain ⟨H0, R, m, t, b, s, rfl, _⟩ := h; rfl) (fun cdv A outer s0 H vs Q E hr h => ?_)
  obtain ⟨H0, R, m, t, b, s, rfl, rfl, r, few0, hs, ms, q⟩ := h
  have few := pot_few few0
  have nd := scAS.nd
  have hu := hr.units
  suffices z : ∃ t, PSs (cxOf CX0 P w K mg base nAS "Reach._add_state" (defScope (cReach 2)) f cdv A outer s0 H E).nox (defBody (cReach 2)) t ∧ t { nx := fun _ H' => Q .non H', rt := Q } (start nAS [.ref R.a, .str (wayS b), s.1]) H by
    obtain ⟨t, h1, h2⟩ := z
    exact ⟨t, h1.nox, h2⟩
  refine ⟨_, pss_cons (ps_if (pt_cmpR (op_inA hu) (pv 2) (pe_ix (ix_dictA hu) (pe_fld (pv 0) rfl) (pv 1) (fun _ _ => rfl)) (by rfl)) (pss_one ps_retN) pss_nil)
    (pss_cons (ps_asg pe_bl (pg_sub (pe_ix (ix_dictA hu) (pe_fld (pv 0) rfl) (pv 1) (fun _ _ => rfl)) (pv 2) (set_dictA hu)))
    (pss_cons (ps_expr (pe_bm PySem.F.plainAttrs_list PySem.F.slot_list_append PySem.F.type_list_append mt_append (pe_fld (pv 0) rfl) (pa_cons (pe_tup (pa_cons (pv 1) (pa_cons (pv 2) pa_nil))) pa_nil)))
    (pss_one (ps_expr (pe_bm PySem.F.plainAttrs_list PySem.F.slot_list_extend PySem.F.type_list_extend mt_extend (pe_fld (pv 0) rfl) (pa_cons (pe_lock (pe_lc (own := [("letter", 3)]) (g := gName 3) (tt := tYes) (te := tTup (tCons (tVar 1) (tCons (tVar 2) (tCons (tVar 3) tNil)))) (by rfl) nd
      (pi_keysA (pe_fld (pv 0) rfl)) (blkOk_by (own := [("letter", 3)]) (N := nAS) (sc := defScope (cReach 2)) (by decide +kernel)) (fun _ _ _ _ _ => pg_name (i := 3) nd rfl (Or.inl rfl)) (fun _ _ _ _ _ => pts_nil)
      (fun _ _ _ _ _ => pe_tup (pa_cons (pv 1) (pa_cons (pv 2) (pa_cons (pv 3) pa_nil)))))) pa_nil)))))), ?_⟩
  have dep : (NestedKey.text (wayS b)).depth ≤ 8 := Nat.zero_le _
  refine ⟨_, rfl, _, rfl, R.a, R.C, R.dx, _, .ref R.dS, rfl, r.ins, RF.cl, RF.ss, rfl, _, rfl, R.dS, _, .text (wayS b), _, rfl, r.dSa, nk_text, dep, entB_at b, R.db b, _, kOf s.2, rfl, r.dba b, hs.nk, hs.deep, _, rfl, ?_⟩
  cases new : atK (entS (t.ss b)) (kOf s.2) with
  | some z =>
    exact iteT (q t H r (Nat.le_refl _) rfl St.Le.rfl' (inL_at (fun x hx => (r.ssO b x hx).1) hs new) fun _ c => c)
  | none =>
    refine iteF ⟨_, rfl, R.a, R.C, R.dx, _, .ref R.dS, rfl, r.ins, RF.cl, RF.ss, rfl, _, rfl, R.dS, _, .text (wayS b), _, rfl, r.dSa, nk_text, dep, entB_at b, _, rfl, R.db b, _, kOf s.2, rfl, r.db b, r.dba b, hs.nk, hs.deep, ?_, ?_⟩
    · have := r.ssp b
      simp only [entS, List.length_map]
      rw [sizeLine_eq]
      omega
    have hs1 := hs
    have r1 := r.addS ⟨hs, ms⟩ new
    refine ⟨_, rfl, R.a, R.C, R.dx, _, .ref R.td, rfl, r1.ins, RF.cl, RF.td, rfl, .inl ⟨rfl, _, SqL.of r1.td⟩, ?_⟩
    refine ⟨_, rfl, _, rfl, (by show 2 ≤ sizeLine; rw [sizeLine_eq]; decide), fun p np => ?_⟩
    have r2 := r1.same (same_upd (o := .tup [.str (wayS b), s.1]) np)
    have in2 : ∀ H', RS K w H0 R m { t with ss := setB t.ss b (t.ss b ++ [s]) } H' → SyOk K H' s ∧ s.2 ∈ m.sd b := fun H' rr => rr.ssO b s (by
      show s ∈ setB t.ss b (t.ss b ++ [s]) b
      rw [show setB t.ss b (t.ss b ++ [s]) b = t.ss b ++ [s] from if_pos rfl]
      exact List.mem_append_right _ (List.mem_singleton.mpr rfl))
    have r3 := r2.setTd (l := t.todo ++ [(.ref p, b, s, none)]) fun e he => (List.mem_append.mp he).imp id fun he => by
      obtain rfl := List.mem_singleton.mp he
      exact ⟨⟨p, rfl, SqT.of upd_same⟩, in2 _ r2, fun l hl => nomatch hl⟩
    rw [List.map_append] at r3
    refine ⟨R.td, _, .ref p, rfl, rfl, r2.td, ?_, ?_⟩
    · rw [List.length_map, sizeLine_eq]
      show t.todo.length < _
      omega
    refine ⟨_, rfl, R.a, R.C, R.dx, _, .ref R.td, rfl, r3.ins, RF.cl, RF.td, rfl, .inl ⟨rfl, _, SqL.of r3.td⟩, ?_⟩
    have few1 : t.ls.length ≤ 3 := Nat.le_trans r.lle r.mac.lf
    refine lc_tups (K := K) (l := t.ls) (fv := fun z => tdV b s (some z)) r3.dl (by omega) (fun od R' q' => ?_) (fun z H6 R' q' => ?_) fun D H6 acc s6 nD hD6 pr => ?_
    · have na : R.a ≠ R.dl := ne_of r3.ins r3.dl fun z => nomatch z
      exact ⟨_, rfl, R.a, R.C, R.dx, _, .ref R.dl, rfl, (by rw [upd_ne na]; exact r3.ins), RF.cl, RF.le, rfl, q'⟩
    · exact ⟨_, rfl, _, rfl, _, rfl, (by show 3 ≤ sizeLine; rw [sizeLine_eq]; decide), q'⟩
    · have r6 := r3.same s6
      have in6 : SyOk K H6 s ∧ s.2 ∈ m.sd b := r6.ssO b s (by
        show s ∈ setB t.ss b (t.ss b ++ [s]) b
        rw [show setB t.ss b (t.ss b ++ [s]) b = t.ss b ++ [s] from if_pos rfl]
        exact List.mem_append_right _ (List.mem_singleton.mpr rfl))
      obtain ⟨news, e1, e2, e3, e4⟩ := news_of (m := m) (g := fun z => (b, s, some z)) pr fun z hz => ⟨in6, fun x hx => by
        cases hx
        exact r6.lsO z hz⟩
      have len6 : (t.todo ++ [(V.ref p, b, s, (none : Option Sy))]).length = t.todo.length + 1 := by simp
      refine ⟨R.td, D, _, acc, rfl, rfl, r6.td, hD6, ?_, ?_⟩
      · rw [← e1, List.length_map, List.length_map, e2, sizeLine_eq]
        show (t.todo ++ [(V.ref p, b, s, none)]).length + t.ls.length ≤ _
        rw [len6]
        omega
      · have r7 := r6.setTd (l := (t.todo ++ [(V.ref p, b, s, none)]) ++ news) fun e he => (List.mem_append.mp he).imp id (e3 e)
        rw [List.map_append, e1] at r7
        have sb1 : setB t.ss b (t.ss b ++ [s]) b = t.ss b ++ [s] := if_pos rfl
        have sn1 : ∀ c, c ≠ b → setB t.ss b (t.ss b ++ [s]) c = t.ss c := fun c n => if_neg n
        have le : t.Le ⟨(t.todo ++ [(V.ref p, b, s, (none : Option Sy))]) ++ news, t.ls, setB t.ss b (t.ss b ++ [s])⟩ := ⟨fun _ h => h, fun c d h => by
          show d ∈ (setB t.ss b (t.ss b ++ [s]) c).map (·.2)
          by_cases e : c = b
          · subst e
            rw [sb1, List.map_append]
            exact List.mem_append_left _ h
          · rw [sn1 c e]
            exact h⟩
        refine q _ _ r7 ?_ rfl le (by
          show s.2 ∈ (setB t.ss b (t.ss b ++ [s]) b).map (·.2)
          rw [sb1]
          exact List.mem_map.mpr ⟨s, List.mem_append_right _ (List.mem_singleton.mpr rfl), rfl⟩) fun pd cc => cc.more le (fun e he => List.mem_append_left _ (List.mem_append_left _ he)) (fun c z hz => ?_) fun c z hz l hl => ?_
        rotate_left
        · have hz : z ∈ setB t.ss b (t.ss b ++ [s]) c := hz
          by_cases e : c = b
          · subst e
            rw [sb1] at hz
            rcases List.mem_append.mp hz with hz | hz
            · exact .inl hz
            · obtain rfl := List.mem_singleton.mp hz
              exact .inr ⟨_, List.mem_append_left _ (List.mem_append_right _ (List.mem_singleton.mpr rfl))⟩
          · rw [sn1 c e] at hz
            exact .inl hz
        · have hz : z ∈ setB t.ss b (t.ss b ++ [s]) c := hz
          by_cases e : c = b
          · subst e
            rw [sb1] at hz
            rcases List.mem_append.mp hz with hz | hz
            · exact .inl ⟨hz, hl⟩
            · obtain rfl := List.mem_singleton.mp hz
              obtain ⟨y, hy⟩ := e4 l hl
              exact .inr ⟨y, List.mem_append_right _ hy⟩
          · rw [sn1 c e] at hz
            exact .inl ⟨hz, hl⟩
        have h1 := r7.sle b
        simp only [pot, List.length_append, List.length_singleton, e2]
        have sb : setB t.ss b (t.ss b ++ [s]) b = t.ss b ++ [s] := if_pos rfl
        have sn : setB t.ss b (t.ss b ++ [s]) (!b) = t.ss (!b) := if_neg (by cases b <;> decide)
        have h1 : (setB t.ss b (t.ss b ++ [s]) b).length ≤ (m.sd b).length := h1
        cases b with
        | false =>
          rw [sb] at h1 ⊢
          rw [show setB t.ss false (t.ss false ++ [s]) true = t.ss true from sn]
          simp only [List.length_append, List.length_singleton] at h1 ⊢
          omega
        | true =>
          rw [sb] at h1 ⊢
          rw [show setB t.ss true (t.ss true ++ [s]) false = t.ss false from sn]
          simp only [List.length_append, List.length_singleton] at h1 ⊢
          omega
end
end K15

set_option Elab.async false
set_option linter.all false
set_option maxRecDepth 100000
set_option maxHeartbeats 4000000
namespace K15
open PySem PySem.Spec PyProof.Rows L2 Pen Tr AK LamX
section
variable {P : Program} {w : World} {K : PySem.W.Frag} {mg : Str → Option PySem.Value} {base : Heap} {f C aD aO fS fL fK fT : Addr} {fd fdS fdL fdK fdT : FuncData} {H0 H : Hp} {R : RA} {m : Mac} {t : St}
/-- the key of an entry -/
def tdK (e : Td) : NestedKey := match e.2.2.2 with
  | none => kT e.2.1 e.2.2.1.2
  | some l => kS e.2.1 e.2.2.1.2 l.2
theorem dep3 {a b c : NestedKey} (h1 : a.depth ≤ 1) (h2 : b.depth ≤ 1) (h3 : c.depth ≤ 1) : (NestedKey.tup [a, b, c]).depth ≤ 8 := by
  simp [NestedKey.depth, NestedKey.depthAll]
  omega
theorem TdOk.nk {e : Td} (o : TdOk K H m e) : NK K H (tdK e) e.1 := by
  obtain ⟨q, h1, h2⟩ := o.at_
  obtain ⟨v, b, s, x⟩ := e
  have h1 : v = .ref q := h1
  subst h1
  have ks := menu_key _ o.st.1.mem
  cases x with
  | none =>
    refine ⟨.tuple [.str (wayS b), s.2], .tup h2 (.cons (.str _) (.cons o.st.1.dp .nil)), ?_⟩
    show keyD _ = some (kT b s.2)
    simp [keyD, keyDs, ks, kT]
  | some l =>
    have kl := menu_key _ (o.le l rfl).1.mem
    refine ⟨.tuple [.str (wayS b), s.2, l.2], .tup h2 (.cons (.str _) (.cons o.st.1.dp (.cons (o.le l rfl).1.dp .nil))), ?_⟩
    show keyD _ = some (kS b s.2 l.2)
    simp [keyD, keyDs, ks, kl, kS]
theorem TdOk.deep {e : Td} (o : TdOk K H m e) : (tdK e).depth ≤ 8 := by
  obtain ⟨v, b, s, x⟩ := e
  have ks : (kOf s.2).depth ≤ 1 := menu_deep _ o.st.1.mem
  cases x with
  | none =>
    show (kT b s.2).depth ≤ 8
    simp only [kT, NestedKey.depth, NestedKey.depthAll]
    omega
  | some l =>
    have kl : (kOf l.2).depth ≤ 1 := menu_deep _ (o.le l rfl).1.mem
    show (kS b s.2 l.2).depth ≤ 8
    simp only [kS, NestedKey.depth, NestedKey.depthAll]
    omega
def spLookS (K : PySem.W.Frag) (w : World) (C : Addr) : Sp := fun vs H Q _ => ∃ H0 R m t e, vs = [.ref R.a, (e : Td).1] ∧ R.C = C ∧ RS K w H0 R m t H ∧ pot m t ≤ 5000 ∧ TdOk K H m e ∧ e.2.2.2.isSome = true ∧ ∀ t' H', RS K w H0 R m t' H' → pot m t' ≤ pot m t → (t.ls ≠ [] → t'.ls ≠ []) → t.Le t' → (Cl m t (some e.2) → Cl m t' none) → Q .non H'
abbrev nLS : List Str := ["self", "key", "state", "written"]
theorem scLS : FnScope nLS ["self", "key"] (defScope (cReach 4)) := ⟨rfl, rfl, rfl, by decide +kernel, rfl, by decide +kernel, by decide +kernel⟩
theorem ok_lookS (F : FnM K "_look_at_step" "Reach._look_at_step" (cReach 4) f fd) (RF : ReF K C) (MS : Meth K C "_add_state" fS) (FS : FnM K "_add_state" "Reach._add_state" (cReach 2) fS fdS) (ML : Meth K C "_add_letter" fL) (FL : FnM K "_add_letter" "Reach._add_letter" (cReach 1) fL fdL)
    (gD : mg "DIRECTIONS" = some (.ref aD)) (hD : ∀ H, SqT K H aD [.str "l", .str "r"]) : FnOk P w K mg base CX0 2 f fd ["self", "key"] (spLookS K w C) := by
  refine F.ok scLS (fun vs H Q E h => by obtain ⟨H0, R, m, t, s, rfl, _⟩ := h; rfl) (fun cdv A outer s0 H vs Q E hr h => ?_)
  obtain ⟨H0, R, m, t, e, rfl, rfl, r, few, he, es, q⟩ := h
  have nd := scLS.nd
  have hu := hr.units
  suffices z : ∃ t, PSs (cxOf CX0 P w K mg base nLS "Reach._look_at_step" (defScope (cReach 4)) f cdv A outer s0 H E).nox (defBody (cReach 4)) t ∧ t { nx := fun _ H' => Q .non H', rt := Q } (start nLS [.ref R.a, e.1]) H by
    obtain ⟨t, h1, h2⟩ := z
    exact ⟨t, h1.nox, h2⟩
  have GS := ok_addS (P := P) (w := w) (mg := mg) (base := base) FS RF
  have GL := ok_addL (P := P) (w := w) (mg := mg) (base := base) FL RF gD hD
  have bS : L2.Binds K fdS ["self", "direction", "state"] [] := FunD.bindsN FS fun _ _ _ _ _ _ us hl => match us, hl with | [_, _, _], _ => rfl
  have bL : L2.Binds K fdL ["self", "letter"] [] := FunD.bindsN FL fun _ _ _ _ _ _ us hl => match us, hl with | [_, _], _ => rfl
  refine ⟨_, pss_cons (ps_if (pt_cmpR (op_notInA hu) (pv 1) (pe_fld (pv 0) rfl) (by rfl)) Tr.pss_never pss_nil)
    (pss_cons (ps_asg (pe_ix (ix_dictA hu) (pe_fld (pv 0) rfl) (pv 1) (fun _ _ => rfl)) (pg_tup (by rfl) (pgs_cons (pg_name (i := 2) nd rfl (.inl rfl)) (pgs_cons (pg_name (i := 3) nd rfl (.inl rfl)) pgs_nil))))
    (pss_cons (ps_expr (pe_meth (pv 0) RF.cl MS GS hr bS .nil pass0 (pa_cons (pe_ix ix_tup (pv 1) pe_int (fun _ _ => rfl)) (pa_cons (pv 2) pa_nil))))
    (pss_one (ps_expr (pe_meth (pv 0) RF.cl ML GL hr bL .nil pass0 (pa_cons (pv 3) pa_nil)))))), ?_⟩
  obtain ⟨v, b, s, x⟩ := e
  cases x with
  | none => cases es
  | some l =>
    obtain ⟨es1, et1, D1, D2, T1, T2⟩ := r.tab.ex
    obtain ⟨hl, ml⟩ := he.le l rfl
    obtain ⟨p, at1, hp⟩ := T1 b s.2 l.2 he.st.2 ml
    obtain ⟨z1, z2, z3, z4⟩ := r.mac.st b s.2 l.2 he.st.2 ml
    obtain ⟨q1, e1, hq1⟩ := he.at_
    have e1 : v = .ref q1 := e1
    subst e1
    refine ⟨_, rfl, _, rfl, R.a, R.C, R.dx, _, .ref R.ds, rfl, r.ins, RF.cl, RF.st, rfl, R.ds, es1, kS b s.2 l.2, rfl, D1, he.nk, he.deep, _, rfl, ?_⟩
    rw [at1]
    refine iteF ⟨_, rfl, R.a, R.C, R.dx, _, .ref R.ds, rfl, r.ins, RF.cl, RF.st, rfl, _, rfl, R.ds, es1, kS b s.2 l.2, _, rfl, D1, he.nk, he.deep, at1, p, _, rfl, hp, rfl, _, _, rfl, _, _, rfl, rfl, ?_⟩
    refine ⟨_, rfl, R.a, R.dx, _, rfl, r.ins, rfl, _, rfl, q1, _, 0, .str (wayS b), rfl, rfl, hq1, rfl, _, rfl, ?_⟩
    refine ⟨H0, R, m, t, b, (m.step b s.2 l.2).1, rfl, rfl, r, few, z1, z2, fun t2 H2 r2 le2 ls2 L2 i2 c2 => ?_⟩
    have ul : ∀ H', RS K w H0 R m t2 H' → SyOk K H' (m.step b s.2 l.2).2 ∧ (m.step b s.2 l.2).2.2 ∈ m.ld := fun H' rr => by
      obtain ⟨y1, y2, y3, y4⟩ := rr.mac.st b s.2 l.2 he.st.2 ml
      exact ⟨y3, y4⟩
    obtain ⟨u1, u2⟩ := ul _ r2
    refine ⟨_, rfl, R.a, R.dx, _, rfl, r2.ins, rfl, _, rfl, ?_⟩
    refine ⟨H0, R, m, t2, (m.step b s.2 l.2).2, rfl, rfl, r2, Nat.le_trans le2 few, u1, u2, fun t3 H3 r3 le3 _ ne3 L3 i3 c3 => q t3 H3 r3 (Nat.le_trans le3 le2) (fun _ => ne3) (L2.trans L3) fun c => (c3 _ (c2 _ c)).done ⟨L3.s _ _ i2, i3⟩⟩
def spLookT (K : PySem.W.Frag) (w : World) (C : Addr) : Sp := fun vs H Q _ => ∃ H0 R m t e, vs = [.ref R.a, (e : Td).1] ∧ R.C = C ∧ RS K w H0 R m t H ∧ pot m t ≤ 5000 ∧ TdOk K H m e ∧ e.2.2.2 = none ∧ ∀ t' H', RS K w H0 R m t' H' → pot m t' ≤ pot m t → (t.ls ≠ [] → t'.ls ≠ []) → t.Le t' → (Cl m t (some e.2) → Cl m t' none) → Q .non H'
abbrev nLT : List Str := ["self", "key", "turn", "state", "extra"]
theorem scLT : FnScope nLT ["self", "key"] (defScope (cReach 5)) := ⟨rfl, rfl, rfl, by decide +kernel, rfl, by decide +kernel, by decide +kernel⟩
theorem ok_lookT (F : FnM K "_look_at_turn" "Reach._look_at_turn" (cReach 5) f fd) (RF : ReF K C) (MS : Meth K C "_add_state" fS) (FS : FnM K "_add_state" "Reach._add_state" (cReach 2) fS fdS) (ML : Meth K C "_add_letter" fL) (FL : FnM K "_add_letter" "Reach._add_letter" (cReach 1) fL fdL)
    (gD : mg "DIRECTIONS" = some (.ref aD)) (hD : ∀ H, SqT K H aD [.str "l", .str "r"]) (gO : mg "OTHER_DIRECTION" = some (.ref aO)) (hO : ∀ b, KDct K w aO (wayS b) (.str (wayS (!b)))) : FnOk P w K mg base CX0 2 f fd ["self", "key"] (spLookT K w C) := by
  refine F.ok scLT (fun vs H Q E h => by obtain ⟨H0, R, m, t, s, rfl, _⟩ := h; rfl) (fun cdv A outer s0 H vs Q E hr h => ?_)
  obtain ⟨H0, R, m, t, e, rfl, rfl, r, few, he, es, q⟩ := h
  have nd := scLT.nd
  have hu := hr.units
  suffices z : ∃ t, PSs (cxOf CX0 P w K mg base nLT "Reach._look_at_turn" (defScope (cReach 5)) f cdv A outer s0 H E).nox (defBody (cReach 5)) t ∧ t { nx := fun _ H' => Q .non H', rt := Q } (start nLT [.ref R.a, e.1]) H by
    obtain ⟨t, h1, h2⟩ := z
    exact ⟨t, h1.nox, h2⟩
  have GS := ok_addS (P := P) (w := w) (mg := mg) (base := base) FS RF
  have GL := ok_addL (P := P) (w := w) (mg := mg) (base := base) FL RF gD hD
  have bS : L2.Binds K fdS ["self", "direction", "state"] [] := FunD.bindsN FS fun _ _ _ _ _ _ us hl => match us, hl with | [_, _, _], _ => rfl
  have bL : L2.Binds K fdL ["self", "letter"] [] := FunD.bindsN FL fun _ _ _ _ _ _ us hl => match us, hl with | [_, _], _ => rfl
  refine ⟨_, pss_cons (ps_if (pt_cmpR (op_notInA hu) (pv 1) (pe_fld (pv 0) rfl) (by rfl)) Tr.pss_never pss_nil)
    (pss_cons (ps_asg (pe_ix (ix_dictA hu) (pe_fld (pv 0) rfl) (pv 1) (fun _ _ => rfl)) (pg_name (i := 2) nd rfl (.inl rfl)))
    (pss_cons (ps_if (pt_cmpR op_isN (pv 2) pe_non (nomark _)) (pss_one ps_retN) pss_nil)
    (pss_cons (ps_asg (pv 2) (pg_tup (by rfl) (pgs_cons (pg_name (i := 3) nd rfl (.inl rfl)) (pgs_cons (pg_name (i := 4) nd rfl (.inl rfl)) pgs_nil))))
    (pss_cons (ps_expr (pe_meth (pv 0) RF.cl MS GS hr bS .nil pass0 (pa_cons (pe_ix ix_kdict (pe_glob (by rfl) gO (v := .ref aO) rfl) (pe_ix ix_tup (pv 1) pe_int (fun _ _ => rfl)) (fun _ _ => rfl)) (pa_cons (pv 3) pa_nil))))
    (pss_one (ps_if (pt_cmpR op_notN (pv 4) pe_non (nomark _)) (pss_one (ps_expr (pe_meth (pv 0) RF.cl ML GL hr bL .nil pass0 (pa_cons (pv 4) pa_nil)))) pss_nil)))))), ?_⟩
  obtain ⟨v, b, s, x⟩ := e
  cases es
  obtain ⟨es1, et1, D1, D2, T1, T2⟩ := r.tab.ex
  obtain ⟨v2, at1, tv⟩ := T2 b s.2 he.st.2
  have z0 := fun s2 x2 => r.mac.tu b s.2 s2 x2 he.st.2
  obtain ⟨q1, e1, hq1⟩ := he.at_
  have e1 : v = .ref q1 := e1
  subst e1
  refine ⟨_, rfl, _, rfl, R.a, R.C, R.dx, _, .ref R.dt, rfl, r.ins, RF.cl, RF.tu, rfl, R.dt, et1, kT b s.2, rfl, D2, he.nk, he.deep, _, rfl, ?_⟩
  rw [at1]
  refine iteF ⟨_, rfl, R.a, R.C, R.dx, _, .ref R.dt, rfl, r.ins, RF.cl, RF.tu, rfl, _, rfl, R.dt, et1, kT b s.2, _, rfl, D2, he.nk, he.deep, at1, ?_⟩
  refine ⟨_, rfl, rfl, _, rfl, ?_⟩
  cases tn : m.turn b s.2 with
  | none =>
    rw [tn] at tv
    have tv : v2 = .non := tv
    subst tv
    exact iteT (q t H r (Nat.le_refl _) id St.Le.rfl' fun c => c.done fun s3 x3 e3 => by rw [tn] at e3; cases e3)
  | some y =>
    obtain ⟨s2, x2⟩ := y
    rw [tn] at tv
    obtain ⟨p, e2, hp⟩ := tv
    subst e2
    refine iteF ⟨_, rfl, p, _, rfl, hp, rfl, _, _, rfl, _, _, rfl, rfl, ?_⟩
    obtain ⟨z1, z2, z3⟩ := z0 s2 x2 tn
    refine ⟨_, rfl, R.a, R.dx, _, rfl, r.ins, rfl, _, rfl, q1, _, 0, .str (wayS b), rfl, rfl, hq1, rfl, aO, _, _, rfl, rfl, hO b, _, rfl, ?_⟩
    refine ⟨H0, R, m, t, !b, s2, rfl, rfl, r, few, z1, z2, fun t2 H2 r2 le2 ls2 L2 i2 c2 => ?_⟩
    refine ⟨_, rfl, rfl, _, rfl, ?_⟩
    cases x2 with
    | none => exact iteF (q t2 H2 r2 le2 (fun z => by rw [ls2]; exact z) L2 fun c => (c2 _ c).done fun s3 x3 e3 => by rw [tn] at e3; cases e3; exact ⟨i2, fun l z => nomatch z⟩)
    | some l =>
      obtain ⟨_, u1, u2⟩ := z3 l rfl
      obtain ⟨_, _, u3⟩ := r2.mac.tu b s.2 s2 (some l) he.st.2 tn
      obtain ⟨_, u4, u5⟩ := u3 l rfl
      have nn : (!decide (optV (some l) = V.non)) = true := by
        show (!decide (l.1 = V.non)) = true
        rw [decide_eq_false u4.nn]
        rfl
      rw [nn]
      refine iteT ⟨_, rfl, R.a, R.dx, _, rfl, r2.ins, rfl, _, rfl, ?_⟩
      exact ⟨H0, R, m, t2, l, rfl, rfl, r2, Nat.le_trans le2 few, u4, u5, fun t3 H3 r3 le3 _ ne3 L3 i3 c3 => q t3 H3 r3 (Nat.le_trans le3 le2) (fun _ => ne3) (L2.trans L3) fun c => (c3 _ (c2 _ c)).done fun s3 x3 e3 => by rw [tn] at e3; cases e3; exact ⟨L3.s _ _ i2, fun l z => by cases z; exact i3⟩⟩
/-- _look_at -/
def spLook (K : PySem.W.Frag) (w : World) (C : Addr) : Sp := fun vs H Q _ => ∃ H0 R m t e, vs = [.ref R.a, (e : Td).1] ∧ R.C = C ∧ RS K w H0 R m t H ∧ pot m t ≤ 5000 ∧ TdOk K H m e ∧ ∀ t' H', RS K w H0 R m t' H' → pot m t' ≤ pot m t → (t.ls ≠ [] → t'.ls ≠ []) → t.Le t' → (Cl m t (some e.2) → Cl m t' none) → Q .non H'
abbrev nLK : List Str := ["self", "key"]
theorem scLK : FnScope nLK ["self", "key"] (defScope (cReach 3)) := ⟨rfl, rfl, rfl, by decide +kernel, rfl, by decide +kernel, by decide +kernel⟩
theorem ok_look (F : FnM K "_look_at" "Reach._look_at" (cReach 3) f fd) (TX : Txt mg) (RF : ReF K C) (MK : Meth K C "_look_at_step" fK) (FK : FnM K "_look_at_step" "Reach._look_at_step" (cReach 4) fK fdK) (GK : FnOk P w K mg base CX0 2 fK fdK ["self", "key"] (spLookS K w C))
    (MT : Meth K C "_look_at_turn" fT) (FT : FnM K "_look_at_turn" "Reach._look_at_turn" (cReach 5) fT fdT) (GT : FnOk P w K mg base CX0 2 fT fdT ["self", "key"] (spLookT K w C)) : FnOk P w K mg base CX0 3 f fd ["self", "key"] (spLook K w C) := by
  refine F.ok scLK (fun vs H Q E h => by obtain ⟨H0, R, m, t, s, rfl, _⟩ := h; rfl) (fun cdv A outer s0 H vs Q E hr h => ?_)
  obtain ⟨H0, R, m, t, e, rfl, rfl, r, few, he, q⟩ := h
  have nd := scLK.nd
  have hu := hr.units
  suffices z : ∃ t, PSs (cxOf CX0 P w K mg base nLK "Reach._look_at" (defScope (cReach 3)) f cdv A outer s0 H E).nox (defBody (cReach 3)) t ∧ t { nx := fun _ H' => Q .non H', rt := Q } (start nLK [.ref R.a, e.1]) H by
    obtain ⟨t, h1, h2⟩ := z
    exact ⟨t, h1.nox, h2⟩
  have bK : L2.Binds K fdK ["self", "key"] [] := FunD.bindsN FK fun _ _ _ _ _ _ us hl => match us, hl with | [_, _], _ => rfl
  have bT : L2.Binds K fdT ["self", "key"] [] := FunD.bindsN FT fun _ _ _ _ _ _ us hl => match us, hl with | [_, _], _ => rfl
  refine ⟨_, pss_one (ps_if (pt_cmpR op_eq (pe_callB call_len_seq (by rfl) TX.len PySem.boot_len (pa_cons (pv 1) pa_nil)) pe_int (nomark _)) (pss_one (ps_expr (pe_meth (pv 0) RF.cl MK GK hr bK .nil pass0 (pa_cons (pv 1) pa_nil)))) (pss_one (ps_expr (pe_meth (pv 0) RF.cl MT GT hr bT .nil pass0 (pa_cons (pv 1) pa_nil))))), ?_⟩
  obtain ⟨v, b, s, x⟩ := e
  have he0 := he
  obtain ⟨q1, e1, hq1⟩ := he.at_
  have e1 : v = .ref q1 := e1
  subst e1
  cases x with
  | none =>
    refine ⟨_, rfl, q1, _, rfl, .inr hq1, rfl, false, (show V.bl (decide (V.int 2 = V.int 3)) = V.bl false by decide), iteF ?_⟩
    exact ⟨_, rfl, R.a, R.dx, _, rfl, r.ins, rfl, _, rfl, H0, R, m, t, _, rfl, rfl, r, few, he, rfl, q⟩
  | some l =>
    refine ⟨_, rfl, q1, _, rfl, .inr hq1, rfl, true, (show V.bl (decide (V.int 3 = V.int 3)) = V.bl true by decide), iteT ?_⟩
    exact ⟨_, rfl, R.a, R.dx, _, rfl, r.ins, rfl, _, rfl, H0, R, m, t, _, rfl, rfl, r, few, he, rfl, q⟩
end
end K15

set_option Elab.async false
set_option linter.all false
set_option maxRecDepth 100000
set_option maxHeartbeats 4000000
namespace K15
open PySem PySem.Spec PyProof.Rows L2 Pen Tr AK LamX
theorem But.none {a p : Addr} {H H' : Hp} {o : HO} (b : But a H H') (ha : H' a = some o) (n : H' p = none) : H p = none ∧ p ≠ a := by
  have ne : p ≠ a := Ne.symm (ne_of_none ha n)
  cases e : H p with
  | none => exact ⟨rfl, ne⟩
  | some u =>
    rw [b _ _ e ne] at n
    cases n
theorem But.tups {a C dx : Addr} {fs : List (Str × V)} {H H' : Hp} (x : But a H H') (ha : H a = some (.ins C dx fs)) : Tups H H' := fun c xs r => by
  have n : c ≠ a := by
    rintro rfl
    rcases r with r | ⟨u, r⟩ <;> rw [ha] at r <;> cases r
  rcases r with r | ⟨o, r⟩
  · exact .inl (x _ _ r n)
  · exact .inr ⟨o, x _ _ r n⟩
theorem But.rdk {a C dx : Addr} {fs : List (Str × V)} {w : World} {H H' : Hp} {b : Addr} {es : List Eh} (x : But a H H') (ha : H a = some (.ins C dx fs)) (h : Rd H b (DkO w b es)) : Rd H' b (DkO w b es) := by
  have n : b ≠ a := rd_ne h ha (fun _ _ z => nomatch z) (fun _ _ z => nomatch z)
  rcases h with h | ⟨o, h⟩
  · exact .inl (x _ _ h n)
  · exact .inr ⟨o, x _ _ h n⟩
def mkB : List Addr → List Eh
  | [] => []
  | [x] => [(.text "l", .str "l", .ref x)]
  | x :: y :: _ => [(.text "l", .str "l", .ref x), (.text "r", .str "r", .ref y)]
section
variable {P : Program} {w : World} {K : PySem.W.Frag} {mg : Str → Option PySem.Value} {base : Heap} {f C aD aO fS fL fK fT : Addr} {fd fdS fdL fdK fdT : FuncData} {H0 H : Hp} {R : RA} {m : Mac} {t : St}
theorem mkB_da {d : Addr} {ds : List Addr} (h : Rd H d (DkO w d (mkB ds))) : DA K w H d (mkB ds) := by
  refine ⟨h, fun x hx => ?_, ?_⟩
  · match ds, hx with
    | [_], hx =>
      obtain rfl := List.mem_singleton.mp hx
      exact ⟨nk_text, Nat.zero_le _⟩
    | _ :: _ :: _, hx =>
      simp only [mkB, List.mem_cons, List.not_mem_nil, or_false] at hx
      rcases hx with rfl | rfl <;> exact ⟨nk_text, Nat.zero_le _⟩
  · match ds with
    | [] => exact List.nodup_nil
    | [_] => exact List.nodup_cons.mpr ⟨List.not_mem_nil, List.nodup_nil⟩
    | _ :: _ :: _ => exact (show ([NestedKey.text "l", NestedKey.text "r"] : List NestedKey).Nodup by decide)
def spRe (K : PySem.W.Frag) (w : World) (C : Addr) : Sp := fun vs H Q _ => ∃ a dx fi ds dt m be, ∃ first : List Sy, vs = [.ref a, .ref fi, (be : Sy).1, .ref ds, .ref dt] ∧ H a = some (.ins C dx []) ∧ SqT K H fi (first.map (·.1)) ∧ (∀ s ∈ first, SyOk K H s ∧ s.2 ∈ (m : Mac).ld) ∧ first.length ≤ 80 ∧
  (SyOk K H be ∧ be.2 ∈ m.sd false) ∧ MacOk K H m ∧ TabM K w H ds dt m ∧ ds ≠ dt ∧ ∀ R t H', R.a = a → R.C = C → RS K w H R m t H' → (first ≠ [] → t.ls ≠ []) → Clo m first be (t.ls.map (·.2)) → Q .non H'
abbrev nRe : List Str := ["self", "first", "begin", "steps", "turns", "letter", "direction"]
theorem scRe : FnScope nRe ["self", "first", "begin", "steps", "turns"] (defScope (cReach 0)) := ⟨rfl, rfl, rfl, by decide +kernel, rfl, by decide +kernel, by decide +kernel⟩
theorem ok_reach (F : FnM K "__init__" "Reach.__init__" (cReach 0) f fd) (RF : ReF K C) (MS : Meth K C "_add_state" fS) (FS : FnM K "_add_state" "Reach._add_state" (cReach 2) fS fdS) (ML : Meth K C "_add_letter" fL) (FL : FnM K "_add_letter" "Reach._add_letter" (cReach 1) fL fdL)
    (gD : mg "DIRECTIONS" = some (.ref aD)) (hD : ∀ H, SqT K H aD [.str "l", .str "r"]) (MK : Meth K C "_look_at" fK) (FK : FnM K "_look_at" "Reach._look_at" (cReach 3) fK fdK) (GK : FnOk P w K mg base CX0 3 fK fdK ["self", "key"] (spLook K w C)) :
    FnOk P w K mg base CX0 4 f fd ["self", "first", "begin", "steps", "turns"] (spRe K w C) := by
  refine F.ok scRe (fun vs H Q E h => by obtain ⟨a, dx, fi, ds, dt, m, be, first, rfl, _⟩ := h; rfl) (fun cdv A outer s0 H vs Q E hr h => ?_)
  obtain ⟨a, dx, fi, ds, dt, m, be, first, rfl, ha, hfi, hfs, few, hbe, mac, tab, nst, q⟩ := h
  have nd := scRe.nd
  have hu := hr.units
  suffices z : ∃ t, PSs (cxOf CX0 P w K mg base nRe "Reach.__init__" (defScope (cReach 0)) f cdv A outer s0 H E).nox (defBody (cReach 0)) t ∧ t { nx := fun _ H' => Q .non H', rt := Q } (start nRe [.ref a, .ref fi, be.1, .ref ds, .ref dt]) H by
    obtain ⟨t, h1, h2⟩ := z
    exact ⟨t, h1.nox, h2⟩
  have GS := ok_addS (P := P) (w := w) (mg := mg) (base := base) FS RF
  have GL := ok_addL (P := P) (w := w) (mg := mg) (base := base) FL RF gD hD
  have bS : L2.Binds K fdS ["self", "direction", "state"] [] := FunD.bindsN FS fun _ _ _ _ _ _ us hl => match us, hl with | [_, _, _], _ => rfl
  have bL : L2.Binds K fdL ["self", "letter"] [] := FunD.bindsN FL fun _ _ _ _ _ _ us hl => match us, hl with | [_, _], _ => rfl
  have bK : L2.Binds K fdK ["self", "key"] [] := FunD.bindsN FK fun _ _ _ _ _ _ us hl => match us, hl with | [_, _], _ => rfl
  refine ⟨_, pss_cons (ps_fld (pv 0) (pv 3) rfl) (pss_cons (ps_fld (pv 0) (pv 4) rfl) (pss_cons (ps_fld (pv 0) (pe_lst pa_nil) rfl) (pss_cons (ps_fld (pv 0) pe_dnewA rfl)
    (pss_cons (ps_fld (pv 0) (pe_dcA (own := [("direction", 6)]) (g := gName 6) (tk := tVar 6) (tv := tDNewA w) hu (by rfl) nd (pi_tup (pe_glob (by rfl) gD (v := .ref aD) rfl)) (blkOk_by (own := [("direction", 6)]) (N := nRe) (sc := defScope (cReach 0)) (by decide +kernel)) (fun _ _ _ _ _ => pg_name (i := 6) nd rfl (.inl rfl)) (fun _ _ _ _ _ => pv 6) (fun _ _ _ _ _ => pe_dnewA)) rfl)
    (pss_cons (ps_fld (pv 0) (pe_lst pa_nil) rfl)
    (pss_cons (ps_for PassesOwn.never rfl (pi_tup (pv 1)) (pg_name (i := 5) nd rfl (.inl rfl)) (pss_one (ps_expr (pe_meth (pv 0) RF.cl ML GL (hr.mono (by decide)) bL .nil pass0 (pa_cons (pv 5) pa_nil)))))
    (pss_cons (ps_expr (pe_meth (pv 0) RF.cl MS GS (hr.mono (by decide)) bS .nil pass0 (pa_cons pe_str (pa_cons (pv 2) pa_nil))))
    (pss_one (ps_while PassesOwn.never (pt_truth (pe_fld (pv 0) rfl) (by intro _; rfl)) (pss_one (ps_expr (pe_meth (pv 0) RF.cl MK GK hr bK .nil pass0 (pa_cons (pe_bm0 PySem.F.plainAttrs_list PySem.F.slot_list_pop PySem.F.type_list_pop mt_pop (pe_fld (pv 0) rfl)) pa_nil))))))))))))), ?_⟩
  refine ⟨_, rfl, _, rfl, a, C, dx, [], rfl, ha, RF.cl, RF.st, (by show 0 < 1000; decide), ?_⟩
  refine at_new fun H1 e1 => ?_
  have a1 : H1 a = some (.ins C dx [("_steps", .ref ds)]) := by
    rw [e1]
    exact upd_same
  have b1 : But a H H1 := by
    rw [e1]
    exact But.upd But.refl
  clear e1
  refine ⟨_, rfl, _, rfl, a, C, dx, _, rfl, a1, RF.cl, RF.tu, (by show 1 < 1000; decide), ?_⟩
  refine at_new fun H2 e2 => ?_
  have a2 : H2 a = some (.ins C dx [("_steps", .ref ds), ("_turns", .ref dt)]) := by
    rw [e2]
    exact upd_same
  have b2 : But a H H2 := by
    rw [e2]
    exact But.upd b1
  clear e2
  -- the empty list of what is to be done
  refine ⟨by show 0 ≤ sizeLine; exact Nat.zero_le _, fun td ntd => ?_⟩
  obtain ⟨f1, g1⟩ := But.none b2 a2 ntd
  have s3 := same_upd (o := .lst []) ntd
  refine ⟨_, rfl, a, C, dx, _, rfl, s3 _ _ a2, RF.cl, RF.td, (by show 2 < 1000; decide), ?_⟩
  refine at_new fun H3 e3 => ?_
  have a3 : H3 a = some (.ins C dx [("_steps", .ref ds), ("_turns", .ref dt), ("_todo", .ref td)]) := by
    rw [e3]
    exact upd_same
  have b23 : But a (upd H2 td (.lst [])) H3 := by
    rw [e3]
    exact But.upd But.refl
  have b3 : But a H H3 := But.trans (But.trans b2 (But.same s3)) b23
  have td3 : H3 td = some (.lst []) := b23 _ _ upd_same g1
  clear e3 b23 s3
  -- the letters
  intro dl ndl
  obtain ⟨f2, g2⟩ := But.none b3 a3 ndl
  have s4 := same_upd (o := DkO w dl []) ndl
  refine ⟨_, rfl, a, C, dx, _, rfl, s4 _ _ a3, RF.cl, RF.le, (by show 3 < 1000; decide), ?_⟩
  refine at_new fun H4 e4 => ?_
  have a4 : H4 a = some (.ins C dx [("_steps", .ref ds), ("_turns", .ref dt), ("_todo", .ref td), ("letters", .ref dl)]) := by
    rw [e4]
    exact upd_same
  have b34 : But a (upd H3 dl (DkO w dl [])) H4 := by
    rw [e4]
    exact But.upd But.refl
  have b34' : But a H3 H4 := But.trans (But.same s4) b34
  have b4 : But a H H4 := But.trans b3 b34'
  have td4 : H4 td = some (.lst []) := b34' _ _ td3 g1
  have dl4 : H4 dl = some (DkO w dl []) := b34 _ _ upd_same g2
  clear e4 b34 s4
  -- the states
  refine ⟨aD, rfl, ⟨_, hD _⟩, fun dS ndS => ?_⟩
  obtain ⟨f3, g3⟩ := But.none b4 a4 ndS
  refine dcA_it (walk_tup (K := K) (a := aD) (xs := [.str "l", .str "r"])) (fun i H' => Same H4 H' ∧ ∃ l : List Addr, l.length = i ∧ H' dS = some (DkO w dS (mkB l)) ∧ (∀ x ∈ l, H' x = some (DkO w x []) ∧ H4 x = none ∧ x ≠ dS) ∧ l.Nodup) ?_ ?_ ?_ ?_
  · exact ⟨same_upd ndS, [], rfl, upd_same, (fun _ h => nomatch h), List.nodup_nil⟩
  · rintro i H' hi _
    exact hD _
  · rintro i x H5 H6 hi ⟨s5, l, len, at5, all5, nd5⟩ ⟨rfl, hx⟩
    have hi : i < 2 := hi
    refine ⟨rfl, _, rfl, fun p np => ?_⟩
    have pS : p ≠ dS := Ne.symm (ne_of_none at5 np)
    have pl : p ∉ l := fun h => absurd rfl (ne_of_none (all5 p h).1 np)
    have p4 : H4 p = none := by
      cases e : H4 p with
      | none => rfl
      | some o =>
        rw [s5 _ _ e] at np
        cases np
    have at6 : upd H6 p (DkO w p []) dS = some (DkO w dS (mkB l)) := by
      rw [upd_ne (Ne.symm pS)]
      exact at5
    obtain ⟨b, rfl, pe⟩ : ∃ b, x = .str (wayS b) ∧ putE (mkB l) (.text (wayS b)) (.str (wayS b)) (.ref p) = mkB (l ++ [p]) := by
      match i, hi, l, len with
      | 0, _, [], _ => exact ⟨false, (Option.some.inj hx).symm, putE_new rfl⟩
      | 1, _, [y], _ => exact ⟨true, (Option.some.inj hx).symm, putE_new ((atK_neg (show ¬ (NestedKey.text "l" : NestedKey) = NestedKey.text "r" by decide)).trans atK_nil)⟩
    refine ⟨mkB l, .text (wayS b), at6, mkB_da (.inl at6), nk_text, Nat.zero_le _, ?_, ?_, l ++ [p], ?_, ?_, ?_, ?_⟩
    · have small : (mkB l).length ≤ 2 := by
        match l with
        | [] => exact Nat.zero_le _
        | [_] => exact (by decide : 1 ≤ 2)
        | _ :: _ :: _ => exact Nat.le_refl _
      rw [sizeLine_eq]
      omega
    · intro c o ec
      have n1 : c ≠ dS := ne_of_none ec ndS
      rw [upd_ne n1, upd_ne (ne_of_none ec p4)]
      exact s5 _ _ ec
    · rw [List.length_append, len]
      rfl
    · rw [pe]
      exact upd_same
    · intro y hy
      rcases List.mem_append.mp hy with hy | hy
      · obtain ⟨y1, y2, y3⟩ := all5 y hy
        refine ⟨?_, y2, y3⟩
        rw [upd_ne y3, upd_ne (fun z : y = p => pl (z ▸ hy))]
        exact y1
      · obtain rfl := List.mem_singleton.mp hy
        refine ⟨?_, p4, pS⟩
        rw [upd_ne pS]
        exact upd_same
    · exact List.nodup_append.mpr ⟨nd5, List.nodup_cons.mpr ⟨List.not_mem_nil, List.nodup_nil⟩, fun y hy z hz e => by
        obtain rfl := List.mem_singleton.mp hz
        exact pl (e ▸ hy)⟩
  rintro H5 ⟨s5, l, len, at5, all5, nd5⟩
  obtain ⟨d0, d1, rfl⟩ : ∃ d0 d1, l = [d0, d1] := by
    match l, len with
    | [x, y], _ => exact ⟨x, y, rfl⟩
  obtain ⟨x1, x2, x3⟩ := all5 d0 (List.mem_cons_self ..)
  obtain ⟨y1, y2, y3⟩ := all5 d1 (List.mem_cons_of_mem _ (List.mem_cons_self ..))
  have n01 : d0 ≠ d1 := fun z => (List.nodup_cons.mp nd5).1 (z ▸ List.mem_cons_self ..)
  clear all5 nd5 len
  have td5 := s5 _ _ td4
  have dl5 := s5 _ _ dl4
  have nd5 : dl ≠ d0 ∧ dl ≠ d1 ∧ dl ≠ dS := ⟨ne_of_none dl4 x2, ne_of_none dl4 y2, ne_of_none dl4 ndS⟩
  have nd6 : td ≠ d0 ∧ td ≠ d1 ∧ td ≠ dS := ⟨ne_of_none td4 x2, ne_of_none td4 y2, ne_of_none td4 ndS⟩
  obtain ⟨f4, g4⟩ := But.none b4 a4 x2
  obtain ⟨f5, g5⟩ := But.none b4 a4 y2
  refine ⟨_, rfl, a, C, dx, _, rfl, s5 _ _ a4, RF.cl, RF.ss, (by show 4 < 1000; decide), ?_⟩
  refine at_new fun H6 e6 => ?_
  have a6 : H6 a = some (.ins C dx [("_steps", .ref ds), ("_turns", .ref dt), ("_todo", .ref td), ("letters", .ref dl), ("states", .ref dS)]) := by
    rw [e6]
    exact upd_same
  have b56 : But a H5 H6 := by
    rw [e6]
    exact But.upd But.refl
  have b6 : But a H H6 := But.trans (But.trans b4 (But.same s5)) b56
  have td6 := b56 _ _ td5 g1
  have dl6 := b56 _ _ dl5 g2
  have dS6 := b56 _ _ at5 g3
  have d06 := b56 _ _ x1 g4
  have d16 := b56 _ _ y1 g5
  clear e6 b56 s5
  refine ⟨by show 0 ≤ sizeLine; exact Nat.zero_le _, fun pm npm => ?_⟩
  obtain ⟨f6, g6⟩ := But.none b6 a6 npm
  have s7 := same_upd (o := .lst []) npm
  refine ⟨_, rfl, a, C, dx, _, rfl, s7 _ _ a6, RF.cl, RF.mi, (by show 5 < 1000; decide), ?_⟩
  refine at_new fun H7 e7 => ?_
  have a7 : H7 a = some (.ins C dx [("_steps", .ref ds), ("_turns", .ref dt), ("_todo", .ref td), ("letters", .ref dl), ("states", .ref dS), ("missing", .ref pm)]) := by
    rw [e7]
    exact upd_same
  have b67 : But a (upd H6 pm (.lst [])) H7 := by
    rw [e7]
    exact But.upd But.refl
  have b67' : But a H6 H7 := But.trans (But.same s7) b67
  have b7 : But a H H7 := But.trans b6 b67'
  have pm7 := b67 _ _ upd_same g6
  have tu7 : Tups H H7 := But.tups b7 ha
  have ne : ∀ {b x : Addr} {es : List Eh}, Rd H b (DkO w b es) → H x = none → b ≠ x := fun {b x es} h n z => by
    rcases h with h | ⟨o, h⟩ <;> rw [z, n] at h <;> cases h
  obtain ⟨es1, et1, D1, D2, T1, T2⟩ := id tab.ex
  have r7 : RS K w H ⟨a, C, dx, ds, dt, td, dl, dS, d0, d1, pm⟩ m ⟨[], [], fun _ => []⟩ H7 :=
    { ins := a7, td := b67' _ _ td6 g1, pm := pm7, dl := b67' _ _ dl6 g2, dS := b67' _ _ dS6 g3, db := (fun b => by cases b; exact b67' _ _ d06 g4; exact b67' _ _ d16 g5), lnd := List.nodup_nil, snd := (fun _ => List.nodup_nil),
      tds := (fun _ h => nomatch h), lsO := (fun _ h => nomatch h), ssO := (fun _ _ h => nomatch h), mac := mac.tups tu7, tab := (tab.keep tu7 fun b es _ h => But.rdk b7 ha h), out := (fun b o e n => b7 b o e n), tdN := f1, dlN := f2, dbN := (fun b => by cases b; exact f4; exact f5),
      nd := by
        refine List.nodup_cons.mpr ⟨?_, List.nodup_cons.mpr ⟨?_, List.nodup_cons.mpr ⟨?_, List.nodup_cons.mpr ⟨?_, List.nodup_cons.mpr ⟨?_, List.nodup_cons.mpr ⟨List.not_mem_nil, List.nodup_nil⟩⟩⟩⟩⟩⟩
        all_goals simp only [List.mem_cons, List.not_mem_nil, or_false, not_or]
        · exact ⟨nst, ne D1.at_ f2, ne D1.at_ f3, ne D1.at_ f4, ne D1.at_ f5⟩
        · exact ⟨ne D2.at_ f2, ne D2.at_ f3, ne D2.at_ f4, ne D2.at_ f5⟩
        · exact ⟨nd5.2.2, nd5.1, nd5.2.1⟩
        · exact ⟨Ne.symm x3, Ne.symm y3⟩
        · exact n01,
      ptn := Ne.symm (ne_of_none td6 npm) }
  have few7 : pot m ⟨[], [], fun _ => []⟩ ≤ 4000 := by
    have h1 := mac.lf
    have h2 := mac.sf false
    have h3 := mac.sf true
    simp only [pot, List.length_nil]
    omega
  clear e7 s7 b67 b67' pm7 td6 dl6 dS6 d06 d16 td5 dl5 at5 x1 y1 td4 dl4 b34' td3
  obtain ⟨R, hRa, hRC, hRx, rs⟩ : ∃ R : RA, R.a = a ∧ R.C = C ∧ R.dx = dx ∧ RS K w H R m ⟨[], [], fun _ => []⟩ H7 := ⟨_, rfl, rfl, rfl, r7⟩
  subst hRa hRC
  have seen : ∀ {t : St} {H' : Hp}, RS K w H R m t H' → Tups H H' := fun r => But.tups (a := R.a) (fun b o e n => r.out b o e n) ha
  refine ⟨_, rfl, fi, rfl, ⟨_, SqT.tups tu7 hfi⟩, ?_⟩
  refine for_it (walk_tup (K := K) (a := fi) (xs := first.map (·.1))) (fun j σ H' => (∃ o, σ = [some (.ref R.a), some (.ref fi), some be.1, some (.ref ds), some (.ref dt), o, none]) ∧ ∃ t, RS K w H R m t H' ∧ pot m t ≤ 4000 ∧ (0 < j → t.ls ≠ []) ∧ Cl m t none ∧ ∀ i s, i < j → first[i]? = some s → t.inL s.2) ?_ ?_ ?_ ?_
  · exact ⟨⟨none, rfl⟩, _, rs, few7, (fun z => absurd z (Nat.lt_irrefl _)), ⟨(fun _ _ h => nomatch h), fun _ _ h => nomatch h⟩, fun _ _ h => absurd h (Nat.not_lt_zero _)⟩
  · rintro j σ H' hj ⟨_, t, r, _⟩
    exact SqT.tups (seen r) hfi
  · rintro j y σ H9 H8 hj ⟨⟨o, rfl⟩, t, r, ft, _, cl, fs⟩ ⟨rfl, hx⟩
    obtain ⟨s, hs, rfl⟩ : ∃ s, first[j]? = some s ∧ s.1 = y := by
      rw [List.getElem?_map] at hx
      exact Option.map_eq_some_iff.mp hx
    have ms := hfs s (List.mem_of_getElem? hs)
    refine ⟨_, rfl, R.a, R.dx, _, rfl, r.ins, rfl, _, rfl, ?_⟩
    exact ⟨H, R, m, t, s, rfl, rfl, r, by omega, ms.1.tups (seen r), ms.2, fun t2 H2 r2 le2 _ ne2 L2 i2 c2 => ⟨⟨_, rfl⟩, t2, r2, by omega, (fun _ => ne2), c2 _ cl, fun i s1 hi h1 => by
      by_cases e : i = j
      · subst e
        rw [hs] at h1
        cases h1
        exact i2
      · exact L2.l _ (fs i s1 (by omega) h1)⟩⟩
  rintro σ H8 ⟨⟨o, rfl⟩, t8, r8, f8, ne8, cl8, fs8⟩
  have fs8 : ∀ s ∈ first, t8.inL s.2 := fun s hs => by
    obtain ⟨i, hi⟩ := List.getElem?_of_mem hs
    exact fs8 i s (by rw [List.length_map]; exact (List.getElem?_eq_some_iff.mp hi).1) hi
  have ne8 : first ≠ [] → t8.ls ≠ [] := fun z => ne8 (by rw [List.length_map]; exact List.length_pos_iff.mpr z)
  refine ⟨_, rfl, R.a, R.dx, _, rfl, r8.ins, rfl, _, rfl, ?_⟩
  refine ⟨H, R, m, t8, false, be, rfl, rfl, r8, by omega, hbe.1.tups (seen r8), hbe.2, fun t9 H9 r9 le9 ls9 L9 i9 c9 => ?_⟩
  refine ⟨fun n σ H' => σ = [some (.ref R.a), some (.ref fi), some be.1, some (.ref ds), some (.ref dt), o, none] ∧ ∃ t, RS K w H R m t H' ∧ pot m t = n ∧ n ≤ 4000 ∧ (first ≠ [] → t.ls ≠ []) ∧ Cl m t none ∧ (∀ s ∈ first, t.inL s.2) ∧ t.inS false be.2, ⟨_, rfl, t9, r9, rfl, by omega, (fun z => by rw [ls9]; exact ne8 z), c9 _ cl8, (fun s hs => L9.l _ (fs8 s hs)), i9⟩, ?_⟩
  rintro n σ H' ⟨rfl, t, r, rfl, ft, nt, cl, fs, bs⟩
  refine ⟨_, rfl, R.a, R.C, R.dx, _, .ref R.td, rfl, r.ins, RF.cl, RF.td, rfl, !(t.todo.map (·.1)).isEmpty, .inl ⟨_, SqL.of r.td, rfl⟩, ?_⟩
  rcases List.eq_nil_or_concat t.todo with e | ⟨td0, e, ex⟩
  · rw [e]
    exact iteF (q R t H' rfl rfl r nt (cl.clo e fs bs))
  · rw [List.concat_eq_append] at ex
    have ne : (!(t.todo.map (·.1)).isEmpty) = true := by
      rw [ex]
      simp
    rw [ne]
    have he := r.tds e (by rw [ex]; exact List.mem_append_right _ (List.mem_singleton.mpr rfl))
    have rt := r.td
    rw [ex, List.map_append] at rt
    refine iteT ⟨fun σ' H' => ∃ m', m' < pot m t ∧ σ' = [some (.ref R.a), some (.ref fi), some be.1, some (.ref ds), some (.ref dt), o, none] ∧ ∃ t, RS K w H R m t H' ∧ pot m t = m' ∧ m' ≤ 4000 ∧ (first ≠ [] → t.ls ≠ []) ∧ Cl m t none ∧ (∀ s ∈ first, t.inL s.2) ∧ t.inS false be.2, fun σ' H' h => h, ?_⟩
    refine ⟨_, rfl, R.a, R.dx, _, rfl, r.ins, rfl, _, rfl, R.a, R.C, R.dx, _, .ref R.td, rfl, r.ins, RF.cl, RF.td, rfl, .inl ⟨rfl, _, SqL.of r.td⟩, R.td, _, e.1, rfl, rfl, rt, (by simp), ?_⟩
    have dl : (td0.map (·.1) ++ [e].map (fun x : Td => x.1)).dropLast = td0.map (·.1) := by simp
    rw [dl]
    have r2 := r.setTd (l := td0) fun x hx => .inl (by rw [ex]; exact List.mem_append_left _ hx)
    have lt : pot m { t with todo := td0 } < pot m t := by
      simp only [pot, ex, List.length_append, List.length_singleton]
      omega
    refine ⟨H, R, m, _, e, rfl, rfl, r2, by omega, he.tups (Tups.upd (lst_ntup r.td)), fun t3 H3 r3 le3 ne3 L3 c3 => ⟨_, ?_, rfl, t3, r3, rfl, ?_, (fun z => ne3 (nt z)), c3 (cl.pop ex), (fun s hs => L3.l _ (fs s hs)), L3.s _ _ bs⟩⟩ <;> omega
end
end K15

set_option Elab.async false
set_option linter.all false
set_option maxRecDepth 100000
set_option maxHeartbeats 4000000
namespace K15
open PySem PySem.Spec PyProof.Rows L2 Pen Tr AK LamX
section
variable {P : Program} {w : World} {K : PySem.W.Frag} {mg : Str → Option PySem.Value} {base : Heap} {f C aD fS fT fD fE : Addr} {fd fdS fdT fdD fdE : FuncData} {H H' : Hp} {m : Mac}
theorem SyOk.symb {s : Sy} {Q : VK} {E : XK} (o : SyOk K H s) (q : ∀ H', Same H H' → Q (.bl true) H') : spSymb K [s.1] H Q E :=
  ⟨s.1, s.2, rfl, o.dp, (menu_sym _ o.mem).1, o.nn, Nat.le_trans (menu_sym _ o.mem).2 (by decide), q⟩
theorem SyOk.sy {s : Sy} (o : SyOk K H s) : symD s.2 = true := (menu_sym _ o.mem).1
theorem SyOk.wt {s : Sy} (o : SyOk K H s) : wtD s.2 ≤ 100000 := Nat.le_trans (menu_sym _ o.mem).2 (by decide)
theorem same_tups (s : Same H H') : Tups H H' := fun b xs h => same_rd s h
/-- an entry of the steps -/
def StepE (K : PySem.W.Frag) (H : Hp) (x : Eh) : Prop := ∃ q p b s l s2 l2, x = (kS b (s : Sy).2 (l : Sy).2, .ref q, .ref p) ∧ SqT K H q [.str (wayS b), s.1, l.1] ∧ SqT K H p [(s2 : Sy).1, (l2 : Sy).1] ∧ SyOk K H s ∧ SyOk K H l ∧ SyOk K H s2 ∧ SyOk K H l2
/-- an entry of the turns -/
def TurnE (K : PySem.W.Frag) (H : Hp) (x : Eh) : Prop := ∃ q b s v t, x = (kT b (s : Sy).2, .ref q, v) ∧ SqT K H q [.str (wayS b), s.1] ∧ SyOk K H s ∧ TurnAt K H v t ∧ ∀ s2 y, t = some (s2, y) → SyOk K H s2 ∧ ∀ l, y = some l → b = true ∧ SyOk K H l
theorem StepE.tups {x : Eh} (h : StepE K H x) (t : Tups H H') : StepE K H' x := by
  obtain ⟨q, p, b, s, l, s2, l2, e, h1, h2, h3, h4, h5, h6⟩ := h
  exact ⟨q, p, b, s, l, s2, l2, e, SqT.tups t h1, SqT.tups t h2, h3.tups t, h4.tups t, h5.tups t, h6.tups t⟩
theorem TurnE.tups {x : Eh} (h : TurnE K H x) (t : Tups H H') : TurnE K H' x := by
  obtain ⟨q, b, s, v, y, e, h1, h2, h3, h4⟩ := h
  exact ⟨q, b, s, v, y, e, SqT.tups t h1, h2.tups t, h3.tups t, fun s2 y2 e2 => ⟨(h4 s2 y2 e2).1.tups t, fun l hl => ⟨((h4 s2 y2 e2).2 l hl).1, ((h4 s2 y2 e2).2 l hl).2.tups t⟩⟩⟩
def spStep (K : PySem.W.Frag) : Sp := fun vs H Q _ => ∃ x, vs = [(x : Eh).2.1, x.2.2] ∧ StepE K H x ∧ ∀ H', Same H H' → Q (.bl true) H'
def spTurn (K : PySem.W.Frag) : Sp := fun vs H Q _ => ∃ x, vs = [(x : Eh).2.1, x.2.2] ∧ TurnE K H x ∧ ∀ H', Same H H' → Q (.bl true) H'
abbrev nIs : List Str := ["key", "told"]
theorem scIsS : FnScope nIs ["key", "told"] (defScope (top 21)) := ⟨rfl, rfl, rfl, by decide +kernel, rfl, by decide +kernel, by decide +kernel⟩
theorem ok_isStep (F : FnT K "is_step" 21 f fd) (FT : FnT K "is_tuple_of" 12 fT fdT) (gT : mg "is_tuple_of" = some (.ref fT)) (GT : FnOk P w K mg base CX0 1 fT fdT ["many", "value"] (spTup K)) (FD : FnT K "is_direction" 3 fD fdD) (gF : mg "is_direction" = some (.ref fD)) (GD : FnOk P w K mg base CX0 1 fD fdD ["value"] (spDir K))
    (FS : FnT K "is_symbol" 11 fS fdS) (gS : mg "is_symbol" = some (.ref fS)) (GS : FnOk P w K mg base CX0 3 fS fdS ["value"] (spSymb K)) : FnOk P w K mg base CX0 4 f fd ["key", "told"] (spStep K) := by
  refine F.ok scIsS (fun vs H Q E h => by obtain ⟨x, rfl, _⟩ := h; rfl) (fun cdv A outer s0 H vs Q E hr h => ?_)
  obtain ⟨x, rfl, hx, q⟩ := h
  suffices z : ∃ t, PSs (cxOf CX0 P w K mg base nIs "is_step" (defScope (top 21)) f cdv A outer s0 H E).nox (defBody (top 21)) t ∧ t { nx := fun _ H' => Q .non H', rt := Q } (start nIs [x.2.1, x.2.2]) H by
    obtain ⟨t, h1, h2⟩ := z
    exact ⟨t, h1.nox, h2⟩
  have bT : L2.Binds K fdT ["many", "value"] [] := FunD.bindsN FT fun _ _ _ _ _ _ us hl => match us, hl with | [_, _], _ => rfl
  have bD : L2.Binds K fdD ["value"] [] := FunD.bindsN FD fun _ _ _ _ _ _ us hl => match us, hl with | [_], _ => rfl
  have bS : L2.Binds K fdS ["value"] [] := FunD.bindsN FS fun _ _ _ _ _ _ us hl => match us, hl with | [_], _ => rfl
  have h1 := hr.mono (show 1 ≤ 3 by decide)
  refine ⟨_, pss_cons (ps_if (PW.pt (pw_or (pt_not (pt_val (pe_call GT h1 (by rfl) gT FT.kp bT .nil pass0 (pa_cons pe_int (pa_cons (pv 0) pa_nil))))) (pw_or (pt_not (pt_val (pe_call GT h1 (by rfl) gT FT.kp bT .nil pass0 (pa_cons pe_int (pa_cons (pv 1) pa_nil)))))
      (pw_or1 (pt_not (pt_val (pe_call GD h1 (by rfl) gF FD.kp bD .nil pass0 (pa_cons (pe_ix ix_tup (pv 0) pe_int (fun _ _ => rfl)) pa_nil)))))))) Tr.pss_never pss_nil)
    (pss_one (ps_ret (pe_and (pe_call GS hr (by rfl) gS FS.kp bS .nil pass0 (pa_cons (pe_ix ix_tup (pv 0) pe_int (fun _ _ => rfl)) pa_nil)) (pe_and (pe_call GS hr (by rfl) gS FS.kp bS .nil pass0 (pa_cons (pe_ix ix_tup (pv 0) pe_int (fun _ _ => rfl)) pa_nil))
      (pe_and (pe_call GS hr (by rfl) gS FS.kp bS .nil pass0 (pa_cons (pe_ix ix_tup (pv 1) pe_int (fun _ _ => rfl)) pa_nil)) (pe_one (pe_call GS hr (by rfl) gS FS.kp bS .nil pass0 (pa_cons (pe_ix ix_tup (pv 1) pe_int (fun _ _ => rfl)) pa_nil)))))))), ?_⟩
  obtain ⟨p1, p2, b, s, l, s2, l2, rfl, hp1, hp2, o1, o2, o3, o4⟩ := hx
  refine ⟨_, rfl, p1, _, rfl, hp1, true, rfl, ?_⟩
  refine iteF ⟨_, rfl, p2, _, rfl, hp2, true, rfl, ?_⟩
  refine iteF ⟨_, rfl, p1, _, 0, .str (wayS b), rfl, rfl, hp1, rfl, b, rfl, true, rfl, ?_⟩
  refine iteF ?_
  refine ⟨_, rfl, p1, _, 1, s.1, rfl, rfl, hp1, rfl, s.1, s.2, rfl, o1.dp, o1.sy, o1.nn, o1.wt, fun H1 s1 => ⟨true, rfl, ?_⟩⟩
  have o2' := o2.tups (same_tups s1)
  refine iteT ⟨_, rfl, p1, _, 2, l.1, rfl, rfl, SqT.tups (same_tups s1) hp1, rfl, l.1, l.2, rfl, o2'.dp, o2'.sy, o2'.nn, o2'.wt, fun H2 s2' => ⟨true, rfl, ?_⟩⟩
  have s12 := same_trans s1 s2'
  have o3' := o3.tups (same_tups s12)
  refine iteT ⟨_, rfl, p2, _, 0, s2.1, rfl, rfl, SqT.tups (same_tups s12) hp2, rfl, s2.1, s2.2, rfl, o3'.dp, o3'.sy, o3'.nn, o3'.wt, fun H3 s3 => ⟨true, rfl, ?_⟩⟩
  have s13 := same_trans s12 s3
  have o4' := o4.tups (same_tups s13)
  exact iteT ⟨_, rfl, p2, _, 1, l2.1, rfl, rfl, SqT.tups (same_tups s13) hp2, rfl, l2.1, l2.2, rfl, o4'.dp, o4'.sy, o4'.nn, o4'.wt, fun H4 s4 => q H4 (same_trans s13 s4)⟩
theorem scIsT : FnScope nIs ["key", "told"] (defScope (top 23)) := ⟨rfl, rfl, rfl, by decide +kernel, rfl, by decide +kernel, by decide +kernel⟩
theorem ok_isTurn (F : FnT K "is_turn" 23 f fd) (FT : FnT K "is_tuple_of" 12 fT fdT) (gT : mg "is_tuple_of" = some (.ref fT)) (GT : FnOk P w K mg base CX0 1 fT fdT ["many", "value"] (spTup K)) (FD : FnT K "is_direction" 3 fD fdD) (gF : mg "is_direction" = some (.ref fD)) (GD : FnOk P w K mg base CX0 1 fD fdD ["value"] (spDir K))
    (FS : FnT K "is_symbol" 11 fS fdS) (gS : mg "is_symbol" = some (.ref fS)) (GS : FnOk P w K mg base CX0 3 fS fdS ["value"] (spSymb K)) : FnOk P w K mg base CX0 4 f fd ["key", "told"] (spTurn K) := by
  refine F.ok scIsT (fun vs H Q E h => by obtain ⟨x, rfl, _⟩ := h; rfl) (fun cdv A outer s0 H vs Q E hr h => ?_)
  obtain ⟨x, rfl, hx, q⟩ := h
  suffices z : ∃ t, PSs (cxOf CX0 P w K mg base nIs "is_turn" (defScope (top 23)) f cdv A outer s0 H E).nox (defBody (top 23)) t ∧ t { nx := fun _ H' => Q .non H', rt := Q } (start nIs [x.2.1, x.2.2]) H by
    obtain ⟨t, h1, h2⟩ := z
    exact ⟨t, h1.nox, h2⟩
  have bT : L2.Binds K fdT ["many", "value"] [] := FunD.bindsN FT fun _ _ _ _ _ _ us hl => match us, hl with | [_, _], _ => rfl
  have bD : L2.Binds K fdD ["value"] [] := FunD.bindsN FD fun _ _ _ _ _ _ us hl => match us, hl with | [_], _ => rfl
  have bS : L2.Binds K fdS ["value"] [] := FunD.bindsN FS fun _ _ _ _ _ _ us hl => match us, hl with | [_], _ => rfl
  have h1 := hr.mono (show 1 ≤ 3 by decide)
  refine ⟨_, pss_cons (ps_if (PW.pt (pw_or (pt_not (pt_val (pe_call GT h1 (by rfl) gT FT.kp bT .nil pass0 (pa_cons pe_int (pa_cons (pv 0) pa_nil))))) (pw_or (pt_not (pt_val (pe_call GD h1 (by rfl) gF FD.kp bD .nil pass0 (pa_cons (pe_ix ix_tup (pv 0) pe_int (fun _ _ => rfl)) pa_nil))))
      (pw_or1 (pt_not (pt_val (pe_call GS hr (by rfl) gS FS.kp bS .nil pass0 (pa_cons (pe_ix ix_tup (pv 0) pe_int (fun _ _ => rfl)) pa_nil)))))))) Tr.pss_never pss_nil)
    (pss_cons (ps_if (pt_cmpR op_isN (pv 1) pe_non (nomark _)) (pss_one (ps_ret pe_bl)) pss_nil)
    (pss_cons (ps_if (PW.pt (pw_or (pt_not (pt_val (pe_call GT h1 (by rfl) gT FT.kp bT .nil pass0 (pa_cons pe_int (pa_cons (pv 1) pa_nil))))) (pw_or1 (pt_not (pt_val (pe_call GS hr (by rfl) gS FS.kp bS .nil pass0 (pa_cons (pe_ix ix_tup (pv 1) pe_int (fun _ _ => rfl)) pa_nil))))))) Tr.pss_never pss_nil)
    (pss_one (ps_ret (pe_or (pe_cmpR op_isN (pe_ix ix_tup (pv 1) pe_int (fun _ _ => rfl)) pe_non (nomark _)) (pe_one (pe_and (pe_cmpR op_eq (pe_ix ix_tup (pv 0) pe_int (fun _ _ => rfl)) pe_str (nomark _)) (pe_one (pe_call GS hr (by rfl) gS FS.kp bS .nil pass0 (pa_cons (pe_ix ix_tup (pv 1) pe_int (fun _ _ => rfl)) pa_nil)))))))))), ?_⟩
  obtain ⟨p1, b, s, v, t, rfl, hp1, o1, tv, ot⟩ := hx
  refine ⟨_, rfl, p1, _, rfl, hp1, true, rfl, ?_⟩
  refine iteF ⟨_, rfl, p1, _, 0, .str (wayS b), rfl, rfl, hp1, rfl, b, rfl, true, rfl, ?_⟩
  refine iteF ⟨_, rfl, p1, _, 1, s.1, rfl, rfl, hp1, rfl, s.1, s.2, rfl, o1.dp, o1.sy, o1.nn, o1.wt, fun H1 s1 => ⟨true, rfl, ?_⟩⟩
  refine iteF ⟨_, rfl, rfl, _, rfl, ?_⟩
  cases t with
  | none =>
    have tv : v = .non := tv
    subst tv
    exact iteT (q H1 s1)
  | some y =>
    obtain ⟨s2, x2⟩ := y
    obtain ⟨p, e2, hp⟩ := tv
    subst e2
    obtain ⟨o2, o3⟩ := ot s2 x2 rfl
    have o2' := o2.tups (same_tups s1)
    have hp' := SqT.tups (same_tups s1) hp
    refine iteF ⟨_, rfl, p, _, rfl, hp', true, rfl, ?_⟩
    refine iteF ⟨_, rfl, p, _, 0, s2.1, rfl, rfl, hp', rfl, s2.1, s2.2, rfl, o2'.dp, o2'.sy, o2'.nn, o2'.wt, fun H2 s2' => ⟨true, rfl, ?_⟩⟩
    have s12 := same_trans s1 s2'
    have hp2 := SqT.tups (same_tups s12) hp
    refine iteF ⟨_, rfl, p, _, 1, optV x2, rfl, rfl, hp2, rfl, rfl, ?_⟩
    refine ⟨_, rfl, ?_⟩
    cases x2 with
    | none => exact iteT (q H2 s12)
    | some l =>
      obtain ⟨hb, o4⟩ := o3 l rfl
      subst hb
      have o4' := o4.tups (same_tups s12)
      have nn : decide (optV (some l) = V.non) = false := decide_eq_false o4.nn
      rw [nn]
      refine iteF ⟨_, rfl, p1, _, 0, .str "r", rfl, rfl, SqT.tups (same_tups s12) hp1, rfl, rfl, true, (show V.bl (decide (V.str "r" = V.str "r")) = V.bl true by decide), ?_⟩
      exact iteT ⟨_, rfl, p, _, 1, l.1, rfl, rfl, hp2, rfl, l.1, l.2, rfl, o4'.dp, o4'.sy, o4'.nn, o4'.wt, fun H3 s3 => q H3 (same_trans s12 s3)⟩
/-- a list of trues, one for each key of a dict that is locked -/
theorem lc_true {Q : VK} {d : Addr} {es : List Eh} {td te : TE} {v0 o : Option V} (hd : H d = some (DkO w d es)) (few : es.length ≤ 1000000)
    (htd : ∀ od (R : VK), R (.ref d) (upd H d (.frz od (DkO w d es))) → td [v0, o] (upd H d (.frz od (DkO w d es))) R)
    (hte : ∀ od x H1 (R : VK), x ∈ es → Same (upd H d (.frz od (DkO w d es))) H1 → (∀ H2, Same H1 H2 → R (.bl true) H2) → te [v0, some (x : Eh).2.1] H1 R)
    (q : ∀ D H', Same H H' → H' D = some (.lst (List.replicate es.length (.bl true))) → Q (.ref D) H') :
    tLockE (tLc (iKeysA w td) (gName 1) tYes te [1]) [v0, o] H Q := by
  refine ⟨d, _, hd, trivial, fun od => ?_⟩
  refine htd od _ ⟨d, od, _, rfl, upd_same, fun D nD => ?_⟩
  have nDd : D ≠ d := by
    rintro rfl
    rw [upd_same] at nD
    cases nD
  have s0 : Same (upd H d (.frz od (DkO w d es))) (upd (upd H d (.frz od (DkO w d es))) D (.lst [])) := same_upd nD
  refine lc_it (walk_keysA (w := w) (d := d) (o := od) (es := es)) (fun i H' => Same (upd H d (.frz od (DkO w d es))) H' ∧ H' D = some (.lst (List.replicate i (.bl true)))) ⟨s0, upd_same⟩ (fun i H' _ ⟨s, _⟩ => s _ _ upd_same) ?_ ?_
  · rintro i x H1 H2 hi ⟨s1, hacc⟩ ⟨rfl, e, he, rfl⟩
    refine ⟨rfl, ?_⟩
    show te [v0, some e.2.1] H2 _
    refine hte od e _ _ (List.mem_of_getElem? he) s1 fun H3 s3 => ⟨_, s3 _ _ hacc, ?_, ?_, ?_⟩
    · rw [List.length_replicate, sizeLine_eq]
      omega
    · intro b ob eb
      rw [upd_ne (ne_of_none eb nD)]
      exact s3 _ _ (s1 _ _ eb)
    · rw [upd_same, List.replicate_succ']
  · rintro H' ⟨s1, hacc⟩
    have lock := s1 _ _ (upd_same (H := H) (a := d))
    refine ⟨lock, ?_⟩
    refine q D _ (fun b ob eb => ?_) (by rw [upd_ne nDd]; exact hacc)
    by_cases e : b = d
    · subst e
      rw [hd] at eb
      cases eb
      exact upd_same
    · rw [upd_ne e]
      exact s1 _ _ (by rw [upd_ne e]; exact eb)
theorem all_rep (n : Nat) : (List.replicate n true).all id = true := by
  rw [List.all_eq_true]
  intro x hx
  exact (List.mem_replicate.mp hx).2
theorem atK_mem {es : List Eh} {x : Eh} (nd : (es.map (·.1)).Nodup) (h : x ∈ es) : atK es x.1 = some x.2.2 := by
  obtain ⟨j, hj⟩ := List.getElem?_of_mem h
  exact atK_get nd hj rfl
def spSteps (K : PySem.W.Frag) (w : World) : Sp := fun vs H Q _ => ∃ d es, vs = [.ref d] ∧ H d = some (DkO w d es) ∧ DA K w H d es ∧ (∀ x ∈ es, StepE K H x) ∧ es.length ≤ 900000 ∧ ∀ H', Same H H' → Q (.bl true) H'
def spTurns (K : PySem.W.Frag) (w : World) : Sp := fun vs H Q _ => ∃ d es, vs = [.ref d] ∧ H d = some (DkO w d es) ∧ DA K w H d es ∧ (∀ x ∈ es, TurnE K H x) ∧ es.length ≤ 900000 ∧ ∀ H', Same H H' → Q (.bl true) H'
abbrev nAre : List Str := ["steps", "key"]
theorem scAreS : FnScope nAre ["steps"] (defScope (top 20)) := ⟨rfl, rfl, rfl, by decide +kernel, rfl, by decide +kernel, by decide +kernel⟩
theorem ok_areSteps (F : FnT K "are_steps" 20 f fd) (TX : Txt mg) (FE : FnT K "is_step" 21 fE fdE) (gE : mg "is_step" = some (.ref fE)) (GE : FnOk P w K mg base CX0 4 fE fdE ["key", "told"] (spStep K)) : FnOk P w K mg base CX0 5 f fd ["steps"] (spSteps K w) := by
  refine F.ok scAreS (fun vs H Q E h => by obtain ⟨x, es, rfl, _⟩ := h; rfl) (fun cdv A outer s0 H vs Q E hr h => ?_)
  obtain ⟨d, es, rfl, hd, D, hx, few, q⟩ := h
  have nd := scAreS.nd
  have hu := hr.units
  suffices z : ∃ t, PSs (cxOf CX0 P w K mg base nAre "are_steps" (defScope (top 20)) f cdv A outer s0 H E).nox (defBody (top 20)) t ∧ t { nx := fun _ H' => Q .non H', rt := Q } (start nAre [.ref d]) H by
    obtain ⟨t, h1, h2⟩ := z
    exact ⟨t, h1.nox, h2⟩
  have bE : L2.Binds K fdE ["key", "told"] [] := FunD.bindsN FE fun _ _ _ _ _ _ us hl => match us, hl with | [_, _], _ => rfl
  refine ⟨_, pss_one (ps_ret (pe_and (pe_callB call_isDi (by rfl) TX.isi (by decide +kernel) (pa_cons (pv 0) (pa_cons (pe_bltn (by rfl) TX.dict (by decide +kernel) (v := .ty "dict") rfl) pa_nil)))
    (pe_one (pe_callB (cr_all rfl) (by rfl) TX.all (by decide +kernel) (pa_cons (pe_lock (pe_lc (own := [("key", 1)]) (g := gName 1) (tt := tYes) (te := tCall (spStep K) [] E0 (tCons (tVar 1) (tCons (tOp (rIxA K w) (tVar 0) (tVar 1)) tNil))) (by rfl) nd (pi_keysA (pv 0)) (blkOk_by (own := [("key", 1)]) (N := nAre) (sc := defScope (top 20)) (by decide +kernel))
      (fun _ _ _ _ _ => pg_name (i := 1) nd rfl (Or.inl rfl)) (fun _ _ _ _ _ => pts_nil) (fun _ _ _ _ _ => pe_call GE hr (by rfl) gE FE.kp bE .nil pass0 (pa_cons (pv 1) (pa_cons (pe_ix (ix_dictA hu) (pv 0) (pv 1) (fun _ _ => rfl)) pa_nil))))) pa_nil))))), ?_⟩
  refine ⟨_, rfl, d, es, rfl, D, true, rfl, iteT ?_⟩
  refine lc_true hd (by omega) (fun od R' q' => ⟨_, rfl, q'⟩) (fun od x H1 R' mx s1 q' => ?_) fun DD H2 s2 h2 => ?_
  · have tu : Tups H H1 := Tups.trans (Tups.upd (dk_ntup hd)) (same_tups s1)
    have D1 : DA K w H1 d es := ⟨.inr ⟨od, s1 _ _ upd_same⟩, fun y hy => ⟨(D.nk y hy).1.tups tu, (D.nk y hy).2⟩, D.nd⟩
    refine ⟨_, rfl, _, rfl, _, rfl, d, es, x.1, x.2.2, rfl, D1, (D1.nk x mx).1, (D1.nk x mx).2, atK_mem D.nd mx, ?_⟩
    exact ⟨x, rfl, (hx x mx).tups tu, q'⟩
  · refine ⟨DD, List.replicate es.length true, rfl, SqL.of (by rw [List.map_replicate]; exact h2), ?_⟩
    rw [all_rep]
    exact q H2 s2
abbrev nAreT : List Str := ["turns", "key"]
theorem scAreT : FnScope nAreT ["turns"] (defScope (top 22)) := ⟨rfl, rfl, rfl, by decide +kernel, rfl, by decide +kernel, by decide +kernel⟩
theorem ok_areTurns (F : FnT K "are_turns" 22 f fd) (TX : Txt mg) (FE : FnT K "is_turn" 23 fE fdE) (gE : mg "is_turn" = some (.ref fE)) (GE : FnOk P w K mg base CX0 4 fE fdE ["key", "told"] (spTurn K)) : FnOk P w K mg base CX0 5 f fd ["turns"] (spTurns K w) := by
  refine F.ok scAreT (fun vs H Q E h => by obtain ⟨x, es, rfl, _⟩ := h; rfl) (fun cdv A outer s0 H vs Q E hr h => ?_)
  obtain ⟨d, es, rfl, hd, D, hx, few, q⟩ := h
  have nd := scAreT.nd
  have hu := hr.units
  suffices z : ∃ t, PSs (cxOf CX0 P w K mg base nAreT "are_turns" (defScope (top 22)) f cdv A outer s0 H E).nox (defBody (top 22)) t ∧ t { nx := fun _ H' => Q .non H', rt := Q } (start nAreT [.ref d]) H by
    obtain ⟨t, h1, h2⟩ := z
    exact ⟨t, h1.nox, h2⟩
  have bE : L2.Binds K fdE ["key", "told"] [] := FunD.bindsN FE fun _ _ _ _ _ _ us hl => match us, hl with | [_, _], _ => rfl
  refine ⟨_, pss_one (ps_ret (pe_and (pe_callB call_isDi (by rfl) TX.isi (by decide +kernel) (pa_cons (pv 0) (pa_cons (pe_bltn (by rfl) TX.dict (by decide +kernel) (v := .ty "dict") rfl) pa_nil)))
    (pe_one (pe_callB (cr_all rfl) (by rfl) TX.all (by decide +kernel) (pa_cons (pe_lock (pe_lc (own := [("key", 1)]) (g := gName 1) (tt := tYes) (te := tCall (spTurn K) [] E0 (tCons (tVar 1) (tCons (tOp (rIxA K w) (tVar 0) (tVar 1)) tNil))) (by rfl) nd (pi_keysA (pv 0)) (blkOk_by (own := [("key", 1)]) (N := nAreT) (sc := defScope (top 22)) (by decide +kernel))
      (fun _ _ _ _ _ => pg_name (i := 1) nd rfl (Or.inl rfl)) (fun _ _ _ _ _ => pts_nil) (fun _ _ _ _ _ => pe_call GE hr (by rfl) gE FE.kp bE .nil pass0 (pa_cons (pv 1) (pa_cons (pe_ix (ix_dictA hu) (pv 0) (pv 1) (fun _ _ => rfl)) pa_nil))))) pa_nil))))), ?_⟩
  refine ⟨_, rfl, d, es, rfl, D, true, rfl, iteT ?_⟩
  refine lc_true hd (by omega) (fun od R' q' => ⟨_, rfl, q'⟩) (fun od x H1 R' mx s1 q' => ?_) fun DD H2 s2 h2 => ?_
  · have tu : Tups H H1 := Tups.trans (Tups.upd (dk_ntup hd)) (same_tups s1)
    have D1 : DA K w H1 d es := ⟨.inr ⟨od, s1 _ _ upd_same⟩, fun y hy => ⟨(D.nk y hy).1.tups tu, (D.nk y hy).2⟩, D.nd⟩
    refine ⟨_, rfl, _, rfl, _, rfl, d, es, x.1, x.2.2, rfl, D1, (D1.nk x mx).1, (D1.nk x mx).2, atK_mem D.nd mx, ?_⟩
    exact ⟨x, rfl, (hx x mx).tups tu, q'⟩
  · refine ⟨DD, List.replicate es.length true, rfl, SqL.of (by rw [List.map_replicate]; exact h2), ?_⟩
    rw [all_rep]
    exact q H2 s2
end
end K15

set_option Elab.async false
set_option linter.all false
set_option maxRecDepth 100000
set_option maxHeartbeats 4000000
namespace K15
open PySem PySem.Spec PyProof.Rows L2 Pen Tr AK LamX
section
variable {P : Program} {w : World} {K : PySem.W.Frag} {mg : Str → Option PySem.Value} {base : Heap} {f C fS : Addr} {fd fdS : FuncData} {H H' : Hp} {m : Mac}
/-! ### row 0 -/
def spFirst (K : PySem.W.Frag) : Sp := fun vs H Q _ => ∃ fi, ∃ first : List Sy, vs = [.ref fi] ∧ SqT K H fi (first.map (·.1)) ∧ (∀ s ∈ first, SyOk K H s) ∧ 2 ≤ first.length ∧ first.length ≤ 900 ∧ ∀ H', Same H H' → Q (.bl true) H'
abbrev nFi : List Str := ["first", "letter"]
theorem scFi : FnScope nFi ["first"] (defScope (top 19)) := ⟨rfl, rfl, rfl, by decide +kernel, rfl, by decide +kernel, by decide +kernel⟩
theorem ok_first (F : FnT K "is_first" 19 f fd) (TX : Txt mg) (FS : FnT K "is_symbol" 11 fS fdS) (gS : mg "is_symbol" = some (.ref fS)) (GS : FnOk P w K mg base CX0 3 fS fdS ["value"] (spSymb K)) : FnOk P w K mg base CX0 4 f fd ["first"] (spFirst K) := by
  refine F.ok scFi (fun vs H Q E h => by obtain ⟨x, es, rfl, _⟩ := h; rfl) (fun cdv A outer s0 H vs Q E hr h => ?_)
  obtain ⟨fi, first, rfl, hf, hs, l2, few, q⟩ := h
  have nd := scFi.nd
  suffices z : ∃ t, PSs (cxOf CX0 P w K mg base nFi "is_first" (defScope (top 19)) f cdv A outer s0 H E).nox (defBody (top 19)) t ∧ t { nx := fun _ H' => Q .non H', rt := Q } (start nFi [.ref fi]) H by
    obtain ⟨t, h1, h2⟩ := z
    exact ⟨t, h1.nox, h2⟩
  have bS : L2.Binds K fdS ["value"] [] := FunD.bindsN FS fun _ _ _ _ _ _ us hl => match us, hl with | [_], _ => rfl
  refine ⟨_, pss_one (ps_ret (pe_and (pe_callB call_isTu (by rfl) TX.isi (by decide +kernel) (pa_cons (pv 0) (pa_cons (pe_bltn (by rfl) TX.tuple (by decide +kernel) (v := .ty "tuple") rfl) pa_nil)))
    (pe_and (pe_cmpR op_ge (pe_callB call_len_seq (by rfl) TX.len PySem.boot_len (pa_cons (pv 0) pa_nil)) pe_int (nomark _))
    (pe_one (pe_callB (cr_all rfl) (by rfl) TX.all (by decide +kernel) (pa_cons (pe_lc (own := [("letter", 1)]) (g := gName 1) (tt := tYes) (te := tCall (spSymb K) [] E0 (tCons (tVar 1) tNil)) (by rfl) nd (pi_tup (pv 0)) (blkOk_by (own := [("letter", 1)]) (N := nFi) (sc := defScope (top 19)) (by decide +kernel))
      (fun _ _ _ _ _ => pg_name (i := 1) nd rfl (Or.inl rfl)) (fun _ _ _ _ _ => pts_nil) (fun _ _ _ _ _ => pe_call GS hr (by rfl) gS FS.kp bS .nil pass0 (pa_cons (pv 1) pa_nil))) pa_nil)))))), ?_⟩
  refine ⟨_, rfl, fi, _, rfl, hf, true, rfl, iteT ?_⟩
  refine ⟨_, rfl, fi, _, rfl, .inr hf, _, _, rfl, rfl, _, rfl, ?_⟩
  rw [decide_eq_true (show (2 : Int) ≤ ((first.map (·.1)).length : Int) by rw [List.length_map]; omega)]
  refine iteT ⟨_, rfl, fi, rfl, ⟨_, hf⟩, fun D nD => ?_⟩
  refine lc_tup (K := K) (a := fi) (xs := first.map (·.1)) (fun i H' => Same H H' ∧ H' D = some (.lst (List.replicate i (.bl true)))) ⟨same_upd nD, upd_same⟩ (fun i H' _ p => SqT.tups (same_tups p.1) hf) ?_ ?_
  · rintro i x H' hx ⟨s1, hacc⟩
    obtain ⟨s, hs2, rfl⟩ : ∃ s, first[i]? = some s ∧ s.1 = x := by
      rw [List.getElem?_map] at hx
      exact Option.map_eq_some_iff.mp hx
    have o1 := (hs s (List.mem_of_getElem? hs2)).tups (same_tups s1)
    have hi := (List.getElem?_eq_some_iff.mp hs2).1
    refine ⟨rfl, ?_⟩
    refine yes_if ?_
    refine ⟨_, rfl, s.1, s.2, rfl, o1.dp, o1.sy, o1.nn, o1.wt, fun H2 s2 => ⟨_, s2 _ _ hacc, ?_, ?_, ?_⟩⟩
    · rw [List.length_replicate, sizeLine_eq]
      omega
    · intro b ob eb
      rw [upd_ne (ne_of_none eb nD)]
      exact s2 _ _ (s1 _ _ eb)
    · rw [upd_same, List.replicate_succ']
  · rintro H' ⟨s1, hacc⟩
    refine ⟨D, List.replicate (first.map (·.1)).length true, rfl, SqL.of (by rw [List.map_replicate]; exact hacc), ?_⟩
    rw [all_rep]
    exact q H' s1
/-! ### a copy of a dict -/
theorem dc_copy {Q : VK} {d : Addr} {es : List Eh} {td tk tv : TE} {v0 v1 v2 v3 v4 v5 o6 o7 : Option V} (hd : H d = some (DkO w d es)) (D : DA K w H d es) (few : es.length ≤ 1000000)
    (htd : ∀ od (R : VK), R (.ref d) (upd H d (.frz od (DkO w d es))) → td [v0, v1, v2, v3, v4, v5, o6, o7] (upd H d (.frz od (DkO w d es))) R)
    (htk : ∀ x H1 (R : VK), R (x : Eh).2.1 H1 → tk [v0, v1, v2, v3, v4, v5, some x.2.1, o7] H1 R)
    (htv : ∀ x H1 (R : VK), x ∈ es → DA K w H1 d es → R (x : Eh).2.2 H1 → tv [v0, v1, v2, v3, v4, v5, some x.2.1, o7] H1 R)
    (q : ∀ Dn H', Same H H' → H Dn = none → H' Dn = some (DkO w Dn es) → Q (.ref Dn) H') :
    tLockE (tDcA K w (iKeysA w td) (gName 6) tk tv [6]) [v0, v1, v2, v3, v4, v5, o6, o7] H Q := by
  refine ⟨d, _, hd, trivial, fun od => ?_⟩
  refine htd od _ ⟨d, od, _, rfl, upd_same, fun Dn nD => ?_⟩
  have nDd : Dn ≠ d := by
    rintro rfl
    rw [upd_same] at nD
    cases nD
  have nDH : H Dn = none := by
    rw [upd_ne nDd] at nD
    exact nD
  have s0 : Same (upd H d (.frz od (DkO w d es))) (upd (upd H d (.frz od (DkO w d es))) Dn (DkO w Dn [])) := same_upd nD
  have tuL : Tups H (upd H d (.frz od (DkO w d es))) := Tups.upd (dk_ntup hd)
  refine dcA_it (walk_keysA (w := w) (d := d) (o := od) (es := es)) (fun i H' => Same (upd H d (.frz od (DkO w d es))) H' ∧ H' Dn = some (DkO w Dn (es.take i))) ⟨s0, upd_same⟩ (fun i H' _ ⟨s, _⟩ => s _ _ upd_same) ?_ ?_
  · rintro i x H1 H2 hi ⟨s1, hacc⟩ ⟨rfl, e, he, rfl⟩
    have me := List.mem_of_getElem? he
    have tu := Tups.trans tuL (same_tups s1)
    have D1 : DA K w H2 d es := ⟨.inr ⟨od, s1 _ _ upd_same⟩, fun y hy => ⟨(D.nk y hy).1.tups tu, (D.nk y hy).2⟩, D.nd⟩
    refine ⟨rfl, ?_⟩
    refine htk e _ _ (htv e _ _ me D1 ?_)
    have nd2 : ((es.take i).map (·.1)).Nodup := List.Sublist.nodup ((List.take_sublist i es).map _) D.nd
    have new : atK (es.take i) e.1 = none := atK_none.mpr fun y hy z => by
      obtain ⟨j, hj⟩ := List.getElem?_of_mem hy
      have lt : j < i := by
        have := (List.getElem?_eq_some_iff.mp hj).1
        rw [List.length_take] at this
        omega
      rw [List.getElem?_take_of_lt lt] at hj
      have h1 : (es.map (·.1))[j]? = some y.1 := by rw [List.getElem?_map, hj]; rfl
      have h2 : (es.map (·.1))[i]? = some y.1 := by
        rw [List.getElem?_map, he]
        exact congrArg some z.symm
      have l1 : j < (es.map (·.1)).length := by
        rw [List.length_map]
        omega
      have := (List.getElem?_inj l1 D.nd).mp (h1.trans h2.symm)
      omega
    have Dt : DA K w H2 Dn (es.take i) := ⟨.inl hacc, fun y hy => D1.nk y (List.mem_of_mem_take hy), nd2⟩
    refine ⟨es.take i, e.1, hacc, Dt, (D1.nk e me).1, (D1.nk e me).2, ?_, ?_, ?_⟩
    · rw [List.length_take, sizeLine_eq]
      omega
    · intro b ob eb
      rw [upd_ne (ne_of_none eb nD)]
      exact s1 _ _ eb
    · rw [upd_same, putE_new new, List.take_add_one, he]
      rfl
  · rintro H' ⟨s1, hacc⟩
    have lock := s1 _ _ (upd_same (H := H) (a := d))
    refine ⟨lock, ?_⟩
    rw [List.take_length] at hacc
    refine q Dn _ (fun b ob eb => ?_) nDH (by rw [upd_ne nDd]; exact hacc)
    by_cases e : b = d
    · subst e
      rw [hd] at eb
      cases eb
      exact upd_same
    · rw [upd_ne e]
      exact s1 _ _ (by rw [upd_ne e]; exact eb)
end
end K15

set_option Elab.async false
set_option linter.all false
set_option maxRecDepth 100000
set_option maxHeartbeats 4000000
namespace K15
open PySem PySem.Spec PyProof.Rows L2 Pen Tr AK LamX
/-- the class Sweeps -/
structure SwF (K : PySem.W.Frag) (C : Addr) : Prop where
  cl : Cls K C
  fi : NoAttr K C "first"
  be : NoAttr K C "begin"
  st : NoAttr K C "steps"
  tu : NoAttr K C "turns"
  le : NoAttr K C "letters"
  ss : NoAttr K C "states"
/-- the two tables, with all that stands in them -/
structure TabE (K : PySem.W.Frag) (w : World) (H : Hp) (ds dt : Addr) (m : Mac) (es et : List Eh) : Prop where
  h1 : H ds = some (DkO w ds es)
  h2 : H dt = some (DkO w dt et)
  d1 : DA K w H ds es
  d2 : DA K w H dt et
  s : ∀ b d e, d ∈ m.sd b → e ∈ m.ld → ∃ q, atK es (kS b d e) = some (.ref q) ∧ SqT K H q [(m.step b d e).1.1, (m.step b d e).2.1]
  t : ∀ b d, d ∈ m.sd b → ∃ v, atK et (kT b d) = some v ∧ TurnAt K H v (m.turn b d)
  se : ∀ x ∈ es, StepE K H x
  te : ∀ x ∈ et, TurnE K H x
  f1 : es.length ≤ 900000
  f2 : et.length ≤ 900000
section
variable {K : PySem.W.Frag} {w : World} {H H' : Hp} {ds dt : Addr} {m : Mac} {es et : List Eh} {R : RA} {t : St} {TT : List (Addr × Str)}
theorem TabE.tabM (T : TabE K w H ds dt m es et) : TabM K w H ds dt m := ⟨es, et, T.d1, T.d2, T.s, T.t⟩
/-- with other dicts of the same entries -/
theorem TabE.keep (T : TabE K w H ds dt m es et) (tu : Tups H H') {ds' dt' : Addr} (h1 : H' ds' = some (DkO w ds' es)) (h2 : H' dt' = some (DkO w dt' et)) : TabE K w H' ds' dt' m es et :=
  ⟨h1, h2, ⟨.inl h1, fun x hx => ⟨(T.d1.nk x hx).1.tups tu, (T.d1.nk x hx).2⟩, T.d1.nd⟩, ⟨.inl h2, fun x hx => ⟨(T.d2.nk x hx).1.tups tu, (T.d2.nk x hx).2⟩, T.d2.nd⟩, fun b d e hd he => by
    obtain ⟨q, z1, z2⟩ := T.s b d e hd he
    exact ⟨q, z1, SqT.tups tu z2⟩, fun b d hd => by
    obtain ⟨v, z1, z2⟩ := T.t b d hd
    exact ⟨v, z1, z2.tups tu⟩, fun x hx => (T.se x hx).tups tu, fun x hx => (T.te x hx).tups tu, T.f1, T.f2⟩
theorem TabE.same (T : TabE K w H ds dt m es et) (s : Same H H') : TabE K w H' ds dt m es et := T.keep (same_tups s) (s _ _ T.h1) (s _ _ T.h2)
/-- what is looked at of a reach that is done -/
structure RZ (K : PySem.W.Frag) (w : World) (R : RA) (t : St) (H : Hp) : Prop where
  ins : H R.a = some (.ins R.C R.dx (fldsR R))
  dl : H R.dl = some (DkO w R.dl (entS t.ls))
  dS : H R.dS = some (DkO w R.dS (entB R))
  db : ∀ b, H (R.db b) = some (DkO w (R.db b) (entS (t.ss b)))
  lnd : ((entS t.ls).map (·.1)).Nodup
  snd : ∀ b, ((entS (t.ss b)).map (·.1)).Nodup
  lsO : ∀ s ∈ t.ls, SyOk K H s
  ssO : ∀ b, ∀ s ∈ t.ss b, SyOk K H s
  lf : t.ls.length ≤ 100
  sf : ∀ b, (t.ss b).length ≤ 100
theorem RS.z {H0 : Hp} (r : RS K w H0 R m t H) : RZ K w R t H :=
  ⟨r.ins, r.dl, r.dS, r.db, r.lnd, r.snd, fun s hs => (r.lsO s hs).1, fun b s hs => (r.ssO b s hs).1, Nat.le_trans (Nat.le_trans r.lle r.mac.lf) (by decide), fun b => Nat.le_trans (r.ssp b) (by decide)⟩
theorem RZ.butN (z : RZ K w R t H) {a C dx : Addr} {fs : List (Str × V)} (b : ButN a H H') (ha : H a = some (.ins C dx fs)) (ne : R.a ≠ a) : RZ K w R t H' := by
  have tu := ButN.tups b ha
  have k : ∀ {d : Addr} {es : List Eh}, H d = some (DkO w d es) → H' d = some (DkO w d es) := fun h => b _ _ h (fun _ z => nomatch z) (ne_of h ha fun z => nomatch z)
  exact ⟨b _ _ z.ins (fun _ z => nomatch z) ne, k z.dl, k z.dS, fun c => k (z.db c), z.lnd, z.snd, fun s hs => (z.lsO s hs).tups tu, fun c s hs => (z.ssO c s hs).tups tu, z.lf, z.sf⟩
theorem RZ.ext (z : RZ K w R t H) (e : ExtN H H') : RZ K w R t H' := by
  have tu := ExtN.tups e
  have k : ∀ {d : Addr} {es : List Eh}, H d = some (DkO w d es) → H' d = some (DkO w d es) := fun h => e _ _ h fun _ z => nomatch z
  exact ⟨e _ _ z.ins (fun _ z => nomatch z), k z.dl, k z.dS, fun c => k (z.db c), z.lnd, z.snd, fun s hs => (z.lsO s hs).tups tu, fun c s hs => (z.ssO c s hs).tups tu, z.lf, z.sf⟩
/-- a code object is none of these dicts -/
theorem code_ne_dk {c d : Addr} {q : Str} {es : List Eh} : CodeO c q ≠ DkO w d es := fun z => by
  injection z with z
  have hz := congrFun z
  let o1 : Obj := { cls := .type "code", data := .fields #[.none, .str q 0] }
  let h0 : Heap := { objs := Array.replicate (c + 1) o1 }
  have g0 : ∀ b, b < c + 1 → h0.get? b = some o1 := fun b hb => by
    have : h0.objs[b]? = some o1 := by
      show (Array.replicate (c + 1) o1)[b]? = some o1
      rw [Array.getElem?_replicate, if_pos hb]
    exact PySem.Heap.get?_some_iff.mpr ⟨this, rfl⟩
  have yes : DkRaw w d es h0 := (hz h0) ▸ ⟨o1, #[.none, .str q 0], 0, g0 c (Nat.lt_succ_self c), rfl, rfl⟩
  obtain ⟨_, _, o, arr, ep, us, ho, hx, hd, _⟩ := yes
  by_cases hb : d < c + 1
  · rw [g0 d hb] at ho
    cases ho
    cases hd
  · have no : h0.get? d = none := by
      cases e : h0.get? d with
      | none => rfl
      | some u =>
        have := (PySem.Heap.get?_some_iff.mp e).1
        have e2 : (Array.replicate (c + 1) o1)[d]? = none := by
          rw [Array.getElem?_replicate, if_neg hb]
        rw [show h0.objs = Array.replicate (c + 1) o1 from rfl, e2] at this
        cases this
    rw [no] at ho
    cases ho
theorem Tabs.updK {T : List (Addr × Str)} {x : Addr} {es : List Eh} {o : HO} (t : Tabs T H) (h : H x = some (DkO w x es)) : Tabs T (L2.upd H x o) := fun y hy => by
  obtain ⟨ps, h1, h2, h3⟩ := t y hy
  have n1 : ∀ {b : Addr} {u : HO}, H b = some u → u ≠ DkO w x es → b ≠ x := fun e n z => by
    rw [z, h] at e
    exact n (Option.some.inj e).symm
  refine ⟨ps, by rw [upd_ne (n1 h1 fun z => nomatch z)]; exact h1, h2, fun pos cv hc => ?_⟩
  obtain ⟨c, e1, e2⟩ := h3 pos cv hc
  exact ⟨c, e1, by rw [upd_ne (n1 e2 code_ne_dk)]; exact e2⟩
theorem text_da {d : Addr} {i : Nat} {es : List Eh} (h : Rd H d (DkO w d es)) (e : es.map (fun x => (x.1, x.2.1)) = [((.text "l" : NestedKey), V.str "l"), (.text "r", .str "r")].take i) : DA K w H d es := by
  refine ⟨h, fun x hx => ?_, ?_⟩
  · have m1 : (x.1, x.2.1) ∈ [((.text "l" : NestedKey), V.str "l"), (.text "r", .str "r")] := List.mem_of_mem_take (e ▸ List.mem_map.mpr ⟨x, hx, rfl⟩)
    simp only [List.mem_cons, List.not_mem_nil, or_false] at m1
    rcases m1 with m1 | m1 <;> (obtain ⟨a1, a2⟩ := Prod.mk.inj m1; rw [a1, a2]; exact ⟨nk_text, Nat.zero_le _⟩)
  · have e2 : es.map (·.1) = ([((.text "l" : NestedKey), V.str "l"), (.text "r", .str "r")].take i).map (·.1) := by
      rw [← e, List.map_map]
      rfl
    rw [e2]
    exact List.Sublist.nodup ((List.take_sublist i _).map _) (show ([NestedKey.text "l", NestedKey.text "r"] : List NestedKey).Nodup by decide)
theorem Tabs.updF {T : List (Addr × Str)} {x : Addr} {od : Obj} {u o : HO} (t : Tabs T H) (h : H x = some (.frz od u)) : Tabs T (L2.upd H x o) := fun y hy => by
  obtain ⟨ps, h1, h2, h3⟩ := t y hy
  refine ⟨ps, by rw [upd_ne (ne_of h1 h fun z => nomatch z)]; exact h1, h2, fun pos cv hc => ?_⟩
  obtain ⟨c, e1, e2⟩ := h3 pos cv hc
  exact ⟨c, e1, by rw [upd_ne (ne_of e2 h fun z => nomatch z)]; exact e2⟩
/-- what stays while a machine is made -/
structure Ph (K : PySem.W.Frag) (w : World) (TT : List (Addr × Str)) (R : RA) (t : St) (ds dt : Addr) (m : Mac) (es et : List Eh) (fi : Addr) (first : List Sy) (a : Addr) (H0 H : Hp) : Prop where
  z : RZ K w R t H
  tab : TabE K w H ds dt m es et
  fi : SqT K H fi (first.map (·.1))
  tabs : Tabs TT H
  b : ButN a H0 H
section
variable {fi a : Addr} {first : List Sy} {H0 : Hp}
theorem Ph.but (p : Ph K w TT R t ds dt m es et fi first a H0 H) {C dx : Addr} {fs : List (Str × V)} (ha : H a = some (.ins C dx fs)) (b : But a H H') (ne : R.a ≠ a) : Ph K w TT R t ds dt m es et fi first a H0 H' := by
  have tu := But.tups b ha
  exact ⟨p.z.butN (ButN.of b) ha ne, p.tab.keep tu (b _ _ p.tab.h1 (ne_of p.tab.h1 ha fun z => nomatch z)) (b _ _ p.tab.h2 (ne_of p.tab.h2 ha fun z => nomatch z)), SqT.tups tu p.fi, Tr.Tabs.but p.tabs ha b, ButN.trans p.b (ButN.of b)⟩
theorem Ph.ext (p : Ph K w TT R t ds dt m es et fi first a H0 H) (e : ExtN H H') (tt : Tabs TT H') : Ph K w TT R t ds dt m es et fi first a H0 H' :=
  ⟨p.z.ext e, p.tab.keep (ExtN.tups e) (e _ _ p.tab.h1 fun _ z => nomatch z) (e _ _ p.tab.h2 fun _ z => nomatch z), SqT.tups (ExtN.tups e) p.fi, tt, fun c o h n k => e _ _ (p.b c o h n k) n⟩
theorem Ph.same (p : Ph K w TT R t ds dt m es et fi first a H0 H) (s : Same H H') : Ph K w TT R t ds dt m es et fi first a H0 H' := p.ext (ExtN.of s) (p.tabs.ext s)
end
/-- the letters that come -/
structure LvOk (K : PySem.W.Frag) (H : Hp) (m : Mac) (first : List Sy) (be : Sy) (v : V) : Prop where
  ex : ∃ lp, ∃ lv : List Sy, v = .ref lp ∧ SqT K H lp (lv.map (·.1)) ∧ lv ≠ [] ∧ (∀ s ∈ lv, SyOk K H s ∧ s.2 ∈ m.ld) ∧ (lv.map fun s => kOf s.2).Nodup ∧ Clo m first be (lv.map (·.2))
theorem LvOk.tups {H' : Hp} {first : List Sy} {be : Sy} {v : V} (o : LvOk K H m first be v) (t : Tups H H') : LvOk K H' m first be v := by
  obtain ⟨lp, lv, h1, h2, h3, h4, h5⟩ := o.ex
  exact ⟨lp, lv, h1, SqT.tups t h2, h3, fun s hs => ⟨(h4 s hs).1.tups t, (h4 s hs).2⟩, h5⟩
/-- a machine made -/
structure SwO (K : PySem.W.Frag) (w : World) (C : Addr) (H : Hp) (a : Addr) (m : Mac) (first : List Sy) (be : Sy) : Prop where
  ex : ∃ dx fi ds dt v v2, H a = some (.ins C dx [("first", .ref fi), ("begin", be.1), ("steps", .ref ds), ("turns", .ref dt), ("letters", v), ("states", v2)]) ∧ SqT K H fi (first.map (·.1)) ∧ TabM K w H ds dt m ∧ LvOk K H m first be v
end
section
variable {P : Program} {w : World} {K : PySem.W.Frag} {mg : Str → Option PySem.Value} {base : Heap} {f C CR fF fS fA fB fR fY : Addr} {fd fdF fdS fdA fdB fdR fdY : FuncData} {H H' : Hp} {m : Mac} {TT : List (Addr × Str)}
def spSw (K : PySem.W.Frag) (w : World) (C : Addr) (TT : List (Addr × Str)) : Sp := fun vs H Q _ => ∃ a dx fi ds dt m be es et, ∃ first : List Sy, vs = [.ref a, .ref fi, (be : Sy).1, .ref ds, .ref dt] ∧ H a = some (.ins C dx []) ∧ SqT K H fi (first.map (·.1)) ∧ (∀ s ∈ first, SyOk K H s ∧ s.2 ∈ (m : Mac).ld) ∧
  2 ≤ first.length ∧ first.length ≤ 80 ∧ (SyOk K H be ∧ be.2 ∈ m.sd false) ∧ MacOk K H m ∧ TabE K w H ds dt m es et ∧ ds ≠ dt ∧ Tabs TT H ∧ ∀ H', ButN a H H' → Tabs TT H' → SwO K w C H' a m first be → Q .non H'
abbrev nSw : List Str := ["self", "first", "begin", "steps", "turns", "reach", "key", "direction"]
theorem scSw : FnScope nSw ["self", "first", "begin", "steps", "turns"] (defScope (cSw 0)) := ⟨rfl, rfl, rfl, by decide +kernel, rfl, by decide +kernel, by decide +kernel⟩
theorem ok_sweeps (F : FnM K "__init__" "Sweeps.__init__" (cSw 0) f fd) (TX : Txt mg) (SF : SwF K C) (RF : ReF K CR)
    (FF : FnT K "is_first" 19 fF fdF) (gF : mg "is_first" = some (.ref fF)) (GF : FnOk P w K mg base CX0 4 fF fdF ["first"] (spFirst K)) (FS : FnT K "is_symbol" 11 fS fdS) (gS : mg "is_symbol" = some (.ref fS)) (GS : FnOk P w K mg base CX0 3 fS fdS ["value"] (spSymb K))
    (FA : FnT K "are_steps" 20 fA fdA) (gA : mg "are_steps" = some (.ref fA)) (GA : FnOk P w K mg base CX0 5 fA fdA ["steps"] (spSteps K w)) (FB : FnT K "are_turns" 22 fB fdB) (gB : mg "are_turns" = some (.ref fB)) (GB : FnOk P w K mg base CX0 5 fB fdB ["turns"] (spTurns K w))
    (FR : FnM K "__init__" "Reach.__init__" (cReach 0) fR fdR) (MR : Mk K CR fR) (GR : FnOk P w K mg base CX0 4 fR fdR ["self", "first", "begin", "steps", "turns"] (spRe K w CR)) (gR : mg "Reach" = some (.ref CR))
    (FY : FnT K "by_repr" 14 fY fdY) (gY : mg "by_repr" = some (.ref fY)) (GY : GFn P w K mg base CX0 4 fY fdY ["values"] (spBy K w TT)) : GFn P w K mg base CX0 6 f fd ["self", "first", "begin", "steps", "turns"] (spSw K w C TT) := by
  refine GFn.of F scSw (fun vs H Q E h => by obtain ⟨a, dx, fi, ds, dt, m, be, es, et, first, rfl, _⟩ := h; rfl) (fun c A outer s0 H vs Q E hc hr free h => ?_)
  obtain ⟨a, dx, fi, ds, dt, m, be, es, et, first, rfl, ha, hfi, hfs, l2, few, hbe, mac, tab, nst, tabs, q⟩ := h
  have nd := scSw.nd
  have hu := hr.units
  suffices z : ∃ t, PSs (cxOf CX0 P w K mg base nSw "Sweeps.__init__" (defScope (cSw 0)) f (.ref c) A outer s0 H E).nox (defBody (cSw 0)) t ∧ t { nx := fun _ H' => Q .non H', rt := Q } (start nSw [.ref a, .ref fi, be.1, .ref ds, .ref dt]) H by
    obtain ⟨t, h1, h2⟩ := z
    exact ⟨t, h1.nox, h2⟩
  have bF : L2.Binds K fdF ["first"] [] := FunD.bindsN FF fun _ _ _ _ _ _ us hl => match us, hl with | [_], _ => rfl
  have bS : L2.Binds K fdS ["value"] [] := FunD.bindsN FS fun _ _ _ _ _ _ us hl => match us, hl with | [_], _ => rfl
  have bA : L2.Binds K fdA ["steps"] [] := FunD.bindsN FA fun _ _ _ _ _ _ us hl => match us, hl with | [_], _ => rfl
  have bB : L2.Binds K fdB ["turns"] [] := FunD.bindsN FB fun _ _ _ _ _ _ us hl => match us, hl with | [_], _ => rfl
  have bR : L2.Binds K fdR ["self", "first", "begin", "steps", "turns"] [] := FunD.bindsN FR fun _ _ _ _ _ _ us hl => match us, hl with | [_, _, _, _, _], _ => rfl
  have bY : L2.Binds K fdY ["values"] [] := FunD.bindsN FY fun _ _ _ _ _ _ us hl => match us, hl with | [_], _ => rfl
  refine ⟨_, pss_cons (ps_if (pt_not (pt_val (pe_call GF (hr.mono (by decide)) (by rfl) gF FF.kp bF .nil pass0 (pa_cons (pv 1) pa_nil)))) Tr.pss_never pss_nil)
    (pss_cons (ps_if (pt_not (pt_val (pe_call GS (hr.mono (by decide)) (by rfl) gS FS.kp bS .nil pass0 (pa_cons (pv 2) pa_nil)))) Tr.pss_never pss_nil)
    (pss_cons (ps_if (pt_not (pt_val (pe_call GA (hr.mono (by decide)) (by rfl) gA FA.kp bA .nil pass0 (pa_cons (pv 3) pa_nil)))) Tr.pss_never pss_nil)
    (pss_cons (ps_if (pt_not (pt_val (pe_call GB (hr.mono (by decide)) (by rfl) gB FB.kp bB .nil pass0 (pa_cons (pv 4) pa_nil)))) Tr.pss_never pss_nil)
    (pss_cons (ps_asg (pe_make MR GR hr (by rfl) gR bR .nil pass0 (pa_cons (pv 1) (pa_cons (pv 2) (pa_cons (pv 3) (pa_cons (pv 4) pa_nil))))) (pg_name (i := 5) nd rfl (.inr rfl)))
    (pss_cons (ps_if (pt_truth (pe_fld (pv 5) rfl) (by intro _; rfl)) Tr.pss_never pss_nil)
    (pss_cons (ps_fld (pv 0) (pv 1) rfl) (pss_cons (ps_fld (pv 0) (pv 2) rfl)
    (pss_cons (ps_fld (pv 0) (pe_lock (pe_dcA (own := [("key", 6)]) (g := gName 6) (tk := tVar 6) (tv := tOp (rIxA K w) (tVar 3) (tVar 6)) hu (by rfl) nd (pi_keysA (pv 3)) (blkOk_by (own := [("key", 6)]) (N := nSw) (sc := defScope (cSw 0)) (by decide +kernel)) (fun _ _ _ _ _ => pg_name (i := 6) nd rfl (.inl rfl)) (fun _ _ _ _ _ => pv 6) (fun _ _ _ _ _ => pe_ix (ix_dictA hu) (pv 3) (pv 6) (fun _ _ => rfl)))) rfl)
    (pss_cons (ps_fld (pv 0) (pe_lock (pe_dcA (own := [("key", 6)]) (g := gName 6) (tk := tVar 6) (tv := tOp (rIxA K w) (tVar 4) (tVar 6)) hu (by rfl) nd (pi_keysA (pv 4)) (blkOk_by (own := [("key", 6)]) (N := nSw) (sc := defScope (cSw 0)) (by decide +kernel)) (fun _ _ _ _ _ => pg_name (i := 6) nd rfl (.inl rfl)) (fun _ _ _ _ _ => pv 6) (fun _ _ _ _ _ => pe_ix (ix_dictA hu) (pv 4) (pv 6) (fun _ _ => rfl)))) rfl)
    (pss_cons (ps_fld (pv 0) (pe_callG GY free (hr.mono (by decide)) (by rfl) gY FY.kp bY pass0 (pa_cons (pe_fld (pv 5) rfl) pa_nil)) rfl)
    (pss_one (ps_fld (pv 0) (pe_lock (pe_dcA (own := [("direction", 7)]) (g := gName 7) (tk := tVar 7) (tv := fun σ H Q => tCons (tOp (rIxA K w) (tFld K (tVar 5) "states") (tVar 7)) tNil σ H fun vs H1 => spBy K w TT vs H1 Q E0) hu (by rfl) nd (pi_keysA (pe_fld (pv 5) rfl)) (blkOk_by (own := [("direction", 7)]) (N := nSw) (sc := defScope (cSw 0)) (by decide +kernel))
      (fun _ _ _ _ _ => pg_name (i := 7) nd rfl (.inl rfl)) (fun _ _ _ _ _ => pv 7) (fun _ _ _ _ _ => pe_callG GY free (hr.mono (by decide)) (by rfl) gY FY.kp bY pass0 (pa_cons (pe_ix (ix_dictA hu) (pe_fld (pv 5) rfl) (pv 7) (fun _ _ => rfl)) pa_nil)))) rfl)))))))))))), ?_⟩
  refine ⟨_, rfl, fi, first, rfl, hfi, fun s hs => (hfs s hs).1, l2, by omega, fun H1 s1 => ⟨true, rfl, ?_⟩⟩
  have be1 := hbe.1.tups (same_tups s1)
  refine iteF ⟨_, rfl, be.1, be.2, rfl, be1.dp, be1.sy, be1.nn, be1.wt, fun H2 s2 => ⟨true, rfl, ?_⟩⟩
  have s02 := same_trans s1 s2
  have tab2 := tab.same s02
  refine iteF ⟨_, rfl, ds, es, rfl, tab2.h1, tab2.d1, tab2.se, tab2.f1, fun H3 s3 => ⟨true, rfl, ?_⟩⟩
  have s03 := same_trans s02 s3
  have tab3 := tab.same s03
  refine iteF ⟨_, rfl, dt, et, rfl, tab3.h2, tab3.d2, tab3.te, tab3.f2, fun H4 s4 => ⟨true, rfl, ?_⟩⟩
  have s04 := same_trans s03 s4
  have tab4 := tab.same s04
  clear s1 s2 s3 s4 s02 s03 tab2 tab3 be1
  -- the reach
  refine iteF ⟨_, rfl, _, rfl, _, rfl, _, rfl, fun r rx nr nrx nrr => ?_⟩
  have s5 : Same H4 (upd (upd H4 rx (.own r)) r (.ins CR rx [])) := ins_new nr nrx
  have s05 := same_trans s04 s5
  refine ⟨r, rx, fi, ds, dt, m, be, first, rfl, upd_same, SqT.tups (same_tups s05) hfi, fun s hs => ⟨(hfs s hs).1.tups (same_tups s05), (hfs s hs).2⟩, few, ⟨hbe.1.tups (same_tups s05), hbe.2⟩, mac.tups (same_tups s05), (tab.same s05).tabM, nst, fun R t H6 eR eC rs ne6 clo6 => ⟨rfl, ?_⟩⟩
  have ne6 : t.ls ≠ [] := ne6 (by intro z; rw [z] at l2; simp at l2)
  have ml6 : ∀ s ∈ t.ls, s.2 ∈ m.ld := fun s hs => (rs.lsO s hs).2
  subst eR eC
  have s6 : Same H H6 := fun b o e => rs.out _ _ (s05 _ _ e) (ne_of_none (s04 _ _ e) nr)
  refine ⟨_, rfl, R.a, R.C, R.dx, _, .ref R.pm, rfl, rs.ins, RF.cl, RF.mi, rfl, false, .inl ⟨[], SqL.of rs.pm, rfl⟩, iteF ?_⟩
  have a6 := s6 _ _ ha
  have nRa : R.a ≠ a := Ne.symm (ne_of_none (s04 _ _ ha) nr)
  have p6 : Ph K w TT R t ds dt m es et fi first a H H6 := ⟨rs.z, tab.same s6, SqT.tups (same_tups s6) hfi, tabs.ext s6, ButN.of (But.same s6)⟩
  obtain ⟨-, -, n3, n4, -⟩ := RA.nes rs.nd
  clear rs s6 s5 s05 s04 tab4
  refine ⟨_, rfl, _, rfl, a, C, dx, [], rfl, a6, SF.cl, SF.fi, (by show 0 < 1000; decide), ?_⟩
  refine at_new fun H7 e7 => ?_
  have a7 : H7 a = some (.ins C dx [("first", .ref fi)]) := by
    rw [e7]
    exact upd_same
  have p7 := p6.but a6 (H' := H7) (by rw [e7]; exact But.upd But.refl) nRa
  clear e7 p6
  refine ⟨_, rfl, _, rfl, a, C, dx, _, rfl, a7, SF.cl, SF.be, (by show 1 < 1000; decide), ?_⟩
  refine at_new fun H8 e8 => ?_
  have a8 : H8 a = some (.ins C dx [("first", .ref fi), ("begin", be.1)]) := by
    rw [e8]
    exact upd_same
  have p8 := p7.but a7 (H' := H8) (by rw [e8]; exact But.upd But.refl) nRa
  clear e8 p7
  have f1 := tab.f1
  have f2 := tab.f2
  first
    | (change (tSeq (sFld K (tVar 0) (tLockE (tDcA K w (iKeysA w (tVar 3)) (gName 6) (tVar 6) (tOp (rIxA K w) (tVar 3) (tVar 6)) [6])) "steps") _) _ [some (.ref a), some (.ref fi), some be.1, some (.ref ds), some (.ref dt), some (.ref R.a), none, none] H8
       unfold tSeq)
    | change (sFld K (tVar 0) (tLockE (tDcA K w (iKeysA w (tVar 3)) (gName 6) (tVar 6) (tOp (rIxA K w) (tVar 3) (tVar 6)) [6])) "steps") _ [some (.ref a), some (.ref fi), some be.1, some (.ref ds), some (.ref dt), some (.ref R.a), none, none] H8
  change tLockE (tDcA K w (iKeysA w (tVar 3)) (gName 6) (tVar 6) (tOp (rIxA K w) (tVar 3) (tVar 6)) [6]) [some (.ref a), some (.ref fi), some be.1, some (.ref ds), some (.ref dt), some (.ref R.a), none, none] H8 _
  refine dc_copy (K := K) p8.tab.h1 p8.tab.d1 (by omega) (fun od R' q' => ⟨_, rfl, q'⟩) (fun x H' R' q' => ⟨_, rfl, q'⟩) (fun x H' R' mx D1 q' => ⟨_, rfl, _, rfl, ds, es, x.1, x.2.2, rfl, D1, (D1.nk x mx).1, (D1.nk x mx).2, atK_mem D1.nd mx, q'⟩) fun n1 H9 s9 nn1 at9 => ?_
  have g1 : n1 ≠ a := Ne.symm (ne_of_none a8 nn1)
  refine ⟨_, rfl, a, C, dx, _, rfl, s9 _ _ a8, SF.cl, SF.st, (by show 2 < 1000; decide), ?_⟩
  refine at_new fun H10 e10 => ?_
  have a10 : H10 a = some (.ins C dx [("first", .ref fi), ("begin", be.1), ("steps", .ref n1)]) := by
    rw [e10]
    exact upd_same
  have b10 : But a H9 H10 := by
    rw [e10]
    exact But.upd But.refl
  have p10 := (p8.same s9).but (s9 _ _ a8) b10 nRa
  have n10 := b10 _ _ at9 g1
  clear e10 p8 b10
  first
    | (change (tSeq (sFld K (tVar 0) (tLockE (tDcA K w (iKeysA w (tVar 4)) (gName 6) (tVar 6) (tOp (rIxA K w) (tVar 4) (tVar 6)) [6])) "turns") _) _ [some (.ref a), some (.ref fi), some be.1, some (.ref ds), some (.ref dt), some (.ref R.a), none, none] H10
       unfold tSeq)
    | change (sFld K (tVar 0) (tLockE (tDcA K w (iKeysA w (tVar 4)) (gName 6) (tVar 6) (tOp (rIxA K w) (tVar 4) (tVar 6)) [6])) "turns") _ [some (.ref a), some (.ref fi), some be.1, some (.ref ds), some (.ref dt), some (.ref R.a), none, none] H10
  change tLockE (tDcA K w (iKeysA w (tVar 4)) (gName 6) (tVar 6) (tOp (rIxA K w) (tVar 4) (tVar 6)) [6]) [some (.ref a), some (.ref fi), some be.1, some (.ref ds), some (.ref dt), some (.ref R.a), none, none] H10 _
  refine dc_copy (K := K) p10.tab.h2 p10.tab.d2 (by omega) (fun od R' q' => ⟨_, rfl, q'⟩) (fun x H' R' q' => ⟨_, rfl, q'⟩) (fun x H' R' mx D1 q' => ⟨_, rfl, _, rfl, dt, et, x.1, x.2.2, rfl, D1, (D1.nk x mx).1, (D1.nk x mx).2, atK_mem D1.nd mx, q'⟩) fun n2 H11 s11 nn2 at11 => ?_
  have g2 : n2 ≠ a := Ne.symm (ne_of_none a10 nn2)
  refine ⟨_, rfl, a, C, dx, _, rfl, s11 _ _ a10, SF.cl, SF.tu, (by show 3 < 1000; decide), ?_⟩
  refine at_new fun H12 e12 => ?_
  have a12 : H12 a = some (.ins C dx [("first", .ref fi), ("begin", be.1), ("steps", .ref n1), ("turns", .ref n2)]) := by
    rw [e12]
    exact upd_same
  have b12 : But a H11 H12 := by
    rw [e12]
    exact But.upd But.refl
  have p12 := (p10.same s11).but (s11 _ _ a10) b12 nRa
  have n12 := b12 _ _ (s11 _ _ n10) g1
  have m12 := b12 _ _ at11 g2
  clear e12 p10 b12
  -- the letters
  have dal : DA K w H12 R.dl (entS t.ls) := da_ent (.inl p12.z.dl) p12.z.lsO p12.z.lnd
  refine ⟨_, rfl, R.a, R.C, R.dx, _, .ref R.dl, rfl, p12.z.ins, RF.cl, RF.le, rfl, .ref R.dl, t.ls, rfl, p12.tabs, ⟨R.dl, rfl, .inr ⟨entS t.ls, dal, by simp [entS]⟩⟩, fun s hs => (p12.z.lsO s hs).sh, Nat.le_trans p12.z.lf (by decide), fun lp H13 e13 t13 hlp => ?_⟩
  have a13 := e13 _ _ a12 fun _ z => nomatch z
  refine ⟨_, rfl, a, C, dx, _, rfl, a13, SF.cl, SF.le, (by show 4 < 1000; decide), ?_⟩
  refine at_new fun H14 e14 => ?_
  have a14 : H14 a = some (.ins C dx [("first", .ref fi), ("begin", be.1), ("steps", .ref n1), ("turns", .ref n2), ("letters", .ref lp)]) := by
    rw [e14]
    exact upd_same
  have b14 : But a H13 H14 := by
    rw [e14]
    exact But.upd But.refl
  have p14 := (p12.ext e13 t13).but a13 b14 nRa
  have n14 := b14 _ _ (e13 _ _ n12 fun _ z => nomatch z) g1
  have m14 := b14 _ _ (e13 _ _ m12 fun _ z => nomatch z) g2
  have hl14 := SqT.tups (But.tups b14 a13) hlp
  clear e14 p12 b14 dal
  -- the states
  refine ⟨R.dS, _, p14.z.dS, trivial, fun od => ?_⟩
  have keepL : ∀ {b : Addr} {o : HO}, b ≠ R.dS → H14 b = some o → upd H14 R.dS (.frz od (DkO w R.dS (entB R))) b = some o := fun n e => by
    rw [upd_ne n]
    exact e
  have insL := keepL (ne_of p14.z.ins p14.z.dS fun z => nomatch z) p14.z.ins
  have dbL := fun b => keepL (Ne.symm (n4 b).2.2.1) (p14.z.db b)
  have tuL : Tups H14 (upd H14 R.dS (.frz od (DkO w R.dS (entB R)))) := Tups.upd (dk_ntup p14.z.dS)
  have tabL : Tabs TT (upd H14 R.dS (.frz od (DkO w R.dS (entB R)))) := Tabs.updK p14.tabs p14.z.dS
  have lockL : upd H14 R.dS (.frz od (DkO w R.dS (entB R))) R.dS = some (.frz od (DkO w R.dS (entB R))) := upd_same
  refine ⟨_, rfl, R.a, R.C, R.dx, _, .ref R.dS, rfl, insL, RF.cl, RF.ss, rfl, R.dS, od, _, rfl, lockL, fun Dn nD => ?_⟩
  generalize eL : upd H14 R.dS (.frz od (DkO w R.dS (entB R))) = HL at insL dbL tuL tabL lockL nD
  have nDS : Dn ≠ R.dS := Ne.symm (ne_of_none lockL nD)
  refine dcA_it (K := K) (w := w) (g := gName 7) (tk := tVar 7) (tv := fun σ H Q => tCons (tOp (rIxA K w) (tFld K (tVar 5) "states") (tVar 7)) tNil σ H fun vs H1 => spBy K w TT vs H1 Q E0) (vs := [7]) (σ := [some (.ref a), some (.ref fi), some be.1, some (.ref ds), some (.ref dt), some (.ref R.a), none, none]) (d := Dn) (H1 := HL)
    (walk_keysA (w := w) (d := R.dS) (o := od) (es := entB R)) (fun i H' => ExtN HL H' ∧ Tabs TT H' ∧ ∃ es', H' Dn = some (DkO w Dn es') ∧ es'.map (fun x => (x.1, x.2.1)) = [((.text "l" : NestedKey), V.str "l"), (.text "r", .str "r")].take i) ?_ ?_ ?_ ?_
  · exact ⟨ExtN.of (same_upd nD), tabL.ext (same_upd nD), [], upd_same, rfl⟩
  · rintro i H' hi ⟨e1, _⟩
    exact e1 _ _ lockL fun _ z => nomatch z
  · rintro i x H1 H2 hi ⟨e1, t1, es', at', mp⟩ ⟨rfl, e, he, rfl⟩
    have hi : i < 2 := hi
    obtain ⟨b, rfl, hb, nb⟩ : ∃ b, e = ((.text (wayS b) : NestedKey), V.str (wayS b), V.ref (R.db b)) ∧ [((.text "l" : NestedKey), V.str "l"), (.text "r", .str "r")][i]? = some (.text (wayS b), .str (wayS b)) ∧ ∀ x ∈ [((.text "l" : NestedKey), V.str "l"), (.text "r", .str "r")].take i, x.1 ≠ .text (wayS b) := by
      match i, hi with
      | 0, _ => exact ⟨false, (Option.some.inj he).symm, rfl, fun _ h => nomatch h⟩
      | 1, _ => exact ⟨true, (Option.some.inj he).symm, rfl, fun x hx => by
          obtain rfl := List.mem_singleton.mp hx
          show ¬ (NestedKey.text "l" : NestedKey) = NestedKey.text "r"
          decide⟩
    have tu2 := Tups.trans tuL (ExtN.tups e1)
    have sh2 : ∀ s ∈ t.ss b, ShowOk K H2 s := fun s hs => ((p14.z.ssO b s hs).tups tu2).sh
    have da2 : DA K w H2 (R.db b) (entS (t.ss b)) := da_ent (.inl (e1 _ _ (dbL b) fun _ z => nomatch z)) (fun s hs => (p14.z.ssO b s hs).tups tu2) (p14.z.snd b)
    have daS : DA K w H2 R.dS (entB R) := ⟨.inr ⟨od, (e1 _ _ lockL fun _ z => nomatch z)⟩, fun x hx => by
      simp only [entB, List.mem_cons, List.not_mem_nil, or_false] at hx
      rcases hx with rfl | rfl <;> exact ⟨nk_text, Nat.zero_le _⟩, (show ([NestedKey.text "l", NestedKey.text "r"] : List NestedKey).Nodup by decide)⟩
    refine ⟨rfl, _, rfl, _, rfl, R.a, R.C, R.dx, _, .ref R.dS, rfl, (e1 _ _ insL fun _ z => nomatch z), RF.cl, RF.ss, rfl, _, rfl, R.dS, entB R, .text (wayS b), _, rfl, daS, nk_text, Nat.zero_le _, entB_at b, ?_⟩
    refine ⟨.ref (R.db b), t.ss b, rfl, t1, ⟨R.db b, rfl, .inr ⟨entS (t.ss b), da2, by simp [entS]⟩⟩, sh2, Nat.le_trans (p14.z.sf b) (by decide), fun lp2 H3 e3 t3 hlp2 => ?_⟩
    have at3 := e3 _ _ at' fun _ z => nomatch z
    have new : atK es' (.text (wayS b)) = none := atK_none.mpr fun y hy z => nb (y.1, y.2.1) (by rw [← mp]; exact List.mem_map.mpr ⟨y, hy, rfl⟩) z
    refine ⟨es', .text (wayS b), at3, text_da (.inl at3) mp, nk_text, Nat.zero_le _, ?_, fun c o hc nt => ?_, Tabs.updK t3 at3, _, upd_same, ?_⟩
    · have := congrArg List.length mp
      rw [List.length_map, List.length_take] at this
      rw [sizeLine_eq]
      omega
    · rw [upd_ne (ne_of_none hc nD)]
      exact e3 _ _ (e1 _ _ hc nt) nt
    · rw [putE_new new, List.map_append, mp, List.take_add_one, hb]
      rfl
  · rintro H' ⟨e1, t1, es', at', mp⟩
    have lock := e1 _ _ lockL fun _ z => nomatch z
    refine ⟨lock, ?_⟩
    have eU : ExtN H14 (upd H' R.dS (DkO w R.dS (entB R))) := fun c o hc nt => by
      by_cases e : c = R.dS
      · subst e
        rw [p14.z.dS] at hc
        cases hc
        exact upd_same
      · rw [upd_ne e]
        refine e1 _ _ ?_ nt
        rw [← eL, upd_ne e]
        exact hc
    have p15 := p14.ext eU (Tabs.updF t1 lock)
    have a15 := eU _ _ a14 fun _ z => nomatch z
    have n15 := eU _ _ n14 fun _ z => nomatch z
    have m15 := eU _ _ m14 fun _ z => nomatch z
    have hl15 := SqT.tups (ExtN.tups eU) hl14
    generalize upd H' R.dS (DkO w R.dS (entB R)) = H15 at p15 a15 n15 m15 hl15
    refine ⟨_, rfl, a, C, dx, _, rfl, a15, SF.cl, SF.ss, (by show 5 < 1000; decide), ?_⟩
    refine at_new fun H16 e16 => ?_
    have a16 : H16 a = some (.ins C dx [("first", .ref fi), ("begin", be.1), ("steps", .ref n1), ("turns", .ref n2), ("letters", .ref lp), ("states", .ref Dn)]) := by
      rw [e16]
      exact upd_same
    have b16 : But a H15 H16 := by
      rw [e16]
      exact But.upd But.refl
    have p16 := p15.but a15 b16 nRa
    refine q H16 p16.b p16.tabs ⟨dx, fi, n1, n2, _, _, a16, p16.fi, (p16.tab.keep Tups.rfl' (b16 _ _ n15 g1) (b16 _ _ m15 g2)).tabM, lp, srt t.ls, rfl, SqT.tups (But.tups b16 a15) hl15, ?_, ?_, ?_, ?_⟩
    · intro z
      have zl := srt_len t.ls
      rw [z] at zl
      exact ne6 (List.length_eq_zero_iff.mp zl.symm)
    · intro s hs
      have hs := (srt_perm t.ls).mem_iff.mp hs
      exact ⟨p16.z.lsO s hs, ml6 s hs⟩
    · refine ((srt_perm t.ls).map fun s => kOf s.2).nodup_iff.mpr ?_
      have z := p16.z.lnd
      rw [entS, List.map_map] at z
      exact z
    · obtain ⟨S, z1, z2, z3⟩ := clo6.ex
      have me : ∀ d, d ∈ (srt t.ls).map (·.2) ↔ d ∈ t.ls.map (·.2) := fun d => ((srt_perm t.ls).map (·.2)).mem_iff
      exact ⟨S, fun s hs => (me _).mpr (z1 s hs), z2, fun b d hd => ⟨fun e he => ⟨((z3 b d hd).1 e ((me _).mp he)).1, (me _).mpr ((z3 b d hd).1 e ((me _).mp he)).2⟩, fun s x e => ⟨((z3 b d hd).2 s x e).1, fun l hl => (me _).mpr (((z3 b d hd).2 s x e).2 l hl)⟩⟩⟩
end
end K15

set_option Elab.async false
set_option linter.all false
set_option maxRecDepth 100000
set_option maxHeartbeats 4000000
namespace K15
open PySem PySem.Spec PyProof.Rows L2 Pen Tr AK LamX
/-- o.f as one of several targets -/
def gFldT (K : PySem.W.Frag) (ta : TE) (f : Str) : TG := fun v σ H Q => ta σ H fun x H2 => ∃ a C dx fs, x = .ref a ∧ H2 a = some (.ins C dx fs) ∧ Cls K C ∧ NoAttr K C f ∧ fs.length < 1000 ∧ Q σ (upd H2 a (.ins C dx (putF f v fs)))
theorem pg_fldT {X : Cx} {o : PySem.Expr} {f : Str} {pos : Pos} {ta : TE} (ha : PE X o ta) : PG X (.Attribute o f pos) (gFldT X.K ta f) := by
  refine ⟨fun pins s σ H v u Q I r h => ?_⟩
  rw [assign_Attribute]
  refine wpAny_bind (wpAny_holding (thn (ha.run pins s σ H _ I h) fun ov s1 ⟨x, H1, I1, r1, a, C, dx, fs, ex, ea, c, n, l, q⟩ => ?_))
  subst ex
  obtain rfl : ov = PySem.Value.ref a := r1
  refine wpAny_bind (wpAny_standAt (wpAny_bind (wpAny_holding (setattr_ok I1 ea c n l r fun s3 I3 => ?_))))
  exact wpAny_release ⟨σ, _, I3, q⟩
/-! ### one sweep -/
def stepW (m : Mac) (b : Bool) (p : List Sy × Sy) (l : Sy) : List Sy × Sy := (p.1 ++ [(m.step b p.2.2 l.2).2], (m.step b p.2.2 l.2).1)
def walkW (m : Mac) (b : Bool) (s : Sy) (ls : List Sy) : List Sy × Sy := ls.foldl (stepW m b) ([], s)
def ordL (b : Bool) (xs : List Sy) : List Sy := if b then xs else xs.reverse
theorem ordL_map (b : Bool) (xs : List Sy) : (ordL b xs).map (·.1) = ordV b (xs.map (·.1)) := by
  cases b
  · simp [ordL, ordV]
  · rfl
theorem ordL_mem {b : Bool} {xs : List Sy} {x : Sy} : x ∈ ordL b xs ↔ x ∈ xs := by
  cases b
  · simp [ordL]
  · exact Iff.rfl
theorem ordL_len {b : Bool} {xs : List Sy} : (ordL b xs).length = xs.length := by
  cases b
  · simp [ordL]
  · rfl
theorem walkW_snoc {m : Mac} {b : Bool} {s l : Sy} {ls : List Sy} : walkW m b s (ls ++ [l]) = stepW m b (walkW m b s ls) l := by
  unfold walkW
  rw [List.foldl_append]
  rfl
theorem walkW_ok {K : PySem.W.Frag} {H : Hp} {m : Mac} (o : MacOk K H m) {b : Bool} {s : Sy} (hs : SyOk K H s ∧ s.2 ∈ m.sd b) (ls : List Sy) (h : ∀ l ∈ ls, SyOk K H l ∧ l.2 ∈ m.ld) :
    (∀ l ∈ (walkW m b s ls).1, SyOk K H l ∧ l.2 ∈ m.ld) ∧ (SyOk K H (walkW m b s ls).2 ∧ (walkW m b s ls).2.2 ∈ m.sd b) ∧ (walkW m b s ls).1.length = ls.length := by
  suffices z : ∀ (n : Nat), (∀ l ∈ (walkW m b s (ls.take n)).1, SyOk K H l ∧ l.2 ∈ m.ld) ∧ (SyOk K H (walkW m b s (ls.take n)).2 ∧ (walkW m b s (ls.take n)).2.2 ∈ m.sd b) ∧ (walkW m b s (ls.take n)).1.length = (ls.take n).length by
    have := z ls.length
    rwa [List.take_length] at this
  intro n
  induction n with
  | zero => exact ⟨fun _ h => (by simp [walkW] at h), hs, rfl⟩
  | succ n ih =>
    cases e : ls[n]? with
    | none =>
      rw [List.take_add_one, e]
      simpa using ih
    | some l =>
      rw [List.take_add_one, e]
      rw [show (some l).toList = [l] from rfl, walkW_snoc]
      obtain ⟨i1, i2, i3⟩ := ih
      have hl := h l (List.mem_of_getElem? e)
      obtain ⟨z1, z2, z3, z4⟩ := o.st b _ _ i2.2 hl.2
      refine ⟨fun x hx => ?_, ⟨z1, z2⟩, ?_⟩
      · rcases List.mem_append.mp hx with hx | hx
        · exact i1 x hx
        · obtain rfl := List.mem_singleton.mp hx
          exact ⟨z3, z4⟩
      · simp [stepW, i3]
structure WkF (K : PySem.W.Frag) (C : Addr) : Prop where
  cl : Cls K C
  sw : NoAttr K C "_sweeps"
  di : NoAttr K C "direction"
  st : NoAttr K C "state"
section
variable {P : Program} {w : World} {K : PySem.W.Frag} {mg : Str → Option PySem.Value} {base : Heap} {f C CS aO fO fT : Addr} {fd fdO fdT : FuncData} {H H' : Hp} {m : Mac} {first : List Sy} {be : Sy} {sw : Addr}
def wkO (C dx sw : Addr) (b : Bool) (s : Option Sy) : HO := .ins C dx [("_sweeps", .ref sw), ("direction", .str (wayS b)), ("state", optV s)]
theorem SwO.but (o : SwO K w CS H sw m first be) {a C dx : Addr} {fs : List (Str × V)} (ha : H a = some (.ins C dx fs)) (b : But a H H') (ne : sw ≠ a) : SwO K w CS H' sw m first be := by
  obtain ⟨dx2, fi, ds, dt, v, v2, h1, h2, h3, h4⟩ := o.ex
  have tu := But.tups b ha
  exact ⟨dx2, fi, ds, dt, v, v2, b _ _ h1 ne, SqT.tups tu h2, h3.keep tu fun c es _ h => But.rdk b ha h, h4.tups tu⟩
theorem SwO.same (o : SwO K w CS H sw m first be) (s : Same H H') : SwO K w CS H' sw m first be := by
  obtain ⟨dx2, fi, ds, dt, v, v2, h1, h2, h3, h4⟩ := o.ex
  exact ⟨dx2, fi, ds, dt, v, v2, s _ _ h1, SqT.tups (same_tups s) h2, h3.same s, h4.tups (same_tups s)⟩
theorem nkS {q : Addr} {b : Bool} {s l : Sy} (h : SqT K H q [.str (wayS b), s.1, l.1]) (o1 : SyOk K H s) (o2 : SyOk K H l) : NK K H (kS b s.2 l.2) (.ref q) :=
  ⟨.tuple [.str (wayS b), s.2, l.2], .tup h (.cons (.str _) (.cons o1.dp (.cons o2.dp .nil))), by simp [keyD, keyDs, menu_key _ o1.mem, menu_key _ o2.mem, kS]⟩
theorem nkT {q : Addr} {b : Bool} {s : Sy} (h : SqT K H q [.str (wayS b), s.1]) (o1 : SyOk K H s) : NK K H (kT b s.2) (.ref q) :=
  ⟨.tuple [.str (wayS b), s.2], .tup h (.cons (.str _) (.cons o1.dp .nil)), by simp [keyD, keyDs, menu_key _ o1.mem, kT]⟩
theorem depS {b : Bool} {s l : Sy} (o1 : SyOk K H s) (o2 : SyOk K H l) : (kS b s.2 l.2).depth ≤ 8 := by
  have h1 := menu_deep _ o1.mem
  have h2 := menu_deep _ o2.mem
  simp only [kS, NestedKey.depth, NestedKey.depthAll]
  omega
theorem depT {b : Bool} {s : Sy} (o1 : SyOk K H s) : (kT b s.2).depth ≤ 8 := by
  have h1 := menu_deep _ o1.mem
  simp only [kT, NestedKey.depth, NestedKey.depthAll]
  omega
/-- what _turn tells -/
def ToldAt (K : PySem.W.Frag) (H : Hp) (v : V) : Option (Sy × Option Sy) → Prop
  | none => v = .non
  | some (_, x) => ∃ q, v = .ref q ∧ SqT K H q [optV x]
def nextS : Option (Sy × Option Sy) → Option Sy
  | none => none
  | some (s, _) => some s
def spTurnW (K : PySem.W.Frag) (w : World) (C CS : Addr) : Sp := fun vs H Q _ => ∃ a dx sw m first be b s s0, vs = [.ref a, (s : Sy).1] ∧ H a = some (wkO C dx sw b s0) ∧ SwO K w CS H sw m first be ∧ sw ≠ a ∧ SyOk K H s ∧ s.2 ∈ (m : Mac).sd b ∧
  ∀ v H', But a H H' → H' a = some (wkO C dx sw (!b) (nextS (m.turn b s.2))) → ToldAt K H' v (m.turn b s.2) → Q v H'
abbrev nTu : List Str := ["self", "state", "turn", "extra"]
theorem scTu : FnScope nTu ["self", "state"] (defScope (cWk 2)) := ⟨rfl, rfl, rfl, by decide +kernel, rfl, by decide +kernel, by decide +kernel⟩
theorem ok_turnW (F : FnM K "_turn" "Walker._turn" (cWk 2) f fd) (WF : WkF K C) (SF : SwF K CS) (gO : mg "OTHER_DIRECTION" = some (.ref aO)) (hO : ∀ b, KDct K w aO (wayS b) (.str (wayS (!b)))) : FnOk P w K mg base CX0 1 f fd ["self", "state"] (spTurnW K w C CS) := by
  refine F.ok scTu (fun vs H Q E h => by obtain ⟨a, dx, sw, m, first, be, b, s, s0, rfl, _⟩ := h; rfl) (fun cdv A outer s0 H vs Q E hr h => ?_)
  obtain ⟨a, dx, sw, m, first, be, b, s, sx, rfl, ha, so, nsa, hs, ms, q⟩ := h
  have nd := scTu.nd
  have hu := hr.units
  suffices z : ∃ t, PSs (cxOf CX0 P w K mg base nTu "Walker._turn" (defScope (cWk 2)) f cdv A outer s0 H E).nox (defBody (cWk 2)) t ∧ t { nx := fun _ H' => Q .non H', rt := Q } (start nTu [.ref a, s.1]) H by
    obtain ⟨t, h1, h2⟩ := z
    exact ⟨t, h1.nox, h2⟩
  refine ⟨_, pss_cons (ps_asg (pe_ix (ix_dictA hu) (pe_fld (pe_fld (pv 0) rfl) rfl) (pe_tup (pa_cons (pe_fld (pv 0) rfl) (pa_cons (pv 1) pa_nil))) (fun _ _ => rfl)) (pg_name (i := 2) nd rfl (.inl rfl)))
    (pss_cons (ps_fld (pv 0) (pe_ix ix_kdict (pe_glob (by rfl) gO (v := .ref aO) rfl) (pe_fld (pv 0) rfl) (fun _ _ => rfl)) rfl)
    (pss_cons (ps_if (pt_cmpR op_isN (pv 2) pe_non (nomark _)) (pss_cons (ps_fld (pv 0) pe_non rfl) (pss_one (ps_ret pe_non))) pss_nil)
    (pss_cons (ps_asg (pv 2) (pg_tup (by rfl) (pgs_cons (pg_fldT (pv 0)) (pgs_cons (pg_name (i := 3) nd rfl (.inl rfl)) pgs_nil))))
    (pss_one (ps_ret (pe_tup (pa_cons (pv 3) pa_nil))))))), ?_⟩
  obtain ⟨dxs, fi, ds, dt, v, v2, hsw, hfi, T, _⟩ := so.ex
  obtain ⟨es, et, D1, D2, T1, T2⟩ := T.ex
  obtain ⟨tv, at1, tat⟩ := T2 b s.2 ms
  refine ⟨_, rfl, a, C, dx, _, .ref sw, rfl, ha, WF.cl, WF.sw, rfl, sw, CS, dxs, _, .ref dt, rfl, hsw, SF.cl, SF.tu, rfl, _, rfl, a, C, dx, _, .str (wayS b), rfl, ha, WF.cl, WF.di, rfl, _, rfl, (by show 2 ≤ sizeLine; rw [sizeLine_eq]; decide), fun p np => ?_⟩
  have s1 := same_upd (o := .tup [.str (wayS b), s.1]) np
  have hp : SqT K (upd H p (.tup [.str (wayS b), s.1])) p [.str (wayS b), s.1] := SqT.of upd_same
  generalize upd H p (.tup [.str (wayS b), s.1]) = H1 at s1 hp
  have o1 := hs.tups (same_tups s1)
  refine ⟨dt, et, kT b s.2, tv, rfl, daKeep D2 (same_tups s1) (same_rd s1 D2.at_), nkT hp o1, depT o1, at1, ?_⟩
  have a1 := s1 _ _ ha
  refine ⟨_, rfl, a, C, dx, _, .str (wayS b), rfl, a1, WF.cl, WF.di, rfl, aO, _, _, rfl, rfl, hO b, _, rfl, a, C, dx, _, rfl, a1, WF.cl, WF.di, (by show 3 < 1000; decide), ?_⟩
  refine at_new fun H2 e2 => ?_
  have a2 : H2 a = some (wkO C dx sw (!b) sx) := by
    rw [e2]
    exact upd_same
  have b12 : But a H1 H2 := by
    rw [e2]
    exact But.upd But.refl
  have b2 : But a H H2 := But.trans (But.same s1) b12
  clear e2
  have tat2 := tat.tups (But.tups b2 ha)
  refine ⟨_, rfl, rfl, _, rfl, ?_⟩
  cases tn : m.turn b s.2 with
  | none =>
    rw [tn] at tat2
    have e : tv = .non := tat2
    subst e
    refine iteT ⟨_, rfl, a, C, dx, _, rfl, a2, WF.cl, WF.st, (by show 3 < 1000; decide), ?_⟩
    refine at_new fun H3 e3 => ?_
    have a3 : H3 a = some (wkO C dx sw (!b) none) := by
      rw [e3]
      exact upd_same
    exact q .non H3 (by rw [e3]; exact But.upd b2) (by rw [tn]; exact a3) (by rw [tn]; exact rfl)
  | some y =>
    obtain ⟨s2, x2⟩ := y
    rw [tn] at tat2
    obtain ⟨p2, e, hp2⟩ := tat2
    subst e
    refine iteF ⟨_, rfl, p2, _, rfl, hp2, rfl, _, _, rfl, _, rfl, a, C, dx, _, rfl, a2, WF.cl, WF.st, (by show 3 < 1000; decide), ?_⟩
    obtain ⟨H3, e3⟩ : ∃ H3, H3 = upd H2 a (.ins C dx (putF "state" s2.1 [("_sweeps", .ref sw), ("direction", .str (wayS (!b))), ("state", optV sx)])) := ⟨_, rfl⟩
    rw [← e3]
    have a3 : H3 a = some (wkO C dx sw (!b) (some s2)) := by
      rw [e3]
      exact upd_same
    have b3 : But a H H3 := by
      rw [e3]
      exact But.upd b2
    clear e3
    refine ⟨_, _, rfl, rfl, _, rfl, (by show 1 ≤ sizeLine; rw [sizeLine_eq]; decide), fun p3 np3 => ?_⟩
    have s4 := same_upd (o := .tup [optV x2]) np3
    exact q (.ref p3) _ (But.trans b3 (But.same s4)) (by rw [tn]; exact s4 _ _ a3) (by rw [tn]; exact ⟨p3, rfl, SqT.of upd_same⟩)
def sweepM (m : Mac) (b : Bool) (s : Sy) (row : List Sy) : List Sy × Sy := (ordL b (walkW m b s (ordL b row)).1, (walkW m b s (ordL b row)).2)
def spSweep (K : PySem.W.Frag) (w : World) (C CS : Addr) : Sp := fun vs H Q _ => ∃ a dx sw m first be b s wd row, vs = [.ref a, .ref wd] ∧ H a = some (wkO C dx sw b (some s)) ∧ SwO K w CS H sw m first be ∧ sw ≠ a ∧ MacOk K H m ∧ SyOk K H s ∧ s.2 ∈ (m : Mac).sd b ∧
  SqT K H wd ((row : List Sy).map (·.1)) ∧ (∀ l ∈ row, SyOk K H l ∧ l.2 ∈ m.ld) ∧ row.length ≤ 1000 ∧
  ∀ p pr v H', But a H H' → H' a = some (wkO C dx sw (!b) (nextS (m.turn b (sweepM m b s row).2.2))) → SqT K H' p [.ref pr, v] → SqT K H' pr ((sweepM m b s row).1.map (·.1)) → ToldAt K H' v (m.turn b (sweepM m b s row).2.2) → Q (.ref p) H'
abbrev nSp : List Str := ["self", "word", "state", "written", "letter", "above", "row"]
theorem scSp : FnScope nSp ["self", "word"] (defScope (cWk 1)) := ⟨rfl, rfl, rfl, by decide +kernel, rfl, by decide +kernel, by decide +kernel⟩
theorem ok_sweep (F : FnM K "sweep" "Walker.sweep" (cWk 1) f fd) (WF : WkF K C) (SF : SwF K CS) (FO : FnT K "in_order" 4 fO fdO) (gI : mg "in_order" = some (.ref fO)) (GO : FnOk P w K mg base CX0 1 fO fdO ["direction", "columns"] (spOrd K))
    (MT : Meth K C "_turn" fT) (FT : FnM K "_turn" "Walker._turn" (cWk 2) fT fdT) (GT : FnOk P w K mg base CX0 1 fT fdT ["self", "state"] (spTurnW K w C CS)) : FnOk P w K mg base CX0 2 f fd ["self", "word"] (spSweep K w C CS) := by
  refine F.ok scSp (fun vs H Q E h => by obtain ⟨a, dx, sw, m, first, be, b, s, wd, row, rfl, _⟩ := h; rfl) (fun cdv A outer s0 H vs Q E hr h => ?_)
  obtain ⟨a, dx, sw, m, first, be, b, s, wd, row, rfl, ha, so, nsa, mac, hs, ms, hwd, hrow, few, q⟩ := h
  have nd := scSp.nd
  have hu := hr.units
  suffices z : ∃ t, PSs (cxOf CX0 P w K mg base nSp "Walker.sweep" (defScope (cWk 1)) f cdv A outer s0 H E).nox (defBody (cWk 1)) t ∧ t { nx := fun _ H' => Q .non H', rt := Q } (start nSp [.ref a, .ref wd]) H by
    obtain ⟨t, h1, h2⟩ := z
    exact ⟨t, h1.nox, h2⟩
  have bO : L2.Binds K fdO ["direction", "columns"] [] := FunD.bindsN FO fun _ _ _ _ _ _ us hl => match us, hl with | [_, _], _ => rfl
  have bT : L2.Binds K fdT ["self", "state"] [] := FunD.bindsN FT fun _ _ _ _ _ _ us hl => match us, hl with | [_, _], _ => rfl
  refine ⟨_, pss_cons (ps_asg (pe_fld (pv 0) rfl) (pg_name (i := 2) nd rfl (.inl rfl)))
    (pss_cons (ps_asg (pe_lst pa_nil) (pg_name (i := 3) nd rfl (.inl rfl)))
    (pss_cons (ps_for PassesOwn.never rfl (pi_tup (pe_call GO hr (by rfl) gI FO.kp bO .nil pass0 (pa_cons (pe_fld (pv 0) rfl) (pa_cons (pv 1) pa_nil)))) (pg_name (i := 4) nd rfl (.inl rfl))
      (pss_cons (ps_asg (pe_ix (ix_dictA hu) (pe_fld (pe_fld (pv 0) rfl) rfl) (pe_tup (pa_cons (pe_fld (pv 0) rfl) (pa_cons (pv 2) (pa_cons (pv 4) pa_nil)))) (fun _ _ => rfl)) (pg_tup (by rfl) (pgs_cons (pg_name (i := 2) nd rfl (.inl rfl)) (pgs_cons (pg_name (i := 5) nd rfl (.inl rfl)) pgs_nil))))
      (pss_one (ps_expr (pe_bm PySem.F.plainAttrs_list PySem.F.slot_list_append PySem.F.type_list_append mt_append (pv 3) (pa_cons (pv 5) pa_nil))))))
    (pss_cons (ps_asg (pe_call GO hr (by rfl) gI FO.kp bO .nil pass0 (pa_cons (pe_fld (pv 0) rfl) (pa_cons (pv 3) pa_nil))) (pg_name (i := 6) nd rfl (.inl rfl)))
    (pss_one (ps_ret (pe_tup (pa_cons (pv 6) (pa_cons (pe_meth (pv 0) WF.cl MT GT hr bT .nil pass0 (pa_cons (pv 2) pa_nil)) pa_nil)))))))), ?_⟩
  refine ⟨_, rfl, a, C, dx, _, s.1, rfl, ha, WF.cl, WF.st, rfl, (by show 0 ≤ sizeLine; exact Nat.zero_le _), fun D nD => ?_⟩
  have s1 := same_upd (o := .lst []) nD
  have hD1 : upd H D (.lst []) D = some (.lst []) := upd_same
  generalize upd H D (.lst []) = H1 at s1 hD1
  refine ⟨_, rfl, a, C, dx, _, .str (wayS b), rfl, s1 _ _ ha, WF.cl, WF.di, rfl, _, rfl, b, wd, _, rfl, .inr (SqT.tups (same_tups s1) hwd), fun p H2 s2 hp => ⟨p, rfl, ⟨_, hp⟩, ?_⟩⟩
  have hD2 := s2 _ _ hD1
  have s02 := same_trans s1 s2
  have hordL : ∀ l ∈ ordL b row, SyOk K H l ∧ l.2 ∈ m.ld := fun l hl => hrow l (ordL_mem.mp hl)
  have nDH : H D = none := nD
  refine for_it (walk_tup (K := K) (a := p) (xs := ordV b (row.map (·.1)))) (fun j σ H' => (∃ o4 o5, σ = [some (.ref a), some (.ref wd), some (walkW m b s ((ordL b row).take j)).2.1, some (.ref D), o4, o5, none]) ∧ Same H H' ∧ Tups H2 H' ∧ H' D = some (.lst ((walkW m b s ((ordL b row).take j)).1.map (·.1)))) ?_ ?_ ?_ ?_
  · exact ⟨⟨none, none, rfl⟩, s02, Tups.rfl', hD2⟩
  · rintro j σ H' hj ⟨_, _, tu, _⟩
    exact SqT.tups tu hp
  · rintro j y σ H5 H4 hj ⟨⟨o4, o5, rfl⟩, s4, tu4, hD4⟩ ⟨rfl, hx⟩
    rw [← ordL_map, List.getElem?_map] at hx
    obtain ⟨l, hl, rfl⟩ := Option.map_eq_some_iff.mp hx
    have hj : j < row.length := by
      have := (List.getElem?_eq_some_iff.mp hl).1
      rwa [ordL_len] at this
    obtain ⟨w1, w2, w3⟩ := walkW_ok mac ⟨hs, ms⟩ ((ordL b row).take j) fun x hx => hordL x (List.mem_of_mem_take hx)
    have wn : walkW m b s ((ordL b row).take (j + 1)) = stepW m b (walkW m b s ((ordL b row).take j)) l := by
      rw [List.take_add_one, hl, show (some l).toList = [l] from rfl, walkW_snoc]
    generalize walkW m b s ((ordL b row).take j) = W at w1 w2 w3 wn hD4
    have ml := hordL l (List.mem_of_getElem? hl)
    have so4 := so.same s4
    obtain ⟨dxs, fi, ds, dt, v, v2, hsw, hfi, T, _⟩ := so4.ex
    obtain ⟨es, et, D1, D2, T1, T2⟩ := T.ex
    obtain ⟨q3, at1, hq3⟩ := T1 b W.2.2 l.2 w2.2 ml.2
    have ha4 := s4 _ _ ha
    refine ⟨_, rfl, a, C, dx, _, .ref sw, rfl, ha4, WF.cl, WF.sw, rfl, sw, CS, dxs, _, .ref ds, rfl, hsw, SF.cl, SF.st, rfl, _, rfl, a, C, dx, _, .str (wayS b), rfl, ha4, WF.cl, WF.di, rfl, _, rfl, _, rfl, (by show 3 ≤ sizeLine; rw [sizeLine_eq]; decide), fun pk npk => ?_⟩
    have s6 := same_upd (o := .tup [.str (wayS b), W.2.1, l.1]) npk
    have hpk : SqT K (upd H4 pk (.tup [.str (wayS b), W.2.1, l.1])) pk [.str (wayS b), W.2.1, l.1] := SqT.of upd_same
    generalize upd H4 pk (.tup [.str (wayS b), W.2.1, l.1]) = H6 at s6 hpk
    have s46 := same_trans s4 s6
    have oW := w2.1.tups (same_tups s46)
    have oL := ml.1.tups (same_tups s46)
    have hD6 := s6 _ _ hD4
    refine ⟨ds, es, kS b W.2.2 l.2, .ref q3, rfl, daKeep D1 (same_tups s6) (same_rd s6 D1.at_), nkS hpk oW oL, depS oW oL, at1, q3, _, rfl, SqT.tups (same_tups s6) hq3, rfl, _, _, rfl, _, _, rfl, rfl, ?_⟩
    refine ⟨_, rfl, .inl ⟨rfl, _, SqL.of hD6⟩, _, rfl, D, _, _, rfl, rfl, hD6, ?_, ?_⟩
    · rw [List.length_map, w3, List.length_take, sizeLine_eq]
      omega
    · rw [wn]
      refine ⟨⟨_, _, rfl⟩, fun c o e => ?_, Tups.trans tu4 (Tups.trans (same_tups s6) (Tups.upd (lst_ntup hD6))), ?_⟩
      · rw [upd_ne (ne_of_none e nDH)]
        exact s46 _ _ e
      · rw [upd_same]
        simp [stepW]
  · rintro σ H4 ⟨⟨o4, o5, rfl⟩, s4, tu4, hD4⟩
    have full : (ordL b row).take (ordV b (row.map (·.1))).length = ordL b row := by
      rw [← ordL_map, List.length_map, List.take_length]
    rw [full] at hD4 ⊢
    obtain ⟨w1, w2, w3⟩ := walkW_ok mac ⟨hs, ms⟩ (ordL b row) hordL
    have ha4 := s4 _ _ ha
    refine ⟨_, rfl, a, C, dx, _, .str (wayS b), rfl, ha4, WF.cl, WF.di, rfl, _, rfl, b, D, _, rfl, .inl (SqL.of hD4), fun pr H6 s6 hpr => ?_⟩
    have s46 := same_trans s4 s6
    rw [← ordL_map] at hpr
    refine ⟨_, rfl, _, rfl, a, dx, _, rfl, s46 _ _ ha, rfl, _, rfl, ?_⟩
    refine ⟨a, dx, sw, m, first, be, b, (walkW m b s (ordL b row)).2, some s, rfl, s46 _ _ ha, so.same s46, nsa, w2.1.tups (same_tups s46), w2.2, fun v H7 b7 a7 t7 => ?_⟩
    refine ⟨(by show 2 ≤ sizeLine; rw [sizeLine_eq]; decide), fun p8 np8 => ?_⟩
    have s8 := same_upd (o := .tup [.ref pr, v]) np8
    have tu67 : Tups H6 H7 := But.tups b7 (s46 _ _ ha)
    refine q p8 pr v _ (But.trans (But.same s46) (But.trans b7 (But.same s8))) (s8 _ _ a7) (SqT.of upd_same) (SqT.tups (Tups.trans tu67 (same_tups s8)) hpr) ?_
    show ToldAt K _ v (m.turn b (walkW m b s (ordL b row)).2.2)
    cases tn : m.turn b (walkW m b s (ordL b row)).2.2 with
    | none =>
      rw [tn] at t7
      exact t7
    | some y =>
      rw [tn] at t7
      obtain ⟨q9, e9, h9⟩ := t7
      exact ⟨q9, e9, SqT.tups (same_tups s8) h9⟩
end
end K15

set_option Elab.async false
set_option linter.all false
set_option maxRecDepth 100000
set_option maxHeartbeats 4000000
namespace K15
open PySem PySem.Spec PyProof.Rows L2 Pen Tr AK LamX
/-! ### the law's machine -/
def macK (fi : Addr) (be : V) (ds dt : Addr) : List (Key × V) := [(Sum.inr "first", .ref fi), (Sum.inr "begin", be), (Sum.inr "steps", .ref ds), (Sum.inr "turns", .ref dt)]
section
variable {P : Program} {w : World} {K : PySem.W.Frag} {mg : Str → Option PySem.Value} {base : Heap} {f fW : Addr} {fd fdW : FuncData} {H H' : Hp} {m : Mac} {first : List Sy} {be : Sy} {mc : Addr}
theorem getM {p fi ds dt : Addr} {b v : V} {k : Str} (e : valV (macK fi b ds dt) (Sum.inr k) = some v) (h : H p = some (.dK (macK fi b ds dt))) : DGet H p (.str k) (some v) := by
  have g := DGet.k (k := Sum.inr k) h
  rw [e] at g
  exact g
theorem gFirst {p fi ds dt : Addr} {b : V} (h : H p = some (.dK (macK fi b ds dt))) : DGet H p (.str "first") (some (.ref fi)) := getM (by kernel_rfl) h
theorem gBegin {p fi ds dt : Addr} {b : V} (h : H p = some (.dK (macK fi b ds dt))) : DGet H p (.str "begin") (some b) := getM (by kernel_rfl) h
theorem gSteps {p fi ds dt : Addr} {b : V} (h : H p = some (.dK (macK fi b ds dt))) : DGet H p (.str "steps") (some (.ref ds)) := getM (by kernel_rfl) h
theorem gTurns {p fi ds dt : Addr} {b : V} (h : H p = some (.dK (macK fi b ds dt))) : DGet H p (.str "turns") (some (.ref dt)) := getM (by kernel_rfl) h
structure McAt (K : PySem.W.Frag) (w : World) (H : Hp) (mc : Addr) (m : Mac) (first : List Sy) (be : Sy) : Prop where
  ex : ∃ fi ds dt, H mc = some (.dK (macK fi be.1 ds dt)) ∧ SqT K H fi (first.map (·.1)) ∧ TabM K w H ds dt m
theorem McAt.same (o : McAt K w H mc m first be) (s : Same H H') : McAt K w H' mc m first be := by
  obtain ⟨fi, ds, dt, h1, h2, h3⟩ := o.ex
  exact ⟨fi, ds, dt, s _ _ h1, SqT.tups (same_tups s) h2, h3.same s⟩
/-! ### the law's sweep -/
def spLW (K : PySem.W.Frag) (w : World) : Sp := fun vs H Q _ => ∃ mc m first be b s wd row, vs = [.ref mc, .str (wayS b), (s : Sy).1, .ref wd] ∧ McAt K w H mc m first be ∧ MacOk K H m ∧ SyOk K H s ∧ s.2 ∈ (m : Mac).sd b ∧
  SqT K H wd ((row : List Sy).map (·.1)) ∧ (∀ l ∈ row, SyOk K H l ∧ l.2 ∈ m.ld) ∧ row.length ≤ 1000 ∧
  ∀ p pr H', Same H H' → SqT K H' p [.ref pr, (sweepM m b s row).2.1] → SqT K H' pr ((sweepM m b s row).1.map (·.1)) → Q (.ref p) H'
abbrev nLW : List Str := ["_law_machine", "_law_way", "_law_state", "_law_word", "_law_row", "_law_written", "_law_letter", "_law_above"]
theorem scLW : FnScope nLW ["_law_machine", "_law_way", "_law_state", "_law_word"] (defScope (top 38)) := ⟨rfl, rfl, rfl, by decide +kernel, rfl, by decide +kernel, by decide +kernel⟩
theorem ok_lw (F : FnT K "_law_sw_walk" 38 f fd) (TX : Txt mg) : FnOk P w K mg base CX0 1 f fd ["_law_machine", "_law_way", "_law_state", "_law_word"] (spLW K w) := by
  refine F.ok scLW (fun vs H Q E h => by obtain ⟨mc, m, first, be, b, s, wd, row, rfl, _⟩ := h; rfl) (fun cdv A outer s0 H vs Q E hr h => ?_)
  obtain ⟨mc, m, first, be, b, s, wd, row, rfl, mo, mac, hs, ms, hwd, hrow, few, q⟩ := h
  have nd := scLW.nd
  have hu := hr.units
  have hu1 := hu_of hr
  suffices z : ∃ t, PSs (cxOf CX0 P w K mg base nLW "_law_sw_walk" (defScope (top 38)) f cdv A outer s0 H E).nox (defBody (top 38)) t ∧ t { nx := fun _ H' => Q .non H', rt := Q } (start nLW [.ref mc, .str (wayS b), s.1, .ref wd]) H by
    obtain ⟨t, h1, h2⟩ := z
    exact ⟨t, h1.nox, h2⟩
  refine ⟨_, C8.pss_cut (ps_asg (pe_ifExp (pt_cmpR op_eq (pv 1) pe_str (nomark _)) (pe_callTy call_list_of (by rfl) TX.list (by decide +kernel) (pa_cons (pv 3) pa_nil)) (pe_revL (pe_callTy call_list_of (by rfl) TX.list (by decide +kernel) (pa_cons (pv 3) pa_nil)))) (pg_name (i := 4) nd rfl (.inl rfl)))
    (pss_cons (ps_asg (pe_lst pa_nil) (pg_name (i := 5) nd rfl (.inl rfl)))
    (pss_cons (ps_for PassesOwn.never rfl (pi_list (pv 4)) (pg_name (i := 6) nd rfl (.inl rfl))
      (pss_cons (ps_asg (pe_ix (ix_dictA hu) (pe_dget hu1 (pv 0) pe_str (fun _ _ => rfl)) (pe_tup (pa_cons (pv 1) (pa_cons (pv 2) (pa_cons (pv 6) pa_nil)))) (fun _ _ => rfl)) (pg_tup (by rfl) (pgs_cons (pg_name (i := 2) nd rfl (.inl rfl)) (pgs_cons (pg_name (i := 7) nd rfl (.inl rfl)) pgs_nil))))
      (pss_one (ps_expr (pe_bm PySem.F.plainAttrs_list PySem.F.slot_list_append PySem.F.type_list_append mt_append (pv 5) (pa_cons (pv 7) pa_nil))))))
    (pss_one (ps_ret (pe_tup (pa_cons (pe_callTy call_tupR (by rfl) TX.tuple (by decide +kernel) (pa_cons (pe_ifExp (pt_cmpR op_eq (pv 1) pe_str (nomark _)) (pv 5) (pe_revL (pv 5))) pa_nil)) (pa_cons (pv 2) pa_nil))))))), ?_⟩
  refine ⟨fun σ H2 => ∃ R, σ = [some (.ref mc), some (.str (wayS b)), some s.1, some (.ref wd), some (.ref R), none, none, none] ∧ Same H H2 ∧ H2 R = some (.lst (ordV b (row.map (·.1)))), ?_, ?_⟩
  · refine ⟨_, rfl, rfl, decide (V.str (wayS b) = V.str "r"), rfl, ?_⟩
    cases b with
    | true =>
      rw [show decide (V.str (wayS true) = V.str "r") = true by decide]
      refine iteT ⟨_, rfl, wd, _, rfl, .inr hwd, fun l nl => ⟨l, rfl, same_upd nl, upd_same⟩⟩
    | false =>
      rw [show decide (V.str (wayS false) = V.str "r") = false by decide]
      refine iteF ⟨_, rfl, wd, _, rfl, .inr hwd, fun l nl => ⟨l, _, rfl, SqL.of upd_same, fun l2 nl2 => ⟨l2, rfl, same_trans (same_upd nl) (same_upd nl2), upd_same⟩⟩⟩
  rintro σ H1 ⟨R, rfl, s1, hR1⟩
  refine ⟨(by show 0 ≤ sizeLine; exact Nat.zero_le _), fun D nD => ?_⟩
  have nRD : R ≠ D := ne_of_none hR1 nD
  have s2 := same_trans s1 (same_upd (o := .lst []) nD)
  have hR2 : upd H1 D (.lst []) R = some (.lst (ordV b (row.map (·.1)))) := by
    rw [upd_ne nRD]
    exact hR1
  have nDH : H D = none := by
    cases e : H D with
    | none => rfl
    | some o =>
      rw [s1 _ _ e] at nD
      cases nD
  have hordL : ∀ l ∈ ordL b row, SyOk K H l ∧ l.2 ∈ m.ld := fun l hl => hrow l (ordL_mem.mp hl)
  refine ⟨_, rfl, R, rfl, ⟨_, SqL.of hR2⟩, ?_⟩
  refine for_list (K := K) (a := R) (xs := ordV b (row.map (·.1))) (fun j σ H' => (∃ o4 o5, σ = [some (.ref mc), some (.str (wayS b)), some (walkW m b s ((ordL b row).take j)).2.1, some (.ref wd), some (.ref R), some (.ref D), o4, o5]) ∧ Same H H' ∧ H' R = some (.lst (ordV b (row.map (·.1)))) ∧ H' D = some (.lst ((walkW m b s ((ordL b row).take j)).1.map (·.1)))) ?_ ?_ ?_ ?_
  · exact ⟨⟨none, none, rfl⟩, s2, hR2, upd_same⟩
  · rintro j σ H' hj ⟨_, _, hR, _⟩
    exact SqL.of hR
  · rintro j y σ H4 hx ⟨⟨o4, o5, rfl⟩, s4, hR4, hD4⟩
    rw [← ordL_map, List.getElem?_map] at hx
    obtain ⟨l, hl, rfl⟩ := Option.map_eq_some_iff.mp hx
    have hj : j < row.length := by
      have := (List.getElem?_eq_some_iff.mp hl).1
      rwa [ordL_len] at this
    obtain ⟨w1, w2, w3⟩ := walkW_ok mac ⟨hs, ms⟩ ((ordL b row).take j) fun x hx => hordL x (List.mem_of_mem_take hx)
    have wn : walkW m b s ((ordL b row).take (j + 1)) = stepW m b (walkW m b s ((ordL b row).take j)) l := by
      rw [List.take_add_one, hl, show (some l).toList = [l] from rfl, walkW_snoc]
    generalize walkW m b s ((ordL b row).take j) = W at w1 w2 w3 wn hD4
    have ml := hordL l (List.mem_of_getElem? hl)
    obtain ⟨fi, ds, dt, hmc, hfi, T⟩ := (mo.same s4).ex
    obtain ⟨es, et, D1, D2, T1, T2⟩ := T.ex
    obtain ⟨q3, at1, hq3⟩ := T1 b W.2.2 l.2 w2.2 ml.2
    refine ⟨_, rfl, mc, _, rfl, gSteps hmc, _, rfl, _, rfl, _, rfl, (by show 3 ≤ sizeLine; rw [sizeLine_eq]; decide), fun pk npk => ?_⟩
    have s6 := same_upd (o := .tup [.str (wayS b), W.2.1, l.1]) npk
    have hpk : SqT K (upd H4 pk (.tup [.str (wayS b), W.2.1, l.1])) pk [.str (wayS b), W.2.1, l.1] := SqT.of upd_same
    generalize upd H4 pk (.tup [.str (wayS b), W.2.1, l.1]) = H6 at s6 hpk
    have s46 := same_trans s4 s6
    have oW := w2.1.tups (same_tups s46)
    have oL := ml.1.tups (same_tups s46)
    have hD6 := s6 _ _ hD4
    refine ⟨ds, es, kS b W.2.2 l.2, .ref q3, rfl, daKeep D1 (same_tups s6) (same_rd s6 D1.at_), nkS hpk oW oL, depS oW oL, at1, q3, _, rfl, SqT.tups (same_tups s6) hq3, rfl, _, _, rfl, _, _, rfl, rfl, ?_⟩
    refine ⟨_, rfl, .inl ⟨rfl, _, SqL.of hD6⟩, _, rfl, D, _, _, rfl, rfl, hD6, ?_, ?_⟩
    · rw [List.length_map, w3, List.length_take, sizeLine_eq]
      omega
    · rw [wn]
      refine ⟨⟨_, _, rfl⟩, fun c o e => ?_, ?_, ?_⟩
      · rw [upd_ne (ne_of_none e nDH)]
        exact s46 _ _ e
      · rw [upd_ne nRD]
        exact s6 _ _ hR4
      · rw [upd_same]
        simp [stepW]
  · rintro σ H4 ⟨⟨o4, o5, rfl⟩, s4, hR4, hD4⟩
    have full : (ordL b row).take (ordV b (row.map (·.1))).length = ordL b row := by
      rw [← ordL_map, List.length_map, List.take_length]
    rw [full] at hD4 ⊢
    have fin : ∀ x H6, Same H4 H6 → H6 x = some (.lst ((sweepM m b s row).1.map (·.1))) → (rTupOf K) [.ref x] H6 fun y H7 => tVar 2 [some (.ref mc), some (.str (wayS b)), some (sweepM m b s row).2.1, some (.ref wd), some (.ref R), some (.ref D), o4, o5] H7 fun z H8 => [y, z].length ≤ sizeLine ∧ ∀ p, H8 p = none → Q (.ref p) (upd H8 p (.tup [y, z])) := by
      intro x H6 s6 hx
      refine ⟨x, _, rfl, .inl (SqL.of hx), fun pr H7 s7 hpr => ⟨_, rfl, (by show 2 ≤ sizeLine; rw [sizeLine_eq]; decide), fun p np => ?_⟩⟩
      have s8 := same_upd (o := .tup [.ref pr, (sweepM m b s row).2.1]) np
      exact q p pr _ (same_trans s4 (same_trans s6 (same_trans s7 s8))) (SqT.of upd_same) (SqT.tups (same_tups s8) hpr)
    refine ⟨_, rfl, rfl, decide (V.str (wayS b) = V.str "r"), rfl, ?_⟩
    cases b with
    | true =>
      rw [show decide (V.str (wayS true) = V.str "r") = true by decide]
      exact iteT ⟨_, rfl, fin D H4 same_refl hD4⟩
    | false =>
      rw [show decide (V.str (wayS false) = V.str "r") = false by decide]
      refine iteF ⟨_, rfl, D, _, rfl, SqL.of hD4, fun l nl => fin l _ (same_upd nl) ?_⟩
      rw [upd_same]
      simp [sweepM, ordL]
end
end K15

set_option Elab.async false
set_option linter.all false
set_option maxRecDepth 100000
set_option maxHeartbeats 4000000
namespace K15
open PySem PySem.Spec PyProof.Rows L2 Pen Tr AK LamX
section
variable {K : PySem.W.Frag} {w : World} {H H' : Hp} {TT : List (Addr × Str)} {m : Mac} {first : List Sy} {be : Sy} {CS sw : Addr}
theorem pen_ne {p l b : Addr} {n : Nat} {xs : List V} (P : PenAt H p l n) (h : H b = some (.lst xs)) : b ≠ p := by
  obtain ⟨kvs, hp⟩ := P.is
  exact ne_of h hp fun z => nomatch z
theorem pen_new {p l b : Addr} {n : Nat} (P : PenAt H p l n) (h : H b = none) : b ≠ p := by
  obtain ⟨kvs, hp⟩ := P.is
  exact Ne.symm (ne_of_none hp h)
theorem pen_newL {p l b : Addr} {n : Nat} (P : PenAt H p l n) (h : H b = none) : b ≠ l := by
  obtain ⟨kvs, hp⟩ := P.lis
  exact Ne.symm (ne_of_none hp h)
theorem Tabs.updL {x : Addr} {xs : List V} {o : HO} (t : Tabs TT H) (h : H x = some (.lst xs)) : Tabs TT (L2.upd H x o) := fun y hy => by
  obtain ⟨ps, h1, h2, h3⟩ := t y hy
  refine ⟨ps, by rw [upd_ne (ne_of h1 h fun z => nomatch z)]; exact h1, h2, fun pos cv hc => ?_⟩
  obtain ⟨c, e1, e2⟩ := h3 pos cv hc
  exact ⟨c, e1, by rw [upd_ne (ne_of e2 h fun z => nomatch z)]; exact e2⟩
theorem SwO.pen {p l : Addr} {n : Nat} (o : SwO K w CS H sw m first be) (PA : PenAt H p l n) (b : But p H H') : SwO K w CS H' sw m first be := by
  obtain ⟨dx, fi, ds, dt, v, v2, h1, h2, h3, h4⟩ := o.ex
  have tu := pen_tups PA b
  obtain ⟨kvs, hp⟩ := PA.is
  exact ⟨dx, fi, ds, dt, v, v2, b _ _ h1 (ne_of h1 hp fun z => nomatch z), SqT.tups tu h2, h3.keep tu fun c es _ h => by
    rcases h with h | ⟨u, h⟩
    · exact .inl (b _ _ h (ne_of h hp fun z => nomatch z))
    · exact .inr ⟨u, b _ _ h (ne_of h hp fun z => nomatch z)⟩, h4.tups tu⟩
theorem sql_pen {p l a : Addr} {n : Nat} {xs : List V} (PA : PenAt H p l n) (b : But p H H') (h : SqL K H a xs) : SqL K H' a xs := by
  obtain ⟨kvs, hp⟩ := PA.is
  rcases h with (h | ⟨o, h⟩) | h
  · exact .inl (.inl (b _ _ h (ne_of h hp fun z => nomatch z)))
  · exact .inl (.inr ⟨o, b _ _ h (ne_of h hp fun z => nomatch z)⟩)
  · exact .inr h
mutual
theorem dp_pen {p l : Addr} {n : Nat} (PA : PenAt H p l n) (b : But p H H') : ∀ (d : PyData) (v : V), Dp K H v d → Dp K H' v d
  | .none, _, h => by cases h; exact .non
  | .bool c, _, h => by cases h; exact .bl c
  | .int i, _, h => by cases h; exact .int i
  | .str x, _, h => by cases h; exact .str x
  | .list ds, _, h => by
    cases h with
    | lst hs ha => exact .lst (sql_pen PA b hs) (dps_pen PA b ds _ ha)
  | .tuple ds, _, h => by
    cases h with
    | tup hs ha => exact .tup (SqT.tups (pen_tups PA b) hs) (dps_pen PA b ds _ ha)
  | .dict _, _, h => by cases h
theorem dps_pen {p l : Addr} {n : Nat} (PA : PenAt H p l n) (b : But p H H') : ∀ (ds : List PyData) (vs : List V), DpAll K H vs ds → DpAll K H' vs ds
  | [], _, h => by cases h; exact .nil
  | d :: ds, _, h => by
    cases h with
    | cons h1 h2 => exact .cons (dp_pen PA b d _ h1) (dps_pen PA b ds _ h2)
end
theorem ixN_nat {n j : Nat} (h : j < n) : ixN n (j : Int) = some j := by
  unfold ixN
  rw [if_pos (Int.natCast_nonneg j), if_pos (by omega)]
  rfl
end
end K15

set_option Elab.async false
set_option linter.all false
set_option maxRecDepth 100000
set_option maxHeartbeats 4000000
namespace K15
open PySem PySem.Spec PyProof.Rows L2 Pen Tr AK LamX
section
variable {P : Program} {w : World} {K : PySem.W.Frag} {mg : Str → Option PySem.Value} {base : Heap} {f fD : Addr} {fd fdD : FuncData} {H H' : Hp}
def spShuf (K : PySem.W.Frag) : Sp := fun vs H Q _ => ∃ p l a n xs, vs = [.ref p, .ref a] ∧ PenAt H p l n ∧ n ≤ 900000 ∧ SqL K H a xs ∧ xs.length ≤ 100 ∧ a ≠ p ∧
  ∀ D H' ys, PenAt H' p l (n + xs.length) → But p H H' → H D = none → H' D = some (.lst ys) → (∀ y ∈ ys, y ∈ xs) → ys.length = xs.length → Q (.ref D) H'
abbrev nShf : List Str := ["_law_pen_here", "_law_some", "_law_left", "_law_found", "_law_lap", "_law_k"]
theorem scShf : FnScope nShf ["_law_pen_here", "_law_some"] (defScope (top 31)) := ⟨rfl, rfl, rfl, by decide +kernel, rfl, by decide +kernel, by decide +kernel⟩
theorem ok_shuf (F : FnP K "_law_shuffled" (top 31) f fd) (TX : Txt mg) (FD : FnP K "_law_draw" sDraw fD fdD) (gD : mg "_law_draw" = some (.ref fD)) : FnOk P w K mg base CX0 2 f fd ["_law_pen_here", "_law_some"] (spShuf K) := by
  have GD : FnOk P w K mg base CX0 1 fD fdD ["_law_pen_here", "_law_many"] spDraw := ok_draw FD TX
  have bD : L2.Binds K fdD ["_law_pen_here", "_law_many"] [] := FD.bindsN fun _ _ _ _ _ _ us hl => match us, hl with | [_, _], _ => rfl
  refine F.ok scShf (fun vs H Q E h => by obtain ⟨p, l, a, n, xs, rfl, _⟩ := h; rfl) (fun cdv A outer s0 H vs Q E hr h => ?_)
  obtain ⟨p, l, a, n, xs, rfl, PA, hn, hS, few, nap, q⟩ := h
  have nd := scShf.nd
  suffices z : ∃ t, PSs (cxOf CX0 P w K mg base nShf "_law_shuffled" (defScope (top 31)) f cdv A outer s0 H E).nox (defBody (top 31)) t ∧ t { nx := fun _ H' => Q .non H', rt := Q } (start nShf [.ref p, .ref a]) H by
    obtain ⟨t, h1, h2⟩ := z
    exact ⟨t, h1.nox, h2⟩
  refine ⟨_, pss_cons (ps_par (i := 2) (j := 3) (by rfl) nd rfl rfl (by decide) rfl rfl (pa_cons (pe_callTy call_list_of (by rfl) TX.list (by decide +kernel) (pa_cons (pv 1) pa_nil)) (pa_cons (pe_lst pa_nil) pa_nil)) rfl)
    (pss_cons (ps_for PassesOwn.never rfl (pi_range1 (by rfl) TX.range (pa_cons (pe_callB call_len_seq (by rfl) TX.len PySem.boot_len (pa_cons (pv 1) pa_nil)) pa_nil)) (pg_name (i := 4) nd rfl (.inl rfl))
      (pss_cons (ps_asg (pe_call GD hr (by rfl) gD FD.kp bD .nil pass0 (pa_cons (pv 0) (pa_cons (pe_callB call_len_seq (by rfl) TX.len PySem.boot_len (pa_cons (pv 2) pa_nil)) pa_nil))) (pg_name (i := 5) nd rfl (.inl rfl)))
      (pss_cons (ps_expr (pe_bm PySem.F.plainAttrs_list PySem.F.slot_list_append PySem.F.type_list_append mt_append (pv 3) (pa_cons (pe_ix ix_list (pv 2) (pv 5) (fun _ _ => rfl)) pa_nil)))
      (pss_one (ps_asg (pe_op op_cat (pe_slice sl_list (pv 2) po_none (po_some (pv 5))) (pe_slice sl_list (pv 2) (po_some (pe_op op_add (pv 5) pe_int)) po_none)) (pg_name (i := 2) nd rfl (.inl rfl)))))))
    (pss_one (ps_ret (pv 3)))), ?_⟩
  refine ⟨_, rfl, a, xs, rfl, .inl hS, fun L nL => ⟨(by show 0 ≤ sizeLine; exact Nat.zero_le _), fun D nD => ⟨_, _, rfl, ?_⟩⟩⟩
  have s1 := same_upd (o := .lst xs) nL
  have s2 := same_trans s1 (same_upd (o := .lst []) nD)
  have nLD : L ≠ D := ne_of_none (upd_same (H := H) (a := L)) nD
  have nDH : H D = none := by
    rw [upd_ne (Ne.symm nLD)] at nD
    exact nD
  have nDp : D ≠ p := pen_new PA nDH
  refine ⟨_, rfl, a, xs, rfl, .inl (Same.seq s2 hS), ?_⟩
  refine ⟨(xs.length : Int), rfl, by omega, by omega, ?_⟩
  refine for_it (walk_range (lo := 0) (n := xs.length)) (fun j σ H' => (∃ o4 o5 L lf, σ = [some (.ref p), some (.ref a), some (.ref L), some (.ref D), o4, o5] ∧ H' L = some (.lst lf) ∧ lf.length = xs.length - j ∧ (∀ y ∈ lf, y ∈ xs) ∧ L ≠ D) ∧ PenAt H' p l (n + j) ∧ But p H H' ∧ ∃ ys, H' D = some (.lst ys) ∧ ys.length = j ∧ ∀ y ∈ ys, y ∈ xs) ?_ (fun _ _ _ _ _ => trivial) ?_ ?_
  · exact ⟨⟨none, none, L, xs, rfl, by rw [upd_ne nLD]; exact upd_same, rfl, fun _ h => h, nLD⟩, PA.keep s2, But.same s2, [], upd_same, rfl, fun _ h => nomatch h⟩
  · rintro j y σ H5 H4 hj ⟨⟨o4, o5, L, lf, rfl, hL, ll, lm, nLD⟩, PA4, b4, ys, hD, ly, ym⟩ ⟨rfl, rfl⟩
    refine ⟨_, rfl, _, rfl, L, lf, rfl, .inl (SqL.of hL), ?_⟩
    refine ⟨p, l, n + j, lf.length, rfl, PA4, by omega, by omega, by omega, fun r H6 r0 r1 PA6 b6 => ?_⟩
    obtain ⟨k, rfl⟩ : ∃ k : Nat, r = (k : Int) := ⟨r.toNat, by omega⟩
    have hk : k < lf.length := by omega
    have hL6 := b6 _ _ hL (pen_ne PA4 hL)
    have hD6 := b6 _ _ hD nDp
    refine ⟨_, rfl, .inl ⟨rfl, _, SqL.of hD6⟩, _, rfl, _, rfl, L, lf, k, _, rfl, rfl, SqL.of hL6, atI_nat (List.getElem?_eq_getElem hk), D, ys, _, rfl, rfl, hD6, by rw [ly, sizeLine_eq]; omega, ?_⟩
    obtain ⟨H7, e7⟩ : ∃ H7, H7 = upd H6 D (.lst (ys ++ [lf[k]])) := ⟨_, rfl⟩
    rw [← e7]
    have hD7 : H7 D = some (.lst (ys ++ [lf[k]])) := by rw [e7]; exact upd_same
    have hL7 : H7 L = some (.lst lf) := by rw [e7, upd_ne nLD]; exact hL6
    have b47 : But p H H7 := fun c o e nc => by
      rw [e7, upd_ne (ne_of_none e nDH)]
      exact b6 _ _ (b4 _ _ e nc) nc
    have nDl : D ≠ l := by
      obtain ⟨zs, hz⟩ := PA.lis
      exact Ne.symm (ne_of_none hz nDH)
    have PA7 : PenAt H7 p l (n + j + 1) := by
      rw [e7]
      exact PA6.other nDp nDl
    have ct : cutV lf none (some (k : Int)) = lf.take k := cut_take (by omega)
    have cd : cutV lf (some ((k : Int) + 1)) none = lf.drop (k + 1) := cut_drop (xs := lf) (n := k + 1) (by omega)
    refine ⟨_, rfl, _, rfl, _, rfl, L, lf, rfl, SqL.of hL7, fun p1 n1 => ?_⟩
    have u1 := same_upd (o := .lst (cutV lf none (some (k : Int)))) n1
    refine ⟨_, rfl, _, rfl, k, 1, rfl, rfl, _, rfl, L, lf, rfl, SqL.of (u1 _ _ hL7), fun p2 n2 => ?_⟩
    have u2 := same_upd (o := .lst (cutV lf (some ((k : Int) + 1)) none)) n2
    refine ⟨p1, p2, _, _, rfl, rfl, u2 _ _ upd_same, upd_same, ?_, fun p3 n3 => ?_⟩
    · rw [ct, cd, List.length_take, List.length_drop, sizeLine_eq]
      omega
    have u3 := same_upd (o := .lst (cutV lf none (some (k : Int)) ++ cutV lf (some ((k : Int) + 1)) none)) n3
    have u13 := same_trans u1 (same_trans u2 u3)
    have n3D : p3 ≠ D := Ne.symm (ne_of_none (u2 _ _ (u1 _ _ hD7)) n3)
    refine ⟨⟨_, _, p3, _, rfl, upd_same, ?_, ?_, n3D⟩, PA7.keep u13, But.trans b47 (But.same u13), _, u13 _ _ hD7, by simp [ly], ?_⟩
    · rw [ct, cd, List.length_append, List.length_take, List.length_drop]
      omega
    · rw [ct, cd]
      intro y hy
      rcases List.mem_append.mp hy with hy | hy
      · exact lm y (List.mem_of_mem_take hy)
      · exact lm y (List.mem_of_mem_drop hy)
    · intro y hy
      rcases List.mem_append.mp hy with hy | hy
      · exact ym y hy
      · obtain rfl := List.mem_singleton.mp hy
        exact lm _ (List.getElem_mem hk)
  · rintro σ H4 ⟨⟨o4, o5, L, lf, rfl, hL, ll, lm, nLD⟩, PA4, b4, ys, hD, ly, ym⟩
    exact ⟨_, rfl, q D H4 ys PA4 b4 nDH hD ym ly⟩
end
end K15

set_option Elab.async false
set_option linter.all false
set_option maxRecDepth 100000
set_option maxHeartbeats 4000000
namespace K15
open PySem PySem.Spec PyProof.Rows L2 Pen Tr AK LamX
/-! ### a drawn machine: what stands while it is drawn -/
def StepG (K : PySem.W.Frag) (H : Hp) (ls : List Sy) (ss : Bool → List Sy) (x : Eh) : Prop := ∃ q r b s le s2 l2, x = (kS b (s : Sy).2 (le : Sy).2, .ref q, .ref r) ∧ SqT K H q [.str (wayS b), s.1, le.1] ∧ SqT K H r [(s2 : Sy).1, (l2 : Sy).1] ∧ SyOk K H s ∧ SyOk K H le ∧ SyOk K H s2 ∧ SyOk K H l2 ∧ s2 ∈ ss b ∧ l2 ∈ ls
def TurnG (K : PySem.W.Frag) (H : Hp) (ls : List Sy) (ss : Bool → List Sy) (x : Eh) : Prop := ∃ q b s v t, x = (kT b (s : Sy).2, .ref q, v) ∧ SqT K H q [.str (wayS b), s.1] ∧ SyOk K H s ∧ TurnAt K H v t ∧ ∀ s2 y, t = some (s2, y) → SyOk K H s2 ∧ s2 ∈ ss (!b) ∧ ∀ l, y = some l → b = true ∧ SyOk K H l ∧ l ∈ ls
structure MA where
  p : Addr
  l : Addr
  L : Addr
  S : Bool → Addr
  SD : Addr
  ds : Addr
  dt : Addr
def stK (a b : Addr) : List (Key × V) := [(Sum.inr "l", .ref a), (Sum.inr "r", .ref b)]
structure MG (K : PySem.W.Frag) (w : World) (H0 : Hp) (A : MA) (ls : List Sy) (ss : Bool → List Sy) (c : Nat) (es et : List Eh) (H : Hp) : Prop where
  pen : PenAt H A.p A.l c
  b : But A.p H0 H
  hL : H A.L = some (.lst (ls.map (·.1)))
  hS : ∀ b, H (A.S b) = some (.lst ((ss b).map (·.1)))
  hSD : H A.SD = some (.dK (stK (A.S false) (A.S true)))
  hds : H A.ds = some (DkO w A.ds es)
  hdt : H A.dt = some (DkO w A.dt et)
  lsO : ∀ s ∈ ls, SyOk K H s
  ssO : ∀ b, ∀ s ∈ ss b, SyOk K H s
  se : ∀ x ∈ es, StepG K H ls ss x
  te : ∀ x ∈ et, TurnG K H ls ss x
  ndS : (es.map (·.1)).Nodup
  ndT : (et.map (·.1)).Nodup
  fS : es.length ≤ c
  fT : et.length ≤ c
  nst : A.ds ≠ A.dt
  nds : H0 A.ds = none
  ndt : H0 A.dt = none
  nsd : A.SD ≠ A.p
  lf : ls.length ≤ 3
  sf : ∀ b, (ss b).length ≤ 5
  l0 : ls ≠ []
  s0 : ∀ b, ss b ≠ []
section
variable {K : PySem.W.Frag} {w : World} {H0 H H' : Hp} {A : MA} {ls : List Sy} {ss : Bool → List Sy} {c : Nat} {es et : List Eh}
theorem StepG.tups {x : Eh} (h : StepG K H ls ss x) (t : Tups H H') : StepG K H' ls ss x := by
  obtain ⟨q, p, b, s, l, s2, l2, e, h1, h2, h3, h4, h5, h6, h7⟩ := h
  exact ⟨q, p, b, s, l, s2, l2, e, SqT.tups t h1, SqT.tups t h2, h3.tups t, h4.tups t, h5.tups t, h6.tups t, h7⟩
theorem TurnG.tups {x : Eh} (h : TurnG K H ls ss x) (t : Tups H H') : TurnG K H' ls ss x := by
  obtain ⟨q, b, s, v, y, e, h1, h2, h3, h4⟩ := h
  exact ⟨q, b, s, v, y, e, SqT.tups t h1, h2.tups t, h3.tups t, fun s2 y2 e2 => ⟨(h4 s2 y2 e2).1.tups t, (h4 s2 y2 e2).2.1, fun l hl => ⟨((h4 s2 y2 e2).2.2 l hl).1, ((h4 s2 y2 e2).2.2 l hl).2.1.tups t, ((h4 s2 y2 e2).2.2 l hl).2.2⟩⟩⟩
theorem StepG.e {x : Eh} (h : StepG K H ls ss x) : StepE K H x := by
  obtain ⟨q, p, b, s, l, s2, l2, e, h1, h2, h3, h4, h5, h6, h7⟩ := h
  exact ⟨q, p, b, s, l, s2, l2, e, h1, h2, h3, h4, h5, h6⟩
theorem TurnG.e {x : Eh} (h : TurnG K H ls ss x) : TurnE K H x := by
  obtain ⟨q, b, s, v, y, e, h1, h2, h3, h4⟩ := h
  exact ⟨q, b, s, v, y, e, h1, h2, h3, fun s2 y2 e2 => ⟨(h4 s2 y2 e2).1, fun l hl => ⟨((h4 s2 y2 e2).2.2 l hl).1, ((h4 s2 y2 e2).2.2 l hl).2.1⟩⟩⟩
theorem StepG.nk {x : Eh} (h : StepG K H ls ss x) : NK K H x.1 x.2.1 ∧ x.1.depth ≤ 8 := by
  obtain ⟨q, p, b, s, l, s2, l2, rfl, h1, h2, h3, h4, h5, h6, h7⟩ := h
  exact ⟨nkS h1 h3 h4, depS h3 h4⟩
theorem TurnG.nk {x : Eh} (h : TurnG K H ls ss x) : NK K H x.1 x.2.1 ∧ x.1.depth ≤ 8 := by
  obtain ⟨q, b, s, v, y, rfl, h1, h2, h3, h4⟩ := h
  exact ⟨nkT h1 h2, depT h2⟩
theorem MG.da1 (g : MG K w H0 A ls ss c es et H) : DA K w H A.ds es := ⟨.inl g.hds, fun x hx => (g.se x hx).nk, g.ndS⟩
theorem MG.da2 (g : MG K w H0 A ls ss c es et H) : DA K w H A.dt et := ⟨.inl g.hdt, fun x hx => (g.te x hx).nk, g.ndT⟩
theorem putE_all {Q : Eh → Prop} {es : List Eh} {k : NestedKey} {u v : V} (old : ∀ x ∈ es, Q x) (repl : ∀ x ∈ es, x.1 = k → Q (x.1, x.2.1, v)) (new : Q (k, u, v)) : ∀ x ∈ putE es k u v, Q x := fun x hx => by
  cases e : atK es k with
  | none =>
    rw [putE_new e] at hx
    rcases List.mem_append.mp hx with hx | hx
    · exact old x hx
    · obtain rfl := List.mem_singleton.mp hx
      exact new
  | some y =>
    rw [putE_old e] at hx
    obtain ⟨z, hz, rfl⟩ := List.mem_map.mp hx
    by_cases c : z.1 = k
    · rw [if_pos c]
      exact repl z hz c
    · rw [if_neg c]
      exact old z hz
theorem cov_put {es : List Eh} {k j : NestedKey} {u v : V} (h : atK es j ≠ none) : atK (putE es k u v) j ≠ none := by
  rw [atK_put]
  split
  · exact fun z => nomatch z
  · exact h
theorem cov_new {es : List Eh} {k : NestedKey} {u v : V} : atK (putE es k u v) k ≠ none := by
  rw [atK_put, if_pos rfl]
  exact fun z => nomatch z
theorem kS_way {b b' : Bool} {d e d' e' : PyData} (h : kS b d e = kS b' d' e') : b = b' := by
  unfold kS at h
  injection h with h
  injection h with h _
  injection h with h
  cases b <;> cases b' <;> first | rfl | exact absurd h (by decide)
theorem kT_way {b b' : Bool} {d d' : PyData} (h : kT b d = kT b' d') : b = b' := by
  unfold kT at h
  injection h with h
  injection h with h _
  injection h with h
  cases b <;> cases b' <;> first | rfl | exact absurd h (by decide)
theorem MG.mono (g : MG K w H0 A ls ss c es et H) {c' : Nat} (h : c ≤ c') : MG K w H0 A ls ss c' es et H :=
  { g with pen := g.pen.mono h, fS := Nat.le_trans g.fS h, fT := Nat.le_trans g.fT h }
/-- all but the pen stays -/
theorem MG.go (g : MG K w H0 A ls ss c es et H) {c' : Nat} (h : c ≤ c') (pen : PenAt H' A.p A.l c') (b : But A.p H H') : MG K w H0 A ls ss c' es et H' := by
  have tu : Tups H H' := pen_tups g.pen b
  exact ⟨pen, But.trans g.b b, b _ _ g.hL (pen_ne g.pen g.hL), fun c => b _ _ (g.hS c) (pen_ne g.pen (g.hS c)), b _ _ g.hSD g.nsd, b _ _ g.hds (by obtain ⟨kvs, hp⟩ := g.pen.is; exact ne_of g.hds hp fun z => nomatch z), b _ _ g.hdt (by obtain ⟨kvs, hp⟩ := g.pen.is; exact ne_of g.hdt hp fun z => nomatch z),
    fun s hs => (g.lsO s hs).tups tu, fun b s hs => (g.ssO b s hs).tups tu, fun x hx => (g.se x hx).tups tu, fun x hx => (g.te x hx).tups tu, g.ndS, g.ndT, Nat.le_trans g.fS h, Nat.le_trans g.fT h, g.nst, g.nds, g.ndt, g.nsd, g.lf, g.sf, g.l0, g.s0⟩
theorem MG.same (g : MG K w H0 A ls ss c es et H) (s : Same H H') : MG K w H0 A ls ss c es et H' := g.go (Nat.le_refl _) (g.pen.keep s) (But.same s)
theorem MG.putS (g : MG K w H0 A ls ss c es et H) {q r : Addr} {b : Bool} {s le s2 l2 : Sy} (h1 : SqT K H q [.str (wayS b), s.1, le.1]) (h2 : SqT K H r [s2.1, l2.1]) (o1 : SyOk K H s) (o2 : SyOk K H le) (o3 : SyOk K H s2) (o4 : SyOk K H l2) (m3 : s2 ∈ ss b) (m4 : l2 ∈ ls) :
    MG K w H0 A ls ss (c + 1) (putE es (kS b s.2 le.2) (.ref q) (.ref r)) et (upd H A.ds (DkO w A.ds (putE es (kS b s.2 le.2) (.ref q) (.ref r)))) := by
  have tu : Tups H (upd H A.ds (DkO w A.ds (putE es (kS b s.2 le.2) (.ref q) (.ref r)))) := Tups.upd (dk_ntup g.hds)
  have st : ∀ {x : Addr} {o : HO}, x ≠ A.ds → H x = some o → upd H A.ds (DkO w A.ds (putE es (kS b s.2 le.2) (.ref q) (.ref r))) x = some o := fun n e => by
    rw [upd_ne n]
    exact e
  have g2 := g.mono (Nat.le_succ c)
  obtain ⟨kvs, hp⟩ := g.pen.is
  obtain ⟨zs, hz⟩ := g.pen.lis
  have ndp : A.ds ≠ A.p := ne_of g.hds hp fun z => nomatch z
  have ndl : A.ds ≠ A.l := ne_of g.hds hz fun z => nomatch z
  exact ⟨(g2.pen.other ndp ndl), (fun x o e n => st (ne_of_none e g.nds) (g.b x o e n)), st (ne_of g.hL g.hds fun z => nomatch z) g.hL, (fun d => st (ne_of (g.hS d) g.hds fun z => nomatch z) (g.hS d)), st (ne_of g.hSD g.hds fun z => nomatch z) g.hSD, upd_same, st (Ne.symm g.nst) g.hdt,
    (fun s hs => (g.lsO s hs).tups tu), (fun b s hs => (g.ssO b s hs).tups tu),
    (fun x hx => StepG.tups (putE_all (Q := StepG K H ls ss) g.se (fun y hy e => by
      obtain ⟨q', r', b', s', le', s2', l2', rfl, y1, y2, y3, y4, _⟩ := g.se y hy
      obtain rfl := kS_way e
      exact ⟨q', r, b', s', le', s2, l2, rfl, y1, h2, y3, y4, o3, o4, m3, m4⟩) ⟨q, r, b, s, le, s2, l2, rfl, h1, h2, o1, o2, o3, o4, m3, m4⟩ x hx) tu),
    (fun x hx => (g.te x hx).tups tu), putE_nd g.ndS, g.ndT, (by have := putE_len es (kS b s.2 le.2) (.ref q) (.ref r); have := g.fS; omega), (Nat.le_trans g.fT (Nat.le_succ c)), g.nst, g.nds, g.ndt, g.nsd, g.lf, g.sf, g.l0, g.s0⟩
theorem MG.putT (g : MG K w H0 A ls ss c es et H) {q : Addr} {b : Bool} {s : Sy} {v : V} {t : Option (Sy × Option Sy)} (h1 : SqT K H q [.str (wayS b), s.1]) (h2 : TurnAt K H v t) (o1 : SyOk K H s) (o2 : ∀ s2 y, t = some (s2, y) → SyOk K H s2 ∧ s2 ∈ ss (!b) ∧ ∀ l, y = some l → b = true ∧ SyOk K H l ∧ l ∈ ls) :
    MG K w H0 A ls ss (c + 1) es (putE et (kT b s.2) (.ref q) v) (upd H A.dt (DkO w A.dt (putE et (kT b s.2) (.ref q) v))) := by
  have tu : Tups H (upd H A.dt (DkO w A.dt (putE et (kT b s.2) (.ref q) v))) := Tups.upd (dk_ntup g.hdt)
  have st : ∀ {x : Addr} {o : HO}, x ≠ A.dt → H x = some o → upd H A.dt (DkO w A.dt (putE et (kT b s.2) (.ref q) v)) x = some o := fun n e => by
    rw [upd_ne n]
    exact e
  have g2 := g.mono (Nat.le_succ c)
  obtain ⟨kvs, hp⟩ := g.pen.is
  obtain ⟨zs, hz⟩ := g.pen.lis
  have ndp : A.dt ≠ A.p := ne_of g.hdt hp fun z => nomatch z
  have ndl : A.dt ≠ A.l := ne_of g.hdt hz fun z => nomatch z
  exact ⟨(g2.pen.other ndp ndl), (fun x o e n => st (ne_of_none e g.ndt) (g.b x o e n)), st (ne_of g.hL g.hdt fun z => nomatch z) g.hL, (fun d => st (ne_of (g.hS d) g.hdt fun z => nomatch z) (g.hS d)), st (ne_of g.hSD g.hdt fun z => nomatch z) g.hSD, st g.nst g.hds, upd_same,
    (fun s hs => (g.lsO s hs).tups tu), (fun b s hs => (g.ssO b s hs).tups tu), (fun x hx => (g.se x hx).tups tu),
    (fun x hx => TurnG.tups (putE_all (Q := TurnG K H ls ss) g.te (fun y hy e => by
      obtain ⟨q', b', s', v', t', rfl, y1, y2, y3, y4⟩ := g.te y hy
      obtain rfl := kT_way e
      exact ⟨q', b', s', v, t, rfl, y1, y2, h2, o2⟩) ⟨q, b, s, v, t, rfl, h1, o1, h2, o2⟩ x hx) tu),
    g.ndS, putE_nd g.ndT, (Nat.le_trans g.fS (Nat.le_succ c)), (by have := putE_len et (kT b s.2) (.ref q) v; have := g.fT; omega), g.nst, g.nds, g.ndt, g.nsd, g.lf, g.sf, g.l0, g.s0⟩
end
end K15

set_option Elab.async false
set_option linter.all false
set_option maxRecDepth 100000
set_option maxHeartbeats 4000000
namespace K15
open PySem PySem.Spec PyProof.Rows L2 Pen Tr AK LamX
structure McE (K : PySem.W.Frag) (w : World) (H : Hp) (mc : Addr) (m : Mac) (first : List Sy) (be : Sy) : Prop where
  ex : ∃ fi ds dt es et, H mc = some (.dK (macK fi be.1 ds dt)) ∧ SqT K H fi (first.map (·.1)) ∧ TabE K w H ds dt m es et ∧ ds ≠ dt
  mac : MacOk K H m
  fs : ∀ s ∈ first, SyOk K H s ∧ s.2 ∈ m.ld
  f2 : 2 ≤ first.length
  f9 : first.length ≤ 80
  be_ : SyOk K H be ∧ be.2 ∈ m.sd false
def base6 (a b : Addr) : List Sy := [(.ref a, .tuple [.str "a"]), (.str "b", .str "b"), (.int 7, .int 7), (.str "", .str ""), (.ref b, .tuple [.str "x", .int 1]), (.str "zz", .str "zz")]
def base8 (a b : Addr) : List Sy := [(.str "s", .str "s"), (.str "t", .str "t"), (.int 0, .int 0), (.ref a, .tuple [.str "u", .int 1]), (.str "v", .str "v"), (.str "w", .str "w"), (.ref b, .tuple [.str "s"]), (.int 12, .int 12)]
theorem base6_ok {K : PySem.W.Frag} {H : Hp} {a b : Addr} (ha : SqT K H a [.str "a"]) (hb : SqT K H b [.str "x", .int 1]) : ∀ s ∈ base6 a b, SyOk K H s := fun s hs => by
  simp only [base6, List.mem_cons, List.not_mem_nil, or_false] at hs
  rcases hs with rfl | rfl | rfl | rfl | rfl | rfl
  · exact ⟨.tup ha (.cons (.str _) .nil), menu_w (by simp [menuW])⟩
  · exact ⟨.str _, menu_w (by simp [menuW])⟩
  · exact ⟨.int _, menu_w (by simp [menuW])⟩
  · exact ⟨.str _, menu_w (by simp [menuW])⟩
  · exact ⟨.tup hb (.cons (.str _) (.cons (.int _) .nil)), menu_w (by simp [menuW])⟩
  · exact ⟨.str _, menu_w (by simp [menuW])⟩
theorem base8_ok {K : PySem.W.Frag} {H : Hp} {a b : Addr} (ha : SqT K H a [.str "u", .int 1]) (hb : SqT K H b [.str "s"]) : ∀ s ∈ base8 a b, SyOk K H s := fun s hs => by
  simp only [base8, List.mem_cons, List.not_mem_nil, or_false] at hs
  rcases hs with rfl | rfl | rfl | rfl | rfl | rfl | rfl | rfl
  · exact ⟨.str _, menu_w (by simp [menuW])⟩
  · exact ⟨.str _, menu_w (by simp [menuW])⟩
  · exact ⟨.int _, menu_w (by simp [menuW])⟩
  · exact ⟨.tup ha (.cons (.str _) (.cons (.int _) .nil)), menu_w (by simp [menuW])⟩
  · exact ⟨.str _, menu_w (by simp [menuW])⟩
  · exact ⟨.str _, menu_w (by simp [menuW])⟩
  · exact ⟨.tup hb (.cons (.str _) .nil), menu_w (by simp [menuW])⟩
  · exact ⟨.int _, menu_w (by simp [menuW])⟩
theorem sys_of {base : List Sy} : ∀ {ys : List V}, (∀ y ∈ ys, y ∈ base.map (·.1)) → ∃ nm : List Sy, nm.map (·.1) = ys ∧ ∀ s ∈ nm, s ∈ base
  | [], _ => ⟨[], rfl, fun _ h => nomatch h⟩
  | y :: ys, h => by
    obtain ⟨nm, e, g⟩ := sys_of (ys := ys) fun z hz => h z (List.mem_cons_of_mem _ hz)
    obtain ⟨s, hs, rfl⟩ := List.mem_map.mp (h y (List.mem_cons_self ..))
    exact ⟨s :: nm, by rw [List.map_cons, e], fun z hz => (List.mem_cons.mp hz).elim (fun e => e ▸ hs) (g z)⟩
theorem cut_mem {xs : List V} {lo hi : Option Int} {y : V} (h : y ∈ cutV xs lo hi) : y ∈ xs := List.mem_of_mem_drop (List.mem_of_mem_take h)
theorem gSt {H : Hp} {p s0 s1 : Addr} {b : Bool} (h : H p = some (.dK (stK s0 s1))) : DGet H p (.str (wayS b)) (some (.ref (if b then s1 else s0))) := by
  cases b with
  | false =>
    have g := DGet.k (k := Sum.inr "l") h
    rw [show valV (stK s0 s1) (Sum.inr "l") = some (V.ref s0) by kernel_rfl] at g
    exact g
  | true =>
    have g := DGet.k (k := Sum.inr "r") h
    rw [show valV (stK s0 s1) (Sum.inr "r") = some (V.ref s1) by kernel_rfl] at g
    exact g
theorem MG.gs {K : PySem.W.Frag} {w : World} {H0 H : Hp} {A : MA} {ls : List Sy} {ss : Bool → List Sy} {c : Nat} {es et : List Eh} (g : MG K w H0 A ls ss c es et H) (b : Bool) : DGet H A.SD (.str (wayS b)) (some (.ref (A.S b))) := by
  have z := gSt (b := b) g.hSD
  cases b
  · exact z
  · exact z
/-- met already -/
def CovS (es : List Eh) (b : Bool) (s le : Sy) : Prop := atK es (kS b s.2 le.2) ≠ none
def CovT (et : List Eh) (b : Bool) (s : Sy) : Prop := atK et (kT b s.2) ≠ none
/-- what is met stays met -/
structure Kc (es et es' et' : List Eh) : Prop where
  s : ∀ b s le, CovS es b s le → CovS es' b s le
  t : ∀ b s, CovT et b s → CovT et' b s
theorem Kc.rfl' {es et : List Eh} : Kc es et es et := ⟨fun _ _ _ h => h, fun _ _ h => h⟩
theorem Kc.trans {a b c d e f : List Eh} (x : Kc a b c d) (y : Kc c d e f) : Kc a b e f := ⟨fun i s le h => y.s i s le (x.s i s le h), fun i s h => y.t i s (x.t i s h)⟩
theorem Kc.putS {es et es' et' : List Eh} {k : NestedKey} {u v : V} (c : Kc es et es' et') : Kc es et (putE es' k u v) et' := ⟨fun b s le h => cov_put (c.s b s le h), c.t⟩
theorem Kc.putT {es et es' et' : List Eh} {k : NestedKey} {u v : V} (c : Kc es et es' et') : Kc es et es' (putE et' k u v) := ⟨c.s, fun b s h => cov_put (c.t b s h)⟩
theorem atK_some {es : List Eh} {k : NestedKey} {v : V} (h : atK es k = some v) : ∃ x ∈ es, x.1 = k ∧ x.2.2 = v := by
  unfold atK at h
  obtain ⟨x, hx, e⟩ := Option.map_eq_some_iff.mp h
  have hk := List.find?_some hx
  exact ⟨x, List.mem_of_find?_eq_some hx, by simpa using hk, e⟩
section
variable {K : PySem.W.Frag} {w : World} {H0 H : Hp} {A : MA} {ls : List Sy} {ss : Bool → List Sy} {c : Nat} {es et : List Eh}
def PS (K : PySem.W.Frag) (H : Hp) (ls : List Sy) (ss : Bool → List Sy) (es : List Eh) (b : Bool) (d e : PyData) (x : Sy × Sy) : Prop := (∃ q, atK es (kS b d e) = some (.ref q) ∧ SqT K H q [x.1.1, x.2.1]) ∧ SyOk K H x.1 ∧ x.1.2 ∈ (ss b).map (·.2) ∧ SyOk K H x.2 ∧ x.2.2 ∈ ls.map (·.2)
def PT' (K : PySem.W.Frag) (H : Hp) (ls : List Sy) (ss : Bool → List Sy) (et : List Eh) (b : Bool) (d : PyData) (x : Option (Sy × Option Sy)) : Prop := (∃ v, atK et (kT b d) = some v ∧ TurnAt K H v x) ∧ ∀ s y, x = some (s, y) → SyOk K H s ∧ s.2 ∈ (ss (!b)).map (·.2) ∧ ∀ l, y = some l → b = true ∧ SyOk K H l ∧ l.2 ∈ ls.map (·.2)
instance : Nonempty (Sy × Sy) := ⟨((.non, .none), (.non, .none))⟩
noncomputable def macOf (K : PySem.W.Frag) (H : Hp) (ls : List Sy) (ss : Bool → List Sy) (es et : List Eh) : Mac := ⟨ls.map (·.2), fun b => (ss b).map (·.2), fun b d e => Classical.epsilon (PS K H ls ss es b d e), fun b d => Classical.epsilon (PT' K H ls ss et b d)⟩
theorem MG.ps (g : MG K w H0 A ls ss c es et H) {b : Bool} {d e : PyData} (hd : d ∈ (ss b).map (·.2)) (he : e ∈ ls.map (·.2)) (cov : ∀ s ∈ ss b, ∀ le ∈ ls, CovS es b s le) : PS K H ls ss es b d e ((macOf K H ls ss es et).step b d e) := by
  refine Classical.epsilon_spec (p := PS K H ls ss es b d e) ?_
  obtain ⟨s, hs, rfl⟩ := List.mem_map.mp hd
  obtain ⟨le, hle, rfl⟩ := List.mem_map.mp he
  cases hv : atK es (kS b s.2 le.2) with
  | none => exact absurd hv (cov s hs le hle)
  | some v =>
    obtain ⟨x, hx, e1, e2⟩ := atK_some hv
    obtain ⟨q, r, b', s', le', s2, l2, rfl, y1, y2, y3, y4, y5, y6, y7, y8⟩ := g.se x hx
    obtain rfl := kS_way e1
    refine ⟨(s2, l2), ⟨r, by rw [hv, ← e2], y2⟩, y5, List.mem_map.mpr ⟨s2, y7, rfl⟩, y6, List.mem_map.mpr ⟨l2, y8, rfl⟩⟩
theorem MG.pt (g : MG K w H0 A ls ss c es et H) {b : Bool} {d : PyData} (hd : d ∈ (ss b).map (·.2)) (cov : ∀ s ∈ ss b, CovT et b s) : PT' K H ls ss et b d ((macOf K H ls ss es et).turn b d) := by
  refine Classical.epsilon_spec (p := PT' K H ls ss et b d) ?_
  obtain ⟨s, hs, rfl⟩ := List.mem_map.mp hd
  cases hv : atK et (kT b s.2) with
  | none => exact absurd hv (cov s hs)
  | some v =>
    obtain ⟨x, hx, e1, e2⟩ := atK_some hv
    obtain ⟨q, b', s', v', t', rfl, y1, y2, y3, y4⟩ := g.te x hx
    obtain rfl := kT_way e1
    have e2 : v' = v := e2
    subst e2
    exact ⟨t', ⟨v', hv, y3⟩, fun s2 y e => ⟨(y4 s2 y e).1, List.mem_map.mpr ⟨s2, (y4 s2 y e).2.1, rfl⟩, fun l hl => ⟨((y4 s2 y e).2.2 l hl).1, ((y4 s2 y e).2.2 l hl).2.1, List.mem_map.mpr ⟨l, ((y4 s2 y e).2.2 l hl).2.2, rfl⟩⟩⟩⟩
theorem MG.mac (g : MG K w H0 A ls ss c es et H) (cov : ∀ b, ∀ s ∈ ss b, (∀ le ∈ ls, CovS es b s le) ∧ CovT et b s) (fS : es.length ≤ 900000) (fT : et.length ≤ 900000) : MacOk K H (macOf K H ls ss es et) ∧ TabE K w H A.ds A.dt (macOf K H ls ss es et) es et := by
  have p1 := fun {b d e} hd he => g.ps (b := b) (d := d) (e := e) hd he fun s hs le hle => (cov b s hs).1 le hle
  have p2 := fun {b d} hd => g.pt (b := b) (d := d) hd fun s hs => (cov b s hs).2
  refine ⟨⟨fun d hd => ?_, fun b d hd => ?_, by show (ls.map (·.2)).length ≤ 3; rw [List.length_map]; exact g.lf, fun b => by show ((ss b).map (·.2)).length ≤ 80; rw [List.length_map]; exact Nat.le_trans (g.sf b) (by decide), fun b d e hd he => ?_, fun b d s x hd e => ?_⟩,
    ⟨g.hds, g.hdt, g.da1, g.da2, fun b d e hd he => (p1 hd he).1, fun b d hd => (p2 hd).1, fun x hx => (g.se x hx).e, fun x hx => (g.te x hx).e, fS, fT⟩⟩
  · obtain ⟨s, hs, rfl⟩ := List.mem_map.mp hd
    exact (g.lsO s hs).mem
  · obtain ⟨s, hs, rfl⟩ := List.mem_map.mp hd
    exact (g.ssO b s hs).mem
  · exact (p1 hd he).2
  · exact (p2 hd).2 s x e
end
/-- what the four first statements leave -/
structure Pre (K : PySem.W.Frag) (w : World) (p l : Addr) (n : Nat) (H0 H : Hp) (A : MA) (ls : List Sy) (ss : Bool → List Sy) : Prop where
  g : MG K w H0 A ls ss (n + 20) [] [] H
  ep : A.p = p
  el : A.l = l
section
variable {P : Program} {w : World} {K : PySem.W.Frag} {mg : Str → Option PySem.Value} {base : Heap} {f fD fP fH : Addr} {fd fdD fdP fdH : FuncData} {H H' : Hp}
def spMc (K : PySem.W.Frag) (w : World) : Sp := fun vs H Q _ => ∃ p l n, ∃ most : Nat, vs = [.ref p, .int most] ∧ PenAt H p l n ∧ n ≤ 800000 ∧ 1 ≤ most ∧ most ≤ 4 ∧
  ∀ mc m first be H', PenAt H' p l (n + 300) → But p H H' → McE K w H' mc m first be → Q (.ref mc) H'
abbrev nMc : List Str := ["_law_pen_here", "_law_most", "_law_letters", "_law_names", "_law_states", "_law_steps", "_law_turns", "_law_way", "_law_other", "_law_state", "_law_letter", "_law_extra", "_law_first", "_law_place"]
theorem scMc : FnScope nMc ["_law_pen_here", "_law_most"] (defScope (top 32)) := ⟨rfl, rfl, rfl, by decide +kernel, rfl, by decide +kernel, by decide +kernel⟩
theorem ok_mc (F : FnP K "_law_sw_machine" (top 32) f fd) (TX : Txt mg) (FD : FnP K "_law_draw" sDraw fD fdD) (gD : mg "_law_draw" = some (.ref fD)) (FP : FnP K "_law_pick" sPick fP fdP) (gP : mg "_law_pick" = some (.ref fP)) (FH : FnP K "_law_shuffled" (top 31) fH fdH) (gH : mg "_law_shuffled" = some (.ref fH)) :
    FnOk P w K mg base CX0 3 f fd ["_law_pen_here", "_law_most"] (spMc K w) := by
  have GD : FnOk P w K mg base CX0 1 fD fdD ["_law_pen_here", "_law_many"] spDraw := ok_draw FD TX
  have bD : L2.Binds K fdD ["_law_pen_here", "_law_many"] [] := FD.bindsN fun _ _ _ _ _ _ us hl => match us, hl with | [_, _], _ => rfl
  have GP : FnOk P w K mg base CX0 2 fP fdP ["_law_pen_here", "_law_some"] (spPick K) := ok_pick FP TX FD gD
  have bP : L2.Binds K fdP ["_law_pen_here", "_law_some"] [] := FP.bindsN fun _ _ _ _ _ _ us hl => match us, hl with | [_, _], _ => rfl
  have GH : FnOk P w K mg base CX0 2 fH fdH ["_law_pen_here", "_law_some"] (spShuf K) := ok_shuf FH TX FD gD
  have bH : L2.Binds K fdH ["_law_pen_here", "_law_some"] [] := FH.bindsN fun _ _ _ _ _ _ us hl => match us, hl with | [_, _], _ => rfl
  refine F.ok scMc (fun vs H Q E h => by obtain ⟨p, l, n, most, rfl, _⟩ := h; rfl) (fun cdv A outer s0 H vs Q E hr h => ?_)
  obtain ⟨p, l, n, most, rfl, PA, hn, m1, m4, q⟩ := h
  have nd := scMc.nd
  have hu := hr.units
  have hu1 := hu_of hr
  have h1 := hr.mono (show 1 ≤ 2 by decide)
  suffices z : ∃ t, PSs (cxOf CX0 P w K mg base nMc "_law_sw_machine" (defScope (top 32)) f cdv A outer s0 H E).nox (defBody (top 32)) t ∧ t { nx := fun _ H' => Q .non H', rt := Q } (start nMc [.ref p, .int most]) H by
    obtain ⟨t, h1, h2⟩ := z
    exact ⟨t, h1.nox, h2⟩
  refine ⟨_, pss_cons (ps_asg (pe_slice sl_list (pe_lst (pa_cons (pe_tup (pa_cons pe_str pa_nil)) (pa_cons pe_str (pa_cons pe_int (pa_cons pe_str (pa_cons (pe_tup (pa_cons pe_str (pa_cons pe_int pa_nil))) (pa_cons pe_str pa_nil))))))) po_none (po_some (pe_op op_add pe_int (pe_call GD h1 (by rfl) gD FD.kp bD .nil pass0 (pa_cons (pv 0) (pa_cons pe_int pa_nil)))))) (pg_name (i := 2) nd rfl (.inr rfl)))
    (pss_cons (ps_asg (pe_call GH hr (by rfl) gH FH.kp bH .nil pass0 (pa_cons (pv 0) (pa_cons (pe_slice sl_list (pe_lst (pa_cons pe_str (pa_cons pe_str (pa_cons pe_int (pa_cons (pe_tup (pa_cons pe_str (pa_cons pe_int pa_nil))) (pa_cons pe_str (pa_cons pe_str (pa_cons (pe_tup (pa_cons pe_str pa_nil)) (pa_cons pe_int pa_nil))))))))) po_none
        (po_some (pe_callB (call_max2 rfl) (by rfl) TX.max (by decide +kernel) (pa_cons pe_int (pa_cons (pv 1) pa_nil))))) pa_nil))) (pg_name (i := 3) nd rfl (.inl rfl)))
    (pss_cons (ps_asg (pe_disp (pps_cons pe_str (pe_slice sl_list (pv 3) po_none (po_some (pe_op op_add pe_int (pe_call GD h1 (by rfl) gD FD.kp bD .nil pass0 (pa_cons (pv 0) (pa_cons (pv 1) pa_nil)))))) (pps_cons pe_str (pe_slice sl_list (pv 3) po_none (po_some (pe_op op_add pe_int (pe_call GD h1 (by rfl) gD FD.kp bD .nil pass0 (pa_cons (pv 0) (pa_cons (pv 1) pa_nil)))))) pps_nil))
        rfl rfl (by intro z; cases z) (by decide)) (pg_name (i := 4) nd rfl (.inl rfl)))
    (pss_cons (ps_par (i := 5) (j := 6) (by rfl) nd rfl rfl (by decide) rfl rfl (pa_cons pe_dnewA (pa_cons pe_dnewA pa_nil)) rfl)
    (C8.pss_cut (ps_for PassesOwn.never rfl (pi_list (pe_lst (pa_cons pe_str (pa_cons pe_str pa_nil)))) (pg_name (i := 7) nd rfl (.inl rfl))
      (C8.pss_cut (ps_asg (pe_ifExp (pt_cmpR op_eq (pv 7) pe_str (nomark _)) pe_str pe_str) (pg_name (i := 8) nd rfl (.inl rfl)))
      (pss_one (ps_for PassesOwn.never rfl (pi_list (pe_dget hu1 (pv 4) (pv 7) (fun _ _ => rfl))) (pg_name (i := 9) nd rfl (.inl rfl))
        (pss_cons (ps_for PassesOwn.never rfl (pi_list (pv 2)) (pg_name (i := 10) nd rfl (.inl rfl))
          (pss_one (ps_asg (pe_tup (pa_cons (pe_call GP hr (by rfl) gP FP.kp bP .nil pass0 (pa_cons (pv 0) (pa_cons (pe_dget hu1 (pv 4) (pv 7) (fun _ _ => rfl)) pa_nil))) (pa_cons (pe_call GP hr (by rfl) gP FP.kp bP .nil pass0 (pa_cons (pv 0) (pa_cons (pv 2) pa_nil))) pa_nil)))
            (pg_sub (pv 5) (pe_tup (pa_cons (pv 7) (pa_cons (pv 9) (pa_cons (pv 10) pa_nil)))) (set_dictA hu)))))
        (pss_cons (ps_asg pe_non (pg_sub (pv 6) (pe_tup (pa_cons (pv 7) (pa_cons (pv 9) pa_nil))) (set_dictA hu)))
        (pss_one (ps_if (pt_cmpR op_gt (pe_call GD h1 (by rfl) gD FD.kp bD .nil pass0 (pa_cons (pv 0) (pa_cons pe_int pa_nil))) pe_int (nomark _))
          (C8.pss_cut (ps_asg (pe_ifExp (PW.pt (pw_and (pt_cmpR op_eq (pv 7) pe_str (nomark _)) (pw_and1 (pt_cmpR op_eq (pe_call GD h1 (by rfl) gD FD.kp bD .nil pass0 (pa_cons (pv 0) (pa_cons pe_int pa_nil))) pe_int (nomark _)))))
              (pe_call GP hr (by rfl) gP FP.kp bP .nil pass0 (pa_cons (pv 0) (pa_cons (pv 2) pa_nil))) pe_non) (pg_name (i := 11) nd rfl (.inl rfl)))
          (pss_one (ps_asg (pe_tup (pa_cons (pe_call GP hr (by rfl) gP FP.kp bP .nil pass0 (pa_cons (pv 0) (pa_cons (pe_dget hu1 (pv 4) (pv 8) (fun _ _ => rfl)) pa_nil))) (pa_cons (pv 11) pa_nil)))
            (pg_sub (pv 6) (pe_tup (pa_cons (pv 7) (pa_cons (pv 9) pa_nil))) (set_dictA hu)))))
          pss_nil))))))))
    (pss_cons (ps_asg (pe_callTy call_tupR (by rfl) TX.tuple (by decide +kernel) (pa_cons (pe_lc (own := [("_law_place", 13)]) (g := gName 13) (tt := tYes) (te := tCall (spPick K) [] E0 (tCons (tVar 0) (tCons (tVar 2) tNil))) (by rfl) nd
        (pi_range1 (by rfl) TX.range (pa_cons (pe_op op_add pe_int (pe_call GD h1 (by rfl) gD FD.kp bD .nil pass0 (pa_cons (pv 0) (pa_cons pe_int pa_nil)))) pa_nil)) (blkOk_by (own := [("_law_place", 13)]) (N := nMc) (sc := defScope (top 32)) (by decide +kernel))
        (fun _ _ _ _ _ => pg_name (i := 13) nd rfl (Or.inl rfl)) (fun _ _ _ _ _ => pts_nil) (fun _ _ _ _ _ => pe_call GP hr (by rfl) gP FP.kp bP .nil pass0 (pa_cons (pv 0) (pa_cons (pv 2) pa_nil)))) pa_nil)) (pg_name (i := 12) nd rfl (.inl rfl)))
    (pss_one (ps_ret (pe_disp (pps_cons pe_str (pv 12) (pps_cons pe_str (pe_call GP hr (by rfl) gP FP.kp bP .nil pass0 (pa_cons (pv 0) (pa_cons (pe_dget hu1 (pv 4) pe_str (fun _ _ => rfl)) pa_nil))) (pps_cons pe_str (pv 5) (pps_cons pe_str (pv 6) pps_nil))))
      rfl rfl (by intro z; cases z) (by decide))))))))), ?_⟩
  -- the letters
  refine ⟨(by show 1 ≤ sizeLine; rw [sizeLine_eq]; decide), fun t1 n1 => ⟨(by show 2 ≤ sizeLine; rw [sizeLine_eq]; decide), fun t2 n2 => ⟨(by show 6 ≤ sizeLine; rw [sizeLine_eq]; decide), fun L0 nL0 => ?_⟩⟩⟩
  have u1 := same_upd (o := .tup [.str "a"]) n1
  have u2 := same_upd (o := .tup [.str "x", .int 1]) n2
  have u3 := same_upd (o := .lst ((base6 t1 t2).map (·.1))) nL0
  have ht1 : SqT K (upd H t1 (.tup [.str "a"])) t1 [.str "a"] := SqT.of upd_same
  have ht2 : SqT K (upd (upd H t1 (.tup [.str "a"])) t2 (.tup [.str "x", .int 1])) t2 [.str "x", .int 1] := SqT.of upd_same
  have hb6 := base6_ok (SqT.tups (same_tups u3) (SqT.tups (same_tups u2) ht1)) (SqT.tups (same_tups u3) ht2)
  have s3 := same_trans u1 (same_trans u2 u3)
  have hL0 : upd (upd (upd H t1 (.tup [.str "a"])) t2 (.tup [.str "x", .int 1])) L0 (.lst ((base6 t1 t2).map (·.1))) L0 = some (.lst ((base6 t1 t2).map (·.1))) := upd_same
  obtain ⟨H3, e3⟩ : ∃ H3, H3 = upd (upd (upd H t1 (.tup [.str "a"])) t2 (.tup [.str "x", .int 1])) L0 (.lst ((base6 t1 t2).map (·.1))) := ⟨_, rfl⟩
  rw [← e3] at s3 hb6 hL0
  have PA3 := PA.keep s3
  refine ⟨_, rfl, p, l, n, 3, rfl, (by rw [e3] at PA3; exact PA3), by omega, by decide, by decide, fun r H4 r0 r1 PA4 b4 => ?_⟩
  have b4 : But p H3 H4 := by
    rw [e3]
    exact b4
  clear e3 n1 n2 u1 u2 u3 ht1 ht2 nL0
  obtain ⟨k, rfl⟩ : ∃ k : Nat, r = (k : Int) := ⟨r.toNat, by omega⟩
  have hL4 := b4 _ _ hL0 (pen_ne PA3 hL0)
  refine ⟨1, k, rfl, rfl, _, rfl, L0, _, rfl, SqL.of hL4, fun L nL => ?_⟩
  have u5 := same_upd (o := .lst (cutV ((base6 t1 t2).map (·.1)) none (some (1 + (k : Int))))) nL
  have hL5 : upd H4 L (.lst (cutV ((base6 t1 t2).map (·.1)) none (some (1 + (k : Int))))) L = some (.lst (cutV ((base6 t1 t2).map (·.1)) none (some (1 + (k : Int))))) := upd_same
  have ecut : cutV ((base6 t1 t2).map (·.1)) none (some (1 + (k : Int))) = ((base6 t1 t2).take (1 + k)).map (·.1) := by
    rw [List.map_take]
    exact cut_take (xs := (base6 t1 t2).map (·.1)) (n := 1 + k) (by show 1 + k ≤ 6; omega)
  generalize upd H4 L (.lst (cutV ((base6 t1 t2).map (·.1)) none (some (1 + (k : Int))))) = H5 at u5 hL5
  rw [ecut] at hL5
  clear ecut
  have b5 : But p H H5 := But.trans (But.same s3) (But.trans b4 (But.same u5))
  have PA5 := PA4.keep u5
  have tu35 : Tups H3 H5 := Tups.trans (pen_tups PA3 b4) (same_tups u5)
  have lsO5 : ∀ s ∈ (base6 t1 t2).take (1 + k), SyOk K H5 s := fun s hs => (hb6 s (List.mem_of_mem_take hs)).tups tu35
  have lsf : ((base6 t1 t2).take (1 + k)).length ≤ 3 ∧ (base6 t1 t2).take (1 + k) ≠ [] := by
    have : ((base6 t1 t2).take (1 + k)).length = 1 + k := by
      rw [List.length_take]
      show min (1 + k) 6 = 1 + k
      omega
    exact ⟨by omega, fun z => by rw [z] at this; simp at this; omega⟩
  generalize (base6 t1 t2).take (1 + k) = ls at hL5 lsO5 lsf
  clear b4 PA4 PA3 hb6 hL0 hL4 u5 tu35 nL s3
  -- the names
  refine ⟨_, rfl, (by show 2 ≤ sizeLine; rw [sizeLine_eq]; decide), fun t3 n3 => ⟨(by show 1 ≤ sizeLine; rw [sizeLine_eq]; decide), fun t4 n4 => ⟨(by show 8 ≤ sizeLine; rw [sizeLine_eq]; decide), fun N0 nN0 => ?_⟩⟩⟩
  have u1 := same_upd (o := .tup [.str "u", .int 1]) n3
  have u2 := same_upd (o := .tup [.str "s"]) n4
  have u3 := same_upd (o := .lst ((base8 t3 t4).map (·.1))) nN0
  have ht3 : SqT K (upd H5 t3 (.tup [.str "u", .int 1])) t3 [.str "u", .int 1] := SqT.of upd_same
  have ht4 : SqT K (upd (upd H5 t3 (.tup [.str "u", .int 1])) t4 (.tup [.str "s"])) t4 [.str "s"] := SqT.of upd_same
  have hb8 := base8_ok (SqT.tups (same_tups u3) (SqT.tups (same_tups u2) ht3)) (SqT.tups (same_tups u3) ht4)
  have s6 := same_trans u1 (same_trans u2 u3)
  have hN0 : upd (upd (upd H5 t3 (.tup [.str "u", .int 1])) t4 (.tup [.str "s"])) N0 (.lst ((base8 t3 t4).map (·.1))) N0 = some (.lst ((base8 t3 t4).map (·.1))) := upd_same
  obtain ⟨H6, e6⟩ : ∃ H6, H6 = upd (upd (upd H5 t3 (.tup [.str "u", .int 1])) t4 (.tup [.str "s"])) N0 (.lst ((base8 t3 t4).map (·.1))) := ⟨_, rfl⟩
  rw [← e6] at s6 hb8 hN0
  have PA6 := PA5.keep s6
  obtain ⟨mx, emx, mx1, mx4⟩ : ∃ mx : Nat, (if (most : Int) > 2 then (most : Int) else 2) = (mx : Int) ∧ most ≤ mx ∧ mx ≤ 4 := by
    by_cases c : (most : Int) > 2
    · exact ⟨most, if_pos c, Nat.le_refl _, m4⟩
    · exact ⟨2, if_neg c, by omega, by decide⟩
  refine ⟨_, rfl, 2, most, rfl, _, rfl, N0, _, rfl, (by rw [e6] at hN0; exact SqL.of hN0), fun N1 nN1 => ?_⟩
  have nN1 : H6 N1 = none := by
    rw [e6]
    exact nN1
  have u7 := same_upd (o := .lst (cutV ((base8 t3 t4).map (·.1)) none (some (if (most : Int) > 2 then (most : Int) else 2)))) nN1
  have ecut : cutV ((base8 t3 t4).map (·.1)) none (some (if (most : Int) > 2 then (most : Int) else 2)) = ((base8 t3 t4).map (·.1)).take mx := by
    rw [emx]
    exact cut_take (by show mx ≤ 8; omega)
  have hN1 : upd H6 N1 (.lst (cutV ((base8 t3 t4).map (·.1)) none (some (if (most : Int) > 2 then (most : Int) else 2)))) N1 = some (.lst (cutV ((base8 t3 t4).map (·.1)) none (some (if (most : Int) > 2 then (most : Int) else 2)))) := upd_same
  have lcut : (cutV ((base8 t3 t4).map (·.1)) none (some (if (most : Int) > 2 then (most : Int) else 2))).length = mx := by
    rw [ecut, List.length_take]
    show min mx 8 = mx
    omega
  refine ⟨p, l, N1, n + 1, cutV ((base8 t3 t4).map (·.1)) none (some (if (most : Int) > 2 then (most : Int) else 2)), rfl, ?_, by omega, ?_, ?_, ?_, fun D H8 ys PA8 b8 nD8 hD8 my ly => ?_⟩
  · have z := PA6.keep u7
    rw [e6] at z
    exact z
  · rw [e6] at hN1
    exact SqL.of hN1
  · show (cutV ((base8 t3 t4).map (·.1)) none (some (if (most : Int) > 2 then (most : Int) else 2))).length ≤ 100
    rw [lcut]
    omega
  · exact pen_new PA6 nN1
  have lys : ys.length = mx := ly.trans lcut
  have PA8 : PenAt H8 p l (n + 1 + mx) := by
    have z := PA8
    rw [lcut] at z
    exact z
  have b8 : But p (upd H6 N1 (.lst (cutV ((base8 t3 t4).map (·.1)) none (some (if (most : Int) > 2 then (most : Int) else 2))))) H8 := by
    rw [e6]
    exact b8
  obtain ⟨nm, enm, mnm⟩ := sys_of (base := base8 t3 t4) (ys := ys) fun y hy => cut_mem (my y hy)
  subst enm
  have tu68 : Tups H6 H8 := Tups.trans (same_tups u7) (pen_tups (PA6.keep u7) b8)
  have nmO : ∀ s ∈ nm, SyOk K H8 s := fun s hs => (hb8 s (mnm s hs)).tups tu68
  have b58 : But p H5 H8 := But.trans (But.same s6) (But.trans (But.same u7) b8)
  have tu58 : Tups H5 H8 := Tups.trans (same_tups s6) tu68
  have hL8 := b58 _ _ hL5 (pen_ne PA5 hL5)
  have lsO8 : ∀ s ∈ ls, SyOk K H8 s := fun s hs => (lsO5 s hs).tups tu58
  have b08 : But p H H8 := But.trans b5 b58
  have lnm : nm.length = mx := by rw [← lys, List.length_map]
  clear e6 n3 n4 nN0 u1 u2 u3 ht3 ht4 hb8 s6 hN0 PA6 u7 ecut hN1 lcut b8 tu68 b58 tu58 hL5 lsO5 PA5 b5 my ly lys mnm
  -- the states
  intro SD nSD
  have u9 := same_upd (o := .dK []) nSD
  have PA9 := PA8.keep u9
  have hSD9 : upd H8 SD (.dK []) SD = some (.dK []) := upd_same
  have nSDp : SD ≠ p := pen_new PA8 nSD
  obtain ⟨H9, e9⟩ : ∃ H9, H9 = upd H8 SD (.dK []) := ⟨_, rfl⟩
  rw [← e9] at u9 PA9 hSD9
  refine ⟨_, rfl, _, rfl, _, rfl, p, l, n + 1 + mx, most, rfl, (by rw [e9] at PA9; exact PA9), by omega, by omega, by omega, fun r1 H10 a1 a2 PA10 b10 => ?_⟩
  have b10 : But p H9 H10 := by
    rw [e9]
    exact b10
  obtain ⟨k1, rfl⟩ : ∃ k : Nat, r1 = (k : Int) := ⟨r1.toNat, by omega⟩
  have hD9 := u9 _ _ hD8
  have hD10 := b10 _ _ hD9 (pen_ne PA9 hD9)
  refine ⟨1, k1, rfl, rfl, _, rfl, D, _, rfl, SqL.of hD10, fun S0 nS0 => ?_⟩
  have u11 := same_upd (o := .lst (cutV (nm.map (·.1)) none (some (1 + (k1 : Int))))) nS0
  have hS0 : upd H10 S0 (.lst (cutV (nm.map (·.1)) none (some (1 + (k1 : Int))))) S0 = some (.lst ((nm.take (1 + k1)).map (·.1))) := by
    rw [upd_same, List.map_take]
    exact congrArg (fun x => some (HO.lst x)) (cut_take (xs := nm.map (·.1)) (n := 1 + k1) (by rw [List.length_map, lnm]; omega))
  obtain ⟨H11, e11⟩ : ∃ H11, H11 = upd H10 S0 (.lst (cutV (nm.map (·.1)) none (some (1 + (k1 : Int))))) := ⟨_, rfl⟩
  rw [← e11] at u11 hS0
  have PA11 := PA10.keep u11
  refine ⟨_, rfl, _, rfl, _, rfl, p, l, n + 1 + mx + 1, most, rfl, (by rw [e11] at PA11; exact PA11), by omega, by omega, by omega, fun r2 H12 a3 a4 PA12 b12 => ?_⟩
  have b12 : But p H11 H12 := by
    rw [e11]
    exact b12
  obtain ⟨k2, rfl⟩ : ∃ k : Nat, r2 = (k : Int) := ⟨r2.toNat, by omega⟩
  have hD11 := u11 _ _ hD10
  have hD12 := b12 _ _ hD11 (pen_ne PA11 hD11)
  refine ⟨1, k2, rfl, rfl, _, rfl, D, _, rfl, SqL.of hD12, fun S1 nS1 => ?_⟩
  have u13 := same_upd (o := .lst (cutV (nm.map (·.1)) none (some (1 + (k2 : Int))))) nS1
  have hS1 : upd H12 S1 (.lst (cutV (nm.map (·.1)) none (some (1 + (k2 : Int))))) S1 = some (.lst ((nm.take (1 + k2)).map (·.1))) := by
    rw [upd_same, List.map_take]
    exact congrArg (fun x => some (HO.lst x)) (cut_take (xs := nm.map (·.1)) (n := 1 + k2) (by rw [List.length_map, lnm]; omega))
  obtain ⟨H13, e13⟩ : ∃ H13, H13 = upd H12 S1 (.lst (cutV (nm.map (·.1)) none (some (1 + (k2 : Int))))) := ⟨_, rfl⟩
  rw [← e13] at u13 hS1 ⊢
  have b913 : But p H9 H13 := But.trans b10 (But.trans (But.same u11) (But.trans b12 (But.same u13)))
  have b813 : But p H8 H13 := But.trans (But.same u9) b913
  have hSD13 := b913 _ _ hSD9 nSDp
  have hS013 := u13 _ _ (b12 _ _ hS0 (pen_ne PA11 hS0))
  have PA13 := PA12.keep u13
  have tu813 := pen_tups PA8 b813
  refine ⟨hSD13, stK S0 S1, rfl, (by show 2 ≤ 15; decide), ?_⟩
  rw [show mergeK [] (stK S0 S1) = stK S0 S1 by kernel_rfl]
  have hL13 := b813 _ _ hL8 (pen_ne PA8 hL8)
  have lsO13 : ∀ s ∈ ls, SyOk K H13 s := fun s hs => (lsO8 s hs).tups tu813
  have nmO13 : ∀ s ∈ nm, SyOk K H13 s := fun s hs => (nmO s hs).tups tu813
  have b013 : But p H H13 := But.trans b08 b813
  have SDnone : H8 SD = none := nSD
  clear e9 e11 e13 u9 u11 u13 b10 b12 b913 b813 hSD9 hS0 PA9 PA10 PA11 PA12 hD9 hD10 hD11 hD12 hD8 PA8 hL8 lsO8 nmO
  -- the two tables, empty
  have nHSD : H SD = none := by
    cases e : H SD with
    | none => rfl
    | some o =>
      rw [b08 _ _ e nSDp] at SDnone
      cases SDnone
  obtain ⟨zs, hzl⟩ := PA13.lis
  have nSDl : SD ≠ l := ne_of hSD13 hzl fun z => nomatch z
  have PA14 : PenAt (upd H13 SD (.dK (stK S0 S1))) p l (n + 20) := (PA13.other nSDp nSDl).mono (by omega)
  have b014 : But p H (upd H13 SD (.dK (stK S0 S1))) := fun c o e nc => by
    rw [upd_ne (ne_of_none e nHSD)]
    exact b013 _ _ e nc
  have st14 : ∀ {x : Addr} {xs : List V}, H13 x = some (.lst xs) → upd H13 SD (.dK (stK S0 S1)) x = some (.lst xs) := fun e => by
    rw [upd_ne (ne_of e hSD13 fun z => nomatch z)]
    exact e
  have hL14 := st14 hL13
  have hS014 := st14 hS013
  have hS114 := st14 hS1
  have tu14 : Tups H13 (upd H13 SD (.dK (stK S0 S1))) := Tups.upd fun xs h => by
    rcases h with h | ⟨u, h⟩ <;> rw [hSD13] at h <;> cases h
  have lsO14 : ∀ s ∈ ls, SyOk K (upd H13 SD (.dK (stK S0 S1))) s := fun s hs => (lsO13 s hs).tups tu14
  have nmO14 : ∀ s ∈ nm, SyOk K (upd H13 SD (.dK (stK S0 S1))) s := fun s hs => (nmO13 s hs).tups tu14
  have hSD14 : upd H13 SD (.dK (stK S0 S1)) SD = some (.dK (stK S0 S1)) := upd_same
  generalize upd H13 SD (.dK (stK S0 S1)) = H14 at PA14 b014 hL14 hS014 hS114 lsO14 nmO14 hSD14
  clear st14 tu14 hL13 hS013 hS1 lsO13 nmO13 hSD13 PA13 b013
  intro ds nds
  have u15 := same_upd (o := DkO w ds []) nds
  have hds15 : upd H14 ds (DkO w ds []) ds = some (DkO w ds []) := upd_same
  obtain ⟨H15, e15⟩ : ∃ H15, H15 = upd H14 ds (DkO w ds []) := ⟨_, rfl⟩
  rw [← e15] at u15 hds15
  intro dt ndt
  have ndt : H15 dt = none := by
    rw [e15]
    exact ndt
  have u16 := same_upd (o := DkO w dt []) ndt
  have hdt16 : upd H15 dt (DkO w dt []) dt = some (DkO w dt []) := upd_same
  obtain ⟨H16, e16⟩ : ∃ H16, H16 = upd H15 dt (DkO w dt []) := ⟨_, rfl⟩
  rw [← e16] at u16 hdt16
  have nst : ds ≠ dt := ne_of_none hds15 ndt
  have u := same_trans u15 u16
  have none0 : ∀ {x : Addr}, x ≠ p → H14 x = none → H x = none := fun {x} nx e => by
    cases e2 : H x with
    | none => rfl
    | some o =>
      rw [b014 _ _ e2 nx] at e
      cases e
  have ndt14 : H14 dt = none := by
    cases e2 : H14 dt with
    | none => rfl
    | some o =>
      rw [u15 _ _ e2] at ndt
      cases ndt
  have G : MG K w H ⟨p, l, L, fun b => if b then S1 else S0, SD, ds, dt⟩ ls (fun b => nm.take (if b then 1 + k2 else 1 + k1)) (n + 20) [] [] H16 :=
    { pen := PA14.keep u, b := But.trans b014 (But.same u), hL := u _ _ hL14, hS := (fun b => by cases b; exact u _ _ hS014; exact u _ _ hS114), hSD := u _ _ hSD14, hds := u16 _ _ hds15, hdt := hdt16,
      lsO := (fun s hs => (lsO14 s hs).tups (same_tups u)), ssO := (fun b s hs => (nmO14 s (List.mem_of_mem_take hs)).tups (same_tups u)), se := (fun _ h => nomatch h), te := (fun _ h => nomatch h), ndS := List.nodup_nil, ndT := List.nodup_nil, fS := Nat.zero_le _, fT := Nat.zero_le _,
      nst := nst, nds := none0 (pen_new PA14 nds) nds, ndt := none0 (pen_new PA14 ndt14) ndt14, nsd := nSDp, lf := lsf.1, sf := (fun b => by rw [List.length_take]; omega), l0 := lsf.2,
      s0 := (fun b z => by
        have := congrArg List.length z
        rw [List.length_take, lnm] at this
        simp only [List.length_nil] at this
        cases b <;> simp at this <;> omega) }
  refine ⟨_, _, rfl, ?_⟩
  refine at_new fun H17 e17 => ?_
  have eH : H17 = H16 := by
    rw [e17, e16, e15]
    rfl
  subst eH
  clear e17 e15 e16
  generalize (fun b => nm.take (if b then 1 + k2 else 1 + k1) : Bool → List Sy) = ss at G
  obtain ⟨A, eA⟩ : ∃ A : MA, A = ⟨p, l, L, fun b => if b then S1 else S0, SD, ds, dt⟩ := ⟨_, rfl⟩
  rw [← eA] at G
  have ap : A.p = p := by rw [eA]
  have al : A.l = l := by rw [eA]
  have aL : A.L = L := by rw [eA]
  have aSD : A.SD = SD := by rw [eA]
  have ads : A.ds = ds := by rw [eA]
  have adt : A.dt = dt := by rw [eA]
  clear eA PA14 b014 hL14 hS014 hS114 lsO14 nmO14 hSD14 u15 hds15 u16 hdt16 u none0 nds ndt ndt14 nst
  subst ap al aL aSD ads adt
  refine ⟨fun σ H' => ∃ es et o7 o8 o9 o10 o11, σ = [some (.ref A.p), some (.int most), some (.ref A.L), some (.ref D), some (.ref A.SD), some (.ref A.ds), some (.ref A.dt), o7, o8, o9, o10, o11, none, none] ∧ MG K w H A ls ss (n + 200) es et H' ∧ ∀ b, ∀ s ∈ ss b, (∀ le ∈ ls, CovS es b s le) ∧ CovT et b s, ?_, ?_⟩
  · refine ⟨(by show 2 ≤ sizeLine; rw [sizeLine_eq]; decide), fun W nW => ⟨W, rfl, ⟨_, SqL.of upd_same⟩, ?_⟩⟩
    have uW := same_upd (o := .lst [.str "l", .str "r"]) nW
    have hW0 : upd H17 W (.lst [.str "l", .str "r"]) W = some (.lst [.str "l", .str "r"]) := upd_same
    refine for_list (K := K) (a := W) (xs := [.str "l", .str "r"]) (fun j σ H' => (∃ o7 o8 o9 o10 o11, σ = [some (.ref A.p), some (.int most), some (.ref A.L), some (.ref D), some (.ref A.SD), some (.ref A.ds), some (.ref A.dt), o7, o8, o9, o10, o11, none, none]) ∧ H' W = some (.lst [.str "l", .str "r"]) ∧ ∃ es et, MG K w H A ls ss (n + 20 + 80 * j) es et H' ∧ ∀ b, (if b then 1 else 0) < j → ∀ s ∈ ss b, (∀ le ∈ ls, CovS es b s le) ∧ CovT et b s) ?_ ?_ ?_ ?_
    · exact ⟨⟨none, none, none, none, none, rfl⟩, hW0, [], [], G.same uW, fun b hb => absurd hb (Nat.not_lt_zero _)⟩
    · rintro j σ H' hj ⟨_, hW, _⟩
      exact SqL.of hW
    · rintro j y σ H1 hx ⟨⟨o7, o8, o9, o10, o11, rfl⟩, hW, es, et, g, cov⟩
      have hj : j < 2 := (List.getElem?_eq_some_iff.mp hx).1
      obtain ⟨b, rfl, eb⟩ : ∃ b, y = .str (wayS b) ∧ j = if b then 1 else 0 := by
        match j, hj with
        | 0, _ => exact ⟨false, (Option.some.inj hx).symm, rfl⟩
        | 1, _ => exact ⟨true, (Option.some.inj hx).symm, rfl⟩
      refine ⟨fun σ H' => σ = [some (.ref A.p), some (.int most), some (.ref A.L), some (.ref D), some (.ref A.SD), some (.ref A.ds), some (.ref A.dt), some (.str (wayS b)), some (.str (wayS (!b))), o9, o10, o11, none, none] ∧ H' = H1, ?_, ?_⟩
      · refine ⟨_, rfl, rfl, decide (V.str (wayS b) = V.str "l"), rfl, ?_⟩
        cases b with
        | false =>
          rw [show decide (V.str (wayS false) = V.str "l") = true by decide]
          exact iteT ⟨rfl, rfl⟩
        | true =>
          rw [show decide (V.str (wayS true) = V.str "l") = false by decide]
          exact iteF ⟨rfl, rfl⟩
      rintro σ H2 ⟨rfl, rfl⟩
      refine ⟨_, rfl, _, rfl, A.SD, _, rfl, g.gs b, A.S b, rfl, ⟨_, SqL.of (g.hS b)⟩, ?_⟩
      refine for_list (K := K) (a := A.S b) (xs := (ss b).map (·.1)) (fun i σ H' => (∃ o9 o10 o11, σ = [some (.ref A.p), some (.int most), some (.ref A.L), some (.ref D), some (.ref A.SD), some (.ref A.ds), some (.ref A.dt), some (.str (wayS b)), some (.str (wayS (!b))), o9, o10, o11, none, none]) ∧ H' W = some (.lst [.str "l", .str "r"]) ∧ ∃ es' et', MG K w H A ls ss (n + 20 + 80 * j + 16 * i) es' et' H' ∧ Kc es et es' et' ∧ ∀ i' s, i' < i → (ss b)[i']? = some s → (∀ le ∈ ls, CovS es' b s le) ∧ CovT et' b s) ?_ ?_ ?_ ?_
      · exact ⟨⟨o9, o10, o11, rfl⟩, hW, es, et, g, Kc.rfl', fun i' s h => absurd h (Nat.not_lt_zero _)⟩
      · rintro i σ H' hi ⟨_, _, es', et', g', _⟩
        exact SqL.of (g'.hS b)
      · rintro i y σ H3 hx ⟨⟨p9, p10, p11, rfl⟩, hW3, es3, et3, g3, kc3, cov3⟩
        rw [List.getElem?_map] at hx
        obtain ⟨s, hs, rfl⟩ := Option.map_eq_some_iff.mp hx
        have hi : i < 5 := Nat.lt_of_lt_of_le (List.getElem?_eq_some_iff.mp hs).1 (g3.sf b)
        have ms : s ∈ ss b := List.mem_of_getElem? hs
        -- the letters
        refine ⟨_, rfl, A.L, rfl, ⟨_, SqL.of g3.hL⟩, ?_⟩
        refine for_list (K := K) (a := A.L) (xs := ls.map (·.1)) (fun k σ H' => (∃ o10 o11, σ = [some (.ref A.p), some (.int most), some (.ref A.L), some (.ref D), some (.ref A.SD), some (.ref A.ds), some (.ref A.dt), some (.str (wayS b)), some (.str (wayS (!b))), some s.1, o10, o11, none, none]) ∧ H' W = some (.lst [.str "l", .str "r"]) ∧ ∃ es', MG K w H A ls ss (n + 20 + 80 * j + 16 * i + 3 * k) es' et3 H' ∧ Kc es3 et3 es' et3 ∧ ∀ k' le, k' < k → ls[k']? = some le → CovS es' b s le) ?_ ?_ ?_ ?_
        · exact ⟨⟨p10, p11, rfl⟩, hW3, es3, g3, Kc.rfl', fun k' le h => absurd h (Nat.not_lt_zero _)⟩
        · rintro k σ H' hk ⟨_, _, es', g', _⟩
          exact SqL.of g'.hL
        · rintro k y σ H4 hx ⟨⟨r10, r11, rfl⟩, hW4, es4, g4, kc4, cov4⟩
          rw [List.getElem?_map] at hx
          obtain ⟨le, hle, rfl⟩ := Option.map_eq_some_iff.mp hx
          have hk : k < 3 := Nat.lt_of_lt_of_le (List.getElem?_eq_some_iff.mp hle).1 g4.lf
          have mle : le ∈ ls := List.mem_of_getElem? hle
          have lmap : ∀ b, ((ss b).map (·.1)).length ≤ 5 := fun b => by rw [List.length_map]; exact g4.sf b
          have llmap : (ls.map (·.1)).length ≤ 3 := by rw [List.length_map]; exact g4.lf
          refine ⟨_, rfl, _, rfl, _, rfl, A.SD, _, rfl, g4.gs b, ?_⟩
          refine ⟨A.p, A.l, A.S b, _, _, rfl, g4.pen, by omega, SqL.of (g4.hS b), fun z => g4.s0 b (List.map_eq_nil_iff.mp z), by have := lmap b; omega, pen_ne g4.pen (g4.hS b), fun i1 v1 H5 hv1 PA5 b5 => ?_⟩
          rw [List.getElem?_map] at hv1
          obtain ⟨s2, hs2, rfl⟩ := Option.map_eq_some_iff.mp hv1
          have ms2 : s2 ∈ ss b := List.mem_of_getElem? hs2
          have g5 := g4.go (Nat.le_succ _) PA5 b5
          have hW5 := b5 _ _ hW4 (pen_ne g4.pen hW4)
          refine ⟨_, rfl, _, rfl, A.p, A.l, A.L, _, _, rfl, g5.pen, by omega, SqL.of g5.hL, fun z => g5.l0 (List.map_eq_nil_iff.mp z), by omega, pen_ne g5.pen g5.hL, fun i2 v2 H6 hv2 PA6 b6 => ?_⟩
          rw [List.getElem?_map] at hv2
          obtain ⟨l2, hl2, rfl⟩ := Option.map_eq_some_iff.mp hv2
          have ml2 : l2 ∈ ls := List.mem_of_getElem? hl2
          have g6 := g5.go (Nat.le_succ _) PA6 b6
          have hW6 := b6 _ _ hW5 (pen_ne g5.pen hW5)
          refine ⟨(by show 2 ≤ sizeLine; rw [sizeLine_eq]; decide), fun r nr => ?_⟩
          have u7 := same_upd (o := .tup [s2.1, l2.1]) nr
          have hr7 : SqT K (upd H6 r (.tup [s2.1, l2.1])) r [s2.1, l2.1] := SqT.of upd_same
          generalize upd H6 r (.tup [s2.1, l2.1]) = H7 at u7 hr7
          have g7 := g6.same u7
          refine ⟨_, rfl, _, rfl, _, rfl, _, rfl, (by show 3 ≤ sizeLine; rw [sizeLine_eq]; decide), fun q8 nq8 => ?_⟩
          have u8 := same_upd (o := .tup [.str (wayS b), s.1, le.1]) nq8
          have hq8 : SqT K (upd H7 q8 (.tup [.str (wayS b), s.1, le.1])) q8 [.str (wayS b), s.1, le.1] := SqT.of upd_same
          generalize upd H7 q8 (.tup [.str (wayS b), s.1, le.1]) = H8' at u8 hq8
          have g8 := g7.same u8
          have hr8 := SqT.tups (same_tups u8) hr7
          have hW8 := u8 _ _ (u7 _ _ hW6)
          have o1 := g8.ssO b s ms
          have o2 := g8.lsO le mle
          refine ⟨A.ds, es4, kS b s.2 le.2, rfl, g8.hds, g8.da1, nkS hq8 o1 o2, depS o1 o2, by have := g8.fS; rw [sizeLine_eq]; omega, ?_⟩
          have g9 := g8.putS hq8 hr8 o1 o2 (g8.ssO b s2 ms2) (g8.lsO l2 ml2) ms2 ml2
          refine ⟨⟨_, _, rfl⟩, ?_, _, g9.mono (by omega), kc4.putS, fun k' le' hk' hle' => ?_⟩
          · rw [upd_ne (ne_of hW8 g8.hds fun z => nomatch z)]
            exact hW8
          · by_cases e : k' = k
            · subst e
              rw [hle] at hle'
              cases hle'
              exact cov_new
            · exact cov_put (cov4 k' le' (by omega) hle')
        · rintro σ H4 ⟨⟨r10, r11, rfl⟩, hW4, es4, g4', kc4, cov4⟩
          have g4 := g4'.mono (show _ ≤ n + 20 + 80 * j + 16 * i + 9 by have := g4'.lf; rw [List.length_map]; omega)
          have covS : ∀ le ∈ ls, CovS es4 b s le := fun le hle => by
            obtain ⟨k', hk'⟩ := List.getElem?_of_mem hle
            exact cov4 k' le (by rw [List.length_map]; exact (List.getElem?_eq_some_iff.mp hk').1) hk'
          clear g4' cov4
          have fin : ∀ et' H' v10 v11, MG K w H A ls ss (n + 20 + 80 * j + 16 * (i + 1)) es4 et' H' → H' W = some (.lst [.str "l", .str "r"]) → Kc es4 et3 es4 et' → CovT et' b s → (∃ o9 o10 o11, [some (.ref A.p), some (.int most), some (.ref A.L), some (.ref D), some (.ref A.SD), some (.ref A.ds), some (.ref A.dt), some (.str (wayS b)), some (.str (wayS (!b))), some s.1, v10, v11, none, none] = [some (.ref A.p), some (.int most), some (.ref A.L), some (.ref D), some (.ref A.SD), some (.ref A.ds), some (.ref A.dt), some (.str (wayS b)), some (.str (wayS (!b))), o9, o10, o11, none, none]) ∧ H' W = some (.lst [.str "l", .str "r"]) ∧ ∃ es' et', MG K w H A ls ss (n + 20 + 80 * j + 16 * (i + 1)) es' et' H' ∧ Kc es et es' et' ∧ ∀ i' s, i' < i + 1 → (ss b)[i']? = some s → (∀ le ∈ ls, CovS es' b s le) ∧ CovT et' b s := by
            intro et' H' v10 v11 g' hW' kc' ct
            refine ⟨⟨_, _, _, rfl⟩, hW', es4, et', g', kc3.trans (kc4.trans kc'), fun i' s' hi' hs' => ?_⟩
            by_cases e : i' = i
            · subst e
              rw [hs] at hs'
              cases hs'
              exact ⟨covS, ct⟩
            · obtain ⟨c1, c2⟩ := cov3 i' s' (by omega) hs'
              exact ⟨fun le hle => kc'.s _ _ _ (kc4.s _ _ _ (c1 le hle)), kc'.t _ _ c2⟩
          refine ⟨_, rfl, _, rfl, _, rfl, (by show 2 ≤ sizeLine; rw [sizeLine_eq]; decide), fun q5 nq5 => ?_⟩
          have u5 := same_upd (o := .tup [.str (wayS b), s.1]) nq5
          have hq5 : SqT K (upd H4 q5 (.tup [.str (wayS b), s.1])) q5 [.str (wayS b), s.1] := SqT.of upd_same
          generalize upd H4 q5 (.tup [.str (wayS b), s.1]) = H5 at u5 hq5
          have g5 := g4.same u5
          have hW5 := u5 _ _ hW4
          have o5 := g5.ssO b s ms
          refine ⟨A.dt, et3, kT b s.2, rfl, g5.hdt, g5.da2, nkT hq5 o5, depT o5, by have := g5.fT; rw [sizeLine_eq]; omega, ?_⟩
          have g6 := g5.putT (t := none) (v := .non) hq5 rfl o5 fun _ _ z => nomatch z
          have hW6 : upd H5 A.dt (DkO w A.dt (putE et3 (kT b s.2) (.ref q5) .non)) W = some (.lst [.str "l", .str "r"]) := by
            rw [upd_ne (ne_of hW5 g5.hdt fun z => nomatch z)]
            exact hW5
          have kc6 : Kc es4 et3 es4 (putE et3 (kT b s.2) (.ref q5) .non) := Kc.rfl'.putT
          have ct6 : CovT (putE et3 (kT b s.2) (.ref q5) .non) b s := cov_new
          refine ⟨_, rfl, A.p, A.l, _, 4, rfl, g6.pen, by omega, by decide, by decide, fun r H7 r0 r1 PA7 b7 => ⟨r, 0, rfl, rfl, _, rfl, ?_⟩⟩
          have g7 := g6.go (Nat.le_succ _) PA7 b7
          have hW7 := b7 _ _ hW6 (pen_ne g6.pen hW6)
          generalize putE et3 (kT b s.2) (.ref q5) .non = et5 at g7 kc6 ct6
          clear g6 hW6 g5 hW5 hq5 o5 u5 b7 PA7
          refine ite2 (fun _ => ?_) (fun _ => fin et5 H7 _ _ (g7.mono (by omega)) hW7 kc6 ct6)
          refine ⟨fun σ H' => ∃ x : Option Sy, σ = [some (.ref A.p), some (.int most), some (.ref A.L), some (.ref D), some (.ref A.SD), some (.ref A.ds), some (.ref A.dt), some (.str (wayS b)), some (.str (wayS (!b))), some s.1, r10, some (optV x), none, none] ∧ MG K w H A ls ss (n + 20 + 80 * j + 16 * i + 13) es4 et5 H' ∧ H' W = some (.lst [.str "l", .str "r"]) ∧ ∀ l, x = some l → b = true ∧ l ∈ ls, ?_, ?_⟩
          · refine ⟨_, rfl, rfl, decide (V.str (wayS b) = V.str "r"), rfl, ?_⟩
            cases hb : b with
            | false =>
              rw [show decide (V.str (wayS false) = V.str "r") = false by decide]
              exact iteF ⟨none, rfl, g7.mono (by omega), hW7, fun l z => nomatch z⟩
            | true =>
              rw [show decide (V.str (wayS true) = V.str "r") = true by decide]
              refine iteT ⟨_, rfl, A.p, A.l, _, 3, rfl, g7.pen, by omega, by decide, by decide, fun r H8' r0 r1 PA8' b8' => ?_⟩
              have g8 := g7.go (Nat.le_succ _) PA8' b8'
              have hW8 := b8' _ _ hW7 (pen_ne g7.pen hW7)
              refine ⟨rfl, _, rfl, ite2 (fun _ => ?_) (fun _ => ⟨none, rfl, g8.mono (by omega), hW8, fun l z => nomatch z⟩)⟩
              refine ⟨_, rfl, _, rfl, A.p, A.l, A.L, _, _, rfl, g8.pen, by omega, SqL.of g8.hL, fun z => g8.l0 (List.map_eq_nil_iff.mp z), by have := g8.lf; rw [List.length_map]; omega, pen_ne g8.pen g8.hL, fun i2 v2 H9 hv2 PA9 b9 => ?_⟩
              rw [List.getElem?_map] at hv2
              obtain ⟨l2, hl2, rfl⟩ := Option.map_eq_some_iff.mp hv2
              refine ⟨some l2, rfl, (g8.go (Nat.le_succ _) PA9 b9).mono (by omega), b9 _ _ hW8 (pen_ne g8.pen hW8), fun l z => ?_⟩
              cases z
              exact ⟨rfl, List.mem_of_getElem? hl2⟩
          · rintro σ H8' ⟨x, rfl, g8, hW8, hx8⟩
            refine ⟨_, rfl, _, rfl, _, rfl, A.SD, _, rfl, g8.gs (!b), ?_⟩
            refine ⟨A.p, A.l, A.S (!b), _, _, rfl, g8.pen, by omega, SqL.of (g8.hS (!b)), fun z => g8.s0 (!b) (List.map_eq_nil_iff.mp z), by have := g8.sf (!b); rw [List.length_map]; omega, pen_ne g8.pen (g8.hS (!b)), fun i1 v1 H9 hv1 PA9 b9 => ?_⟩
            rw [List.getElem?_map] at hv1
            obtain ⟨s2, hs2, rfl⟩ := Option.map_eq_some_iff.mp hv1
            have ms2 : s2 ∈ ss (!b) := List.mem_of_getElem? hs2
            have g9 := g8.go (Nat.le_succ _) PA9 b9
            have hW9 := b9 _ _ hW8 (pen_ne g8.pen hW8)
            refine ⟨_, rfl, (by show 2 ≤ sizeLine; rw [sizeLine_eq]; decide), fun r nr => ?_⟩
            have u10 := same_upd (o := .tup [s2.1, optV x]) nr
            have hr10 : SqT K (upd H9 r (.tup [s2.1, optV x])) r [s2.1, optV x] := SqT.of upd_same
            generalize upd H9 r (.tup [s2.1, optV x]) = H10 at u10 hr10
            have g10 := g9.same u10
            refine ⟨_, rfl, _, rfl, _, rfl, (by show 2 ≤ sizeLine; rw [sizeLine_eq]; decide), fun q11 nq11 => ?_⟩
            have u11 := same_upd (o := .tup [.str (wayS b), s.1]) nq11
            have hq11 : SqT K (upd H10 q11 (.tup [.str (wayS b), s.1])) q11 [.str (wayS b), s.1] := SqT.of upd_same
            generalize upd H10 q11 (.tup [.str (wayS b), s.1]) = H11 at u11 hq11
            have g11 := g10.same u11
            have hr11 := SqT.tups (same_tups u11) hr10
            have hW11 := u11 _ _ (u10 _ _ hW9)
            have o11 := g11.ssO b s ms
            refine ⟨A.dt, et5, kT b s.2, rfl, g11.hdt, g11.da2, nkT hq11 o11, depT o11, by have := g11.fT; rw [sizeLine_eq]; omega, ?_⟩
            have g12 := g11.putT (t := some (s2, x)) (v := .ref r) hq11 ⟨r, rfl, hr11⟩ o11 fun s3 y e => by
              cases e
              exact ⟨g11.ssO _ s2 ms2, ms2, fun l hl => ⟨(hx8 l hl).1, g11.lsO l (hx8 l hl).2, (hx8 l hl).2⟩⟩
            refine fin _ _ _ _ (g12.mono (by omega)) ?_ kc6.putT cov_new
            rw [upd_ne (ne_of hW11 g11.hdt fun z => nomatch z)]
            exact hW11
      · rintro σ H3 ⟨⟨p9, p10, p11, rfl⟩, hW3, es3, et3, g3, kc3, cov3⟩
        refine ⟨⟨_, _, _, _, _, rfl⟩, hW3, es3, et3, g3.mono (by have := g3.sf b; rw [List.length_map]; omega), fun b' hb' s hs => ?_⟩
        by_cases e : b' = b
        · subst e
          obtain ⟨i', hi'⟩ := List.getElem?_of_mem hs
          exact cov3 i' s (by rw [List.length_map]; exact (List.getElem?_eq_some_iff.mp hi').1) hi'
        · have lt : (if b' then 1 else 0) < j := by
            cases b <;> cases b' <;> simp_all
          obtain ⟨c1, c2⟩ := cov b' lt s hs
          exact ⟨fun le hle => kc3.s _ _ _ (c1 le hle), kc3.t _ _ c2⟩
    · rintro σ H1 ⟨⟨o7, o8, o9, o10, o11, rfl⟩, hW, es, et, g, cov⟩
      exact ⟨es, et, _, _, _, _, _, rfl, g.mono (by show n + 20 + 80 * 2 ≤ n + 200; omega), fun b => cov b (by cases b <;> decide)⟩
  rintro σ H1 ⟨es, et, o7, o8, o9, o10, o11, rfl, g, cov⟩
  refine ⟨_, rfl, A.p, A.l, _, 3, rfl, g.pen, by omega, by decide, by decide, fun r H2 r0 r1 PA2 b2 => ⟨2, r, rfl, rfl, ?_⟩⟩
  have g2 := g.go (Nat.le_succ _) PA2 b2
  obtain ⟨k, rfl⟩ : ∃ k : Nat, r = (k : Int) := ⟨r.toNat, by omega⟩
  refine ⟨((2 + k : Nat) : Int), congrArg (fun z => [V.int z]) (show (2 : Int) + (k : Int) = ((2 + k : Nat) : Int) by omega), by omega, by omega, fun D9 nD9 => ?_⟩
  have nDp : D9 ≠ A.p := pen_new g2.pen nD9
  have nDl : D9 ≠ A.l := by
    obtain ⟨zs, hz⟩ := g2.pen.lis
    exact Ne.symm (ne_of_none hz nD9)
  refine lc_range (lo := 0) (n := 2 + k) (fun i H' => But A.p H2 H' ∧ PenAt H' A.p A.l (n + 201 + i) ∧ ∃ fs : List Sy, H' D9 = some (.lst (fs.map (·.1))) ∧ fs.length = i ∧ ∀ s ∈ fs, s ∈ ls) ?_ ?_ ?_
  · exact ⟨But.same (same_upd nD9), g2.pen.keep (same_upd nD9), [], upd_same, rfl, fun _ h => nomatch h⟩
  · rintro i H' hi ⟨b', PA', fs, hD, lf, mf⟩
    have g' := g2.go (c' := n + 201 + i) (by omega) PA' b'
    refine ⟨rfl, yes_if ?_⟩
    refine ⟨_, rfl, _, rfl, A.p, A.l, A.L, _, _, rfl, g'.pen, by omega, SqL.of g'.hL, fun z => g'.l0 (List.map_eq_nil_iff.mp z), by have := g'.lf; rw [List.length_map]; omega, pen_ne g'.pen g'.hL, fun i2 v2 H9 hv2 PA9 b9 => ?_⟩
    rw [List.getElem?_map] at hv2
    obtain ⟨l2, hl2, rfl⟩ := Option.map_eq_some_iff.mp hv2
    have hD9 := b9 _ _ hD nDp
    refine ⟨_, hD9, by rw [List.length_map, lf, sizeLine_eq]; omega, fun c o e nc => ?_, (PA9.other nDp nDl).mono (by omega), fs ++ [l2], by rw [upd_same]; simp, by simp [lf], fun s hs => ?_⟩
    · rw [upd_ne (ne_of_none e nD9)]
      exact b9 _ _ (b' _ _ e nc) nc
    · rcases List.mem_append.mp hs with hs | hs
      · exact mf s hs
      · obtain rfl := List.mem_singleton.mp hs
        exact List.mem_of_getElem? hl2
  rintro H3 ⟨b3, PA3, fs, hD3, lf, mf⟩
  have g3 := g2.go (c' := n + 201 + (2 + k)) (by omega) PA3 b3
  refine ⟨D9, _, rfl, .inl (SqL.of hD3), fun fi H4 s4 hfi => ?_⟩
  have g4 := g3.same s4
  intro mc nmc
  have u5 := same_upd (o := .dK []) nmc
  have g5 := g4.same u5
  have hmc5 : upd H4 mc (.dK []) mc = some (.dK []) := upd_same
  have nmp : mc ≠ A.p := pen_new g4.pen nmc
  obtain ⟨H5, e5⟩ : ∃ H5, H5 = upd H4 mc (.dK []) := ⟨_, rfl⟩
  rw [← e5] at u5 g5 hmc5
  refine ⟨_, rfl, _, rfl, _, rfl, A.SD, _, rfl, (by rw [e5] at g5; exact g5.gs false), ?_⟩
  refine ⟨A.p, A.l, A.S false, _, _, rfl, (by rw [e5] at g5; exact g5.pen), by omega, (by rw [e5] at g5; exact SqL.of (g5.hS false)), fun z => g5.s0 false (List.map_eq_nil_iff.mp z), by have := g5.sf false; rw [List.length_map]; omega, pen_ne g5.pen (g5.hS false), fun i1 v1 H6 hv1 PA6 b6 => ?_⟩
  rw [List.getElem?_map] at hv1
  obtain ⟨be, hbe, rfl⟩ := Option.map_eq_some_iff.mp hv1
  have mbe : be ∈ ss false := List.mem_of_getElem? hbe
  have b6 : But A.p H5 H6 := by
    rw [e5]
    exact b6
  have g6 := g5.go (Nat.le_succ _) PA6 b6
  have hmc6 := b6 _ _ hmc5 nmp
  have hfi6 : SqT K H6 fi (fs.map (·.1)) := SqT.tups (Tups.trans (same_tups u5) (pen_tups g5.pen b6)) hfi
  refine ⟨_, rfl, _, rfl, hmc6, macK fi be.1 A.ds A.dt, rfl, (by show 4 ≤ 15; decide), ?_⟩
  rw [show mergeK [] (macK fi be.1 A.ds A.dt) = macK fi be.1 A.ds A.dt by kernel_rfl]
  have nml : mc ≠ A.l := by
    obtain ⟨zs, hz⟩ := g4.pen.lis
    exact Ne.symm (ne_of_none hz nmc)
  obtain ⟨m1', m2'⟩ := g6.mac cov (by have := g.fS; omega) (by have := g.fT; omega)
  have tu : Tups H6 (upd H6 mc (.dK (macK fi be.1 A.ds A.dt))) := Tups.upd fun xs h => by
    rcases h with h | ⟨u, h⟩ <;> rw [hmc6] at h <;> cases h
  have nHmc : H mc = none := by
    cases e : H mc with
    | none => rfl
    | some o =>
      rw [g4.b _ _ e nmp] at nmc
      cases nmc
  refine q mc (macOf K H6 ls ss es et) fs be _ ((g6.pen.other nmp nml).mono (by omega)) (fun c o e nc => ?_) ⟨⟨fi, A.ds, A.dt, es, et, upd_same, SqT.tups tu hfi6, m2'.keep tu ?_ ?_, g6.nst⟩, m1'.tups tu, fun s hs => ⟨(g6.lsO s (mf s hs)).tups tu, List.mem_map.mpr ⟨s, mf s hs, rfl⟩⟩, by omega, by omega, (g6.ssO false be mbe).tups tu, List.mem_map.mpr ⟨be, mbe, rfl⟩⟩
  · rw [upd_ne (ne_of_none e nHmc)]
    exact g6.b _ _ e nc
  · rw [upd_ne (ne_of g6.hds hmc6 fun z => nomatch z)]
    exact g6.hds
  · rw [upd_ne (ne_of g6.hdt hmc6 fun z => nomatch z)]
    exact g6.hdt
end
end K15

set_option Elab.async false
set_option linter.all false
set_option maxRecDepth 100000
set_option maxHeartbeats 4000000
namespace K15
open PySem PySem.Spec PyProof.Rows L2 Pen Tr AK LamX
section
variable {P : Program} {w : World} {K : PySem.W.Frag} {mg : Str → Option PySem.Value} {base : Heap} {f fS CS : Addr} {fd fdS : FuncData} {H H' : Hp} {TT : List (Addr × Str)}
def spMade (K : PySem.W.Frag) (w : World) (CS : Addr) (TT : List (Addr × Str)) : Sp := fun vs H Q _ => ∃ mc m first be, vs = [.ref mc] ∧ McE K w H mc m first be ∧ Tabs TT H ∧ ∀ sw H', ExtN H H' → Tabs TT H' → SwO K w CS H' sw m first be → Q (.ref sw) H'
theorem scMade : FnScope ["_law_machine"] ["_law_machine"] (defScope (top 33)) := ⟨rfl, rfl, rfl, by decide +kernel, rfl, by decide +kernel, by decide +kernel⟩
theorem ok_made (F : FnP K "_law_sw_made" (top 33) f fd) (FS : FnM K "__init__" "Sweeps.__init__" (cSw 0) fS fdS) (MS : Mk K CS fS) (gS : mg "Sweeps" = some (.ref CS)) (GS : GFn P w K mg base CX0 6 fS fdS ["self", "first", "begin", "steps", "turns"] (spSw K w CS TT)) : GFn P w K mg base CX0 8 f fd ["_law_machine"] (spMade K w CS TT) := by
  refine GFn.of F scMade (fun vs H Q E h => by obtain ⟨mc, m, first, be, rfl, _⟩ := h; rfl) (fun c A outer s0 H vs Q E hc hr free h => ?_)
  obtain ⟨mc, m, first, be, rfl, M, tabs, q⟩ := h
  have hu1 := hu_of hr
  suffices z : ∃ t, PSs (cxOf CX0 P w K mg base ["_law_machine"] "_law_sw_made" (defScope (top 33)) f (.ref c) A outer s0 H E).nox (defBody (top 33)) t ∧ t { nx := fun _ H' => Q .non H', rt := Q } (start ["_law_machine"] [.ref mc]) H by
    obtain ⟨t, h1, h2⟩ := z
    exact ⟨t, h1.nox, h2⟩
  have bS : L2.Binds K fdS ["self", "first", "begin", "steps", "turns"] [] := FunD.bindsN FS fun _ _ _ _ _ _ us hl => match us, hl with | [_, _, _, _, _], _ => rfl
  refine ⟨_, pss_one (ps_ret (pe_makeG MS GS free hr (by rfl) gS bS pass0 (pa_cons (pe_dget hu1 (pv 0) pe_str (fun _ _ => rfl)) (pa_cons (pe_dget hu1 (pv 0) pe_str (fun _ _ => rfl)) (pa_cons (pe_dget hu1 (pv 0) pe_str (fun _ _ => rfl)) (pa_cons (pe_dget hu1 (pv 0) pe_str (fun _ _ => rfl)) pa_nil)))))), ?_⟩
  obtain ⟨fi, ds, dt, es, et, hmc, hfi, T, nst⟩ := M.ex
  refine ⟨_, rfl, mc, _, rfl, gFirst hmc, _, rfl, mc, _, rfl, gBegin hmc, _, rfl, mc, _, rfl, gSteps hmc, _, rfl, mc, _, rfl, gTurns hmc, fun x dx nx ndx nn => ?_⟩
  have s1 : Same H (upd (upd H dx (.own x)) x (.ins CS dx [])) := ins_new nx ndx
  have tu := same_tups s1
  refine ⟨x, dx, fi, ds, dt, m, be, es, et, first, rfl, upd_same, SqT.tups tu hfi, fun s hs => ⟨(M.fs s hs).1.tups tu, (M.fs s hs).2⟩, M.f2, M.f9, ⟨M.be_.1.tups tu, M.be_.2⟩, M.mac.tups tu, T.same s1, nst, tabs.ext s1, fun H2 b2 t2 so => ⟨rfl, q x H2 (fun b o e nt => b2 _ _ (s1 _ _ e) nt (ne_of_none e nx)) t2 so⟩⟩
end
end K15

set_option Elab.async false
set_option linter.all false
set_option maxRecDepth 100000
set_option maxHeartbeats 4000000
namespace K15
open PySem PySem.Spec PyProof.Rows L2 Pen Tr AK LamX RU
/-! ### what is no symbol -/
/-- a list, an empty dict -/
def Ld (H : Hp) (a : Addr) : Prop := (∃ xs, H a = some (.lst xs)) ∨ H a = some (.dK [])
def NoSy (H : Hp) (v : V) : Prop := v = .non ∨ ∃ a, v = .ref a ∧ Ld H a
section
variable {P : Program} {w : World} {K : PySem.W.Frag} {mg : Str → Option PySem.Value} {base : Heap} {f fI fD : Addr} {fd fdI fdD : FuncData} {H H' : Hp}
theorem Ld.same {a : Addr} (h : Ld H a) (s : Same H H') : Ld H' a := h.imp (fun ⟨xs, e⟩ => ⟨xs, s _ _ e⟩) fun e => s _ _ e
theorem NoSy.same {v : V} (h : NoSy H v) (s : Same H H') : NoSy H' v := h.imp id fun ⟨a, e, l⟩ => ⟨a, e, l.same s⟩
theorem Ld.ty {a : Addr} (h : Ld H a) : ∃ t, TyX K H (.ref a) (.type t) ∧ (t = "list" ∨ t = "dict") := by
  rcases h with ⟨xs, e⟩ | e
  · exact ⟨_, .base (.lst e), .inl rfl⟩
  · exact ⟨_, .base (.dK e), .inr rfl⟩
/-- isinstance of these is false, of int, str, tuple -/
theorem Ld.kit {a : Addr} {c : String} (h : Ld H a) (hc : c = "int" ∨ c = "str" ∨ c = "tuple") : ∃ t, TyX K H (.ref a) (.type t) ∧ PySem.W.kitOne K (.type t) (.type c) = some false := by
  obtain ⟨t, ty, ht⟩ := h.ty (K := K)
  refine ⟨t, ty, kit_ty ?_⟩
  rcases ht with rfl | rfl <;> rcases hc with rfl | rfl | rfl <;> decide +kernel
def spIntF : Sp := fun vs H Q _ => ∃ a, vs = [.ref a] ∧ Ld H a ∧ Q (.bl false) H
theorem ok_intF (F : FnT K "is_integer" 9 f fd) (T : Txt mg) : FnOk P w K mg base CX0 1 f fd ["value"] spIntF := by
  refine F.ok scInt (fun vs H Q E h => by obtain ⟨a, rfl, _⟩ := h; rfl) (fun cdv A outer s H vs Q E hr h => ?_)
  obtain ⟨a, rfl, ld, q⟩ := h
  suffices z : ∃ t, PSs (cxOf CX0 P w K mg base ["value"] "is_integer" (defScope (top 9)) f cdv A outer s H E).nox (defBody (top 9)) t ∧ t { nx := fun _ H' => Q .non H', rt := Q } (start ["value"] [.ref a]) H by
    obtain ⟨t, h1, h2⟩ := z
    exact ⟨t, h1.nox, h2⟩
  refine ⟨_, pss_one (ps_ret (pe_and (pe_callB call_isi (by rfl) T.isi (by decide +kernel) (pa_cons (pv 0) (pa_cons (pe_bltn (by rfl) T.int (by decide +kernel) (v := .ty "int") rfl) pa_nil)))
    (pe_one (pe_not (pe_callB call_isi (by rfl) T.isi (by decide +kernel) (pa_cons (pv 0) (pa_cons (pe_bltn (by rfl) T.bool (by decide +kernel) (v := .ty "bool") rfl) pa_nil))))))), ?_⟩
  obtain ⟨t, ty, kt⟩ := ld.kit (K := K) (.inl rfl)
  exact ⟨_, rfl, .ref a, .ty "int", _, _, false, rfl, .ty _, ty, kt, false, rfl, iteF q⟩
def spDatF : Sp := fun vs H Q _ => ∃ a, vs = [.ref a] ∧ Ld H a ∧ ∀ H', Same H H' → Q (.bl false) H'
theorem ok_datF (F : FnT K "is_datum" 10 f fd) (T : Txt mg) (FI : FnT K "is_integer" 9 fI fdI) (gI : mg "is_integer" = some (.ref fI)) : FnOk P w K mg base CX0 2 f fd ["value"] spDatF := by
  refine F.ok scDat (fun vs H Q E h => by obtain ⟨a, rfl, _⟩ := h; rfl) (fun cdv A outer s H vs Q E hr h => ?_)
  obtain ⟨a, rfl, ld, q⟩ := h
  have nd := scDat.nd
  suffices z : ∃ t, PSs (cxOf CX0 P w K mg base nDat "is_datum" (defScope (top 10)) f cdv A outer s H E).nox (defBody (top 10)) t ∧ t { nx := fun _ H' => Q .non H', rt := Q } (start nDat [.ref a]) H by
    obtain ⟨t, h1, h2⟩ := z
    exact ⟨t, h1.nox, h2⟩
  have GI := ok_intF (P := P) (w := w) (mg := mg) (base := base) FI T
  have bI : L2.Binds K fdI ["value"] [] := FunD.bindsN FI fun _ _ _ _ _ _ us hl => match us, hl with | [_], _ => rfl
  refine ⟨_, pss_cons (ps_asg (pe_lst (pa_cons (pv 0) pa_nil)) (pg_name (i := 1) nd rfl (.inl rfl)))
    (pss_cons (ps_while PassesOwn.never (pt_truth (pv 1) (by intro _; rfl))
      (pss_cons (ps_asg (pe_bm0 PySem.F.plainAttrs_list PySem.F.slot_list_pop PySem.F.type_list_pop mt_pop (pv 1)) (pg_name (i := 2) nd rfl (.inl rfl)))
      (pss_one (ps_if (pt_val (pe_callB call_isi (by rfl) T.isi (by decide +kernel) (pa_cons (pv 2) (pa_cons (pe_bltn (by rfl) T.tuple (by decide +kernel) (v := .ty "tuple") rfl) pa_nil))))
        Tr.pss_never
        (pss_one (ps_if (PW.pt (pw_and (pt_cmpR op_notN (pv 2) pe_non (nomark _)) (pw_and (pt_not (pt_val (pe_callB call_isi (by rfl) T.isi (by decide +kernel) (pa_cons (pv 2) (pa_cons (pe_bltn (by rfl) T.str (by decide +kernel) (v := .ty "str") rfl) pa_nil)))))
          (pw_and1 (pt_not (pt_val (pe_call GI hr (by rfl) gI FI.kp bI .nil pass0 (pa_cons (pv 2) pa_nil))))))))
          (pss_one (ps_ret pe_bl)) pss_nil))))))
    (pss_one (ps_ret pe_bl))), ?_⟩
  refine ⟨_, rfl, (by show 1 ≤ sizeLine; decide), fun D nD => ?_⟩
  have s0 := same_upd (o := .lst [.ref a]) nD
  refine ⟨fun m σ H' => m = 0 ∧ σ = [some (.ref a), some (.ref D), none] ∧ H' = upd H D (.lst [.ref a]), ⟨0, rfl, rfl, rfl⟩, ?_⟩
  rintro m σ H1 ⟨rfl, rfl, rfl⟩
  refine ⟨_, rfl, true, .inl ⟨[.ref a], SqL.of upd_same, rfl⟩, iteT ⟨fun _ _ => False, fun _ _ z => z.elim, ?_⟩⟩
  refine ⟨_, rfl, .inl ⟨rfl, _, SqL.of upd_same⟩, D, [.ref a], .ref a, rfl, rfl, upd_same, rfl, ?_⟩
  have s2 : Same H (upd (upd H D (.lst [.ref a])) D (.lst [.ref a].dropLast)) := fun b o e => by
    rw [upd_ne (ne_of_none e nD), upd_ne (ne_of_none e nD)]
    exact e
  have l2 := ld.same s2
  obtain ⟨t1, ty1, kt1⟩ := l2.kit (K := K) (.inr (.inr rfl))
  obtain ⟨t2, ty2, kt2⟩ := l2.kit (K := K) (.inr (.inl rfl))
  refine ⟨_, rfl, .ref a, .ty "tuple", _, _, false, rfl, .ty _, ty1, kt1, false, rfl, iteF ?_⟩
  refine ⟨_, rfl, rfl, true, rfl, iteT ⟨_, rfl, .ref a, .ty "str", _, _, false, rfl, .ty _, ty2, kt2, false, rfl, iteT ⟨_, rfl, a, rfl, l2, false, rfl, iteT ?_⟩⟩⟩
  exact q _ s2
def spSymF : Sp := fun vs H Q _ => ∃ v, vs = [v] ∧ NoSy H v ∧ ∀ H', Same H H' → Q (.bl false) H'
theorem ok_symF (F : FnT K "is_symbol" 11 f fd) (FD : FnT K "is_datum" 10 fD fdD) (gD : mg "is_datum" = some (.ref fD)) (GD : FnOk P w K mg base CX0 2 fD fdD ["value"] spDatF) : FnOk P w K mg base CX0 3 f fd ["value"] spSymF := by
  refine F.ok scSym (fun vs H Q E h => by obtain ⟨v, rfl, _⟩ := h; rfl) (fun cdv A outer s H vs Q E hr h => ?_)
  obtain ⟨v, rfl, no, q⟩ := h
  suffices z : ∃ t, PSs (cxOf CX0 P w K mg base ["value"] "is_symbol" (defScope (top 11)) f cdv A outer s H E).nox (defBody (top 11)) t ∧ t { nx := fun _ H' => Q .non H', rt := Q } (start ["value"] [v]) H by
    obtain ⟨t, h1, h2⟩ := z
    exact ⟨t, h1.nox, h2⟩
  have bD : L2.Binds K fdD ["value"] [] := FunD.bindsN FD fun _ _ _ _ _ _ us hl => match us, hl with | [_], _ => rfl
  refine ⟨_, pss_one (ps_ret (pe_and (pe_cmpR op_notN (pv 0) pe_non (by rfl)) (pe_one (pe_call GD hr (by rfl) gD FD.kp bD .nil pass0 (pa_cons (pv 0) pa_nil))))), ?_⟩
  rcases no with rfl | ⟨a, rfl, ld⟩
  · exact ⟨_, rfl, rfl, false, rfl, iteF (q H same_refl)⟩
  · exact ⟨_, rfl, rfl, true, rfl, iteT ⟨_, rfl, a, rfl, ld, q⟩⟩
/-- is_symbol, both ways -/
def spSy (K : PySem.W.Frag) : Sp := fun vs H Q E => spSymb K vs H Q E ∨ spSymF vs H Q E
/-- is_list -/
def spIsl (K : PySem.W.Frag) : Sp := fun vs H Q _ => ∃ v, vs = [v] ∧ ((∃ a ys, v = .ref a ∧ (SqL K H a ys ∨ SqT K H a ys) ∧ ∀ H', Same H H' → Q (.bl true) H') ∨ ((v = .non ∨ (∃ i, v = .int i) ∨ ∃ x, v = .str x) ∧ ∀ H', Same H H' → Q (.bl false) H'))
theorem scIsl : FnScope ["value"] ["value"] (defScope (top 13)) := ⟨rfl, rfl, rfl, by decide +kernel, rfl, by decide +kernel, by decide +kernel⟩
theorem ok_isl (F : FnT K "is_list" 13 f fd) (T : Txt mg) : FnOk P w K mg base CX0 1 f fd ["value"] (spIsl K) := by
  refine F.ok scIsl (fun vs H Q E h => by obtain ⟨v, rfl, _⟩ := h; rfl) (fun cdv A outer s H vs Q E hr h => ?_)
  obtain ⟨v, rfl, h⟩ := h
  suffices z : ∃ t, PSs (cxOf CX0 P w K mg base ["value"] "is_list" (defScope (top 13)) f cdv A outer s H E).nox (defBody (top 13)) t ∧ t { nx := fun _ H' => Q .non H', rt := Q } (start ["value"] [v]) H by
    obtain ⟨t, h1, h2⟩ := z
    exact ⟨t, h1.nox, h2⟩
  refine ⟨_, pss_one (ps_ret (pe_callB call_isLT (by rfl) T.isi (by decide +kernel) (pa_cons (pv 0) (pa_cons (pe_tup (pa_cons (pe_bltn (by rfl) T.list (by decide +kernel) (v := .ty "list") rfl) (pa_cons (pe_bltn (by rfl) T.tuple (by decide +kernel) (v := .ty "tuple") rfl) pa_nil))) pa_nil)))), ?_⟩
  refine ⟨_, rfl, (by show 2 ≤ sizeLine; rw [sizeLine_eq]; decide), fun tp ntp => ⟨v, tp, rfl, upd_same, ?_⟩⟩
  have s1 := same_upd (o := .tup [.ty "list", .ty "tuple"]) ntp
  rcases h with ⟨a, ys, rfl, hs, q⟩ | ⟨hv, q⟩
  · exact .inl ⟨a, ys, rfl, hs.imp (fun h => Kp.sql (Kp.same s1) h) (fun h => SqT.tups (same_tups s1) h), q _ s1⟩
  · have no : ∀ t, (t = "NoneType" ∨ t = "int" ∨ t = "str") → PySem.W.kitAny K (.type t) [.type "list", .type "tuple"] = some false := fun t ht => by
      refine kitAny_cons (b := false) (kit_ty ?_) (fun _ => kitAny_cons (b := false) (kit_ty ?_) (fun _ => rfl) fun z => nomatch z) fun z => nomatch z
      · rcases ht with rfl | rfl | rfl <;> decide +kernel
      · rcases ht with rfl | rfl | rfl <;> decide +kernel
    rcases hv with rfl | ⟨i, rfl⟩ | ⟨x, rfl⟩
    · exact .inr ⟨_, .base .non, no _ (.inl rfl), q _ s1⟩
    · exact .inr ⟨_, .base (.int i), no _ (.inr (.inl rfl)), q _ s1⟩
    · exact .inr ⟨_, .base (.str x), no _ (.inr (.inr rfl)), q _ s1⟩
end
end K15

set_option Elab.async false
set_option linter.all false
set_option maxRecDepth 100000
set_option maxHeartbeats 4000000
namespace K15
open PySem PySem.Spec PyProof.Rows L2 Pen Tr AK LamX RU
/-! ### a list or a tuple, walked -/
def iSeq (K : PySem.W.Frag) (tl : TE) : TI := fun σ H R => iList K tl σ H R ∨ iTup K tl σ H R
section
variable {K : PySem.W.Frag} {H : Hp} {tl : TE} {σ : L2.St} {a : Addr} {xs : List V}
theorem seq_at {R : It → Hp → Prop} (hx : SqL K H a xs ∨ SqT K H a xs) (htl : ∀ R : VK, R (.ref a) H → tl σ H R) (h : ∀ J (G : Hp → Prop), Walk J xs.length G (YAt xs) → (∀ H', Same H H' → G H') → R J H) : iSeq K tl σ H R :=
  hx.elim (fun hx => .inl (htl _ ⟨a, rfl, ⟨xs, hx⟩, h _ _ walk_list fun H' s => Kp.sql (Kp.same s) hx⟩)) fun hx => .inr (htl _ ⟨a, rfl, ⟨xs, hx⟩, h _ _ walk_tup fun H' s => SqT.tups (same_tups s) hx⟩)
theorem lc_seq {g : TG} {tt : TT} {te : TE} {vs : List Nat} {Q : VK} (hx : SqL K H a xs ∨ SqT K H a xs) (htl : ∀ R : VK, R (.ref a) H → tl σ H R) (Pv : Addr → Nat → Hp → Prop) (h0 : ∀ D, H D = none → Pv D 0 (upd H D (.lst []))) (hk : ∀ D, H D = none → ∀ i H', Pv D i H' → Same H H')
    (hs : ∀ D, H D = none → ∀ i x H', xs[i]? = some x → Pv D i H' → g x (wipe σ vs) H' fun σ2 H2 => wipe σ2 vs = wipe σ vs ∧ tt σ2 H2 fun b H3 => if b = true then te σ2 H3 fun y H4 => ∃ acc, H4 D = some (.lst acc) ∧ acc.length < sizeLine ∧ Pv D (i + 1) (upd H4 D (.lst (acc ++ [y]))) else Pv D (i + 1) H3)
    (hd : ∀ D, H D = none → ∀ H', Pv D xs.length H' → Q (.ref D) H') : tLc (iSeq K tl) g tt te vs σ H Q :=
  seq_at hx htl fun J G wk ge D nD => lc_it wk (Pv D) (h0 D nD) (fun i H' _ p => ge H' (hk D nD i H' p)) (fun i x H1 H2 hi p y => by
    obtain ⟨rfl, hy⟩ := y
    exact hs D nD i x _ hy p) (hd D nD)
end
/-! ### words -/
/-- a letter of a word, and whether it is one of these -/
def LtOk (K : PySem.W.Frag) (H : Hp) (lv : List Sy) (v : V) (r : Bool) : Prop := (∃ d k, Dp K H v d ∧ symD d = true ∧ v ≠ .non ∧ wtD d ≤ 100000 ∧ NK K H k v ∧ k.depth ≤ 8 ∧ (atK (entS lv) k).isSome = r) ∨ (r = false ∧ NoSy H v)
abbrev Wv := List (V × Bool)
def WordsV (K : PySem.W.Frag) (H : Hp) (ws : List Wv) (xs : List V) : Prop := Paired (fun (w : Wv) (v : V) => ∃ q, v = .ref q ∧ SqT K H q (w.map (·.1))) ws xs
def flatW (ws : List Wv) : List Bool := ws.flatMap fun w => w.map (·.2)
theorem flat_all (ws : List Wv) : (flatW ws).all id = ws.all fun w => w.all (·.2) := by
  induction ws with
  | nil => rfl
  | cons w ws ih =>
    show (w.map (·.2) ++ flatW ws).all id = _
    rw [List.all_append, ih, List.all_cons, List.all_map]
    rfl
theorem flat_len (ws : List Wv) (h : ∀ w ∈ ws, w.length ≤ 20) : (flatW ws).length ≤ 20 * ws.length := by
  induction ws with
  | nil => exact Nat.zero_le _
  | cons w ws ih =>
    show (w.map (·.2) ++ flatW ws).length ≤ _
    have h1 := ih fun x hx => h x (List.mem_cons_of_mem _ hx)
    have h2 := h w (List.mem_cons_self ..)
    rw [List.length_append, List.length_map, List.length_cons]
    omega
theorem pairW {α β : Type} {F : α → β → Prop} : ∀ {l₁ : List α} {l₂ : List β} {j : Nat} {x : β}, Paired F l₁ l₂ → l₂[j]? = some x → ∃ y, l₁[j]? = some y ∧ F y x
  | _, _, _, _, .nil, h => by simp at h
  | _, _, 0, _, .cons h1 _, h => by
    obtain rfl := Option.some.inj h
    exact ⟨_, rfl, h1⟩
  | _, _, j + 1, _, .cons _ h2, h => by
    obtain ⟨y, h3, h4⟩ := pairW (j := j) h2 (by simpa using h)
    exact ⟨y, by simpa using h3, h4⟩
section
variable {P : Program} {w : World} {K : PySem.W.Frag} {mg : Str → Option PySem.Value} {base : Heap} {f fI fS CS : Addr} {fd fdI fdS : FuncData} {H H' : Hp}
theorem LtOk.same {lv : List Sy} {v : V} {r : Bool} (h : LtOk K H lv v r) (s : Same H H') : LtOk K H' lv v r := h.imp (fun ⟨d, k, h1, h2, h3, h4, h5, h6, h7⟩ => ⟨d, k, dp_same s _ _ h1, h2, h3, h4, h5.tups (same_tups s), h6, h7⟩) fun ⟨h1, h2⟩ => ⟨h1, h2.same s⟩
/-- a thing, and whether it is a tuple -/
def TpOk (K : PySem.W.Frag) (H : Hp) (b : V × Bool) : Prop := (b.2 = true ∧ ∃ q ys, b.1 = .ref q ∧ SqT K H q ys) ∨ (b.2 = false ∧ NoSy H b.1)
theorem TpOk.same {b : V × Bool} (h : TpOk K H b) (s : Same H H') : TpOk K H' b := h.imp (fun ⟨e, q, ys, h1, h2⟩ => ⟨e, q, ys, h1, SqT.tups (same_tups s) h2⟩) fun ⟨e, h⟩ => ⟨e, h.same s⟩
theorem isu_of {b : V × Bool} {Q : VK} (h : TpOk K H b) (q : Q (.bl b.2) H) : rIsU K [b.1, .ty "tuple"] H Q := by
  obtain ⟨v, c⟩ := b
  rcases h with ⟨rfl, p, ys, rfl, hs⟩ | ⟨rfl, rfl | ⟨a, rfl, ld⟩⟩
  · exact .inl ⟨p, ys, rfl, hs, q⟩
  · exact .inr ⟨.non, .ty "tuple", _, _, false, rfl, .ty _, .base .non, kit_ty (show kitB "NoneType" "tuple" = some false by decide +kernel), q⟩
  · obtain ⟨t, ty, kt⟩ := ld.kit (K := K) (.inr (.inr rfl))
    exact .inr ⟨.ref a, .ty "tuple", _, _, false, rfl, .ty _, ty, kt, q⟩
def spAw (K : PySem.W.Frag) (w : World) (CS : Addr) : Sp := fun vs H Q _ => ∃ sw m first be v, vs = [.ref sw, v] ∧ SwO K w CS H sw m first be ∧ MacOk K H m ∧
  ((∃ a ws xs, v = .ref a ∧ (SqL K H a xs ∨ SqT K H a xs) ∧ WordsV K H ws xs ∧ ws.length ≤ 20 ∧ (∀ w ∈ ws, w.length ≤ 20) ∧ (∀ lv : List Sy, (∀ s ∈ lv, s.2 ∈ menuD ∧ s.2 ∈ m.ld) → Clo m first be (lv.map (·.2)) → ∀ w ∈ ws, ∀ l ∈ w, LtOk K H lv l.1 l.2) ∧ ∀ H', Same H H' → Q (.bl (ws.all fun w => w.all (·.2))) H') ∨
   ((v = .non ∨ (∃ i, v = .int i) ∨ ∃ x, v = .str x) ∧ ∀ H', Same H H' → Q (.bl false) H') ∨
   (∃ a, ∃ bs : List (V × Bool), v = .ref a ∧ SqL K H a (bs.map (·.1)) ∧ bs.length ≤ 20 ∧ (∀ b ∈ bs, TpOk K H b) ∧ bs.all (·.2) = false ∧ ∀ H', Same H H' → Q (.bl false) H'))
abbrev nAw : List Str := ["sweeps", "words", "own", "word", "letter"]
theorem scAw : FnScope nAw ["sweeps", "words"] (defScope (top 25)) := ⟨rfl, rfl, rfl, by decide +kernel, rfl, by decide +kernel, by decide +kernel⟩
/-- all([isinstance(word, tuple) ..]) -/
theorem all_tp {a : Addr} {v0 : V} {o2 o3 o4 : Option V} {bs : List (V × Bool)} {R : Bool → Hp → Prop} (ha : SqL K H a (bs.map (·.1)) ∨ SqT K H a (bs.map (·.1))) (few : bs.length ≤ 20) (ok : ∀ b ∈ bs, TpOk K H b) (q : ∀ D H', Same H H' → H' D = some (.lst ((bs.map (·.2)).map V.bl)) → R (bs.all (·.2)) H') :
    tCB (rAll K) (tCons (tLc (iSeq K (tVar 1)) (gName 3) tYes (tCB (rIsU K) (tCons (tVar 3) (tCons (tC (.ty "tuple")) tNil))) [3]) tNil) [some v0, some (.ref a), o2, o3, o4] H (fun x H' => ∃ c, x = .bl c ∧ R c H') := by
  change tLc (iSeq K (tVar 1)) (gName 3) tYes (tCB (rIsU K) (tCons (tVar 3) (tCons (tC (.ty "tuple")) tNil))) [3] [some v0, some (.ref a), o2, o3, o4] H (fun x H1 => rAll K [x] H1 fun y H2 => ∃ c, y = .bl c ∧ R c H2)
  refine lc_seq ha (fun R h => ⟨_, rfl, h⟩) (fun D i H' => Same H H' ∧ H' D = some (.lst (((bs.take i).map (·.2)).map V.bl))) (fun D nD => ⟨same_upd nD, upd_same⟩) (fun D nD i H' p => p.1) (fun D nD i x H' hx ⟨s1, hacc⟩ => ?_) fun D nD H' ⟨s1, hacc⟩ => ?_
  · rw [List.getElem?_map] at hx
    obtain ⟨b, hb, rfl⟩ := Option.map_eq_some_iff.mp hx
    refine ⟨rfl, yes_if ?_⟩
    refine ⟨_, rfl, isu_of ((ok b (List.mem_of_getElem? hb)).same s1) ⟨_, hacc, ?_, ?_, ?_⟩⟩
    · rw [List.length_map, List.length_map, List.length_take, sizeLine_eq]
      omega
    · intro c o e
      rw [upd_ne (ne_of_none e nD)]
      exact s1 _ _ e
    · rw [upd_same, List.take_add_one, hb]
      simp
  · rw [List.length_map, List.take_length] at hacc
    refine ⟨D, bs.map (·.2), rfl, SqL.of hacc, _, rfl, ?_⟩
    rw [List.all_map]
    exact q D H' s1 hacc
theorem ok_aw (F : FnT K "are_words" 25 f fd) (TX : Txt mg) (SF : SwF K CS) (FI : FnT K "is_list" 13 fI fdI) (gI : mg "is_list" = some (.ref fI)) (FS : FnT K "is_symbol" 11 fS fdS) (gS : mg "is_symbol" = some (.ref fS)) (GS : FnOk P w K mg base CX0 3 fS fdS ["value"] (spSy K)) : FnOk P w K mg base CX0 4 f fd ["sweeps", "words"] (spAw K w CS) := by
  refine F.ok scAw (fun vs H Q E h => by obtain ⟨sw, m, first, be, v, rfl, _⟩ := h; rfl) (fun cdv A outer s0 H vs Q E hr h => ?_)
  obtain ⟨sw, m, first, be, v, rfl, so, mac, h⟩ := h
  have nd := scAw.nd
  have hu := hr.units
  have GI := ok_isl (P := P) (w := w) (mg := mg) (base := base) FI TX
  suffices z : ∃ t, PSs (cxOf CX0 P w K mg base nAw "are_words" (defScope (top 25)) f cdv A outer s0 H E).nox (defBody (top 25)) t ∧ t { nx := fun _ H' => Q .non H', rt := Q } (start nAw [.ref sw, v]) H by
    obtain ⟨t, h1, h2⟩ := z
    exact ⟨t, h1.nox, h2⟩
  have bI : L2.Binds K fdI ["value"] [] := FunD.bindsN FI fun _ _ _ _ _ _ us hl => match us, hl with | [_], _ => rfl
  have bS : L2.Binds K fdS ["value"] [] := FunD.bindsN FS fun _ _ _ _ _ _ us hl => match us, hl with | [_], _ => rfl
  refine ⟨_, pss_cons (ps_if (PW.pt (pw_or (pt_not (pt_val (pe_call GI (hr.mono (by decide)) (by rfl) gI FI.kp bI .nil pass0 (pa_cons (pv 1) pa_nil)))) (pw_or1 (pt_not (pt_val (pe_callB (cr_all rfl) (by rfl) TX.all (by decide +kernel) (pa_cons (pe_lc (own := [("word", 3)]) (g := gName 3) (tt := tYes) (te := tCB (rIsU K) (tCons (tVar 3) (tCons (tC (.ty "tuple")) tNil))) (by rfl) nd (pi_or (pi_list (pv 1)) (pi_tup (pv 1))) (blkOk_by (own := [("word", 3)]) (N := nAw) (sc := defScope (top 25)) (by decide +kernel))
      (fun _ _ _ _ _ => pg_name (i := 3) nd rfl (Or.inl rfl)) (fun _ _ _ _ _ => pts_nil) (fun _ _ _ _ _ => pe_callB call_isU (by rfl) TX.isi (by decide +kernel) (pa_cons (pv 3) (pa_cons (pe_bltn (by rfl) TX.tuple (by decide +kernel) (v := .ty "tuple") rfl) pa_nil)))) pa_nil))))))) (pss_one (ps_ret pe_bl)) pss_nil)
    (pss_cons (ps_asg (pe_dcA (own := [("letter", 4)]) (g := gName 4) (tk := tVar 4) (tv := tC (.bl true)) hu (by rfl) nd (pi_tup (pe_fld (pv 0) rfl)) (blkOk_by (own := [("letter", 4)]) (N := nAw) (sc := defScope (top 25)) (by decide +kernel)) (fun _ _ _ _ _ => pg_name (i := 4) nd rfl (.inl rfl)) (fun _ _ _ _ _ => pv 4) (fun _ _ _ _ _ => pe_bl)) (pg_name (i := 2) nd rfl (.inr rfl)))
    (pss_one (ps_ret (pe_callB (cr_all rfl) (by rfl) TX.all (by decide +kernel) (pa_cons (pe_lc2 (own := [("word", 3), ("letter", 4)]) (vs1 := [4]) (g := gName 3) (g1 := gName 4) (tt := tYes) (tt1 := tYes) (wi1 := iTup K (tVar 3)) (te := tAndV (tCall (spSy K) [] E0 (tCons (tVar 4) tNil)) (tOp (rInA K w) (tVar 4) (tVar 2))) (by rfl) nd (pi_or (pi_list (pv 1)) (pi_tup (pv 1))) (blkOk_by (own := [("word", 3), ("letter", 4)]) (N := nAw) (sc := defScope (top 25)) (by decide +kernel)) (by decide)
      (fun _ _ _ _ _ => pg_name (i := 3) nd rfl (Or.inl rfl)) (fun _ _ _ _ _ => pts_nil) (fun _ _ _ _ _ => pi_tup (pv 3)) (fun _ _ _ _ _ => pg_name (i := 4) nd rfl (Or.inl rfl)) (fun _ _ _ _ _ => pts_nil)
      (fun _ _ _ _ _ => pe_and (pe_call GS hr (by rfl) gS FS.kp bS .nil pass0 (pa_cons (pv 4) pa_nil)) (pe_one (pe_cmpR (op_inA hu) (pv 4) (pv 2) (by rfl))))) pa_nil))))), ?_⟩
  rcases h with ⟨a, ws, xs, rfl, ha, hw, fw, fl, lts, q⟩ | ⟨hv, q⟩ | ⟨a, bs, rfl, ha, few, ok, no, q⟩
  · -- words
    have xl : xs.length = ws.length := (Paired.length hw).symm
    refine ⟨_, rfl, .ref a, rfl, .inl ⟨a, xs, rfl, ha, fun H1 s1 => ⟨true, rfl, iteF ?_⟩⟩⟩
    have ha1 := ha.imp (fun h => Kp.sql (Kp.same s1) h) fun h => SqT.tups (same_tups s1) h
    have hw1 : WordsV K H1 ws xs := Paired.mono (fun _ _ ⟨q, e, h⟩ => ⟨q, e, SqT.tups (same_tups s1) h⟩) hw
    have e1 : ((xs.map fun x => (x, true)).map (·.1)) = xs := by rw [List.map_map]; exact List.map_id' xs
    refine all_tp (bs := xs.map fun x => (x, true)) (by rw [e1]; exact ha1) (by rw [List.length_map, xl]; exact fw) (fun b hb => ?_) fun D H2 s2 _ => ?_
    · obtain ⟨x, hx, rfl⟩ := List.mem_map.mp hb
      obtain ⟨i, hi⟩ := List.getElem?_of_mem hx
      obtain ⟨y, _, p, e, hp⟩ := pairW hw1 hi
      exact .inl ⟨rfl, p, _, e, hp⟩
    rw [show (xs.map fun x => (x, true)).all (·.2) = true by simp]
    have s12 := same_trans s1 s2
    have so2 := so.same s12
    obtain ⟨dx, fi, ds, dt, v1, v2, g1, g2, g3, g4⟩ := so2.ex
    obtain ⟨lp, lv, rfl, hlp, lne, lok, lnd, clo⟩ := g4.ex
    refine iteF ⟨_, rfl, sw, CS, dx, _, .ref lp, rfl, g1, SF.cl, SF.le, rfl, lp, rfl, ⟨_, hlp⟩, fun O nO => ?_⟩
    have lnd2 : ((entS lv).map (·.1)).Nodup := by
      rw [entS, List.map_map]
      exact lnd
    have lfew : lv.length ≤ 20 := by
      have z := ent_len lnd2 (r := m.ld) fun s hs => (lok s hs).2
      have y := mac.lf
      omega
    refine dcA_it (walk_tup (K := K) (a := lp) (xs := lv.map (·.1))) (fun i H' => Same H2 H' ∧ H' O = some (DkO w O (entS (lv.take i)))) ⟨same_upd nO, upd_same⟩ (fun i H' _ p => SqT.tups (same_tups p.1) hlp) ?_ ?_
    · rintro i x H3 H4 hi ⟨s3, hO⟩ ⟨rfl, hx⟩
      rw [List.getElem?_map] at hx
      obtain ⟨s, hs, rfl⟩ := Option.map_eq_some_iff.mp hx
      have lt := (List.getElem?_eq_some_iff.mp hs).1
      have os := ((lok s (List.mem_of_getElem? hs)).1).tups (same_tups s3)
      have ndi : ((entS (lv.take i)).map (·.1)).Nodup := by
        unfold entS
        rw [List.map_take, ← entS, List.map_take]
        exact List.Sublist.nodup (List.take_sublist _ _) lnd2
      have new : atK (entS (lv.take i)) (kOf s.2) = none := atK_none.mpr fun x hx e => by
        obtain ⟨y, hy, rfl⟩ := List.mem_map.mp hx
        have nd3 := List.Sublist.nodup (List.take_sublist (i + 1) _) lnd
        rw [← List.map_take, List.take_add_one, hs, show (some s).toList = [s] from rfl, List.map_append, List.nodup_append] at nd3
        exact nd3.2.2 (kOf y.2) (List.mem_map.mpr ⟨y, hy, rfl⟩) (kOf s.2) (List.mem_map.mpr ⟨s, List.mem_singleton.mpr rfl, rfl⟩) e
      refine ⟨rfl, _, rfl, entS (lv.take i), kOf s.2, hO, da_ent (.inl hO) (fun y hy => ((lok y (List.mem_of_mem_take hy)).1).tups (same_tups s3)) ndi, os.nk, os.deep, ?_, ?_, ?_⟩
      · rw [entS, List.length_map, List.length_take, sizeLine_eq]
        omega
      · intro b o e
        rw [upd_ne (ne_of_none e nO)]
        exact s3 _ _ e
      · rw [upd_same, putE_new new, List.take_add_one, hs]
        simp [entS]
        rfl
    rintro H3 ⟨s3, hO⟩
    rw [List.length_map, List.take_length] at hO
    have s03 := same_trans s12 s3
    have dO : DA K w H3 O (entS lv) := da_ent (.inl hO) (fun y hy => ((lok y hy).1).tups (same_tups s3)) lnd2
    have ha3 := ha.imp (fun h => Kp.sql (Kp.same s03) h) fun h => SqT.tups (same_tups s03) h
    have hw3 : WordsV K H3 ws xs := Paired.mono (fun _ _ ⟨q, e, h⟩ => ⟨q, e, SqT.tups (same_tups s03) h⟩) hw
    have lt3 := lts lv (fun s hs => ⟨(lok s hs).1.mem, (lok s hs).2⟩) clo
    have lt3 : ∀ w ∈ ws, ∀ l ∈ w, LtOk K H3 lv l.1 l.2 := fun w hw l hl => (lt3 w hw l hl).same s03
    change tLc2 (iSeq K (tVar 1)) (gName 3) tYes (iTup K (tVar 3)) (gName 4) tYes (tAndV (tCall (spSy K) [] E0 (tCons (tVar 4) tNil)) (tOp (rInA K w) (tVar 4) (tVar 2))) [3, 4] [4] [some (.ref sw), some (.ref a), some (.ref O), none, none] H3 (fun x H' => rAll K [x] H' Q)
    refine seq_at ha3 (fun R h => ⟨_, rfl, h⟩) fun J G wk ge D nD => ?_
    have fz := flat_len ws fl
    refine lc2_out wk (fun i H' => Same H3 H' ∧ H' D = some (.lst ((flatW (ws.take i)).map V.bl))) ⟨same_upd nD, upd_same⟩ (fun i H' _ p => ge H' p.1) ?_ ?_
    · rintro i x H4 H5 hi ⟨s4, hacc⟩ ⟨rfl, hx⟩
      obtain ⟨wi, hwi, q1, rfl, hq1⟩ := pairW hw3 hx
      have mw := List.mem_of_getElem? hwi
      have lw := fl wi mw
      refine ⟨rfl, yes_if ?_⟩
      refine ⟨_, rfl, q1, rfl, ⟨_, SqT.tups (same_tups s4) hq1⟩, ?_⟩
      refine lc2_in (walk_tup (K := K) (a := q1) (xs := wi.map (·.1))) (fun j H' => Same H3 H' ∧ H' D = some (.lst ((flatW (ws.take i) ++ (wi.take j).map (·.2)).map V.bl))) ⟨s4, by rw [hacc]; simp⟩ (fun j H' _ p => SqT.tups (same_tups p.1) hq1) ?_ ?_
      · rintro j y H7 H6 hj ⟨s6, hacc6⟩ ⟨rfl, hy⟩
        rw [List.getElem?_map] at hy
        obtain ⟨l, hl, rfl⟩ := Option.map_eq_some_iff.mp hy
        have ml := List.mem_of_getElem? hl
        have fin : ∀ H8 r, Same H6 H8 → r = l.2 → ∃ acc, H8 D = some (.lst acc) ∧ acc.length < sizeLine ∧ Same H3 (upd H8 D (.lst (acc ++ [.bl r]))) ∧ (upd H8 D (.lst (acc ++ [.bl r]))) D = some (.lst ((flatW (ws.take i) ++ (wi.take (j + 1)).map (·.2)).map V.bl)) := fun H8 r s8 er => by
          refine ⟨_, s8 _ _ hacc6, ?_, fun b o e => ?_, ?_⟩
          · have z := flat_len (ws.take i) fun w hw => fl w (List.mem_of_mem_take hw)
            rw [List.length_map, List.length_append, List.length_map, List.length_take, sizeLine_eq]
            rw [List.length_take] at z
            omega
          · rw [upd_ne (ne_of_none e nD)]
            exact s8 _ _ (s6 _ _ e)
          · rw [upd_same, List.take_add_one, hl, er]
            simp
        refine ⟨rfl, yes_if ?_⟩
        rcases (lt3 wi mw l ml).same s6 with ⟨d, k, h1, h2, h3, h4, h5, h6, h7⟩ | ⟨h1, h2⟩
        · refine ⟨_, rfl, .inl ⟨l.1, d, rfl, h1, h2, h3, h4, fun H8 s8 => ⟨true, rfl, iteT ⟨_, rfl, _, rfl, O, entS lv, k, rfl, daKeep dO (same_tups (same_trans s6 s8)) (same_rd (same_trans s6 s8) dO.at_), h5.tups (same_tups s8), h6, ?_⟩⟩⟩⟩
          exact fin H8 _ s8 h7
        · exact ⟨_, rfl, .inr ⟨l.1, rfl, h2, fun H8 s8 => ⟨false, rfl, iteF (fin H8 false s8 h1.symm)⟩⟩⟩
      · rintro H6 ⟨s6, hacc6⟩
        refine ⟨s6, ?_⟩
        rw [hacc6, List.length_map, List.take_length, List.take_add_one, hwi]
        simp [flatW]
    · rintro H4 ⟨s4, hacc⟩
      rw [xl, List.take_length] at hacc
      refine ⟨D, flatW ws, rfl, SqL.of hacc, ?_⟩
      rw [flat_all]
      exact q H4 (same_trans s03 s4)
  · exact ⟨_, rfl, v, rfl, .inr ⟨hv, fun H1 s1 => ⟨false, rfl, iteT (q H1 s1)⟩⟩⟩
  · refine ⟨_, rfl, .ref a, rfl, .inl ⟨a, _, rfl, .inl ha, fun H1 s1 => ⟨true, rfl, iteF ?_⟩⟩⟩
    refine all_tp (bs := bs) (.inl (Kp.sql (Kp.same s1) ha)) few (fun b hb => (ok b hb).same s1) fun D H2 s2 _ => ?_
    rw [no]
    exact iteT (q H2 (same_trans s1 s2))
end
end K15

set_option Elab.async false
set_option linter.all false
set_option maxRecDepth 100000
set_option maxHeartbeats 4000000
namespace K15
open PySem PySem.Spec PyProof.Rows L2 Pen Tr AK LamX RU
/-! ### what is told of words fed -/
def xtD : Option Sy → PyData
  | none => .none
  | some l => l.2
def tnD : Option (Sy × Option Sy) → PyData
  | none => .none
  | some (_, x) => .tuple [xtD x]
def wdD (row : List Sy) : PyData := .tuple (row.map (·.2))
structure FedSt where
  b : Bool
  st : Option Sy
  acc : List PyData
def recD (m : Mac) (b : Bool) (s : Sy) (w : List Sy) : PyData := .tuple [wdD (sweepM m b s w).1, tnD (m.turn b (sweepM m b s w).2.2)]
def fedS (m : Mac) (f : FedSt) (w : List Sy) : FedSt := match f.st with
  | none => f
  | some s => ⟨!f.b, nextS (m.turn f.b (sweepM m f.b s w).2.2), f.acc ++ [recD m f.b s w]⟩
def fedF (m : Mac) (be : Sy) (ws : List (List Sy)) : FedSt := ws.foldl (fedS m) ⟨false, some be, []⟩
def fedM (m : Mac) (be : Sy) (ws : List (List Sy)) : List PyData := (fedF m be ws).acc
theorem fed_snoc {m : Mac} {be : Sy} {ws : List (List Sy)} {j : Nat} {w : List Sy} (h : ws[j]? = some w) : fedF m be (ws.take (j + 1)) = fedS m (fedF m be (ws.take j)) w := by
  unfold fedF
  rw [List.take_add_one, h, List.foldl_append]
  rfl
theorem fed_stop {m : Mac} {f : FedSt} (h : f.st = none) : ∀ ws : List (List Sy), ws.foldl (fedS m) f = f
  | [] => rfl
  | w :: ws => by
    have e : fedS m f w = f := by
      unfold fedS
      rw [h]
    rw [List.foldl_cons, e]
    exact fed_stop h ws
theorem fed_end {m : Mac} {be : Sy} {ws : List (List Sy)} {j : Nat} (h : (fedF m be (ws.take j)).st = none) : fedM m be ws = (fedF m be (ws.take j)).acc := by
  have e : fedF m be ws = fedF m be (ws.take j) := by
    conv => lhs; rw [← List.take_append_drop j ws]
    unfold fedF
    rw [List.foldl_append]
    exact fed_stop h _
  unfold fedM
  rw [e]
theorem fed_len {m : Mac} : ∀ (ws : List (List Sy)) (f : FedSt), (ws.foldl (fedS m) f).acc.length ≤ f.acc.length + ws.length
  | [], f => Nat.le_refl _
  | w :: ws, f => by
    have ih := fed_len (m := m) ws (fedS m f w)
    have h : (fedS m f w).acc.length ≤ f.acc.length + 1 := by
      unfold fedS
      split
      · omega
      · simp
    rw [List.foldl_cons, List.length_cons]
    omega
section
variable {K : PySem.W.Frag} {H H' : Hp} {m : Mac}
theorem wd_sym {row : List Sy} (h : ∀ l ∈ row, SyOk K H l) : symDs (row.map (·.2)) = true := by
  induction row with
  | nil => rfl
  | cons l row ih =>
    have h1 := (h l (List.mem_cons_self ..)).sy
    have h2 := ih fun x hx => h x (List.mem_cons_of_mem _ hx)
    simp [symDs, h1, h2]
theorem wd_dp {row : List Sy} (h : ∀ l ∈ row, SyOk K H l) : DpAll K H (row.map (·.1)) (row.map (·.2)) := by
  induction row with
  | nil => exact .nil
  | cons l row ih => exact .cons (h l (List.mem_cons_self ..)).dp (ih fun x hx => h x (List.mem_cons_of_mem _ hx))
theorem sweepM_ok (o : MacOk K H m) {b : Bool} {s : Sy} (hs : SyOk K H s ∧ s.2 ∈ m.sd b) {row : List Sy} (h : ∀ l ∈ row, SyOk K H l ∧ l.2 ∈ m.ld) :
    (∀ l ∈ (sweepM m b s row).1, SyOk K H l ∧ l.2 ∈ m.ld) ∧ (SyOk K H (sweepM m b s row).2 ∧ (sweepM m b s row).2.2 ∈ m.sd b) ∧ (sweepM m b s row).1.length = row.length := by
  obtain ⟨w1, w2, w3⟩ := walkW_ok o hs (ordL b row) fun l hl => h l (ordL_mem.mp hl)
  refine ⟨fun l hl => w1 l (ordL_mem.mp hl), w2, ?_⟩
  show (ordL b _).length = _
  rw [ordL_len, w3, ordL_len]
/-- what is told at one word, a thing -/
theorem rec_dp {p pr : Addr} {v : V} {row : List Sy} {t : Option (Sy × Option Sy)} (h1 : SqT K H p [.ref pr, v]) (h2 : SqT K H pr (row.map (·.1))) (h3 : ToldAt K H v t) (o : ∀ l ∈ row, SyOk K H l) (ot : ∀ s x, t = some (s, x) → ∀ l, x = some l → SyOk K H l) : Dp K H (.ref p) (.tuple [wdD row, tnD t]) := by
  refine .tup h1 (.cons (.tup h2 (wd_dp o)) (.cons ?_ .nil))
  cases t with
  | none =>
    cases (show v = .non from h3)
    exact .non
  | some y =>
    obtain ⟨s, x⟩ := y
    obtain ⟨q, rfl, hq⟩ := h3
    refine .tup hq (.cons ?_ .nil)
    cases x with
    | none => exact .non
    | some l => exact (ot s _ rfl l rfl).dp
theorem rec_sym {row : List Sy} {t : Option (Sy × Option Sy)} (o : ∀ l ∈ row, SyOk K H l) (ot : ∀ s x, t = some (s, x) → ∀ l, x = some l → SyOk K H l) : symD (.tuple [wdD row, tnD t]) = true := by
  have h1 := wd_sym o
  have h2 : symD (tnD t) = true := by
    cases t with
    | none => rfl
    | some y =>
      obtain ⟨s, x⟩ := y
      cases x with
      | none => rfl
      | some l => simp [tnD, xtD, symD, symDs, (ot s _ rfl l rfl).sy]
  simp [symD, symDs, wdD, h1, h2]
end
section
variable {P : Program} {w : World} {K : PySem.W.Frag} {mg : Str → Option PySem.Value} {base : Heap} {f C CS CB CW fA fW fS : Addr} {fd fdA fdW fdS : FuncData} {H H' : Hp} {m : Mac} {first : List Sy} {be : Sy}
/-! ### the walker -/
def spWk (K : PySem.W.Frag) (w : World) (C CS : Addr) : Sp := fun vs H Q _ => ∃ a dx sw m first be, vs = [.ref a, .ref sw] ∧ H a = some (.ins C dx []) ∧ SwO K w CS H sw m first be ∧ sw ≠ a ∧ ∀ H', But a H H' → H' a = some (wkO C dx sw false (some be)) → Q .non H'
theorem scWk : FnScope ["self", "sweeps"] ["self", "sweeps"] (defScope (cWk 0)) := ⟨rfl, rfl, rfl, by decide +kernel, rfl, by decide +kernel, by decide +kernel⟩
theorem ok_walker (F : FnM K "__init__" "Walker.__init__" (cWk 0) f fd) (WF : WkF K C) (SF : SwF K CS) : FnOk P w K mg base CX0 1 f fd ["self", "sweeps"] (spWk K w C CS) := by
  refine F.ok scWk (fun vs H Q E h => by obtain ⟨a, dx, sw, m, first, be, rfl, _⟩ := h; rfl) (fun cdv A outer s0 H vs Q E hr h => ?_)
  obtain ⟨a, dx, sw, m, first, be, rfl, ha, so, nsa, q⟩ := h
  suffices z : ∃ t, PSs (cxOf CX0 P w K mg base ["self", "sweeps"] "Walker.__init__" (defScope (cWk 0)) f cdv A outer s0 H E).nox (defBody (cWk 0)) t ∧ t { nx := fun _ H' => Q .non H', rt := Q } (start ["self", "sweeps"] [.ref a, .ref sw]) H by
    obtain ⟨t, h1, h2⟩ := z
    exact ⟨t, h1.nox, h2⟩
  refine ⟨_, pss_cons (ps_fld (pv 0) (pv 1) rfl) (pss_cons (ps_fld (pv 0) pe_str rfl) (pss_one (ps_fld (pv 0) (pe_fld (pv 1) rfl) rfl))), ?_⟩
  obtain ⟨dxs, fi, ds, dt, v, v2, hsw, hfi, T, _⟩ := so.ex
  refine ⟨_, rfl, _, rfl, a, C, dx, _, rfl, ha, WF.cl, WF.sw, (by show 0 < 1000; decide), ?_⟩
  refine ⟨_, rfl, a, C, dx, _, rfl, upd_same, WF.cl, WF.di, (by show 1 < 1000; decide), ?_⟩
  refine ⟨_, rfl, sw, CS, dxs, _, be.1, rfl, (by rw [upd_ne nsa, upd_ne nsa]; exact hsw), SF.cl, SF.be, rfl, _, rfl, a, C, dx, _, rfl, upd_same, WF.cl, WF.st, (by show 2 < 1000; decide), ?_⟩
  exact q _ (But.upd (But.upd (But.upd But.refl))) upd_same
theorem sc_BadTile : FnScope ["self", "tile"] ["self", "tile"] (defScope (inClass (top 7) 0)) := ⟨rfl, rfl, rfl, by decide +kernel, rfl, by decide +kernel, by decide +kernel⟩
theorem ok_BadTile (F : FnM K "__init__" "BadTile.__init__" (inClass (top 7) 0) f fd) (T : Xc K C) (no : ∀ y ∈ (["tile"] : List Str), PySem.W.findIn K (.ref C) y = some none) : FnOk P w K mg base CX0 1 f fd ("self" :: ["tile"]) (spI C ["tile"]) := by
  refine F.ok sc_BadTile (fun vs H Q E h => spI_len h) (fun cdv A outer s H vs Q E hr h => ?_)
  obtain ⟨a, ws, rfl, hl, ha, k⟩ := h
  obtain ⟨v0, rfl⟩ : ∃ v0, ws = [v0] := by
    match ws, hl with
    | [v0], _ => exact ⟨v0, rfl⟩
  suffices z : ∃ t, PSs (cxOf CX0 P w K mg base ["self", "tile"] "BadTile.__init__" (defScope (inClass (top 7) 0)) f cdv A outer s H E).nox (defBody (inClass (top 7) 0)) t ∧ t { nx := fun _ H' => Q .non H', rt := Q } (start ["self", "tile"] [.ref a, v0]) H by
    obtain ⟨t, h1, h2⟩ := z
    exact ⟨t, h1.nox, h2⟩
  refine ⟨_, pss_one (ps_ost (pv 0) (pv 1)), ?_⟩
  refine ⟨_, rfl, _, rfl, a, C, rfl, T.o, no _ (by simp), .inl ⟨ha, fun d hd hne => ?_⟩⟩
  refine k _ d hd (by exact upd_same) (by rw [upd_ne hne]; exact upd_same) (fun b o e nb => ?_)
  rw [upd_ne nb, upd_ne (ne_of_none e hd)]
  exact e
/-! ### fed -/
def WordsS (K : PySem.W.Frag) (H : Hp) (ws : List (List Sy)) (xs : List V) : Prop := Paired (fun (w : List Sy) (v : V) => ∃ q, v = .ref q ∧ SqT K H q (w.map (·.1))) ws xs
/-- what is no row of words -/
def BadW (K : PySem.W.Frag) (H : Hp) (m : Mac) (first : List Sy) (be : Sy) (v : V) : Prop :=
  (∃ a ws xs, v = .ref a ∧ SqL K H a xs ∧ WordsV K H ws xs ∧ ws.length ≤ 20 ∧ (∀ w ∈ ws, w.length ≤ 20) ∧ (∀ lv : List Sy, (∀ s ∈ lv, s.2 ∈ menuD ∧ s.2 ∈ m.ld) → Clo m first be (lv.map (·.2)) → ∀ w ∈ ws, ∀ l ∈ w, LtOk K H lv l.1 l.2) ∧ (ws.all fun w => w.all (·.2)) = false) ∨
   (v = .non ∨ (∃ i, v = .int i) ∨ ∃ x, v = .str x) ∨
   (∃ a, ∃ bs : List (V × Bool), v = .ref a ∧ SqL K H a (bs.map (·.1)) ∧ bs.length ≤ 20 ∧ (∀ b ∈ bs, TpOk K H b) ∧ bs.all (·.2) = false)
def spFed (K : PySem.W.Frag) (w : World) (CS CB : Addr) : Sp := fun vs H Q E => (∃ sw m first be a, ∃ ws : List (List Sy), ∃ xs, vs = [.ref sw, .ref a] ∧ SwO K w CS H sw m first be ∧ MacOk K H m ∧ (SyOk K H be ∧ be.2 ∈ (m : Mac).sd false) ∧ (SqL K H a xs ∨ SqT K H a xs) ∧ WordsS K H ws xs ∧ ws.length ≤ 20 ∧ (∀ w ∈ ws, w.length ≤ 20) ∧
    (∀ w ∈ ws, ∀ l ∈ w, SyOk K H l ∧ l.2 ∈ m.ld) ∧ (∀ L, Clo m first be L → ∀ w ∈ ws, ∀ l ∈ w, l.2 ∈ L) ∧ ∀ p H', Same H H' → Dp K H' (.ref p) (.tuple (fedM m be ws)) → Q (.ref p) H') ∨
  (∃ sw m first be v, vs = [.ref sw, v] ∧ SwO K w CS H sw m first be ∧ MacOk K H m ∧ BadW K H m first be v ∧ ∀ dd H', Same H H' → H' dd = some (.xd [("tile", v)]) → E (.ref CB) (some dd) H')
abbrev nFed : List Str := ["sweeps", "words", "walker", "found", "word"]
theorem scFed : FnScope nFed ["sweeps", "words"] (defScope (top 26)) := ⟨rfl, rfl, rfl, by decide +kernel, rfl, by decide +kernel, by decide +kernel⟩
theorem lt_good {lv : List Sy} {l : Sy} (o : SyOk K H l) (h : l.2 ∈ lv.map (·.2)) : LtOk K H lv l.1 true := by
  refine .inl ⟨l.2, kOf l.2, o.dp, o.sy, o.nn, o.wt, o.nk, o.deep, ?_⟩
  cases e : atK (entS lv) (kOf l.2) with
  | some z => rfl
  | none =>
    obtain ⟨s, hs, e2⟩ := List.mem_map.mp h
    exact absurd (show kOf s.2 = kOf l.2 by rw [e2]) (atK_none.mp e _ (List.mem_map.mpr ⟨s, hs, rfl⟩))
theorem paired_mapL {α β γ : Type} {F : α → β → Prop} {G : γ → β → Prop} {f : α → γ} (h : ∀ a b, F a b → G (f a) b) : ∀ {l₁ : List α} {l₂ : List β}, Paired F l₁ l₂ → Paired G (l₁.map f) l₂
  | _, _, .nil => .nil
  | _, _, .cons h1 h2 => .cons (h _ _ h1) (paired_mapL h h2)
theorem seq_on {H0 : Hp} {tl : TE} {σ : L2.St} {a : Addr} {xs : List V} {R : It → Hp → Prop} (hx : SqL K H0 a xs ∨ SqT K H0 a xs) (s : Same H0 H) (htl : ∀ R : VK, R (.ref a) H → tl σ H R) (h : ∀ J (G : Hp → Prop), Walk J xs.length G (YAt xs) → (∀ H', Same H0 H' → G H') → R J H) : iSeq K tl σ H R :=
  hx.elim (fun hx => .inl (htl _ ⟨a, rfl, ⟨xs, Kp.sql (Kp.same s) hx⟩, h _ _ walk_list fun H' s => Kp.sql (Kp.same s) hx⟩)) fun hx => .inr (htl _ ⟨a, rfl, ⟨xs, SqT.tups (same_tups s) hx⟩, h _ _ walk_tup fun H' s => SqT.tups (same_tups s) hx⟩)
theorem ok_fed (F : FnT K "fed" 26 f fd) (TX : Txt mg) (WF : WkF K CW) (SF : SwF K CS) (EB : Er P w K mg base "BadTile" CB ["tile"]) (FA : FnT K "are_words" 25 fA fdA) (gA : mg "are_words" = some (.ref fA)) (GA : FnOk P w K mg base CX0 4 fA fdA ["sweeps", "words"] (spAw K w CS))
    (FW : FnM K "__init__" "Walker.__init__" (cWk 0) fW fdW) (MW : Mk K CW fW) (gW : mg "Walker" = some (.ref CW)) (MS : Meth K CW "sweep" fS) (FS : FnM K "sweep" "Walker.sweep" (cWk 1) fS fdS) (GS : FnOk P w K mg base CX0 2 fS fdS ["self", "word"] (spSweep K w CW CS)) : FnOk P w K mg base (L2.CX P w) 5 f fd ["sweeps", "words"] (spFed K w CS CB) := by
  refine F.ok scFed (fun vs H Q E h => by obtain ⟨sw, m, first, be, a, ws, xs, rfl, _⟩ | ⟨sw, m, first, be, v, rfl, _⟩ := h <;> rfl) (fun cdv A outer s0 H vs Q E hr h => ?_)
  obtain ⟨a1, b1, evs⟩ : ∃ a1 b1, vs = [a1, b1] := by
    obtain ⟨sw, m, first, be, a, ws, xs, rfl, _⟩ | ⟨sw, m, first, be, v, rfl, _⟩ := h <;> exact ⟨_, _, rfl⟩
  subst evs
  have nd := scFed.nd
  have hu := hr.units
  have GW := ok_walker (P := P) (w := w) (mg := mg) (base := base) FW WF SF
  have bA : L2.Binds K fdA ["sweeps", "words"] [] := FunD.bindsN FA fun _ _ _ _ _ _ us hl => match us, hl with | [_, _], _ => rfl
  have bW : L2.Binds K fdW ["self", "sweeps"] [] := FunD.bindsN FW fun _ _ _ _ _ _ us hl => match us, hl with | [_, _], _ => rfl
  have bS : L2.Binds K fdS ["self", "word"] [] := FunD.bindsN FS fun _ _ _ _ _ _ us hl => match us, hl with | [_, _], _ => rfl
  refine ⟨_, pss_cons (ps_if (pt_not (pt_val (pe_call GA hr (by rfl) gA FA.kp bA .nil pass0 (pa_cons (pv 0) (pa_cons (pv 1) pa_nil))))) (pss_one (ps_raise rfl (takes_of rfl rfl rfl rfl) (pmk_er EB (hr.mono (by decide : 1 + 2 ≤ 4)) (by rfl) (pa_cons (pv 1) pa_nil)))) pss_nil)
    (pss_cons (ps_asg (pe_make MW GW (hr.mono (by decide)) (by rfl) gW bW .nil pass0 (pa_cons (pv 0) pa_nil)) (pg_name (i := 2) nd rfl (.inl rfl)))
    (pss_cons (ps_asg (pe_lst pa_nil) (pg_name (i := 3) nd rfl (.inl rfl)))
    (pss_cons (ps_for (passes_of rfl) rfl (pi_or (pi_list (pv 1)) (pi_tup (pv 1))) (pg_name (i := 4) nd rfl (.inl rfl))
      (pss_cons (ps_if (pt_cmpR op_isN (pe_fld (pv 2) rfl) pe_non (nomark _)) (pss_one ps_break) pss_nil)
      (pss_one (ps_expr (pe_bm PySem.F.plainAttrs_list PySem.F.slot_list_append PySem.F.type_list_append mt_append (pv 3) (pa_cons (pe_meth (pv 2) WF.cl MS GS (hr.mono (by decide)) bS .nil pass0 (pa_cons (pv 4) pa_nil)) pa_nil))))))
    (pss_one (ps_ret (pe_callTy call_tupR (by rfl) TX.tuple (by decide +kernel) (pa_cons (pv 3) pa_nil))))))), ?_⟩
  rcases h with ⟨sw, m, first, be, a, ws, xs, e, so, mac, hbe, ha, hw, fw, fl, lo, clo, q⟩ | ⟨sw, m, first, be, v, e, so, mac, bad, q⟩
  · cases e
    have hwv : WordsV K H (ws.map fun w => w.map fun l => (l.1, true)) xs := paired_mapL (fun _ _ ⟨q, e, h⟩ => ⟨q, e, by rw [List.map_map]; exact h⟩) hw
    refine ⟨_, rfl, _, rfl, sw, m, first, be, .ref a, rfl, so, mac, .inl ⟨a, _, xs, rfl, ha, hwv, by rw [List.length_map]; exact fw, fun w hw => ?_, fun lv lok cl w hw l hl => ?_, fun H1 s1 => ?_⟩⟩
    · obtain ⟨x, hx, rfl⟩ := List.mem_map.mp hw
      rw [List.length_map]
      exact fl x hx
    · obtain ⟨x, hx, rfl⟩ := List.mem_map.mp hw
      obtain ⟨y, hy, rfl⟩ := List.mem_map.mp hl
      exact lt_good (lo x hx y hy).1 (clo _ cl x hx y hy)
    rw [show ((ws.map fun w => w.map fun l : Sy => (l.1, true)).all fun w => w.all (·.2)) = true by simp]
    refine ⟨true, rfl, iteF ⟨_, rfl, fun wk dxw nwk ndxw nne => ?_⟩⟩
    have so1 := so.same s1
    obtain ⟨dxs, fi, ds, dt, v1, v2, hsw, hfi, T, _⟩ := so1.ex
    have s2 : Same H1 (upd (upd H1 dxw (.own wk)) wk (.ins CW dxw [])) := ins_new nwk ndxw
    have nsw : sw ≠ wk := ne_of_none hsw nwk
    refine ⟨wk, dxw, sw, m, first, be, rfl, upd_same, so1.same s2, nsw, fun H2 b2 a2 => ⟨rfl, ?_⟩⟩
    have s02 : Same H H2 := fun b o eb => b2 _ _ (s2 _ _ (s1 _ _ eb)) (ne_of_none (s1 _ _ eb) nwk)
    have nwk0 : H wk = none := by
      cases z : H wk with
      | none => rfl
      | some o =>
        rw [s1 _ _ z] at nwk
        cases nwk
    refine ⟨by show 0 ≤ sizeLine; exact Nat.zero_le _, fun D nD => ?_⟩
    have s3 := same_trans s02 (same_upd (o := .lst []) nD)
    have nDH : H D = none := by
      cases z : H D with
      | none => rfl
      | some o =>
        rw [s02 _ _ z] at nD
        cases nD
    have a3 : upd H2 D (.lst []) wk = some (wkO CW dxw sw false (some be)) := by
      rw [upd_ne (ne_of_none a2 nD)]
      exact a2
    have xl : xs.length = ws.length := (Paired.length hw).symm
    change tFor (iSeq K (tVar 1)) (gName 4) _ _ [some (.ref sw), some (.ref a), some (.ref wk), some (.ref D), none] (upd H2 D (.lst []))
    refine seq_on ha s3 (fun R h => ⟨_, rfl, h⟩) fun J G wlk ge => ?_
    refine for_it wlk (fun j σ H' => (∃ o4, σ = [some (.ref sw), some (.ref a), some (.ref wk), some (.ref D), o4]) ∧ Same H H' ∧ H' wk = some (wkO CW dxw sw (fedF m be (ws.take j)).b (fedF m be (ws.take j)).st) ∧ (∃ ys, H' D = some (.lst ys) ∧ DpAll K H' ys (fedF m be (ws.take j)).acc) ∧
      (∀ s, (fedF m be (ws.take j)).st = some s → SyOk K H' s ∧ s.2 ∈ m.sd (fedF m be (ws.take j)).b) ∧ symDs (fedF m be (ws.take j)).acc = true) ⟨⟨none, rfl⟩, s3, a3, ⟨[], upd_same, .nil⟩, (fun s e => by cases e; exact ⟨hbe.1.tups (same_tups s3), hbe.2⟩), rfl⟩ (fun i σ H' _ p => ge H' p.2.1) ?_ ?_
    · rintro j x σ H5 H4 hj ⟨⟨o4, rfl⟩, s4, hwk, ⟨ys, hD, dps⟩, oks, sym⟩ ⟨rfl, hx⟩
      obtain ⟨w0, hw0, q1, rfl, hq1⟩ := pairW hw hx
      have mw := List.mem_of_getElem? hw0
      have nxt := fed_snoc (m := m) (be := be) hw0
      have stop := fed_end (m := m) (be := be) (ws := ws) (j := j)
      have ln : (fedF m be (ws.take j)).acc.length ≤ 0 + (ws.take j).length := fed_len (ws.take j) _
      generalize fedF m be (ws.take j) = F at hwk dps oks sym nxt stop ln
      obtain ⟨b, st, acc⟩ := F
      have yl : ys.length ≤ 20 := by
        have := dps_len dps
        rw [List.length_take] at ln
        have : acc.length ≤ 20 := by
          have e : (FedSt.mk b st acc).acc = acc := rfl
          rw [e] at ln
          omega
        omega
      refine ⟨_, rfl, wk, CW, dxw, _, optV st, rfl, hwk, WF.cl, WF.st, rfl, rfl, _, rfl, ?_⟩
      cases st with
      | none =>
        refine iteT ?_
        refine ⟨_, rfl, D, ys, rfl, .inl (SqL.of hD), fun p H6 s6 hp => q p H6 (same_trans s4 s6) (.tup hp ?_)⟩
        rw [stop rfl]
        exact dps_same s6 _ _ dps
      | some s =>
        obtain ⟨os, ms⟩ := oks s rfl
        have nn : decide (optV (some s) = V.non) = false := decide_eq_false os.nn
        rw [nn]
        have mac4 := mac.tups (same_tups s4)
        have lo4 : ∀ l ∈ w0, SyOk K H4 l ∧ l.2 ∈ m.ld := fun l hl => ⟨(lo w0 mw l hl).1.tups (same_tups s4), (lo w0 mw l hl).2⟩
        obtain ⟨w1, w2, w3⟩ := sweepM_ok mac4 ⟨os, ms⟩ lo4
        have lw := fl w0 mw
        refine iteF ⟨_, rfl, .inl ⟨rfl, _, SqL.of hD⟩, _, rfl, wk, dxw, _, rfl, hwk, rfl, _, rfl, wk, dxw, sw, m, first, be, b, s, q1, w0, rfl, hwk, so.same s4, nsw, mac4, os, ms, SqT.tups (same_tups s4) hq1, lo4, by omega, fun p pr v H6 b6 a6 hp hpr hv => ?_⟩
        have nDw : D ≠ wk := ne_of hD hwk fun z => nomatch z
        have hD6 := b6 _ _ hD nDw
        have tu6 := But.tups b6 hwk
        have tu7 : Tups H6 (upd H6 D (.lst (ys ++ [.ref p]))) := Tups.upd (lst_ntup hD6)
        have mac6 := mac4.tups tu6
        have w16 : ∀ l ∈ (sweepM m b s w0).1, SyOk K H6 l := fun l hl => (w1 l hl).1.tups tu6
        have ot : ∀ s2 x, m.turn b (sweepM m b s w0).2.2 = some (s2, x) → SyOk K H6 s2 ∧ s2.2 ∈ m.sd (!b) ∧ ∀ l, x = some l → SyOk K H6 l := fun s2 x e => by
          obtain ⟨z1, z2, z3⟩ := mac6.tu b _ s2 x w2.2 e
          exact ⟨z1, z2, fun l hl => (z3 l hl).2.1⟩
        have rd := rec_dp hp hpr hv w16 fun s2 x e => (ot s2 x e).2.2
        have rs := rec_sym w16 fun s2 x e => (ot s2 x e).2.2
        obtain ⟨kr, ekr⟩ := sym_key _ rs
        refine ⟨D, ys, .ref p, rfl, rfl, hD6, (by rw [sizeLine_eq]; omega), ?_⟩
        rw [nxt]
        refine ⟨⟨_, rfl⟩, fun c o e => ?_, ?_, ⟨_, upd_same, ?_⟩, fun s2 e => ?_, ?_⟩
        · rw [upd_ne (ne_of_none e nDH)]
          exact b6 _ _ (s4 _ _ e) (ne_of_none e nwk0)
        · rw [upd_ne (Ne.symm nDw)]
          exact a6
        · exact dpall_append (dpall_tups tu7 (fun d hd => sym_key d (syms_mem sym d hd)) (dpall_tups tu6 (fun d hd => sym_key d (syms_mem sym d hd)) dps)) (.cons (dp_tups tu7 _ _ kr ekr rd) .nil)
        · have e : nextS (m.turn b (sweepM m b s w0).2.2) = some s2 := e
          cases z : m.turn b (sweepM m b s w0).2.2 with
          | none =>
            rw [z] at e
            cases e
          | some y =>
            obtain ⟨s3', x3⟩ := y
            rw [z] at e
            cases e
            exact ⟨(ot _ _ z).1.tups tu7, (ot _ _ z).2.1⟩
        · show symDs (acc ++ [recD m b s w0]) = true
          rw [syms_app, show symDs acc = true from sym]
          simp only [symDs, Bool.true_and, Bool.and_true]
          exact rs
    · rintro σ H4 ⟨⟨o4, rfl⟩, s4, hwk, ⟨ys, hD, dps⟩, oks, sym⟩
      rw [xl, List.take_length] at dps
      refine ⟨_, rfl, D, ys, rfl, .inl (SqL.of hD), fun p H6 s6 hp => q p H6 (same_trans s4 s6) (.tup hp (dps_same s6 _ _ dps))⟩
  · cases e
    rcases bad with ⟨a, ws, xs, rfl, ha, hw, fw, fl, lts, no⟩ | hv | ⟨a, bs, rfl, ha, few, ok, no⟩
    · refine ⟨_, rfl, _, rfl, sw, m, first, be, .ref a, rfl, so, mac, .inl ⟨a, ws, xs, rfl, .inl ha, hw, fw, fl, lts, fun H1 s1 => ?_⟩⟩
      rw [no]
      exact ⟨false, rfl, iteT ⟨_, rfl, raise_sp rfl (by decide) fun dd hd H2 s2 e2 => q dd H2 (same_trans s1 s2) e2⟩⟩
    · exact ⟨_, rfl, _, rfl, sw, m, first, be, b1, rfl, so, mac, .inr (.inl ⟨hv, fun H1 s1 => ⟨false, rfl, iteT ⟨_, rfl, raise_sp rfl (by decide) fun dd hd H2 s2 e2 => q dd H2 (same_trans s1 s2) e2⟩⟩⟩)⟩
    · exact ⟨_, rfl, _, rfl, sw, m, first, be, .ref a, rfl, so, mac, .inr (.inr ⟨a, bs, rfl, ha, few, ok, no, fun H1 s1 => ⟨false, rfl, iteT ⟨_, rfl, raise_sp rfl (by decide) fun dd hd H2 s2 e2 => q dd H2 (same_trans s1 s2) e2⟩⟩⟩)⟩
end
end K15

set_option Elab.async false
set_option linter.all false
set_option maxRecDepth 100000
set_option maxHeartbeats 4000000
namespace K15
open PySem PySem.Spec PyProof.Rows L2 Pen Tr AK LamX RU
section
variable {P : Program} {w : World} {K : PySem.W.Frag} {mg : Str → Option PySem.Value} {base : Heap} {f fW : Addr} {fd fdW : FuncData} {H H' : Hp} {m : Mac} {first : List Sy} {be : Sy}
/-- the law's own words fed -/
def spFf (K : PySem.W.Frag) (w : World) : Sp := fun vs H Q _ => ∃ mc m first be a, ∃ ws : List (List Sy), ∃ xs, vs = [.ref mc, .ref a] ∧ McAt K w H mc m first be ∧ MacOk K H m ∧ (SyOk K H be ∧ be.2 ∈ (m : Mac).sd false) ∧ SqL K H a xs ∧ WordsS K H ws xs ∧ ws.length ≤ 20 ∧ (∀ w ∈ ws, w.length ≤ 20) ∧
    (∀ w ∈ ws, ∀ l ∈ w, SyOk K H l ∧ l.2 ∈ m.ld) ∧ ∀ p H', Same H H' → Dp K H' (.ref p) (.tuple (fedM m be ws)) → symDs (fedM m be ws) = true → Q (.ref p) H'
abbrev nFf : List Str := ["_law_machine", "_law_words", "_law_found", "_law_way", "_law_state", "_law_word", "_law_written", "_law_turn"]
theorem scFf : FnScope nFf ["_law_machine", "_law_words"] (defScope (top 39)) := ⟨rfl, rfl, rfl, by decide +kernel, rfl, by decide +kernel, by decide +kernel⟩
theorem ok_ff (F : FnT K "_law_sw_fed" 39 f fd) (TX : Txt mg) (FW : FnT K "_law_sw_walk" 38 fW fdW) (gW : mg "_law_sw_walk" = some (.ref fW)) : FnOk P w K mg base CX0 2 f fd ["_law_machine", "_law_words"] (spFf K w) := by
  refine F.ok scFf (fun vs H Q E h => by obtain ⟨mc, m, first, be, a, ws, xs, rfl, _⟩ := h; rfl) (fun cdv A outer s0 H vs Q E hr h => ?_)
  obtain ⟨mc, m, first, be, a, ws, xs, rfl, mo, mac, hbe, ha, hw, fw, fl, lo, q⟩ := h
  have nd := scFf.nd
  have hu := hr.units
  have hu1 := hu_of hr
  suffices z : ∃ t, PSs (cxOf CX0 P w K mg base nFf "_law_sw_fed" (defScope (top 39)) f cdv A outer s0 H E).nox (defBody (top 39)) t ∧ t { nx := fun _ H' => Q .non H', rt := Q } (start nFf [.ref mc, .ref a]) H by
    obtain ⟨t, h1, h2⟩ := z
    exact ⟨t, h1.nox, h2⟩
  have GW := ok_lw (P := P) (w := w) (mg := mg) (base := base) FW TX
  have bW : L2.Binds K fdW ["_law_machine", "_law_way", "_law_state", "_law_word"] [] := FunD.bindsN FW fun _ _ _ _ _ _ us hl => match us, hl with | [_, _, _, _], _ => rfl
  refine ⟨_, pss_cons (ps_par3 (i := 2) (j := 3) (l := 4) rfl nd rfl rfl rfl (by decide) (by decide) (by decide) rfl rfl rfl (pa_cons (pe_lst pa_nil) (pa_cons pe_str (pa_cons (pe_dget hu1 (pv 0) pe_str (fun _ _ => rfl)) pa_nil))) rfl)
    (pss_cons (ps_for PassesOwn.never rfl (pi_list (pv 1)) (pg_name (i := 5) nd rfl (.inl rfl))
      (pss_cons (ps_asg (pe_call GW hr (by rfl) gW FW.kp bW .nil pass0 (pa_cons (pv 0) (pa_cons (pv 3) (pa_cons (pv 4) (pa_cons (pv 5) pa_nil))))) (pg_tup (by rfl) (pgs_cons (pg_name (i := 6) nd rfl (.inl rfl)) (pgs_cons (pg_name (i := 4) nd rfl (.inl rfl)) pgs_nil))))
      (pss_cons (ps_asg (pe_ix (ix_dictA hu) (pe_dget hu1 (pv 0) pe_str (fun _ _ => rfl)) (pe_tup (pa_cons (pv 3) (pa_cons (pv 4) pa_nil))) (fun _ _ => rfl)) (pg_name (i := 7) nd rfl (.inl rfl)))
      (C8.pss_cut (ps_expr (pe_bm PySem.F.plainAttrs_list PySem.F.slot_list_append PySem.F.type_list_append mt_append (pv 2) (pa_cons (pe_tup (pa_cons (pv 6) (pa_cons (pe_ifExp (pt_cmpR op_isN (pv 7) pe_non (nomark _)) pe_non (pe_tup (pa_cons (pe_ix ix_tup (pv 7) pe_int (fun _ _ => rfl)) pa_nil))) pa_nil))) pa_nil)))
      (pss_cons (ps_if (pt_cmpR op_isN (pv 7) pe_non (nomark _)) (pss_one ps_break) pss_nil)
      (pss_one (ps_par (i := 3) (j := 4) (by rfl) nd rfl rfl (by decide) rfl rfl (pa_cons (pe_ifExp (pt_cmpR op_eq (pv 3) pe_str (nomark _)) pe_str pe_str) (pa_cons (pe_ix ix_tup (pv 7) pe_int (fun _ _ => rfl)) pa_nil)) rfl)))))))
    (pss_one (ps_ret (pe_callTy call_tupR (by rfl) TX.tuple (by decide +kernel) (pa_cons (pv 2) pa_nil))))), ?_⟩
  obtain ⟨fi, ds, dt, hmc, hfi, T⟩ := mo.ex
  refine ⟨(by show 0 ≤ sizeLine; exact Nat.zero_le _), fun D nD => ?_⟩
  have s1 := same_upd (o := .lst []) nD
  refine ⟨_, rfl, mc, _, rfl, gBegin (s1 _ _ hmc), _, _, _, rfl, ?_⟩
  have xl : xs.length = ws.length := (Paired.length hw).symm
  refine ⟨_, rfl, a, rfl, ⟨_, Kp.sql (Kp.same s1) ha⟩, ?_⟩
  refine for_it (walk_list (K := K) (a := a) (xs := xs)) (fun j σ H' => ∃ b s o5 o6 o7 ys acc, σ = [some (.ref mc), some (.ref a), some (.ref D), some (.str (wayS b)), some (s : Sy).1, o5, o6, o7] ∧ fedF m be (ws.take j) = ⟨b, some s, acc⟩ ∧ SyOk K H s ∧ s.2 ∈ m.sd b ∧ Same H H' ∧ H' D = some (.lst ys) ∧ DpAll K H' ys acc ∧ symDs acc = true) ⟨false, be, none, none, none, [], [], rfl, rfl, hbe.1, hbe.2, s1, upd_same, .nil, rfl⟩ (fun i σ H' _ p => by
    obtain ⟨_, _, _, _, _, _, _, _, _, _, _, s, _⟩ := p
    exact Kp.sql (Kp.same s) ha) ?_ ?_
  · rintro j x σ H5 H4 hj ⟨b, s, o5, o6, o7, ys, acc, rfl, eF, os, ms, s4, hD4, dps, sym⟩ ⟨rfl, hx⟩
    obtain ⟨w0, hw0, q1, rfl, hq1⟩ := pairW hw hx
    have mw := List.mem_of_getElem? hw0
    have nxt := fed_snoc (m := m) (be := be) hw0
    have stop := fed_end (m := m) (be := be) (ws := ws) (j := j + 1)
    have ln : (fedF m be (ws.take j)).acc.length ≤ 0 + (ws.take j).length := fed_len (ws.take j) _
    rw [eF] at nxt ln
    have nxt : fedF m be (ws.take (j + 1)) = ⟨!b, nextS (m.turn b (sweepM m b s w0).2.2), acc ++ [recD m b s w0]⟩ := nxt
    rw [nxt] at stop
    have yl : ys.length ≤ 20 := by
      have h1 := dps_len dps
      rw [List.length_take] at ln
      have : acc.length ≤ 0 + min j ws.length := ln
      omega
    have lw := fl w0 mw
    obtain ⟨w1, w2, w3⟩ := sweepM_ok mac ⟨os, ms⟩ (lo w0 mw)
    have rsym : ∀ H6, Same H H6 → symD (recD m b s w0) = true := fun H6 s6 => by
      refine rec_sym (K := K) (H := H6) (fun l hl => (w1 l hl).1.tups (same_tups s6)) fun s2 x e l el => ?_
      exact ((mac.tu b _ s2 x w2.2 e).2.2 l el).2.1.tups (same_tups s6)
    refine ⟨_, rfl, _, rfl, _, rfl, _, rfl, mc, m, first, be, b, s, q1, w0, rfl, mo.same s4, mac.tups (same_tups s4), os.tups (same_tups s4), ms, SqT.tups (same_tups s4) hq1, (fun l h => ⟨(lo w0 mw l h).1.tups (same_tups s4), (lo w0 mw l h).2⟩), by omega, fun p pr H6 s6 hp hpr => ?_⟩
    refine ⟨p, _, rfl, hp, rfl, _, _, rfl, _, _, rfl, rfl, ?_⟩
    have s06 := same_trans s4 s6
    have rs := rsym H6 s06
    have w1 : ∀ l ∈ (sweepM m b s w0).1, SyOk K H l := fun l hl => (w1 l hl).1
    obtain ⟨es1, et1, D1, D2, T1, T2⟩ := (T.same s06).ex
    obtain ⟨tv, at1, tat⟩ := T2 b (sweepM m b s w0).2.2 w2.2
    refine ⟨_, rfl, mc, _, rfl, gTurns (s06 _ _ hmc), _, rfl, _, rfl, (by show 2 ≤ sizeLine; rw [sizeLine_eq]; decide), fun pk npk => ?_⟩
    have s7 := same_upd (o := .tup [.str (wayS b), (sweepM m b s w0).2.1]) npk
    have hpk : SqT K (upd H6 pk (.tup [.str (wayS b), (sweepM m b s w0).2.1])) pk [.str (wayS b), (sweepM m b s w0).2.1] := SqT.of upd_same
    generalize upd H6 pk (.tup [.str (wayS b), (sweepM m b s w0).2.1]) = H7 at s7 hpk
    have s07 := same_trans s06 s7
    refine ⟨dt, et1, kT b (sweepM m b s w0).2.2, tv, rfl, daKeep D2 (same_tups s7) (same_rd s7 D2.at_), nkT hpk (w2.1.tups (same_tups s07)), depT (w2.1.tups (same_tups s07)), at1, ?_⟩
    have tat7 := tat.tups (same_tups s7)
    have hD7 := s7 _ _ (s6 _ _ hD4)
    have hpr7 := SqT.tups (same_tups s7) hpr
    have dps7 := dps_same (same_trans s6 s7) _ _ dps
    have tuok := mac.tu b (sweepM m b s w0).2.2
    refine ⟨fun σ H' => ∃ ys, σ = [some (.ref mc), some (.ref a), some (.ref D), some (.str (wayS b)), some (sweepM m b s w0).2.1, some (.ref q1), some (.ref pr), some tv] ∧ Same H H' ∧ TurnAt K H' tv (m.turn b (sweepM m b s w0).2.2) ∧ H' D = some (.lst ys) ∧ DpAll K H' ys (acc ++ [recD m b s w0]), ?_, ?_⟩
    · -- told
      refine ⟨_, rfl, .inl ⟨rfl, _, SqL.of hD7⟩, _, rfl, _, rfl, rfl, decide (tv = .non), rfl, ?_⟩
      have few : ys.length < sizeLine := by
        rw [sizeLine_eq]
        omega
      have fin : ∀ H8 v8 pt, Same H7 H8 → ToldAt K H8 v8 (m.turn b (sweepM m b s w0).2.2) → H8 pt = none → Same H (upd (upd H8 pt (.tup [.ref pr, v8])) D (.lst (ys ++ [.ref pt]))) ∧ TurnAt K (upd (upd H8 pt (.tup [.ref pr, v8])) D (.lst (ys ++ [.ref pt]))) tv (m.turn b (sweepM m b s w0).2.2) ∧
          (upd (upd H8 pt (.tup [.ref pr, v8])) D (.lst (ys ++ [.ref pt]))) D = some (.lst (ys ++ [.ref pt])) ∧ DpAll K (upd (upd H8 pt (.tup [.ref pr, v8])) D (.lst (ys ++ [.ref pt]))) (ys ++ [.ref pt]) (acc ++ [recD m b s w0]) := fun H8 v8 pt s8 hv npt => by
        have u1 := same_upd (o := .tup [.ref pr, v8]) npt
        have s9 := same_trans s8 u1
        have hD9 := s9 _ _ hD7
        have tu : Tups (upd H8 pt (.tup [.ref pr, v8])) (upd (upd H8 pt (.tup [.ref pr, v8])) D (.lst (ys ++ [.ref pt]))) := Tups.upd (lst_ntup hD9)
        have s79 := same_trans s07 s9
        obtain ⟨kr, ekr⟩ := sym_key _ rs
        have rd : Dp K (upd H8 pt (.tup [.ref pr, v8])) (.ref pt) (recD m b s w0) := rec_dp (SqT.of upd_same) (SqT.tups (same_tups s9) hpr7) (by
          cases tn : m.turn b (sweepM m b s w0).2.2 with
          | none =>
            rw [tn] at hv
            exact hv
          | some y =>
            rw [tn] at hv
            obtain ⟨q, e, h⟩ := hv
            exact ⟨q, e, SqT.tups (same_tups u1) h⟩) (fun l hl => (w1 l hl).tups (same_tups s79)) fun s2 x e l el => ((tuok s2 x w2.2 e).2.2 l el).2.1.tups (same_tups s79)
        refine ⟨fun c o e => ?_, (tat7.tups (same_tups s9)).tups tu, upd_same, ?_⟩
        · rw [upd_ne (ne_of_none e nD)]
          exact s79 _ _ e
        · exact dpall_append (dpall_tups tu (fun d hd => sym_key d (syms_mem sym d hd)) (dps_same s9 _ _ dps7)) (.cons (dp_tups tu _ _ kr ekr rd) .nil)
      have sz2 : ∀ (x y : V), [x, y].length ≤ sizeLine := fun x y => by show 2 ≤ sizeLine; rw [sizeLine_eq]; decide
      cases tn : m.turn b (sweepM m b s w0).2.2 with
      | none =>
        rw [tn] at tat7 fin
        cases (show tv = .non from tat7)
        refine iteT ⟨sz2 _ _, fun pt npt => ⟨D, ys, .ref pt, rfl, rfl, (same_upd npt) _ _ hD7, few, ?_⟩⟩
        exact ⟨_, rfl, fin H7 .non pt same_refl rfl npt⟩
      | some y =>
        obtain ⟨s2, x2⟩ := y
        rw [tn] at tat7 fin
        obtain ⟨q2, rfl, hq2⟩ := tat7
        refine iteF ⟨_, rfl, q2, _, 1, _, rfl, rfl, hq2, rfl, (by show 1 ≤ sizeLine; rw [sizeLine_eq]; decide), fun pe npe => ⟨sz2 _ _, fun pt npt => ⟨D, ys, .ref pt, rfl, rfl, (same_trans (same_upd npe) (same_upd npt)) _ _ hD7, few, ?_⟩⟩⟩
        exact ⟨_, rfl, fin _ (.ref pe) pt (same_upd npe) ⟨pe, rfl, SqT.of upd_same⟩ npt⟩
    · rintro σ H8 ⟨ys8, rfl, s8, tat8, hD8, dps8⟩
      refine ⟨_, rfl, rfl, decide (tv = .non), rfl, ?_⟩
      cases tn : m.turn b (sweepM m b s w0).2.2 with
      | none =>
        rw [tn] at tat8 stop
        cases (show tv = .non from tat8)
        refine iteT ?_
        refine ⟨_, rfl, D, ys8, rfl, .inl (SqL.of hD8), fun p H6 s6 hp => ?_⟩
        refine q p H6 (same_trans s8 s6) ?_ ?_
        · rw [stop rfl]
          exact .tup hp (dps_same s6 _ _ dps8)
        · rw [stop rfl]
          show symDs (acc ++ [recD m b s w0]) = true
          rw [syms_app, sym]
          simp only [symDs, Bool.true_and, Bool.and_true]
          exact rs
      | some y =>
        obtain ⟨s2, x2⟩ := y
        rw [tn] at tat8 nxt
        obtain ⟨q2, rfl, hq2⟩ := tat8
        obtain ⟨z1, z2, z3⟩ := tuok s2 x2 w2.2 tn
        refine iteF ?_
        refine ⟨_, rfl, rfl, decide (V.str (wayS b) = V.str "l"), rfl, ?_⟩
        cases b with
        | false =>
          rw [show decide (V.str (wayS false) = V.str "l") = true by decide]
          refine iteT ⟨_, rfl, q2, _, 0, _, rfl, rfl, hq2, rfl, _, _, rfl, true, s2, _, _, _, ys8, _, rfl, nxt, z1, z2, s8, hD8, dps8, ?_⟩
          rw [syms_app, sym]
          simp only [symDs, Bool.true_and, Bool.and_true]
          exact rs
        | true =>
          rw [show decide (V.str (wayS true) = V.str "l") = false by decide]
          refine iteF ⟨_, rfl, q2, _, 0, _, rfl, rfl, hq2, rfl, _, _, rfl, false, s2, _, _, _, ys8, _, rfl, nxt, z1, z2, s8, hD8, dps8, ?_⟩
          rw [syms_app, sym]
          simp only [symDs, Bool.true_and, Bool.and_true]
          exact rs
  · rintro σ H4 ⟨b, s, o5, o6, o7, ys, acc, rfl, eF, os, ms, s4, hD4, dps, sym⟩
    rw [xl, List.take_length] at eF
    refine ⟨_, rfl, D, ys, rfl, .inl (SqL.of hD4), fun p H6 s6 hp => ?_⟩
    have e : fedM m be ws = acc := by
      unfold fedM
      rw [eF]
    refine q p H6 (same_trans s4 s6) ?_ ?_
    · rw [e]
      exact .tup hp (dps_same s6 _ _ dps)
    · rw [e]
      exact sym
end
end K15

set_option Elab.async false
set_option linter.all false
set_option maxRecDepth 100000
set_option maxHeartbeats 4000000
namespace K15
open PySem PySem.Spec PyProof.Rows L2 Pen Tr AK LamX RU
/-! ### things in a row, each once -/
structure ItOk (K : PySem.W.Frag) (H : Hp) (x : Sy) : Prop where
  dp : Dp K H x.1 x.2
  ke : keyD x.2 = some (kOf x.2)
  la : x.2.canLay0 = true
  de : x.2.depth ≤ 40
def addIt (acc : List Sy) (x : Sy) : List Sy := if (acc.any fun y => decide (kOf y.2 = kOf x.2)) = true then acc else acc ++ [x]
def addAll (acc more : List Sy) : List Sy := more.foldl addIt acc
theorem addAll_snoc {acc more : List Sy} {j : Nat} {x : Sy} (h : more[j]? = some x) : addAll acc (more.take (j + 1)) = addIt (addAll acc (more.take j)) x := by
  unfold addAll
  rw [List.take_add_one, h, List.foldl_append]
  rfl
theorem addIt_mem {acc : List Sy} {x y : Sy} (h : y ∈ addIt acc x) : y ∈ acc ∨ y = x := by
  unfold addIt at h
  split at h
  · exact .inl h
  · rcases List.mem_append.mp h with h | h
    · exact .inl h
    · exact .inr (List.mem_singleton.mp h)
theorem addAll_mem : ∀ {more acc : List Sy} {y : Sy}, y ∈ addAll acc more → y ∈ acc ∨ y ∈ more
  | [], _, _, h => .inl h
  | x :: more, acc, y, h => by
    rcases addAll_mem (more := more) (acc := addIt acc x) h with h | h
    · rcases addIt_mem h with h | h
      · exact .inl h
      · exact .inr (h ▸ List.mem_cons_self ..)
    · exact .inr (List.mem_cons_of_mem _ h)
theorem addIt_sub {acc : List Sy} {x y : Sy} (h : y ∈ acc) : y ∈ addIt acc x := by
  unfold addIt
  split
  · exact h
  · exact List.mem_append_left _ h
theorem addAll_sub : ∀ {more acc : List Sy} {y : Sy}, y ∈ acc → y ∈ addAll acc more
  | [], _, _, h => h
  | x :: more, acc, y, h => addAll_sub (more := more) (addIt_sub h)
theorem addIt_len {acc : List Sy} {x : Sy} : acc.length ≤ (addIt acc x).length ∧ (addIt acc x).length ≤ acc.length + 1 := by
  unfold addIt
  split
  · exact ⟨Nat.le_refl _, Nat.le_succ _⟩
  · rw [List.length_append]
    exact ⟨Nat.le_add_right _ _, Nat.le_refl _⟩
theorem addAll_len : ∀ {more acc : List Sy}, acc.length ≤ (addAll acc more).length ∧ (addAll acc more).length ≤ acc.length + more.length
  | [], _ => ⟨Nat.le_refl _, Nat.le_refl _⟩
  | x :: more, acc => by
    obtain ⟨h1, h2⟩ := addAll_len (more := more) (acc := addIt acc x)
    obtain ⟨h3, h4⟩ := addIt_len (acc := acc) (x := x)
    have e : addAll acc (x :: more) = addAll (addIt acc x) more := rfl
    rw [e, List.length_cons]
    omega
def KNd (l : List Sy) : Prop := (l.map fun x => kOf x.2).Nodup
theorem addIt_nd {acc : List Sy} {x : Sy} (h : KNd acc) : KNd (addIt acc x) := by
  unfold addIt
  split
  · exact h
  · rename_i c
    unfold KNd
    rw [List.map_append, List.nodup_append]
    refine ⟨h, List.nodup_cons.mpr ⟨List.not_mem_nil, List.nodup_nil⟩, fun a ha b hb e => ?_⟩
    obtain rfl := List.mem_singleton.mp hb
    obtain ⟨y, hy, rfl⟩ := List.mem_map.mp ha
    exact c (List.any_eq_true.mpr ⟨y, hy, decide_eq_true e⟩)
theorem addAll_nd : ∀ {more acc : List Sy}, KNd acc → KNd (addAll acc more)
  | [], _, h => h
  | x :: more, acc, h => addAll_nd (more := more) (addIt_nd h)
section
variable {P : Program} {w : World} {K : PySem.W.Frag} {mg : Str → Option PySem.Value} {base : Heap} {f : Addr} {fd : FuncData} {H H' : Hp}
theorem ItOk.same {x : Sy} (o : ItOk K H x) (s : Same H H') : ItOk K H' x := ⟨dp_same s _ _ o.dp, o.ke, o.la, o.de⟩
theorem ItOk.tups {x : Sy} (o : ItOk K H x) (s : Tups H H') : ItOk K H' x := ⟨dp_tups s _ _ _ o.ke o.dp, o.ke, o.la, o.de⟩
theorem SyOk.it {s : Sy} (o : SyOk K H s) : ItOk K H s := by
  obtain ⟨h1, h2, h3, h4, h5⟩ := menu_show _ o.mem
  exact ⟨o.dp, menu_key _ o.mem, h5, Nat.le_trans h3 (by decide)⟩
theorem its_dp : ∀ {l : List Sy}, (∀ x ∈ l, ItOk K H x) → DpAll K H (l.map (·.1)) (l.map (·.2))
  | [], _ => .nil
  | x :: l, h => .cons (h x (List.mem_cons_self ..)).dp (its_dp fun y hy => h y (List.mem_cons_of_mem _ hy))
theorem its_shaped {l : List Sy} (h : ∀ x ∈ l, ItOk K H x) : SeqAt.shaped (.list (l.map (·.2))) = true := shaped_list fun d hd => by
  obtain ⟨x, hx, rfl⟩ := List.mem_map.mp hd
  exact ⟨(h x hx).la, (h x hx).de⟩
theorem it_shaped {x : Sy} (o : ItOk K H x) : SeqAt.shaped x.2 = true := by
  have h1 := o.la
  have h2 := o.de
  unfold SeqAt.shaped
  rw [h1, show decide (PyData.depth x.2 ≤ 64) = true from decide_eq_true (by omega)]
  rfl
theorem its_any {l : List Sy} {x : Sy} (h : ∀ y ∈ l, ItOk K H y) (o : ItOk K H x) : ((l.map (·.2)).any fun z => PyData.eqv z x.2) = l.any fun y => decide (kOf y.2 = kOf x.2) := by
  induction l with
  | nil => rfl
  | cons y l ih =>
    rw [List.map_cons, List.any_cons, List.any_cons, ih fun z hz => h z (List.mem_cons_of_mem _ hz), eqv_dec (h y (List.mem_cons_self ..)).ke o.ke]
def spMo (K : PySem.W.Frag) : Sp := fun vs H Q _ => ∃ a b, ∃ xs ys : List Sy, vs = [.ref a, .ref b] ∧ H a = some (.lst (xs.map (·.1))) ∧ SqL K H b (ys.map (·.1)) ∧ (∀ x ∈ xs, ItOk K H x) ∧ (∀ x ∈ ys, ItOk K H x) ∧ xs.length + ys.length ≤ 2000 ∧ ∀ r H', Same H H' → H' r = some (.lst ((addAll xs ys).map (·.1))) → Q (.ref r) H'
abbrev nMo : List Str := ["_law_rows", "_law_more", "_law_one"]
theorem scMo : FnScope nMo ["_law_rows", "_law_more"] (defScope (top 37)) := ⟨rfl, rfl, rfl, by decide +kernel, rfl, by decide +kernel, by decide +kernel⟩
theorem ok_mo (F : FnT K "_law_sw_more" 37 f fd) : FnOk P w K mg base CX0 1 f fd ["_law_rows", "_law_more"] (spMo K) := by
  refine F.ok scMo (fun vs H Q E h => by obtain ⟨a, b, xs, ys, rfl, _⟩ := h; rfl) (fun cdv A outer s0 H vs Q E hr h => ?_)
  obtain ⟨a, b, xs, ys, rfl, ha, hb, ox, oy, few, q⟩ := h
  have nd := scMo.nd
  have hu : (A.deeper (envOfC "_law_sw_more" (defScope (top 37)) s0.heap.objs.size f cdv)).units + 65 < cLine := by
    have := hr.un
    omega
  suffices z : ∃ t, PSs (cxOf CX0 P w K mg base nMo "_law_sw_more" (defScope (top 37)) f cdv A outer s0 H E).nox (defBody (top 37)) t ∧ t { nx := fun _ H' => Q .non H', rt := Q } (start nMo [.ref a, .ref b]) H by
    obtain ⟨t, h1, h2⟩ := z
    exact ⟨t, h1.nox, h2⟩
  refine ⟨_, pss_cons (ps_for PassesOwn.never rfl (pi_list (pv 1)) (pg_name (i := 2) nd rfl (.inl rfl))
      (pss_one (ps_if (pt_cmpR (op_notInD hu) (pv 2) (pv 0) (by rfl)) (pss_one (ps_asg (pe_op op_cat (pv 0) (pe_lst (pa_cons (pv 2) pa_nil))) (pg_name (i := 0) nd rfl (.inl rfl)))) pss_nil)))
    (pss_one (ps_ret (pv 0))), ?_⟩
  refine ⟨_, rfl, b, rfl, ⟨_, hb⟩, ?_⟩
  refine for_it (walk_list (K := K) (a := b) (xs := ys.map (·.1))) (fun j σ H' => ∃ r o2, σ = [some (.ref r), some (.ref b), o2] ∧ Same H H' ∧ H' r = some (.lst ((addAll xs (ys.take j)).map (·.1)))) ⟨a, none, rfl, same_refl, ha⟩ (fun i σ H' _ ⟨_, _, _, s, _⟩ => Kp.sql (Kp.same s) hb) ?_ ?_
  · rintro j y σ H5 H4 hj ⟨r, o2, rfl, s4, hr4⟩ ⟨rfl, hy⟩
    rw [List.getElem?_map] at hy
    obtain ⟨x, hx, rfl⟩ := Option.map_eq_some_iff.mp hy
    have mx := List.mem_of_getElem? hx
    have ox4 := (oy x mx).same s4
    have nxt := addAll_snoc (acc := xs) hx
    have oks : ∀ z ∈ addAll xs (ys.take j), ItOk K H4 z := fun z hz => by
      rcases addAll_mem hz with h | h
      · exact (ox z h).same s4
      · exact (oy z (List.mem_of_mem_take h)).same s4
    have ln := (addAll_len (more := ys.take j) (acc := xs)).2
    rw [List.length_take] at ln
    generalize addAll xs (ys.take j) = acc at hr4 nxt oks ln
    refine ⟨_, rfl, _, rfl, x.2, acc.map (fun z : Sy => z.2), ox4.dp, .lst (SqL.of hr4) (its_dp oks), it_shaped ox4, its_shaped oks, _, rfl, ?_⟩
    rw [its_any oks ox4]
    cases c : acc.any fun y => decide (kOf y.2 = kOf x.2) with
    | true =>
      refine iteF ⟨r, _, rfl, s4, ?_⟩
      rw [nxt, addIt, if_pos c]
      exact hr4
    | false =>
      refine iteT ⟨_, rfl, _, rfl, (by show 1 ≤ sizeLine; rw [sizeLine_eq]; decide), fun L nL => ?_⟩
      have u1 := same_upd (o := .lst [x.1]) nL
      refine ⟨r, L, _, _, rfl, rfl, u1 _ _ hr4, upd_same, ?_, fun D nD => ?_⟩
      · rw [List.length_map, List.length_singleton, sizeLine_eq]
        omega
      · refine ⟨D, _, rfl, same_trans s4 (same_trans u1 (same_upd nD)), ?_⟩
        rw [upd_same, nxt, addIt, if_neg (by rw [c]; exact Bool.false_ne_true), List.map_append]
        rfl
  · rintro σ H4 ⟨r, o2, rfl, s4, hr4⟩
    rw [List.length_map, List.take_length] at hr4
    exact ⟨_, rfl, q r H4 s4 hr4⟩
end
end K15

set_option Elab.async false
set_option linter.all false
set_option maxRecDepth 100000
set_option maxHeartbeats 4000000
namespace K15
open PySem PySem.Spec PyProof.Rows L2 Pen Tr AK LamX RU
/-! ### rows made of rows -/
section
variable {K : PySem.W.Frag} {H : Hp} {tl te : TE} {σ : L2.St} {a : Addr} {xs : List V} {i : Nat} {vs : List Nat} {Q : VK}
theorem lc_map (vse : vs = [i]) (Rl : Hp → V → V → Prop) (st : ∀ H1 H2 x y, Tups H1 H2 → Rl H1 x y → Rl H2 x y) (hx : SqL K H a xs) (few : xs.length ≤ 1000) (htl : ∀ R : VK, R (.ref a) H → tl σ H R) (hw : ∀ x, wipe ((wipe σ [i]).set i (some x)) [i] = wipe σ [i])
    (hs : ∀ x H1 (R : VK), x ∈ xs → Same H H1 → (∀ y H2, Same H1 H2 → Rl H2 x y → R y H2) → te ((wipe σ [i]).set i (some x)) H1 R) (q : ∀ D H' ys, Same H H' → H D = none → H' D = some (.lst ys) → Paired (Rl H') xs ys → Q (.ref D) H') : tLc (iList K tl) (gName i) tYes te vs σ H Q := by
  subst vse
  refine htl _ ⟨a, rfl, ⟨xs, hx⟩, fun D nD => ?_⟩
  refine lc_it (walk_list (K := K) (a := a) (xs := xs)) (fun j H' => Same H H' ∧ ∃ ys, H' D = some (.lst ys) ∧ Paired (Rl H') (xs.take j) ys) ⟨same_upd nD, [], upd_same, .nil⟩ (fun j H' _ p => Kp.sql (Kp.same p.1) hx) ?_ ?_
  · rintro j x H2 H1 hj ⟨s1, ys, hD, pr⟩ ⟨rfl, hx2⟩
    refine ⟨hw x, yes_if ?_⟩
    refine hs x _ _ (List.mem_of_getElem? hx2) s1 fun y H3 s3 r3 => ?_
    have hD3 := s3 _ _ hD
    have ln : ys.length = (xs.take j).length := (Paired.length pr).symm
    rw [List.length_take] at ln
    have s4 : Same H (upd H3 D (.lst (ys ++ [y]))) := fun b o e => by
      rw [upd_ne (ne_of_none e nD)]
      exact s3 _ _ (s1 _ _ e)
    have t4 : Tups H3 (upd H3 D (.lst (ys ++ [y]))) := Tups.upd (lst_ntup hD3)
    refine ⟨ys, hD3, ?_, s4, _, upd_same, ?_⟩
    · rw [sizeLine_eq]
      omega
    · have e : xs.take (j + 1) = xs.take j ++ [x] := by
        rw [List.take_add_one, hx2]
        rfl
      rw [e]
      exact Paired.snoc (Paired.mapP pr fun u v r => st _ _ _ _ (Tups.trans (same_tups s3) t4) r) (st _ _ _ _ t4 r3)
  · rintro H' ⟨s1, ys, hD, pr⟩
    rw [List.take_length] at pr
    exact q D H' ys s1 nD hD pr
theorem lc_filt {tt : TT} (vse : vs = [i]) (hx : SqL K H a xs) (few : xs.length ≤ 1000) (htl : ∀ R : VK, R (.ref a) H → tl σ H R) (keep : V → Bool) (hw : ∀ x, wipe ((wipe σ [i]).set i (some x)) [i] = wipe σ [i])
    (ht : ∀ x H1 (R : Bool → Hp → Prop), x ∈ xs → Same H H1 → R (keep x) H1 → tt ((wipe σ [i]).set i (some x)) H1 R)
    (hv : ∀ x H1 (R : VK), R x H1 → te ((wipe σ [i]).set i (some x)) H1 R) (q : ∀ D H', Same H H' → H D = none → H' D = some (.lst (xs.filter keep)) → Q (.ref D) H') : tLc (iList K tl) (gName i) tt te vs σ H Q := by
  subst vse
  refine htl _ ⟨a, rfl, ⟨xs, hx⟩, fun D nD => ?_⟩
  refine lc_it (walk_list (K := K) (a := a) (xs := xs)) (fun j H' => Same H H' ∧ H' D = some (.lst ((xs.take j).filter keep))) ⟨same_upd nD, upd_same⟩ (fun j H' _ p => Kp.sql (Kp.same p.1) hx) ?_ ?_
  · rintro j x H2 H1 hj ⟨s1, hD⟩ ⟨rfl, hx2⟩
    refine ⟨hw x, ht x _ _ (List.mem_of_getElem? hx2) s1 ?_⟩
    have nxt := take_succ_filter keep xs j x hx2
    cases c : keep x with
    | true =>
      rw [c, if_pos rfl] at nxt
      rw [if_pos rfl]
      refine hv x _ _ ⟨_, hD, ?_, fun b o e => ?_, ?_⟩
      · have z := List.length_filter_le keep (xs.take j)
        rw [List.length_take] at z
        rw [sizeLine_eq]
        omega
      · rw [upd_ne (ne_of_none e nD)]
        exact s1 _ _ e
      · rw [upd_same, nxt]
    | false =>
      rw [c, if_neg Bool.false_ne_true, List.append_nil] at nxt
      rw [if_neg Bool.false_ne_true, nxt]
      exact ⟨s1, hD⟩
  · rintro H' ⟨s1, hD⟩
    rw [List.take_length] at hD
    exact q D H' s1 nD hD
theorem as_map {D : Ends} {j : Nat} (vse : vs = [i]) (Rl : Hp → V → V → Prop) (st : ∀ H1 H2 x y, Tups H1 H2 → Rl H1 x y → Rl H2 x y) (hx : SqL K H a xs) (few : xs.length ≤ 1000) (htl : ∀ R : VK, R (.ref a) H → tl σ H R) (hw : ∀ x, wipe ((wipe σ [i]).set i (some x)) [i] = wipe σ [i])
    (hs : ∀ x H1 (R : VK), x ∈ xs → Same H H1 → (∀ y H2, Same H1 H2 → Rl H2 x y → R y H2) → te ((wipe σ [i]).set i (some x)) H1 R) (q : ∀ D0 H' ys, Same H H' → H D0 = none → H' D0 = some (.lst ys) → Paired (Rl H') xs ys → D.nx (σ.set j (some (.ref D0))) H') : tAsg (tLc (iList K tl) (gName i) tYes te vs) (gName j) D σ H :=
  lc_map vse Rl st hx few htl hw hs q
theorem as_filt {tt : TT} {D : Ends} {j : Nat} (vse : vs = [i]) (hx : SqL K H a xs) (few : xs.length ≤ 1000) (htl : ∀ R : VK, R (.ref a) H → tl σ H R) (keep : V → Bool) (hw : ∀ x, wipe ((wipe σ [i]).set i (some x)) [i] = wipe σ [i])
    (ht : ∀ x H1 (R : Bool → Hp → Prop), x ∈ xs → Same H H1 → R (keep x) H1 → tt ((wipe σ [i]).set i (some x)) H1 R)
    (hv : ∀ x H1 (R : VK), R x H1 → te ((wipe σ [i]).set i (some x)) H1 R) (q : ∀ D0 H', Same H H' → H D0 = none → H' D0 = some (.lst (xs.filter keep)) → D.nx (σ.set j (some (.ref D0))) H') : tAsg (tLc (iList K tl) (gName i) tt te vs) (gName j) D σ H :=
  lc_filt vse hx few htl keep hw ht hv q
end
/-! ### the law's own closure -/
structure CloS (m : Mac) (first : List Sy) (be : Sy) (S : Bool → List PyData) (L : List PyData) : Prop where
  f : ∀ s ∈ first, s.2 ∈ L
  b : be.2 ∈ S false
  st : ∀ b, ∀ d ∈ S b, ∀ e ∈ L, (m.step b d e).1.2 ∈ S b ∧ (m.step b d e).2.2 ∈ L
  tu : ∀ b, ∀ d ∈ S b, ∀ s x, m.turn b d = some (s, x) → s.2 ∈ S (!b) ∧ ∀ l, x = some l → l.2 ∈ L
theorem Clo.clos {m : Mac} {first : List Sy} {be : Sy} {L : List PyData} (c : Clo m first be L) : ∃ S, CloS m first be S L := by
  obtain ⟨S, h1, h2, h3⟩ := c.ex
  exact ⟨S, h1, h2, fun b d hd e he => (h3 b d hd).1 e he, fun b d hd s x e => (h3 b d hd).2 s x e⟩
def prD (b : Bool) (s : Sy) : PyData := .tuple [.str (wayS b), s.2]
section
variable {P : Program} {w : World} {K : PySem.W.Frag} {mg : Str → Option PySem.Value} {base : Heap} {f fM : Addr} {fd fdM : FuncData} {H H' : Hp} {m : Mac} {first : List Sy} {be : Sy}
/-- a way and a state that come -/
structure PrIn (K : PySem.W.Frag) (H : Hp) (m : Mac) (first : List Sy) (be : Sy) (b : Bool) (s : Sy) (x : Sy) : Prop where
  at_ : ∃ q, x = (.ref q, prD b s) ∧ SqT K H q [.str (wayS b), s.1]
  ok : SyOk K H s
  sd : s.2 ∈ m.sd b
  re : ∀ S L, CloS m first be S L → s.2 ∈ S b
structure LtIn (K : PySem.W.Frag) (H : Hp) (m : Mac) (first : List Sy) (be : Sy) (s : Sy) : Prop where
  ok : SyOk K H s
  ld : s.2 ∈ m.ld
  re : ∀ S L, CloS m first be S L → s.2 ∈ L
theorem kof_pr {b : Bool} {s : Sy} (o : SyOk K H s) : keyD (prD b s) = some (kT b s.2) := by
  simp [prD, keyD, keyDs, menu_key _ o.mem, kT]
theorem PrIn.key {b : Bool} {s x : Sy} (p : PrIn K H m first be b s x) : kOf x.2 = kT b s.2 := by
  obtain ⟨q, rfl, _⟩ := p.at_
  show (keyD (prD b s)).getD .none = _
  rw [kof_pr p.ok]
  rfl
theorem PrIn.it {b : Bool} {s x : Sy} (p : PrIn K H m first be b s x) : ItOk K H x := by
  obtain ⟨q, rfl, hq⟩ := p.at_
  have k := kof_pr (b := b) p.ok
  have so := p.ok.it
  refine ⟨.tup hq (.cons (.str _) (.cons p.ok.dp .nil)), ?_, ?_, ?_⟩
  · show keyD (prD b s) = some ((keyD (prD b s)).getD .none)
    rw [k]
    rfl
  · show (PyData.tuple [.str (wayS b), s.2]).canLay0 = true
    have h1 : PyData.strOk (wayS b) = true := by cases b <;> decide +kernel
    have h2 := so.la
    simp [PyData.canLay0, PyData.canLayAll0, h1, h2]
  · show (PyData.tuple [.str (wayS b), s.2]).depth ≤ 40
    obtain ⟨h1, h2, h3, h4, h5⟩ := menu_show _ p.ok.mem
    simp only [PyData.depth, PyData.depthAll]
    omega
theorem PrIn.tups {b : Bool} {s x : Sy} (p : PrIn K H m first be b s x) (t : Tups H H') : PrIn K H' m first be b s x := by
  obtain ⟨q, e, h⟩ := p.at_
  exact ⟨⟨q, e, SqT.tups t h⟩, p.ok.tups t, p.sd, p.re⟩
theorem LtIn.tups {s : Sy} (p : LtIn K H m first be s) (t : Tups H H') : LtIn K H' m first be s := ⟨p.ok.tups t, p.ld, p.re⟩
def PrAll (K : PySem.W.Frag) (H : Hp) (m : Mac) (first : List Sy) (be : Sy) (l : List Sy) : Prop := (∀ x ∈ l, ∃ b s, PrIn K H m first be b s x) ∧ KNd l
def LtAll (K : PySem.W.Frag) (H : Hp) (m : Mac) (first : List Sy) (be : Sy) (l : List Sy) : Prop := (∀ x ∈ l, LtIn K H m first be x) ∧ KNd l
theorem PrAll.tups {l : List Sy} (p : PrAll K H m first be l) (t : Tups H H') : PrAll K H' m first be l := ⟨fun x hx => let ⟨b, s, h⟩ := p.1 x hx; ⟨b, s, h.tups t⟩, p.2⟩
theorem LtAll.tups {l : List Sy} (p : LtAll K H m first be l) (t : Tups H H') : LtAll K H' m first be l := ⟨fun x hx => (p.1 x hx).tups t, p.2⟩
theorem PrAll.add {l l2 : List Sy} (p : PrAll K H m first be l) (h : ∀ x ∈ l2, ∃ b s, PrIn K H m first be b s x) : PrAll K H m first be (addAll l l2) := ⟨fun x hx => (addAll_mem hx).elim (p.1 x) (h x), addAll_nd p.2⟩
theorem LtAll.add {l l2 : List Sy} (p : LtAll K H m first be l) (h : ∀ x ∈ l2, LtIn K H m first be x) : LtAll K H m first be (addAll l l2) := ⟨fun x hx => (addAll_mem hx).elim (p.1 x) (h x), addAll_nd p.2⟩
theorem PrAll.len {l : List Sy} (mac : MacOk K H m) (p : PrAll K H m first be l) : l.length ≤ 160 := by
  have z := sub_len p.2 (r := (m.sd false).map (kT false) ++ (m.sd true).map (kT true)) fun k hk => by
    obtain ⟨x, hx, rfl⟩ := List.mem_map.mp hk
    obtain ⟨b, s, h⟩ := p.1 x hx
    rw [h.key]
    cases b
    · exact List.mem_append_left _ (List.mem_map.mpr ⟨_, h.sd, rfl⟩)
    · exact List.mem_append_right _ (List.mem_map.mpr ⟨_, h.sd, rfl⟩)
  rw [List.length_map, List.length_append, List.length_map, List.length_map] at z
  have h1 := mac.sf false
  have h2 := mac.sf true
  omega
theorem LtAll.len {l : List Sy} (mac : MacOk K H m) (p : LtAll K H m first be l) : l.length ≤ 3 := by
  have z := sub_len p.2 (r := m.ld.map kOf) fun k hk => by
    obtain ⟨x, hx, rfl⟩ := List.mem_map.mp hk
    exact List.mem_map.mpr ⟨_, (p.1 x hx).ld, rfl⟩
  rw [List.length_map, List.length_map] at z
  have h1 := mac.lf
  omega
def lnA (H : Hp) : Option V → Nat
  | some (.ref a) => match H a with
    | some (.lst xs) => xs.length
    | _ => 0
  | _ => 0
theorem lnA_of {H : Hp} {a : Addr} {xs : List V} (h : H a = some (.lst xs)) : lnA H (some (.ref a)) = xs.length := by
  unfold lnA
  simp only [h]
def muC (σ : L2.St) (H : Hp) : Nat := 2 * (200 - (lnA H (σ.getD 1 none) + lnA H (σ.getD 2 none))) + (if σ.getD 3 none = some (.int ((lnA H (σ.getD 1 none) + lnA H (σ.getD 2 none) : Nat) : Int)) then 0 else 1)
theorem muC_of {σ : L2.St} {a b : Addr} {x0 : Option V} {xs ys : List V} {n : Int} {l : List (Option V)} (e : σ = x0 :: some (.ref a) :: some (.ref b) :: some (.int n) :: l) (ha : H a = some (.lst xs)) (hb : H b = some (.lst ys)) :
    muC σ H = 2 * (200 - (xs.length + ys.length)) + (if n = ((xs.length + ys.length : Nat) : Int) then 0 else 1) := by
  subst e
  have h1 : lnA H ((x0 :: some (.ref a) :: some (.ref b) :: some (.int n) :: l).getD 1 none) = xs.length := lnA_of ha
  have h2 : lnA H ((x0 :: some (.ref a) :: some (.ref b) :: some (.int n) :: l).getD 2 none) = ys.length := lnA_of hb
  unfold muC
  rw [h1, h2]
  have h3 : (x0 :: some (V.ref a) :: some (.ref b) :: some (.int n) :: l).getD 3 none = some (.int n) := rfl
  rw [h3]
  congr 1
  by_cases c : n = ((xs.length + ys.length : Nat) : Int)
  · rw [if_pos c, if_pos (by rw [c])]
  · rw [if_neg c, if_neg (fun z => c (by injection (Option.some.inj z)))]
/-- a step found -/
def FdAt (K : PySem.W.Frag) (m : Mac) (first : List Sy) (be : Sy) (b : Bool) (s : Sy) (H : Hp) (y : V) : Prop := ∃ e q, e ∈ m.ld ∧ (∀ S L, CloS m first be S L → e ∈ L) ∧ y = .ref q ∧ SqT K H q [(m.step b s.2 e).1.1, (m.step b s.2 e).2.1]
theorem FdAt.tups {b : Bool} {s : Sy} {y : V} (h : FdAt K m first be b s H y) (t : Tups H H') : FdAt K m first be b s H' y := by
  obtain ⟨e, q, h1, h2, h3, h4⟩ := h
  exact ⟨e, q, h1, h2, h3, SqT.tups t h4⟩
theorem pr_new {b : Bool} {s2 : Sy} {q : Addr} (h : SqT K H q [.str (wayS b), s2.1]) (ok : SyOk K H s2) (sd : s2.2 ∈ m.sd b) (re : ∀ S L, CloS m first be S L → s2.2 ∈ S b) : PrIn K H m first be b s2 (.ref q, prD b s2) := ⟨⟨q, rfl, h⟩, ok, sd, re⟩
theorem rows_of {R : Sy → Prop} : ∀ {xs ys : List V}, Paired (fun _ y => ∃ z : Sy, z.1 = y ∧ R z) xs ys → ∃ l : List Sy, ys = l.map (·.1) ∧ (∀ z ∈ l, R z) ∧ l.length = xs.length
  | _, _, .nil => ⟨[], rfl, (fun _ h => nomatch h), rfl⟩
  | _, _, .cons (a := a) ⟨z, e, r⟩ t => by
    obtain ⟨l, h1, h2, h3⟩ := rows_of t
    refine ⟨z :: l, by rw [List.map_cons, e, h1], fun y hy => ?_, by rw [List.length_cons, List.length_cons, h3]⟩
    rcases List.mem_cons.mp hy with rfl | hy
    · exact r
    · exact h2 y hy
theorem wy_if {σ : L2.St} {i : Nat} {b : Bool} {R : VK} (h : σ[i]? = some (some (V.str (wayS b)))) (r : R (.str (wayS (!b))) H) : tIf (tTest (tOp rEq (tVar i) (tC (.str "l")))) (tC (.str "r")) (tC (.str "l")) σ H R := by
  refine ⟨_, h, rfl, decide (V.str (wayS b) = V.str "l"), rfl, ?_⟩
  cases b with
  | false =>
    rw [show decide (V.str (wayS false) = V.str "l") = true by decide]
    exact iteT r
  | true =>
    rw [show decide (V.str (wayS true) = V.str "l") = false by decide]
    exact iteF r
def spCl (K : PySem.W.Frag) (w : World) : Sp := fun vs H Q _ => ∃ mc m first be, vs = [.ref mc] ∧ McAt K w H mc m first be ∧ MacOk K H m ∧ (SyOk K H be ∧ be.2 ∈ (m : Mac).sd false) ∧ (∀ s ∈ (first : List Sy), SyOk K H s ∧ s.2 ∈ m.ld) ∧ first ≠ [] ∧ first.length ≤ 1000 ∧
  ∀ p v0 ll v2, ∀ ls : List Sy, ∀ H', Same H H' → SqT K H' p [v0, .ref ll, v2] → H' ll = some (.lst (ls.map (·.1))) → LtAll K H' m first be ls → ls ≠ [] → Q (.ref p) H'
abbrev nCl : List Str := ["_law_machine", "_law_pairs", "_law_letters", "_law_many", "_law_next_pairs", "_law_next_letters", "_law_way", "_law_state", "_law_found", "_law_turn", "_law_lack", "_law_keys", "_law_letter", "_law_step", "_law_pair", "_law_key"]
theorem scCl : FnScope nCl ["_law_machine"] (defScope (top 35)) := ⟨rfl, rfl, rfl, by decide +kernel, rfl, by decide +kernel, by decide +kernel⟩
theorem ok_cl (F : FnT K "_law_sw_closed" 35 f fd) (TX : Txt mg) (FM : FnT K "_law_sw_more" 37 fM fdM) (gM : mg "_law_sw_more" = some (.ref fM)) : FnOk P w K mg base CX0 2 f fd ["_law_machine"] (spCl K w) := by
  refine F.ok scCl (fun vs H Q E h => by obtain ⟨mc, m, first, be, rfl, _⟩ := h; rfl) (fun cdv A outer s0 H vs Q E hr h => ?_)
  obtain ⟨mc, m, first, be, rfl, mo, mac, hbe, hf, fne, fl, q⟩ := h
  have nd := scCl.nd
  have hu := hr.units
  have hu1 := hu_of hr
  have GM := ok_mo (P := P) (w := w) (mg := mg) (base := base) FM
  have bM : L2.Binds K fdM ["_law_rows", "_law_more"] [] := FunD.bindsN FM fun _ _ _ _ _ _ us hl => match us, hl with | [_, _], _ => rfl
  suffices z : ∃ t, PSs (cxOf CX0 P w K mg base nCl "_law_sw_closed" (defScope (top 35)) f cdv A outer s0 H E).nox (defBody (top 35)) t ∧ t { nx := fun _ H' => Q .non H', rt := Q } (start nCl [.ref mc]) H by
    obtain ⟨t, h1, h2⟩ := z
    exact ⟨t, h1.nox, h2⟩
  refine ⟨_, pss_cons (ps_par3 (i := 1) (j := 2) (l := 3) rfl nd rfl rfl rfl (by decide) (by decide) (by decide) rfl rfl rfl (pa_cons (pe_lst (pa_cons (pe_tup (pa_cons pe_str (pa_cons (pe_dget hu1 (pv 0) pe_str (fun _ _ => rfl)) pa_nil))) pa_nil)) (pa_cons (pe_lst pa_nil) (pa_cons (pe_un un_neg pe_int) pa_nil))) rfl)
    (pss_cons (ps_asg (pe_call GM (hr.mono (by decide)) (by rfl) gM FM.kp bM .nil pass0 (pa_cons (pv 2) (pa_cons (pe_callTy call_list_of (by rfl) TX.list (by decide +kernel) (pa_cons (pe_dget hu1 (pv 0) pe_str (fun _ _ => rfl)) pa_nil)) pa_nil))) (pg_name (i := 2) nd rfl (.inl rfl)))
    (C8.pss_cut (ps_while PassesOwn.never (pt_cmpR op_ne (pv 3) (pe_op op_add (pe_callB call_len_seq (by rfl) TX.len PySem.boot_len (pa_cons (pv 1) pa_nil)) (pe_callB call_len_seq (by rfl) TX.len PySem.boot_len (pa_cons (pv 2) pa_nil))) (nomark _))
      (pss_cons (ps_par3 (i := 3) (j := 4) (l := 5) rfl nd rfl rfl rfl (by decide) (by decide) (by decide) rfl rfl rfl (pa_cons (pe_op op_add (pe_callB call_len_seq (by rfl) TX.len PySem.boot_len (pa_cons (pv 1) pa_nil)) (pe_callB call_len_seq (by rfl) TX.len PySem.boot_len (pa_cons (pv 2) pa_nil))) (pa_cons (pe_callTy call_list_of (by rfl) TX.list (by decide +kernel) (pa_cons (pv 1) pa_nil)) (pa_cons (pe_callTy call_list_of (by rfl) TX.list (by decide +kernel) (pa_cons (pv 2) pa_nil)) pa_nil))) rfl)
      (pss_cons (ps_for PassesOwn.never rfl (pi_list (pv 1)) (pg_tup (by rfl) (pgs_cons (pg_name (i := 6) nd rfl (.inr rfl)) (pgs_cons (pg_name (i := 7) nd rfl (.inr rfl)) pgs_nil)))
      (pss_cons (ps_setLc (i := 8) (own := [("_law_letter", 12)]) (g := gName 12) (tt := tYes) (te := tBMA w (rGetA1 K w) (tDGet (tVar 0) (tC (.str "steps"))) (tCons (tTup (tCons (tVar 6) (tCons (tVar 7) (tCons (tVar 12) tNil)))) tNil)) (by rfl) nd rfl (by rfl) (by rfl) (pi_list (pv 2)) (blkOk_by (own := [("_law_letter", 12)]) (N := nCl) (sc := defScope (top 35)) (by decide +kernel)) (fun _ _ _ _ _ => pg_name (i := 12) nd rfl (Or.inl rfl)) (fun _ _ _ _ _ => pts_nil) (fun _ _ _ _ _ => (pe_bmA PySem.F.slot_dict_get PySem.F.type_dict_get (mt_getA1 hu) (pe_dget hu1 (pv 0) pe_str (fun _ _ => rfl)) (pa_cons (pe_tup (pa_cons (pv 6) (pa_cons (pv 7) (pa_cons (pv 12) pa_nil)))) pa_nil))))
      (pss_cons (ps_setLc (i := 8) (own := [("_law_step", 13)]) (g := gName 13) (tt := (tTest (tOp (fun x y H Q => y = V.non ∧ Q (V.bl !decide (x = V.non)) H) (tVar 13) (tC .non)))) (te := tVar 13) (by rfl) nd rfl (by rfl) (by rfl) (pi_list (pv 8)) (blkOk_by (own := [("_law_step", 13)]) (N := nCl) (sc := defScope (top 35)) (by decide +kernel)) (fun _ _ _ _ _ => pg_name (i := 13) nd rfl (Or.inl rfl)) (fun _ _ _ _ _ => pts_one (pt_cmpR op_notN (pv 13) pe_non (nomark _))) (fun _ _ _ _ _ => pv 13))
      (pss_cons (ps_asg (pe_call GM (hr.mono (by decide)) (by rfl) gM FM.kp bM .nil pass0 (pa_cons (pv 4) (pa_cons (pe_lc (own := [("_law_step", 13)]) (g := gName 13) (tt := tYes) (te := tTup (tCons (tVar 6) (tCons (tOp (rIxT K) (tVar 13) (tC (.int 0))) tNil))) (by rfl) nd (pi_list (pv 8)) (blkOk_by (own := [("_law_step", 13)]) (N := nCl) (sc := defScope (top 35)) (by decide +kernel)) (fun _ _ _ _ _ => pg_name (i := 13) nd rfl (Or.inl rfl)) (fun _ _ _ _ _ => pts_nil) (fun _ _ _ _ _ => (pe_tup (pa_cons (pv 6) (pa_cons (pe_ix ix_tup (pv 13) pe_int (fun _ _ => rfl)) pa_nil))))) pa_nil))) (pg_name (i := 4) nd rfl (.inl rfl)))
      (pss_cons (ps_asg (pe_call GM (hr.mono (by decide)) (by rfl) gM FM.kp bM .nil pass0 (pa_cons (pv 5) (pa_cons (pe_lc (own := [("_law_step", 13)]) (g := gName 13) (tt := tYes) (te := tOp (rIxT K) (tVar 13) (tC (.int 1))) (by rfl) nd (pi_list (pv 8)) (blkOk_by (own := [("_law_step", 13)]) (N := nCl) (sc := defScope (top 35)) (by decide +kernel)) (fun _ _ _ _ _ => pg_name (i := 13) nd rfl (Or.inl rfl)) (fun _ _ _ _ _ => pts_nil) (fun _ _ _ _ _ => (pe_ix ix_tup (pv 13) pe_int (fun _ _ => rfl)))) pa_nil))) (pg_name (i := 5) nd rfl (.inl rfl)))
      (pss_cons (ps_asg (pe_bmA PySem.F.slot_dict_get PySem.F.type_dict_get (mt_getA1 hu) (pe_dget hu1 (pv 0) pe_str (fun _ _ => rfl)) (pa_cons (pe_tup (pa_cons (pv 6) (pa_cons (pv 7) pa_nil))) pa_nil)) (pg_name (i := 9) nd rfl (.inl rfl)))
      (pss_one (ps_if (pt_cmpR op_notN (pv 9) pe_non (nomark _)) (pss_cons (ps_asg (pe_call GM (hr.mono (by decide)) (by rfl) gM FM.kp bM .nil pass0 (pa_cons (pv 4) (pa_cons (pe_lst (pa_cons (pe_tup (pa_cons (pe_ifExp (pt_cmpR op_eq (pv 6) pe_str (nomark _)) pe_str pe_str) (pa_cons (pe_ix ix_tup (pv 9) pe_int (fun _ _ => rfl)) pa_nil))) pa_nil)) pa_nil))) (pg_name (i := 4) nd rfl (.inl rfl)))
      (pss_one (ps_asg (pe_call GM (hr.mono (by decide)) (by rfl) gM FM.kp bM .nil pass0 (pa_cons (pv 5) (pa_cons (pe_ifExp (pt_cmpR op_notN (pe_ix ix_tup (pv 9) pe_int (fun _ _ => rfl)) pe_non (nomark _)) (pe_lst (pa_cons (pe_ix ix_tup (pv 9) pe_int (fun _ _ => rfl)) pa_nil)) (pe_lst pa_nil)) pa_nil))) (pg_name (i := 5) nd rfl (.inl rfl))))) pss_nil))))))))
      (pss_one (ps_par (i := 1) (j := 2) (by rfl) nd rfl rfl (by decide) rfl rfl (pa_cons (pv 4) (pa_cons (pv 5) pa_nil)) rfl)))))
    (C8.pss_cut (ps_setLc (i := 10) (own := [("_law_pair", 14)]) (g := gName 14) (tt := (tTest (tOp (rNotInA K w) (tVar 14) (tDGet (tVar 0) (tC (.str "turns")))))) (te := tVar 14) (by rfl) nd rfl (by rfl) (by rfl) (pi_list (pv 1)) (blkOk_by (own := [("_law_pair", 14)]) (N := nCl) (sc := defScope (top 35)) (by decide +kernel)) (fun _ _ _ _ _ => pg_name (i := 14) nd rfl (Or.inl rfl)) (fun _ _ _ _ _ => pts_one (pt_cmpR (op_notInA hu) (pv 14) (pe_dget hu1 (pv 0) pe_str (fun _ _ => rfl)) (by rfl))) (fun _ _ _ _ _ => pv 14))
    (C8.pss_cut (ps_for PassesOwn.never rfl (pi_list (pv 1)) (pg_tup (by rfl) (pgs_cons (pg_name (i := 6) nd rfl (.inr rfl)) (pgs_cons (pg_name (i := 7) nd rfl (.inr rfl)) pgs_nil)))
      (pss_cons (ps_setLc (i := 11) (own := [("_law_letter", 12)]) (g := gName 12) (tt := tYes) (te := tTup (tCons (tVar 6) (tCons (tVar 7) (tCons (tVar 12) tNil)))) (by rfl) nd rfl (by rfl) (by rfl) (pi_list (pv 2)) (blkOk_by (own := [("_law_letter", 12)]) (N := nCl) (sc := defScope (top 35)) (by decide +kernel)) (fun _ _ _ _ _ => pg_name (i := 12) nd rfl (Or.inl rfl)) (fun _ _ _ _ _ => pts_nil) (fun _ _ _ _ _ => (pe_tup (pa_cons (pv 6) (pa_cons (pv 7) (pa_cons (pv 12) pa_nil))))))
      (pss_one (ps_asg (pe_op op_cat (pv 10) (pe_lc (own := [("_law_key", 15)]) (g := gName 15) (tt := (tTest (tOp (rNotInA K w) (tVar 15) (tDGet (tVar 0) (tC (.str "steps")))))) (te := tVar 15) (by rfl) nd (pi_list (pv 11)) (blkOk_by (own := [("_law_key", 15)]) (N := nCl) (sc := defScope (top 35)) (by decide +kernel)) (fun _ _ _ _ _ => pg_name (i := 15) nd rfl (Or.inl rfl)) (fun _ _ _ _ _ => pts_one (pt_cmpR (op_notInA hu) (pv 15) (pe_dget hu1 (pv 0) pe_str (fun _ _ => rfl)) (by rfl))) (fun _ _ _ _ _ => pv 15))) (pg_name (i := 10) nd rfl (.inl rfl))))))
    (pss_one (ps_ret (pe_tup (pa_cons (pv 1) (pa_cons (pv 2) (pa_cons (pv 10) pa_nil)))))))))), ?_⟩
  clear bM
  obtain ⟨fi, ds, dt, hmc, hfi, T⟩ := mo.ex
  have sz : ∀ n : Nat, n ≤ 100 → n ≤ sizeLine := fun n h => by
    rw [sizeLine_eq]
    omega
  refine ⟨_, rfl, mc, _, rfl, gBegin hmc, sz 2 (by decide), fun p0 np => ⟨sz 1 (by decide), fun L1 nL => ⟨sz 0 (by decide), fun L2 nD => ?_⟩⟩⟩
  have s1 := same_upd (o := .tup [.str (wayS false), be.1]) np
  have hp0 : SqT K (upd H p0 (.tup [.str (wayS false), be.1])) p0 [.str (wayS false), be.1] := SqT.of upd_same
  change (upd H p0 (.tup [.str (wayS false), be.1])) L1 = none at nL
  change (upd (upd H p0 (.tup [.str (wayS false), be.1])) L1 (.lst [.ref p0])) L2 = none at nD
  refine ⟨_, rfl, _, _, _, rfl, ?_⟩
  have s2 := same_upd (o := .lst [.ref p0]) nL
  have s3 := same_upd (o := .lst ([] : List V)) nD
  have hL1 := s3 _ _ (upd_same (H := upd H p0 (.tup [.str (wayS false), be.1])) (a := L1) (o := .lst [.ref p0]))
  have hL2 := upd_same (H := upd (upd H p0 (.tup [.str (wayS false), be.1])) L1 (.lst [.ref p0])) (a := L2) (o := .lst ([] : List V))
  have hp3 := SqT.tups (same_tups (same_trans s2 s3)) hp0
  have s03 := same_trans s1 (same_trans s2 s3)
  change upd (upd (upd H p0 (.tup [.str (wayS false), be.1])) L1 (.lst [.ref p0])) L2 (.lst []) L1 = some (.lst [.ref p0]) at hL1
  refine ⟨_, rfl, _, rfl, mc, _, rfl, gFirst (s03 _ _ hmc), fi, _, rfl, .inr (SqT.tups (same_tups s03) hfi), fun L3 nL3 => ?_⟩
  have s4 := same_upd (o := .lst (first.map (·.1))) nL3
  have s04 := same_trans s03 s4
  refine ⟨L2, L3, [], first, rfl, s4 _ _ hL2, SqL.of upd_same, (fun _ h => nomatch h), fun x hx => ((hf x hx).1.tups (same_tups s04)).it, by rw [List.length_nil]; omega, fun L4 H5 s5 hL4 => ?_⟩
  have s05 := same_trans s04 s5
  have hL15 := s5 _ _ (s4 _ _ hL1)
  have lt0 : LtAll K H5 m first be (addAll [] first) := LtAll.add ⟨(fun _ h => nomatch h), List.nodup_nil⟩ fun x hx => ⟨(hf x hx).1.tups (same_tups s05), (hf x hx).2, fun S L c => c.f x hx⟩
  have ne0 : addAll [] first ≠ [] := by
    obtain ⟨x, l, e⟩ : ∃ x l, first = x :: l := by
      cases first with
      | nil => exact absurd rfl fne
      | cons x l => exact ⟨x, l, rfl⟩
    intro z
    have h := addAll_len (more := l) (acc := addIt [] x)
    have e2 : addAll [] first = addAll (addIt [] x) l := by rw [e]; rfl
    rw [← e2, z] at h
    have h1 : (addIt [] x).length = 1 := rfl
    rw [h1] at h
    exact absurd h.1 (by decide)
  have pr0 : PrAll K H5 m first be [(.ref p0, prD false be)] := ⟨fun x hx => by
    obtain rfl := List.mem_singleton.mp hx
    exact ⟨false, be, pr_new (SqT.tups (same_tups (same_trans s4 s5)) hp3) (hbe.1.tups (same_tups s05)) hbe.2 fun S L c => c.b⟩, List.nodup_cons.mpr ⟨List.not_mem_nil, List.nodup_nil⟩⟩
  generalize addAll [] first = ls0 at hL4 lt0 ne0
  refine ⟨fun σ H' => ∃ l1 l2 ps ls n o4 o5 o6 o7 o8 o9, σ = [some (.ref mc), some (.ref l1), some (.ref l2), some (.int n), o4, o5, o6, o7, o8, o9, none, none, none, none, none, none] ∧ Same H H' ∧ H' l1 = some (.lst (ps.map (·.1))) ∧ H' l2 = some (.lst (ls.map (·.1))) ∧ PrAll K H' m first be ps ∧ LtAll K H' m first be ls ∧ ls ≠ [], ?_, ?_⟩
  · refine while_by (fun σ H' => ∃ l1 l2 ps ls n o4 o5 o6 o7 o8 o9, σ = [some (.ref mc), some (.ref l1), some (.ref l2), some (.int n), o4, o5, o6, o7, o8, o9, none, none, none, none, none, none] ∧ Same H H' ∧ H' l1 = some (.lst (ps.map (·.1))) ∧ H' l2 = some (.lst (ls.map (·.1))) ∧ PrAll K H' m first be ps ∧ LtAll K H' m first be ls ∧ ls ≠ []) muC
      ⟨L1, L4, [(.ref p0, prD false be)], ls0, _, none, none, none, none, none, none, rfl, s05, hL15, hL4, pr0, lt0, ne0⟩ ?_ ?_
    · rintro σ H6 ⟨l1, l2, ps, ls, n, o4, o5, o6, o7, o8, o9, rfl, s06, h1, h2, hp, hl, ne⟩
      have mu6 := muC_of (n := n) rfl h1 h2 (x0 := some (.ref mc)) (l := [o4, o5, o6, o7, o8, o9, none, none, none, none, none, none])
      have eb : (!decide (V.int n = V.int (((ps.map (·.1)).length : Int) + ((ls.map (·.1)).length : Int)))) = !decide (n = ((ps.length + ls.length : Nat) : Int)) := by
        rw [List.length_map, List.length_map, dec_int, Int.natCast_add]
        rfl
      refine ⟨_, rfl, _, rfl, l1, _, rfl, .inl (SqL.of h1), _, rfl, l2, _, rfl, .inl (SqL.of h2), _, _, rfl, rfl, rfl, !decide (n = ((ps.length + ls.length : Nat) : Int)), congrArg V.bl eb, ?_⟩
      cases cb : !decide (n = ((ps.length + ls.length : Nat) : Int)) with
      | false => exact iteF ⟨l1, l2, ps, ls, n, o4, o5, o6, o7, o8, o9, rfl, s06, h1, h2, hp, hl, ne⟩
      | true =>
        have nn : ¬ n = ((ps.length + ls.length : Nat) : Int) := fun z => by rw [decide_eq_true z] at cb; cases cb
        rw [List.length_map, List.length_map, if_neg nn] at mu6
        refine iteT ?_
        refine ⟨_, rfl, l1, _, rfl, .inl (SqL.of h1), _, rfl, l2, _, rfl, .inl (SqL.of h2), _, _, rfl, rfl, _, rfl, l1, _, rfl, .inl (SqL.of h1), fun M1 nM1 => ⟨_, rfl, l2, _, rfl, .inl (SqL.of ((same_upd nM1) _ _ h2)), fun M2 nM2 => ⟨_, _, _, rfl, ?_⟩⟩⟩
        have u1 := same_upd (o := .lst (ps.map (·.1))) nM1
        have u2 := same_upd (o := .lst (ls.map (·.1))) nM2
        have s67 := same_trans u1 u2
        have hM1 := u2 _ _ (upd_same (H := H6) (a := M1) (o := .lst (ps.map (·.1))))
        have hM2 := upd_same (H := upd H6 M1 (.lst (ps.map (·.1)))) (a := M2) (o := .lst (ls.map (·.1)))
        have plen := hp.len (mac.tups (same_tups s06))
        have llen := hl.len (mac.tups (same_tups s06))
        refine ⟨_, rfl, l1, rfl, ⟨_, SqL.of (s67 _ _ h1)⟩, ?_⟩
        refine for_it (walk_list (K := K) (a := l1) (xs := ps.map (·.1))) (fun j σ H' => ∃ a4 a5 np nl n1 o6 o7 o8 o9, σ = [some (.ref mc), some (.ref l1), some (.ref l2), some (.int n1), some (.ref a4), some (.ref a5), o6, o7, o8, o9, none, none, none, none, none, none] ∧ n1 = ((ps.length + ls.length : Nat) : Int) ∧ Same H6 H' ∧ H' a4 = some (.lst (np.map (·.1))) ∧ H' a5 = some (.lst (nl.map (·.1))) ∧ PrAll K H' m first be np ∧ LtAll K H' m first be nl ∧ ps.length ≤ np.length ∧ ls.length ≤ nl.length)
          ⟨M1, M2, ps, ls, _, o6, o7, o8, o9, rfl, by rw [List.length_map, List.length_map]; rfl, s67, hM1, hM2, hp.tups (same_tups s67), hl.tups (same_tups s67), Nat.le_refl _, Nat.le_refl _⟩ (fun j σ H' _ p => by
            obtain ⟨_, _, _, _, _, _, _, _, _, _, _, s, _⟩ := p
            exact Kp.sql (Kp.same s) (SqL.of h1)) ?_ ?_
        · rintro j y σ H9 H8 hj ⟨a4, a5, np, nl, n1, o6, o7, o8, o9, rfl, en1, s68, h4, h5, hnp, hnl, gp, gl⟩ ⟨rfl, hy⟩
          rw [List.getElem?_map] at hy
          obtain ⟨x, hx, rfl⟩ := Option.map_eq_some_iff.mp hy
          obtain ⟨b, s, px⟩ := hp.1 x (List.mem_of_getElem? hx)
          have px8 := px.tups (same_tups s68)
          obtain ⟨qx, rfl, hqx⟩ := px8.at_
          refine ⟨qx, _, rfl, hqx, rfl, _, _, rfl, _, _, rfl, rfl, ?_⟩
          have s08 := same_trans s06 s68
          have sok : ∀ {H'}, Same H8 H' → SyOk K H' s := fun t => px8.ok.tups (same_tups t)
          -- found
          refine as_map rfl (fun H' _ y => FdAt K m first be b s H' y) (fun _ _ _ _ t r => r.tups t) (SqL.of (s68 _ _ h2)) (by rw [List.length_map]; omega) (fun R r => ⟨_, rfl, r⟩) (fun _ => rfl) ?_ ?_
          · intro v H9 R hv s89 r
            obtain ⟨l, hl1, rfl⟩ := List.mem_map.mp hv
            have lin := (hl.1 l hl1).tups (same_tups (same_trans s68 s89))
            have s09 := same_trans s08 s89
            refine ⟨_, rfl, mc, _, rfl, gSteps (s09 _ _ hmc), ?_⟩
            obtain ⟨es1, et1, D1, D2, T1, T2⟩ := (T.same s09).ex
            refine ⟨⟨ds, es1, rfl, D1.at_⟩, _, rfl, _, rfl, _, rfl, sz 3 (by decide), fun pk npk => ?_⟩
            have u := same_upd (o := .tup [.str (wayS b), s.1, l.1]) npk
            obtain ⟨qs, at1, hqs⟩ := T1 b s.2 l.2 px.sd lin.ld
            have eg : (atK es1 (kS b s.2 l.2)).getD V.non = .ref qs := by rw [at1]; rfl
            refine ⟨ds, es1, kS b s.2 l.2, _, rfl, rfl, daKeep D1 (same_tups u) (same_rd u D1.at_), nkS (SqT.of upd_same) (sok (same_trans s89 u)) (lin.ok.tups (same_tups u)), depS (sok s89) lin.ok, ?_⟩
            rw [eg]
            exact r _ _ u ⟨l.2, qs, lin.ld, lin.re, rfl, SqT.tups (same_tups u) hqs⟩
          · intro D9 H9 ys9 s89 _ hD9 pr9
            have yl9 := Paired.length pr9
            rw [List.length_map] at yl9
            have fds : ∀ y ∈ ys9, FdAt K m first be b s H9 y := fun y hy => let ⟨_, h⟩ := Paired.right pr9 y hy; h
            dsimp only
            show tAsg (tLc _ _ _ _ _) _ _ _ _
            refine as_filt rfl (SqL.of hD9) (by omega) (fun R r => ⟨_, rfl, r⟩) (fun x => !decide (x = .non)) (fun _ => rfl) (fun x H1 R _ _ r => ⟨_, rfl, rfl, _, rfl, r⟩) (fun x H1 R r => ⟨_, rfl, r⟩) ?_
            intro DA HA s9A _ hDA
            have ef : ys9.filter (fun x => !decide (x = V.non)) = ys9 := List.filter_eq_self.mpr fun y hy => by
              obtain ⟨_, q1, _, _, rfl, _⟩ := fds y hy
              rfl
            rw [ef] at hDA
            have fdA : ∀ y ∈ ys9, FdAt K m first be b s HA y := fun y hy => (fds y hy).tups (same_tups s9A)
            have s8A := same_trans s89 s9A
            have s0A := same_trans s08 s8A
            -- pairs
            refine ⟨_, rfl, ?_⟩
            refine lc_map (tl := tVar 8) rfl (fun H' _ y => ∃ z : Sy, z.1 = y ∧ ∃ s2, PrIn K H' m first be b s2 z) (fun _ _ _ _ t ⟨z, e, s2, r⟩ => ⟨z, e, s2, r.tups t⟩) (SqL.of hDA) (by omega) (fun R r => ⟨_, rfl, r⟩) (fun _ => rfl) ?_ ?_
            · intro v HB R hv sAB r
              obtain ⟨e, q1, e1, e2, rfl, hq1⟩ := (fdA v hv).tups (same_tups sAB)
              obtain ⟨k1, k2, k3, k4⟩ := mac.st b s.2 e px.sd e1
              refine ⟨_, rfl, _, rfl, q1, _, 0, _, rfl, rfl, hq1, rfl, sz 2 (by decide), fun pk npk => ?_⟩
              have u := same_upd (o := .tup [.str (wayS b), (m.step b s.2 e).1.1]) npk
              exact r _ _ u ⟨_, rfl, _, pr_new (SqT.of upd_same) (k1.tups (same_tups (same_trans s0A (same_trans sAB u)))) k2 fun S L c => (c.st b s.2 (px.re S L c) e (e2 S L c)).1⟩
            · intro DB HB ysB sAB _ hDB prB
              obtain ⟨lB, rfl, okB, lenB⟩ := rows_of prB
              have s8B := same_trans s8A sAB
              have h4B := s8B _ _ h4
              have hnpB := hnp.tups (same_tups s8B)
              have np8 := hnp.len (mac.tups (same_tups s08))
              have nl8 := hnl.len (mac.tups (same_tups s08))
              refine ⟨a4, DB, np, lB, rfl, h4B, SqL.of hDB, (fun x hx => let ⟨_, _, h⟩ := hnpB.1 x hx; h.it), (fun x hx => let ⟨_, h⟩ := okB x hx; h.it), by omega, fun r4 HC sBC hr4 => ?_⟩
              have s8C := same_trans s8B sBC
              have hnpC := (hnpB.tups (same_tups sBC)).add (l2 := lB) fun x hx => let ⟨s2, h⟩ := okB x hx; ⟨b, s2, h.tups (same_tups sBC)⟩
              have gpC := Nat.le_trans gp (addAll_len (more := lB) (acc := np)).1
              generalize addAll np lB = npC at hr4 hnpC gpC
              -- letters
              refine ⟨_, rfl, ?_⟩
              have fdC : ∀ y ∈ ys9, FdAt K m first be b s HC y := fun y hy => (fdA y hy).tups (same_tups (same_trans sAB sBC))
              have s0C := same_trans s08 s8C
              refine lc_map (tl := tVar 8) rfl (fun H' _ y => ∃ z : Sy, z.1 = y ∧ LtIn K H' m first be z) (fun _ _ _ _ t ⟨z, e, r⟩ => ⟨z, e, r.tups t⟩) (SqL.of (sBC _ _ (sAB _ _ hDA))) (by omega) (fun R r => ⟨_, rfl, r⟩) (fun _ => rfl) ?_ ?_
              · intro v HB R hv sCB r
                obtain ⟨e, q1, e1, e2, rfl, hq1⟩ := (fdC v hv).tups (same_tups sCB)
                obtain ⟨k1, k2, k3, k4⟩ := mac.st b s.2 e px.sd e1
                refine ⟨_, rfl, q1, _, 1, _, rfl, rfl, hq1, rfl, ?_⟩
                exact r _ _ same_refl ⟨_, rfl, k3.tups (same_tups (same_trans s0C sCB)), k4, fun S L c => (c.st b s.2 (px.re S L c) e (e2 S L c)).2⟩
              · intro DE HE ysE sCE _ hDE prE
                obtain ⟨lE, rfl, okE, lenE⟩ := rows_of prE
                have s8E := same_trans s8C sCE
                have h5E := s8E _ _ h5
                have hnlE := hnl.tups (same_tups s8E)
                refine ⟨a5, DE, nl, lE, rfl, h5E, SqL.of hDE, (fun x hx => (hnlE.1 x hx).ok.it), (fun x hx => (okE x hx).ok.it), by omega, fun r5 HF sEF hr5 => ?_⟩
                have s8F := same_trans s8E sEF
                have hnlF := (hnlE.tups (same_tups sEF)).add (l2 := lE) fun x hx => (okE x hx).tups (same_tups sEF)
                have glF := Nat.le_trans gl (addAll_len (more := lE) (acc := nl)).1
                generalize addAll nl lE = nlF at hr5 hnlF glF
                have s0F := same_trans s08 s8F
                have hr4F := sEF _ _ (sCE _ _ hr4)
                have hnpF := hnpC.tups (same_tups (same_trans sCE sEF))
                clear hDB okB prB hDE okE prE hnpB hnlE fdC fdA fds pr9
                -- the turn
                refine ⟨_, rfl, mc, _, rfl, gTurns (s0F _ _ hmc), ?_⟩
                obtain ⟨es1, et1, D1, D2, T1, T2⟩ := (T.same s0F).ex
                refine ⟨⟨dt, et1, rfl, D2.at_⟩, _, rfl, _, rfl, sz 2 (by decide), fun pk npk => ?_⟩
                have u := same_upd (o := .tup [.str (wayS b), s.1]) npk
                obtain ⟨tv, at1, tat⟩ := T2 b s.2 px.sd
                have eg : (atK et1 (kT b s.2)).getD V.non = tv := by rw [at1]; rfl
                refine ⟨dt, et1, kT b s.2, _, rfl, rfl, daKeep D2 (same_tups u) (same_rd u D2.at_), nkT (SqT.of upd_same) (sok (same_trans s8F u)), depT (sok s8F), ?_⟩
                rw [eg]
                have s8G := same_trans s8F u
                have s6G := same_trans s68 s8G
                have s0G := same_trans s06 s6G
                have hr4G := u _ _ hr4F
                have hr5G := u _ _ hr5
                have hnpG := hnpF.tups (same_tups u)
                have hnlG := hnlF.tups (same_tups u)
                have tatG := tat.tups (same_tups u)
                refine ⟨_, rfl, rfl, !decide (tv = .non), rfl, ?_⟩
                cases tn : m.turn b s.2 with
                | none =>
                  rw [tn] at tatG
                  cases (show tv = .non from tatG)
                  exact iteF ⟨r4, r5, npC, nlF, _, _, _, _, _, rfl, en1, s6G, hr4G, hr5G, hnpG, hnlG, gpC, glF⟩
                | some y =>
                  obtain ⟨s2, x2⟩ := y
                  rw [tn] at tatG
                  obtain ⟨q2, rfl, hq2⟩ := tatG
                  obtain ⟨z1, z2, z3⟩ := mac.tu b s.2 s2 x2 px.sd tn
                  have np8 := hnpG.len (mac.tups (same_tups s0G))
                  have nl8 := hnlG.len (mac.tups (same_tups s0G))
                  refine iteT ?_
                  refine ⟨_, rfl, ?_⟩
                  refine wy_if (b := b) rfl ?_
                  refine ⟨_, rfl, q2, _, 0, _, rfl, rfl, hq2, rfl, sz 2 (by decide), fun pj npj => ⟨sz 1 (by decide), fun lj nlj => ?_⟩⟩
                  have u1 := same_upd (o := .tup [.str (wayS (!b)), s2.1]) npj
                  have u2 := same_upd (o := .lst [.ref pj]) nlj
                  have u12 := same_trans u1 u2
                  have prn : PrIn K (upd (upd _ pj (.tup [.str (wayS (!b)), s2.1])) lj (.lst [.ref pj])) m first be (!b) s2 (.ref pj, prD (!b) s2) := pr_new (SqT.tups (same_tups u2) (SqT.of upd_same)) (z1.tups (same_tups (same_trans s0G u12))) z2 fun S L c => (c.tu b s.2 (px.re S L c) s2 x2 tn).1
                  have hnpH := hnpG.tups (same_tups u12)
                  refine ⟨r4, lj, npC, [(.ref pj, prD (!b) s2)], rfl, u12 _ _ hr4G, SqL.of upd_same, (fun x hx => let ⟨_, _, h⟩ := hnpH.1 x hx; h.it), (fun x hx => by rw [List.mem_singleton.mp hx]; exact prn.it), (by rw [List.length_singleton]; omega), fun r6 HI sHI hr6 => ?_⟩
                  have sGI := same_trans u12 sHI
                  have hnpI := (hnpH.tups (same_tups sHI)).add (l2 := [(.ref pj, prD (!b) s2)]) fun x hx => ⟨!b, s2, by rw [List.mem_singleton.mp hx]; exact prn.tups (same_tups sHI)⟩
                  have gpI := Nat.le_trans gpC (addAll_len (more := [(.ref pj, prD (!b) s2)]) (acc := npC)).1
                  generalize addAll npC [(.ref pj, prD (!b) s2)] = npI at hr6 hnpI gpI
                  have hnlI := hnlG.tups (same_tups sGI)
                  have hr5I := sGI _ _ hr5G
                  have s6I := same_trans s6G sGI
                  have hq2I := SqT.tups (same_tups sGI) hq2
                  refine ⟨_, rfl, ?_⟩
                  refine ⟨_, rfl, q2, _, 1, _, rfl, rfl, hq2I, rfl, rfl, !decide (optV x2 = .non), rfl, ?_⟩
                  cases x2 with
                  | none =>
                    refine iteF ⟨sz 0 (by decide), fun ln nln => ?_⟩
                    have u3 := same_upd (o := .lst ([] : List V)) nln
                    have hnlJ := hnlI.tups (same_tups u3)
                    refine ⟨r5, ln, nlF, [], rfl, u3 _ _ hr5I, SqL.of upd_same, (fun x hx => (hnlJ.1 x hx).ok.it), (fun _ h => nomatch h), (by rw [List.length_nil]; omega), fun r7 HK sK hr7 => ?_⟩
                    have sIK := same_trans u3 sK
                    exact ⟨r6, r7, npI, nlF, _, _, _, _, _, rfl, en1, same_trans s6I sIK, sIK _ _ hr6, hr7, hnpI.tups (same_tups sIK), hnlI.tups (same_tups sIK), gpI, glF⟩
                  | some l =>
                    obtain ⟨_, y1, y2⟩ := z3 l rfl
                    have nn : (!decide (optV (some l) = V.non)) = true := by
                      rw [decide_eq_false (show ¬ optV (some l) = V.non from y1.nn)]
                      rfl
                    rw [nn]
                    refine iteT ⟨_, rfl, q2, _, 1, _, rfl, rfl, hq2I, rfl, sz 1 (by decide), fun ln nln => ?_⟩
                    have u3 := same_upd (o := .lst [l.1]) nln
                    have hnlJ := hnlI.tups (same_tups u3)
                    have lin : LtIn K (upd HI ln (.lst [l.1])) m first be l := ⟨y1.tups (same_tups (same_trans s0G (same_trans sGI u3))), y2, fun S L c => (c.tu b s.2 (px.re S L c) s2 _ tn).2 l rfl⟩
                    refine ⟨r5, ln, nlF, [l], rfl, u3 _ _ hr5I, SqL.of upd_same, (fun x hx => (hnlJ.1 x hx).ok.it), (fun x hx => by rw [List.mem_singleton.mp hx]; exact lin.ok.it), (by rw [List.length_singleton]; omega), fun r7 HK sK hr7 => ?_⟩
                    have sIK := same_trans u3 sK
                    have hnlK := (hnlJ.tups (same_tups sK)).add (l2 := [l]) fun x hx => by
                      rw [List.mem_singleton.mp hx]
                      exact lin.tups (same_tups sK)
                    exact ⟨r6, r7, npI, _, _, _, _, _, _, rfl, en1, same_trans s6I sIK, sIK _ _ hr6, hr7, hnpI.tups (same_tups sIK), hnlK, gpI, Nat.le_trans glF (addAll_len (more := [l]) (acc := nlF)).1⟩
        · rintro σ H9 ⟨a4, a5, np, nl, n1, o6, o7, o8, o9, rfl, en1, s69, h4, h5, hnp, hnl, gp, gl⟩
          have np2 := hnp.len (mac.tups (same_tups (same_trans s06 s69)))
          have nl2 := hnl.len (mac.tups (same_tups (same_trans s06 s69)))
          refine ⟨_, rfl, _, rfl, _, _, rfl, ⟨a4, a5, np, nl, n1, _, _, _, _, _, _, rfl, same_trans s06 s69, h4, h5, hnp, hnl, ?_⟩, ?_⟩
          · intro z
            rw [z] at gl
            exact ne (List.eq_nil_of_length_eq_zero (Nat.le_zero.mp gl))
          · have mu9 := muC_of (n := n1) rfl h4 h5 (x0 := some (.ref mc)) (l := [some (.ref a4), some (.ref a5), o6, o7, o8, o9, none, none, none, none, none, none])
            rw [mu6]
            refine Nat.lt_of_le_of_lt (Nat.le_of_eq mu9) ?_
            rw [List.length_map, List.length_map, en1]
            split <;> omega
    · intro σ H1 Q1 Q2 mono h
      obtain ⟨a, ea, x1, ex1, p1, ys1, e1, h1, x2, ex2, p2, ys2, e2, h2, i, j, ei, ej, sc, k, ek, r⟩ := h
      exact ⟨a, ea, x1, ex1, p1, ys1, e1, h1, x2, ex2, p2, ys2, e2, h2, i, j, ei, ej, sc, k, ek, mono _ _ r⟩
  · rintro σ H6 ⟨l1, l2, ps, ls, n, o4, o5, o6, o7, o8, o9, rfl, s06, h1, h2, hp, hl, ne⟩
    have plen := hp.len (mac.tups (same_tups s06))
    have llen := hl.len (mac.tups (same_tups s06))
    refine ⟨fun σ H' => ∃ l3 lk, σ = [some (.ref mc), some (.ref l1), some (.ref l2), some (.int n), o4, o5, o6, o7, o8, o9, some (.ref l3), none, none, none, none, none] ∧ Same H6 H' ∧ H' l3 = some (.lst lk) ∧ lk.length ≤ 0, ?_, ?_⟩
    · refine as_filt rfl (SqL.of h1) (by rw [List.length_map]; omega) (fun R r => ⟨_, rfl, r⟩) (fun x => false) (fun _ => rfl) (fun x H7 R hx s67 r => ?_) (fun x H1 R r => ⟨_, rfl, r⟩) ?_
      · obtain ⟨x, mx, rfl⟩ := List.mem_map.mp hx
        obtain ⟨b, s, px⟩ := hp.1 x mx
        have px7 := px.tups (same_tups s67)
        obtain ⟨qx, rfl, hqx⟩ := px7.at_
        have s07 := same_trans s06 s67
        obtain ⟨es1, et1, D1, D2, T1, T2⟩ := (T.same s07).ex
        obtain ⟨tv, at1, tat⟩ := T2 b s.2 px.sd
        refine ⟨_, rfl, _, rfl, mc, _, rfl, gTurns (s07 _ _ hmc), ?_⟩
        refine ⟨dt, et1, kT b s.2, rfl, D2, nkT hqx px7.ok, depT px7.ok, false, ?_, r⟩
        rw [at1]
        rfl
      · intro D0 H7 s67 _ hD
        exact ⟨D0, _, rfl, s67, hD, by
          rw [List.filter_eq_nil_iff.mpr fun _ _ => Bool.false_ne_true]
          exact Nat.le_refl _⟩
    · rintro σ H7 ⟨l3, lk, rfl, s67, h3, lk0⟩
      refine ⟨fun σ H' => ∃ l3 o6 o7 o11, σ = [some (.ref mc), some (.ref l1), some (.ref l2), some (.int n), o4, o5, o6, o7, o8, o9, some (.ref l3), o11, none, none, none, none] ∧ Same H6 H', ?_, ?_⟩
      · refine ⟨_, rfl, l1, rfl, ⟨_, SqL.of (s67 _ _ h1)⟩, ?_⟩
        refine for_it (walk_list (K := K) (a := l1) (xs := ps.map (·.1))) (fun j σ H' => ∃ l3 lk o6 o7 o11, σ = [some (.ref mc), some (.ref l1), some (.ref l2), some (.int n), o4, o5, o6, o7, o8, o9, some (.ref l3), o11, none, none, none, none] ∧ Same H6 H' ∧ H' l3 = some (.lst lk) ∧ lk.length ≤ 0)
          ⟨l3, lk, o6, o7, none, rfl, s67, h3, lk0⟩ (fun j σ H' _ p => by
            obtain ⟨_, _, _, _, _, _, s, _⟩ := p
            exact Kp.sql (Kp.same s) (SqL.of h1)) ?_ ?_
        · rintro j y σ H9 H8 hj ⟨l3, lk, o6, o7, o11, rfl, s68, h3, lk0⟩ ⟨rfl, hy⟩
          rw [List.getElem?_map] at hy
          obtain ⟨x, hx, rfl⟩ := Option.map_eq_some_iff.mp hy
          obtain ⟨b, s, px⟩ := hp.1 x (List.mem_of_getElem? hx)
          have px8 := px.tups (same_tups s68)
          obtain ⟨qx, rfl, hqx⟩ := px8.at_
          have s08 := same_trans s06 s68
          refine ⟨qx, _, rfl, hqx, rfl, _, _, rfl, _, _, rfl, rfl, ?_⟩
          refine as_map rfl (fun H' _ y => ∃ l q, y = .ref q ∧ LtIn K H' m first be l ∧ SqT K H' q [.str (wayS b), s.1, l.1]) (fun _ _ _ _ t ⟨l, q, e, h1, h2⟩ => ⟨l, q, e, h1.tups t, SqT.tups t h2⟩) (SqL.of (s68 _ _ h2)) (by rw [List.length_map]; omega) (fun R r => ⟨_, rfl, r⟩) (fun _ => rfl) ?_ ?_
          · intro v H9 R hv s89 r
            obtain ⟨l, hl1, rfl⟩ := List.mem_map.mp hv
            refine ⟨_, rfl, _, rfl, _, rfl, sz 3 (by decide), fun pk npk => ?_⟩
            have u := same_upd (o := .tup [.str (wayS b), s.1, l.1]) npk
            exact r _ _ u ⟨l, pk, rfl, (hl.1 l hl1).tups (same_tups (same_trans s68 (same_trans s89 u))), SqT.of upd_same⟩
          · intro D9 H9 ys9 s89 _ hD9 pr9
            have yl9 := Paired.length pr9
            rw [List.length_map] at yl9
            have ks := fun y hy => Paired.right pr9 y hy
            have h39 := s89 _ _ h3
            have s69 := same_trans s68 s89
            have s09 := same_trans s08 s89
            dsimp only
            refine ⟨_, rfl, ?_⟩
            refine lc_filt (tl := tVar 11) rfl (SqL.of hD9) (by omega) (fun R r => ⟨_, rfl, r⟩) (fun x => false) (fun _ => rfl) (fun x HA R hx s9A r => ?_) (fun x H1 R r => ⟨_, rfl, r⟩) ?_
            · obtain ⟨_, l, q, rfl, lin, hq⟩ := ks x hx
              have s0A := same_trans s09 s9A
              obtain ⟨es1, et1, D1, D2, T1, T2⟩ := (T.same s0A).ex
              obtain ⟨qs, at1, hqs⟩ := T1 b s.2 l.2 px.sd lin.ld
              have ok1 := px8.ok.tups (same_tups (same_trans s89 s9A))
              have ok2 := lin.ok.tups (same_tups s9A)
              refine ⟨_, rfl, _, rfl, mc, _, rfl, gSteps (s0A _ _ hmc), ?_⟩
              refine ⟨ds, es1, kS b s.2 l.2, rfl, D1, nkS (SqT.tups (same_tups s9A) hq) ok1 ok2, depS ok1 ok2, false, ?_, r⟩
              rw [at1]
              rfl
            · intro D0 HA s9A _ hD
              have e0 : ys9.filter (fun _ => false) = [] := List.filter_eq_nil_iff.mpr fun _ _ => Bool.false_ne_true
              rw [e0] at hD
              refine ⟨l3, D0, lk, [], rfl, rfl, s9A _ _ h39, hD, (by rw [sizeLine_eq]; simp only [List.length_nil]; omega), fun D1 nD1 => ?_⟩
              exact ⟨D1, _, _, _, _, rfl, same_trans s69 (same_trans s9A (same_upd nD1)), upd_same, by rw [List.append_nil]; exact lk0⟩
        · rintro σ H9 ⟨l3, lk, o6, o7, o11, rfl, s69, h3, lk0⟩
          exact ⟨l3, o6, o7, o11, rfl, s69⟩
      · rintro σ H8 ⟨l3, o6, o7, o11, rfl, s68⟩
        refine ⟨_, rfl, _, rfl, _, rfl, sz 3 (by decide), fun pk npk => ?_⟩
        have u := same_upd (o := .tup [.ref l1, .ref l2, .ref l3]) npk
        have s6u := same_trans s68 u
        exact (q pk _ _ _ ls _ (same_trans s06 s6u) (SqT.of upd_same) (s6u _ _ h2) (hl.tups (same_tups s6u)) ne)
end
end K15

set_option Elab.async false
set_option linter.all false
set_option maxRecDepth 100000
set_option maxHeartbeats 4000000
namespace K15
open PySem PySem.Spec PyProof.Rows L2 Pen Tr AK LamX RU
/-! ### a dict of texts -/
theorem merge_in {k : Key} {v : V} : ∀ {more acc : List (Key × V)}, valV (mergeK acc more) k = some v → valV acc k = some v ∨ (k, v) ∈ more
  | [], _, h => .inl h
  | e :: more, acc, h => by
    rcases merge_in (more := more) (acc := putK acc e.1 e.2) h with h | h
    · rw [valV_put] at h
      by_cases c : k = e.1
      · rw [if_pos c] at h
        refine .inr ?_
        have : (k, v) = e := by
          rw [c, ← Option.some.inj h]
        rw [this]
        exact List.mem_cons_self ..
      · rw [if_neg c] at h
        exact .inl h
    · exact .inr (List.mem_cons_of_mem _ h)
theorem merge_keep {k : Key} : ∀ {more acc : List (Key × V)}, (valV acc k).isSome = true → (valV (mergeK acc more) k).isSome = true
  | [], _, h => h
  | e :: more, acc, h => by
    refine merge_keep (more := more) (acc := putK acc e.1 e.2) ?_
    rw [valV_put]
    split
    · rfl
    · exact h
theorem merge_strs : ∀ {more acc : List (Key × V)}, (∃ ks : List Str, acc.map (·.1) = ks.map Sum.inr) → (∀ e ∈ more, ∃ x : Str, e.1 = .inr x) → ∃ ks : List Str, (mergeK acc more).map (·.1) = ks.map Sum.inr
  | [], _, h, _ => h
  | e :: more, acc, ⟨ks, h⟩, hm => by
    refine merge_strs (more := more) (acc := putK acc e.1 e.2) ?_ fun x hx => hm x (List.mem_cons_of_mem _ hx)
    unfold putK
    split
    · refine ⟨ks, ?_⟩
      rw [← h, List.map_map]
      refine List.map_congr_left fun p _ => ?_
      show (if p.1 = e.1 then (p.1, e.2) else p).1 = p.1
      split <;> rfl
    · obtain ⟨x, ex⟩ := hm e (List.mem_cons_self ..)
      refine ⟨ks ++ [x], ?_⟩
      rw [List.map_append, List.map_append, h]
      show _ ++ [e.1] = _ ++ [Sum.inr x]
      rw [ex]
section
variable {P : Program} {w : World} {K : PySem.W.Frag} {mg : Str → Option PySem.Value} {base : Heap} {f : Addr} {fd : FuncData} {H H' : Hp}
theorem seq_cb {r : List V → Hp → VK → Prop} {te : TE} {g : TG} {u : TS} {D : Ends} {σ : L2.St} (h : te σ H fun x H1 => r [x] H1 fun y H2 => g y σ H2 (u D)) : tSeq (tAsg (tCB r (tCons te tNil)) g) u D σ H := h
theorem ret_cb {r : List V → Hp → VK → Prop} {te : TE} {D : Ends} {σ : L2.St} (h : te σ H fun x H1 => r [x] H1 D.rt) : tRet (tCB r (tCons te tNil)) D σ H := h
def spSrt (K : PySem.W.Frag) : Sp := fun vs H Q _ => ∃ a, ∃ ls : List Sy, vs = [.ref a] ∧ SqL K H a (ls.map (·.1)) ∧ (∀ l ∈ ls, SyOk K H l) ∧ ls ≠ [] ∧ ls.length ≤ 60 ∧ ∀ t H', ∀ l2 : List Sy, Same H H' → SqT K H' t (l2.map (·.1)) → (∀ l ∈ l2, l ∈ ls) → l2 ≠ [] → l2.length ≤ 60 → Q (.ref t) H'
abbrev nSrt : List Str := ["_law_values", "_law_rows", "_law_value", "_law_key"]
theorem scSrt : FnScope nSrt ["_law_values"] (defScope (top 34)) := ⟨rfl, rfl, rfl, by decide +kernel, rfl, by decide +kernel, by decide +kernel⟩
theorem ok_srt (F : FnT K "_law_sw_sorted" 34 f fd) (TX : Txt mg) : GFn P w K mg base CX0 2 f fd ["_law_values"] (spSrt K) := by
  refine GFn.of F scSrt (fun vs H Q E h => by obtain ⟨a, ls, rfl, _⟩ := h; rfl) (fun c A outer s0 H vs Q E hc hr free h => ?_)
  obtain ⟨a, ls, rfl, ha, ho, ne, few, q⟩ := h
  have nd := scSrt.nd
  have hu := hr.units
  have hu1 := hu_of hr
  suffices z : ∃ t, PSs (cxOf CX0 P w K mg base nSrt "_law_sw_sorted" (defScope (top 34)) f (.ref c) A outer s0 H E).nox (defBody (top 34)) t ∧ t { nx := fun _ H' => Q .non H', rt := Q } (start nSrt [.ref a]) H by
    obtain ⟨t, h1, h2⟩ := z
    exact ⟨t, h1.nox, h2⟩
  refine ⟨_, pss_cons (ps_asg (pe_callTy (call_dictP (by rfl)) (by rfl) TX.dict (by decide +kernel) (pa_cons (pe_lc (own := [("_law_value", 2)]) (g := gName 2) (tt := tYes) (te := tTup (tCons (tCB (rShowV K) (tCons (tVar 2) tNil)) (tCons (tVar 2) tNil))) (by rfl) nd (pi_list (pv 0)) (blkOk_by (own := [("_law_value", 2)]) (N := nSrt) (sc := defScope (top 34)) (by decide +kernel)) (fun _ _ _ _ _ => pg_name (i := 2) nd rfl (Or.inl rfl)) (fun _ _ _ _ _ => pts_nil) (fun _ _ _ _ _ => pe_tup (pa_cons (pe_callB (call_showV free hu) (by rfl) TX.repr (by decide +kernel) (pa_cons (pv 2) pa_nil)) (pa_cons (pv 2) pa_nil)))) pa_nil)) (pg_name (i := 1) nd rfl (.inr rfl)))
    (pss_one (ps_ret (pe_callTy call_tupR (by rfl) TX.tuple (by decide +kernel) (pa_cons (pe_lc (own := [("_law_key", 3)]) (g := gName 3) (tt := tYes) (te := tDGet (tVar 1) (tVar 3)) (by rfl) nd (pi_list (pe_callB (call_sortedD (by rfl)) (by rfl) TX.sorted (by decide +kernel) (pa_cons (pv 1) pa_nil))) (blkOk_by (own := [("_law_key", 3)]) (N := nSrt) (sc := defScope (top 34)) (by decide +kernel)) (fun _ _ _ _ _ => pg_name (i := 3) nd rfl (Or.inl rfl)) (fun _ _ _ _ _ => pts_nil) (fun _ _ _ _ _ => pe_dget hu1 (pv 1) (pv 3) (fun _ _ => rfl))) pa_nil)))), ?_⟩
  have sz : ∀ n : Nat, n ≤ 100 → n ≤ sizeLine := fun n h => by
    rw [sizeLine_eq]
    omega
  refine seq_cb ?_
  refine lc_map (tl := tVar 0) rfl (fun H' x y => ∃ q, y = .ref q ∧ ∃ l ∈ ls, x = l.1 ∧ SqT K H' q [.str l.2.shown, l.1]) (fun _ _ _ _ t ⟨q, e, l, hl, h1, h2⟩ => ⟨q, e, l, hl, h1, SqT.tups t h2⟩) ha (by rw [List.length_map]; omega) (fun R r => ⟨_, rfl, r⟩) (fun _ => rfl) ?_ ?_
  · intro v H1 R hv s1 r
    obtain ⟨l, hl, rfl⟩ := List.mem_map.mp hv
    have so := ((ho l hl).tups (same_tups s1)).sh
    obtain ⟨h1, h2, h3, h4, h5, _⟩ := so
    refine ⟨_, rfl, _, _, rfl, h1, h2, h3, Nat.le_trans h4 (by decide), h5, _, rfl, sz 2 (by decide), fun pk npk => ?_⟩
    exact r _ _ (same_upd npk) ⟨pk, rfl, l, hl, rfl, SqT.of upd_same⟩
  · intro D H1 ys s1 _ hD pr
    have yl := Paired.length pr
    rw [List.length_map] at yl
    have ks := fun y hy => Paired.right pr y hy
    -- the pairs, as a list
    obtain ⟨ps, kvs, eps, hpr, hkv, kl⟩ : ∃ (ps : List Addr) (kvs : List (Key × V)), ys = ps.map V.ref ∧ Paired (fun p kv => SqT K H1 p [kV kv.1, kv.2]) ps kvs ∧ (∀ e ∈ kvs, ∃ l ∈ ls, ∃ x : Str, e = (.inr x, l.1)) ∧ kvs.length = ys.length := by
      clear hD pr yl
      induction ys with
      | nil => exact ⟨[], [], rfl, .nil, (fun _ h => nomatch h), rfl⟩
      | cons y ys ih =>
        obtain ⟨ps, kvs, e1, e2, e3, e4⟩ := ih fun z hz => ks z (List.mem_cons_of_mem _ hz)
        obtain ⟨_, p, rfl, l, hl, _, hp⟩ := ks y (List.mem_cons_self ..)
        refine ⟨p :: ps, (.inr l.2.shown, l.1) :: kvs, by rw [e1]; rfl, .cons hp e2, fun e he => ?_, by rw [List.length_cons, List.length_cons, e4]⟩
        rcases List.mem_cons.mp he with rfl | he
        · exact ⟨l, hl, _, rfl⟩
        · exact e3 e he
    have kne : kvs ≠ [] := fun z => by
      rw [z] at kl
      exact ne (List.eq_nil_of_length_eq_zero (by rw [← kl] at yl; exact yl))
    subst eps
    refine ⟨D, ps, kvs, rfl, SqL.of hD, hpr, fun M nM => ?_⟩
    have s2 := same_upd (o := .dK (mergeK [] kvs)) nM
    have hM := upd_same (H := H1) (a := M) (o := .dK (mergeK [] kvs))
    generalize upd H1 M (.dK (mergeK [] kvs)) = H2 at s2 hM
    have ml := length_mergeK kvs []
    rw [List.length_nil, Nat.zero_add] at ml
    obtain ⟨kx, ekx⟩ := merge_strs (more := kvs) (acc := []) ⟨[], rfl⟩ fun e he => by
      obtain ⟨l, _, x, rfl⟩ := hkv e he
      exact ⟨x, rfl⟩
    have kxl : kx.length = (mergeK [] kvs).length := by
      rw [← List.length_map (f := Sum.inr (α := Int)), ← ekx, List.length_map]
    have kxn : kx ≠ [] := fun z => by
      obtain ⟨e, r, er⟩ : ∃ e r, kvs = e :: r := by
        cases kvs with
        | nil => exact absurd rfl kne
        | cons e r => exact ⟨e, r, rfl⟩
      have h := merge_keep (k := e.1) (more := r) (acc := putK [] e.1 e.2) (by rw [valV_put, if_pos rfl]; rfl)
      have e2 : mergeK [] kvs = mergeK (putK [] e.1 e.2) r := by rw [er]; rfl
      rw [← e2] at h
      obtain ⟨v, hv⟩ := Option.isSome_iff_exists.mp h
      have m := valV_in hv
      rw [ekx, z] at m
      exact nomatch m
    have val : ∀ x ∈ kx, ∃ l ∈ ls, valV (mergeK [] kvs) (.inr x) = some l.1 := fun x hx => by
      have m : (Sum.inr x : Key) ∈ (mergeK [] kvs).map (·.1) := by
        rw [ekx]
        exact List.mem_map.mpr ⟨x, hx, rfl⟩
      cases c : valV (mergeK [] kvs) (.inr x) with
      | none => exact absurd m (valV_not c)
      | some v =>
        rcases merge_in c with h | h
        · exact nomatch h
        · obtain ⟨l, hl, y, e⟩ := hkv _ h
          exact ⟨l, hl, by rw [(Prod.mk.inj e).2]⟩
    have s02 := same_trans s1 s2
    refine ret_cb ?_
    refine ⟨_, rfl, M, _, kx, rfl, .inl hM, ekx, by omega, fun yk L pm _ nL => ?_⟩
    have s3 := same_upd (o := .lst (yk.map V.str)) nL
    have hL := upd_same (H := H2) (a := L) (o := .lst (yk.map V.str))
    generalize upd H2 L (.lst (yk.map V.str)) = H3 at s3 hL
    have ykl := pm.length_eq
    show tLc (iList K (tC (.ref L))) (gName 3) tYes (tDGet (tVar 1) (tVar 3)) [3] ((start nSrt [.ref a]).set 1 (some (.ref M))) H3 (fun x H1 => rTupOf K [x] H1 Q)
    refine lc_map rfl (fun H' _ y => ∃ z : Sy, z.1 = y ∧ z ∈ ls) (fun _ _ _ _ _ h => h) (SqL.of hL) (by rw [List.length_map]; omega) (fun R r => r) (fun _ => rfl) ?_ ?_
    · intro v H4 R hv s4 r
      obtain ⟨x, hx, rfl⟩ := List.mem_map.mp hv
      obtain ⟨l, hl, e⟩ := val x (pm.mem_iff.mp hx)
      exact ⟨_, rfl, _, rfl, M, _, rfl, .inl ⟨_, .inr x, .inl (s4 _ _ (s3 _ _ hM)), rfl, e.symm⟩, r _ _ same_refl ⟨l, rfl, hl⟩⟩
    · intro D2 H4 ys s4 _ hD2 pr2
      obtain ⟨l2, rfl, okl, len2⟩ := rows_of (R := fun z => z ∈ ls) pr2
      rw [List.length_map] at len2
      refine ⟨_, _, rfl, .inl (SqL.of hD2), fun t H5 s5 ht => ?_⟩
      exact q t H5 l2 (same_trans s02 (same_trans s3 (same_trans s4 s5))) ht okl (fun z => by
        rw [z, List.length_nil] at len2
        exact kxn (List.eq_nil_of_length_eq_zero (by omega))) (by omega)
end
end K15

set_option Elab.async false
set_option linter.all false
set_option maxRecDepth 100000
set_option maxHeartbeats 4000000
namespace K15
open PySem PySem.Spec PyProof.Rows L2 Pen Tr AK LamX RU
section
variable {P : Program} {w : World} {K : PySem.W.Frag} {mg : Str → Option PySem.Value} {base : Heap} {f fD fP fC fS fL : Addr} {fd fdD fdP fdC fdS fdL : FuncData} {H H' : Hp} {m : Mac} {first : List Sy} {be : Sy}
/-! ### picked from a tuple too -/
def spPickT (K : PySem.W.Frag) : Sp := fun vs H Q _ => ∃ (p l s : Addr) (n : Nat) (xs : List V), vs = [.ref p, .ref s] ∧ PenAt H p l n ∧ n ≤ 1000000 ∧ SqT K H s xs ∧ xs ≠ [] ∧ xs.length < 1073741824 ∧
  ∀ (i : Nat) v H', xs[i]? = some v → PenAt H' p l (n + 1) → But p H H' → Q v H'
theorem ok_pickT (F : FnP K "_law_pick" sPick f fd) (T : Txt mg) (FD : FnP K "_law_draw" sDraw fD fdD) (gD : mg "_law_draw" = some (.ref fD)) : FnOk P w K mg base CX0 2 f fd ["_law_pen_here", "_law_some"] (spPickT K) := by
  have GD : FnOk P w K mg base CX0 1 fD fdD ["_law_pen_here", "_law_many"] spDraw := ok_draw FD T
  have bD : L2.Binds K fdD ["_law_pen_here", "_law_many"] [] := FD.bindsN fun _ _ _ _ _ _ us hl => match us, hl with | [_, _], _ => rfl
  refine F.ok scPick (fun vs H Q E h => ?_) (fun cdv A outer s H vs Q E hr h => ?_)
  · obtain ⟨_, _, _, _, _, rfl, _⟩ := h
    rfl
  · obtain ⟨p, l, a, n, xs, rfl, PA, hn, hS, ne, many, k⟩ := h
    suffices z : ∃ t, PSs (cxOf CX0 P w K mg base ["_law_pen_here", "_law_some"] "_law_pick" (defScope sPick) f cdv A outer s H E).nox (defBody sPick) t ∧ t { nx := fun _ H' => Q .non H', rt := Q } (start ["_law_pen_here", "_law_some"] [.ref p, .ref a]) H by
      obtain ⟨t, h1, h2⟩ := z
      exact ⟨t, h1.nox, h2⟩
    refine ⟨_, pss_one (ps_ret (pe_ix ix_tup (pv 1) (pe_call GD hr (by rfl) gD FD.kp bD .nil pass0 (pa_cons (pv 0) (pa_cons (pe_callB call_len_seq (by rfl) T.len PySem.boot_len (pa_cons (pv 1) pa_nil)) pa_nil))) (fun _ _ => rfl))), ?_⟩
    have pos : 0 < xs.length := List.length_pos_iff.mpr ne
    refine ⟨_, rfl, _, rfl, _, rfl, a, xs, rfl, .inr hS, p, l, n, _, rfl, PA, hn, by omega, by omega, fun r H' r0 r1 PA' but => ?_⟩
    obtain ⟨i, rfl⟩ : ∃ i : Nat, r = (i : Int) := ⟨r.toNat, by omega⟩
    have hi : i < xs.length := by omega
    exact ⟨a, xs, _, _, rfl, rfl, SqT.tups (pen_tups PA but) hS, atI_nat (List.getElem?_eq_getElem hi), k i _ H' (List.getElem?_eq_getElem hi) PA' but⟩
abbrev spPk2 (K : PySem.W.Frag) : Sp := fun vs H Q E => spPick K vs H Q E ∨ spPickT K vs H Q E
theorem ok_pk2 (F : FnP K "_law_pick" sPick f fd) (T : Txt mg) (FD : FnP K "_law_draw" sDraw fD fdD) (gD : mg "_law_draw" = some (.ref fD)) : FnOk P w K mg base CX0 2 f fd ["_law_pen_here", "_law_some"] (spPk2 K) := fn_or (ok_pick F T FD gD) (ok_pickT F T FD gD)
/-! ### the letters of a machine -/
def spLet (K : PySem.W.Frag) (w : World) : Sp := fun vs H Q _ => ∃ mc m first be, vs = [.ref mc] ∧ McAt K w H mc m first be ∧ MacOk K H m ∧ (SyOk K H be ∧ be.2 ∈ (m : Mac).sd false) ∧ (∀ s ∈ (first : List Sy), SyOk K H s ∧ s.2 ∈ m.ld) ∧ first ≠ [] ∧ first.length ≤ 1000 ∧
  ∀ t H', ∀ ls : List Sy, Same H H' → SqT K H' t (ls.map (·.1)) → (∀ l ∈ ls, LtIn K H' m first be l) → ls ≠ [] → ls.length ≤ 60 → Q (.ref t) H'
theorem scLet : FnScope ["_law_machine"] ["_law_machine"] (defScope (top 36)) := ⟨rfl, rfl, rfl, by decide +kernel, rfl, by decide +kernel, by decide +kernel⟩
theorem ok_let (F : FnT K "_law_sw_letters" 36 f fd) (TX : Txt mg) (FC : FnT K "_law_sw_closed" 35 fC fdC) (gC : mg "_law_sw_closed" = some (.ref fC)) (GC : FnOk P w K mg base CX0 2 fC fdC ["_law_machine"] (spCl K w))
    (FS : FnT K "_law_sw_sorted" 34 fS fdS) (gS : mg "_law_sw_sorted" = some (.ref fS)) (GS : GFn P w K mg base CX0 2 fS fdS ["_law_values"] (spSrt K)) : GFn P w K mg base CX0 3 f fd ["_law_machine"] (spLet K w) := by
  refine GFn.of F scLet (fun vs H Q E h => by obtain ⟨mc, m, first, be, rfl, _⟩ := h; rfl) (fun c A outer s0 H vs Q E hc hr free h => ?_)
  obtain ⟨mc, m, first, be, rfl, mo, mac, hbe, hf, fne, fl, q⟩ := h
  have bC : L2.Binds K fdC ["_law_machine"] [] := FunD.bindsN FC fun _ _ _ _ _ _ us hl => match us, hl with | [_], _ => rfl
  have bS : L2.Binds K fdS ["_law_values"] [] := FunD.bindsN FS fun _ _ _ _ _ _ us hl => match us, hl with | [_], _ => rfl
  suffices z : ∃ t, PSs (cxOf CX0 P w K mg base ["_law_machine"] "_law_sw_letters" (defScope (top 36)) f (.ref c) A outer s0 H E).nox (defBody (top 36)) t ∧ t { nx := fun _ H' => Q .non H', rt := Q } (start ["_law_machine"] [.ref mc]) H by
    obtain ⟨t, h1, h2⟩ := z
    exact ⟨t, h1.nox, h2⟩
  refine ⟨_, pss_one (ps_ret (pe_callG GS free hr (by rfl) gS FS.kp bS pass0 (pa_cons (pe_ix ix_tup (pe_call GC hr (by rfl) gC FC.kp bC .nil pass0 (pa_cons (pv 0) pa_nil)) pe_int (fun _ _ => rfl)) pa_nil))), ?_⟩
  refine ⟨_, rfl, mc, m, first, be, rfl, mo, mac, hbe, hf, fne, fl, fun p v0 ll v2 ls H1 s1 hp hl lt ne => ?_⟩
  have ln := lt.len (mac.tups (same_tups s1))
  refine ⟨p, _, 1, _, rfl, rfl, hp, rfl, ll, ls, rfl, SqL.of hl, (fun l h => (lt.1 l h).ok), ne, by omega, fun t H2 l2 s2 ht sub n2 f2 => ?_⟩
  exact q t H2 l2 (same_trans s1 s2) ht (fun l h => (lt.1 l (sub l h)).tups (same_tups s2)) n2 f2
/-! ### a drawn word -/
theorem word_lc {σ : L2.St} {Q : VK} {t : TE} {p l la : Addr} {c d lo ip il i : Nat} {vs : List Nat} {ls : List Sy} (vse : vs = [i]) (PA : PenAt H p l c) (small : c + d + 10 ≤ 1000000) (hL : SqT K H la (ls.map (·.1))) (ne : ls ≠ []) (few : ls.length ≤ 60)
    (hw : ∀ x, wipe ((wipe σ [i]).set i (some x)) [i] = wipe σ [i]) (h0 : ∀ x, ((wipe σ [i]).set i (some x))[ip]? = some (some (.ref p))) (h2 : ∀ x, ((wipe σ [i]).set i (some x))[il]? = some (some (.ref la)))
    (ht : ∀ R : VK, (∀ (k : Nat) H1, lo ≤ k → k ≤ 10 → PenAt H1 p l (c + d) → But p H H1 → R (.int k) H1) → t σ H R)
    (q : ∀ D H', ∀ row : List Sy, (∀ x ∈ row, x ∈ ls) → lo ≤ row.length → row.length ≤ 10 → PenAt H' p l (c + d + 10) → But p H H' → D ≠ p → H' D = some (.lst (row.map (·.1))) → Q (.ref D) H') :
    tLc (iRng1 (tCons t tNil)) (gName i) tYes (tCall (spPk2 K) [] E0 (tCons (tVar ip) (tCons (tVar il) tNil))) vs σ H Q := by
  subst vse
  refine ht _ fun k H1 k0 k10 PA1 b1 => ?_
  refine ⟨(k : Int), rfl, by omega, by omega, fun D nD => ?_⟩
  have nDp : D ≠ p := pen_new PA1 nD
  have nDl : D ≠ l := pen_newL PA1 nD
  refine lc_it (walk_range (lo := 0) (n := (k : Int).toNat)) (fun j H' => PenAt H' p l (c + d + j) ∧ But p H1 H' ∧ ∃ row : List Sy, H' D = some (.lst (row.map (·.1))) ∧ (∀ x ∈ row, x ∈ ls) ∧ row.length = j)
    ⟨PA1.other nDp nDl, But.same (same_upd nD), [], upd_same, (fun _ h => nomatch h), rfl⟩ (fun _ _ _ _ => trivial) ?_ ?_
  · rintro j x H3 H2 hj ⟨PA2, b2, row, hD, mem, rl⟩ ⟨rfl, rfl⟩
    refine ⟨hw _, yes_if ?_⟩
    have b02 := But.trans b1 b2
    refine ⟨_, h0 _, _, h2 _, .inr ⟨p, l, la, _, _, rfl, PA2, by omega, SqT.tups (pen_tups PA b02) hL, (fun z => ne (List.map_eq_nil_iff.mp z)), by rw [List.length_map]; omega, fun n v H4 hv PA4 b4 => ?_⟩⟩
    rw [List.getElem?_map] at hv
    obtain ⟨s, hs, rfl⟩ := Option.map_eq_some_iff.mp hv
    have hD4 := b4 _ _ hD nDp
    refine ⟨_, hD4, by rw [List.length_map, rl, sizeLine_eq]; omega, PA4.other nDp nDl, fun b o e nb => ?_, row ++ [s], ?_, fun x hx => ?_, by rw [List.length_append, rl]; rfl⟩
    · rw [upd_ne (ne_of_none e nD)]
      exact b4 _ _ (b2 _ _ e nb) nb
    · rw [upd_same, List.map_append]
      rfl
    · rcases List.mem_append.mp hx with hx | hx
      · exact mem x hx
      · rw [List.mem_singleton.mp hx]
        exact List.mem_of_getElem? hs
  · rintro H2 ⟨PA2, b2, row, hD, mem, rl⟩
    exact q D H2 row mem (by omega) (by omega) (PA2.mono (by omega)) (But.trans b1 b2) nDp hD
theorem arg_cb {r : List V → Hp → VK → Prop} {te : TE} {σ : L2.St} {R : List V → Hp → Prop} (h : te σ H fun x H1 => r [x] H1 fun y H2 => R [y] H2) : tCons (tCB r (tCons te tNil)) tNil σ H R := h
/-- words -/
def spWds (K : PySem.W.Frag) (w : World) : Sp := fun vs H Q _ => ∃ p l n mc m first be, vs = [.ref p, .ref mc] ∧ PenAt H p l n ∧ n ≤ 900000 ∧ McAt K w H mc m first be ∧ MacOk K H m ∧ (SyOk K H be ∧ be.2 ∈ (m : Mac).sd false) ∧ (∀ s ∈ (first : List Sy), SyOk K H s ∧ s.2 ∈ m.ld) ∧ first ≠ [] ∧ first.length ≤ 1000 ∧
  ∀ D H', ∀ ws : List (List Sy), ∀ xs, But p H H' → PenAt H' p l (n + 100) → H D = none → D ≠ p → H' D = some (.lst xs) → WordsS K H' ws xs → ws.length ≤ 6 → (∀ w ∈ ws, w.length ≤ 10) → (∀ w ∈ ws, ∀ l ∈ w, LtIn K H' m first be l) → Q (.ref D) H'
abbrev nWds : List Str := ["_law_pen_here", "_law_machine", "_law_letters", "_law_words", "_law_lap", "_law_place"]
theorem scWds : FnScope nWds ["_law_pen_here", "_law_machine"] (defScope (top 40)) := ⟨rfl, rfl, rfl, by decide +kernel, rfl, by decide +kernel, by decide +kernel⟩
theorem ok_wds (F : FnT K "_law_sw_words" 40 f fd) (TX : Txt mg) (FD : FnP K "_law_draw" sDraw fD fdD) (gD : mg "_law_draw" = some (.ref fD)) (FP : FnP K "_law_pick" sPick fP fdP) (gP : mg "_law_pick" = some (.ref fP))
    (FL : FnT K "_law_sw_letters" 36 fL fdL) (gL : mg "_law_sw_letters" = some (.ref fL)) (GL : GFn P w K mg base CX0 3 fL fdL ["_law_machine"] (spLet K w)) : GFn P w K mg base CX0 4 f fd ["_law_pen_here", "_law_machine"] (spWds K w) := by
  refine GFn.of F scWds (fun vs H Q E h => by obtain ⟨p, l, n, mc, m, first, be, rfl, _⟩ := h; rfl) (fun c A outer s0 H vs Q E hc hr free h => ?_)
  obtain ⟨p, l, n, mc, m, first, be, rfl, PA, small, mo, mac, hbe, hf, fne, fl, q⟩ := h
  have nd := scWds.nd
  have GD : FnOk P w K mg base CX0 1 fD fdD ["_law_pen_here", "_law_many"] spDraw := ok_draw FD TX
  have GP : FnOk P w K mg base CX0 2 fP fdP ["_law_pen_here", "_law_some"] (spPk2 K) := ok_pk2 FP TX FD gD
  have bD : L2.Binds K fdD ["_law_pen_here", "_law_many"] [] := FD.bindsN fun _ _ _ _ _ _ us hl => match us, hl with | [_, _], _ => rfl
  have bP : L2.Binds K fdP ["_law_pen_here", "_law_some"] [] := FP.bindsN fun _ _ _ _ _ _ us hl => match us, hl with | [_, _], _ => rfl
  have bL : L2.Binds K fdL ["_law_machine"] [] := FunD.bindsN FL fun _ _ _ _ _ _ us hl => match us, hl with | [_], _ => rfl
  suffices z : ∃ t, PSs (cxOf CX0 P w K mg base nWds "_law_sw_words" (defScope (top 40)) f (.ref c) A outer s0 H E).nox (defBody (top 40)) t ∧ t { nx := fun _ H' => Q .non H', rt := Q } (start nWds [.ref p, .ref mc]) H by
    obtain ⟨t, h1, h2⟩ := z
    exact ⟨t, h1.nox, h2⟩
  refine ⟨_, pss_cons (ps_asg (pe_callG GL free hr (by rfl) gL FL.kp bL pass0 (pa_cons (pv 1) pa_nil)) (pg_name (i := 2) nd rfl (.inr rfl)))
    (pss_cons (ps_asg (pe_lst pa_nil) (pg_name (i := 3) nd rfl (.inl rfl)))
    (pss_cons (ps_for PassesOwn.never rfl (pi_range1 (by rfl) TX.range (pa_cons (pe_call GD (hr.mono (by decide)) (by rfl) gD FD.kp bD .nil pass0 (pa_cons (pv 0) (pa_cons pe_int pa_nil))) pa_nil)) (pg_name (i := 4) nd rfl (.inl rfl))
      (pss_one (ps_expr (pe_bm PySem.F.plainAttrs_list PySem.F.slot_list_append PySem.F.type_list_append mt_append (pv 3) (pa_cons (pe_callTy call_tupR (by rfl) TX.tuple (by decide +kernel) (pa_cons (pe_lc (own := [("_law_place", 5)]) (g := gName 5) (tt := tYes) (te := tCall (spPk2 K) [] E0 (tCons (tVar 0) (tCons (tVar 2) tNil))) (by rfl) nd
        (pi_range1 (by rfl) TX.range (pa_cons (pe_call GD (hr.mono (by decide)) (by rfl) gD FD.kp bD .nil pass0 (pa_cons (pv 0) (pa_cons pe_int pa_nil))) pa_nil)) (blkOk_by (own := [("_law_place", 5)]) (N := nWds) (sc := defScope (top 40)) (by decide +kernel))
        (fun _ _ _ _ _ => pg_name (i := 5) nd rfl (Or.inl rfl)) (fun _ _ _ _ _ => pts_nil) (fun _ _ _ _ _ => pe_call GP (hr.mono (by decide)) (by rfl) gP FP.kp bP .nil pass0 (pa_cons (pv 0) (pa_cons (pv 2) pa_nil)))) pa_nil)) pa_nil)))))
    (pss_one (ps_ret (pv 3))))), ?_⟩
  refine ⟨_, rfl, mc, m, first, be, rfl, mo, mac, hbe, hf, fne, fl, fun t H1 ls s1 ht lt ne few => ?_⟩
  refine ⟨(by show 0 ≤ sizeLine; exact Nat.zero_le _), fun D nD => ?_⟩
  have s2 := same_upd (o := .lst ([] : List V)) nD
  have hD2 := upd_same (H := H1) (a := D) (o := .lst ([] : List V))
  have nDH : H D = none := s1.free nD
  have PA1 := PA.keep s1
  have nDp : D ≠ p := pen_new PA1 nD
  have nDl : D ≠ l := pen_newL PA1 nD
  have PA2 := PA1.keep s2
  refine ⟨_, rfl, p, l, n, 7, rfl, PA2, by omega, by decide, by decide, fun r H3 r0 r1 PA3 b3 => ?_⟩
  have hD3 := b3 _ _ hD2 nDp
  refine ⟨r, rfl, by omega, by omega, ?_⟩
  refine for_it (walk_range (lo := 0) (n := r.toNat)) (fun j σ H' => ∃ o4, ∃ ws : List (List Sy), ∃ xs, σ = [some (.ref p), some (.ref mc), some (.ref t), some (.ref D), o4, none] ∧ PenAt H' p l (n + 1 + 11 * j) ∧ But p H1 H' ∧ H' D = some (.lst xs) ∧ WordsS K H' ws xs ∧ ws.length = j ∧ (∀ w ∈ ws, w.length ≤ 10 ∧ ∀ x ∈ w, x ∈ ls))
    ⟨none, [], [], rfl, PA3, But.trans (But.same s2) b3, hD3, .nil, rfl, fun _ h => nomatch h⟩ (fun _ _ _ _ _ => trivial) ?_ ?_
  · rintro j y σ H5 H4 hj ⟨o4, ws, xs, rfl, PA4, b4, hD4, pr, wl, mem⟩ ⟨rfl, rfl⟩
    have xl := Paired.length pr
    refine ⟨_, rfl, .inl ⟨rfl, _, SqL.of hD4⟩, ?_⟩
    refine arg_cb ?_
    refine word_lc (p := p) (l := l) (la := t) (c := n + 1 + 11 * j) (d := 1) (lo := 0) (ls := ls) rfl PA4 (by omega) (SqT.tups (pen_tups PA1 b4) ht) ne few (fun _ => rfl) (fun _ => rfl) (fun _ => rfl) (fun R h => ?_) fun L H6 row sub _ rl PA6 b6 nLp hL => ?_
    · exact ⟨_, rfl, p, l, n + 1 + 11 * j, 5, rfl, PA4, by omega, by decide, by decide, fun r5 H6 r0 r1 PA6 b6 => by
        obtain ⟨k, rfl⟩ : ∃ k : Nat, r5 = (k : Int) := ⟨r5.toNat, by omega⟩
        exact h k H6 (by omega) (by omega) PA6 b6⟩
    · refine ⟨L, _, rfl, .inl (SqL.of hL), fun q1 H7 s7 hq1 => ?_⟩
      have hD7 := s7 _ _ (b6 _ _ hD4 nDp)
      have PA7 := PA6.keep s7
      have tu : Tups H7 (upd H7 D (.lst (xs ++ [.ref q1]))) := Tups.upd (lst_ntup hD7)
      have tu4 : Tups H4 (upd H7 D (.lst (xs ++ [.ref q1]))) := Tups.trans (pen_tups PA4 b6) (Tups.trans (same_tups s7) tu)
      refine ⟨D, xs, .ref q1, rfl, rfl, hD7, by rw [sizeLine_eq]; omega, ?_⟩
      refine ⟨_, ws ++ [row], _, rfl, ?_, fun b o e nb => ?_, upd_same, ?_, by rw [List.length_append, wl]; rfl, fun x hx => ?_⟩
      · exact (PA7.other nDp nDl).mono (by omega)
      · rw [upd_ne (ne_of_none e nD)]
        exact s7 _ _ (b6 _ _ (b4 _ _ e nb) nb)
      · exact Paired.snoc (Paired.mapP pr fun a b ⟨z, e, h⟩ => ⟨z, e, SqT.tups tu4 h⟩) ⟨q1, rfl, SqT.tups tu hq1⟩
      · rcases List.mem_append.mp hx with hx | hx
        · exact mem x hx
        · rw [List.mem_singleton.mp hx]
          exact ⟨rl, sub⟩
  · rintro σ H4 ⟨o4, ws, xs, rfl, PA4, b4, hD4, pr, wl, mem⟩
    have tu := pen_tups PA1 b4
    exact ⟨_, rfl, q D H4 ws xs (But.trans (But.same s1) b4) (PA4.mono (by omega)) nDH nDp hD4 pr (by omega) (fun w hw => (mem w hw).1) fun w hw l hl => (lt l ((mem w hw).2 l hl)).tups tu⟩
end
end K15

set_option Elab.async false
set_option linter.all false
set_option maxRecDepth 100000
set_option maxHeartbeats 4000000
namespace K15
open PySem PySem.Spec PyProof.Rows L2 Pen Tr AK LamX RU
/-- a class of errors, all that a clause asks -/
structure Ct (K : PySem.W.Frag) (mg : Str → Option PySem.Value) (x : Str) (C : Addr) (fs : List Str) : Prop where
  mgx : mg x = some (.ref C)
  xf : XfC K C
  no : ∀ f ∈ fs, PySem.W.findIn K (.ref C) f = some none
  ex : PySem.W.exmOne K (.ref C) (.ref C) = some true
mutual
theorem dpe_same {K : PySem.W.Frag} {H H' : Hp} (s : Same H H') : ∀ {v : V} {d : PyData}, DpE K H v d → DpE K H' v d
  | _, _, .plain h => .plain (dp_same s _ _ h)
  | _, _, .dict h => .dict (s _ _ h)
  | _, _, .tup h hs => .tup (SqT.tups (same_tups s) h) (dpes_same s hs)
theorem dpes_same {K : PySem.W.Frag} {H H' : Hp} (s : Same H H') : ∀ {vs : List V} {ds : List PyData}, DpEs K H vs ds → DpEs K H' vs ds
  | _, _, .nil => .nil
  | _, _, .cons h hs => .cons (dpe_same s h) (dpes_same s hs)
end
section
variable {P : Program} {w : World} {K : PySem.W.Frag} {mg : Str → Option PySem.Value} {base : Heap} {f fF CS CB : Addr} {fd fdF : FuncData} {H H' : Hp} {m : Mac} {first : List Sy} {be : Sy}
/-- what repr shows, as a text -/
def Shw (K : PySem.W.Frag) (H : Hp) (v : V) (z : Str) : Prop := (∃ d, Dp K H v d ∧ d.showable = true ∧ d.hasDict = false ∧ d.depth ≤ 60 ∧ d.shown.length ≤ sizeLine ∧ z = d.shown) ∨
  ∃ (a : Addr) (x : V) (ys : List V) (ds : List PyData), v = .ref a ∧ SqL K H a (x :: ys) ∧ DpEs K H (x :: ys) ds ∧ (PyData.list ds).showable = true ∧ (PyData.list ds).depth ≤ 60 ∧ (PyData.list ds).shown.length ≤ sizeLine ∧ z = (PyData.list ds).shown
theorem Shw.same {v : V} {z : Str} (h : Shw K H v z) (s : Same H H') : Shw K H' v z :=
  h.imp (fun ⟨d, h1, h2⟩ => ⟨d, dp_same s _ _ h1, h2⟩) fun ⟨a, x, ys, ds, e, h1, h2, h3⟩ => ⟨a, x, ys, ds, e, Kp.sql (Kp.same s) h1, dpes_same s h2, h3⟩
theorem Shw.run {v : V} {z : Str} (h : Shw K H v z) {Q : VK} (q : Q (.str z) H) : rShowE K [v] H Q := by
  rcases h with ⟨d, h1, h2, h3, h4, h5, rfl⟩ | ⟨a, x, ys, ds, rfl, h1, h2, h3, h4, h5, rfl⟩
  · exact .inl ⟨v, d, rfl, h1, h2, h3, h4, h5, q⟩
  · exact .inr ⟨a, x, ys, ds, rfl, h1, h2, h3, h4, h5, q⟩
def spRef (K : PySem.W.Frag) (w : World) (CS : Addr) : Sp := fun vs H Q _ => ∃ sw m first be v z, vs = [.ref sw, v] ∧ SwO K w CS H sw m first be ∧ MacOk K H m ∧ BadW K H m first be v ∧ Shw K H v z ∧ ∀ H', Same H H' → Q (.bl true) H'
abbrev nRef : List Str := ["_law_made", "_law_words", "e"]
theorem scRef : FnScope nRef ["_law_made", "_law_words"] (defScope (top 41)) := ⟨rfl, rfl, rfl, by decide +kernel, rfl, by decide +kernel, by decide +kernel⟩
theorem ok_ref (F : FnT K "_law_refused" 41 f fd) (TX : Txt mg) (XB : Ct K mg "BadTile" CB ["tile"]) (FF : FnT K "fed" 26 fF fdF) (gF : mg "fed" = some (.ref fF)) (GF : FnOk P w K mg base (L2.CX P w) 5 fF fdF ["sweeps", "words"] (spFed K w CS CB)) : GFn P w K mg base CX0 6 f fd ["_law_made", "_law_words"] (spRef K w CS) := by
  refine GFn.of F scRef (fun vs H Q E h => by obtain ⟨sw, m, first, be, v, z, rfl, _⟩ := h; rfl) (fun c A outer s0 H vs Q E hc hr free h => ?_)
  obtain ⟨sw, m, first, be, v, z, rfl, so, mac, bad, shw, q⟩ := h
  have nd := scRef.nd
  have hu := hr.units
  suffices z : ∃ t, PSs (cxOf CX0 P w K mg base nRef "_law_refused" (defScope (top 41)) f (.ref c) A outer s0 H E).nox (defBody (top 41)) t ∧ t { nx := fun _ H' => Q .non H', rt := Q } (start nRef [.ref sw, v]) H by
    obtain ⟨t, h1, h2⟩ := z
    exact ⟨t, h1.nox, h2⟩
  have bF : L2.Binds K fdF ["sweeps", "words"] [] := FunD.bindsN FF fun _ _ _ _ _ _ us hl => match us, hl with | [_, _], _ => rfl
  have b1' := XB.no "tile" (by simp)
  refine ⟨_, pss_cons (ps_try_cls (tb := fun W => tDrop (tCallS (spFed K w CS CB) (WE W) (tCons (tVar 0) (tCons (tVar 1) tNil)))) (Wo := fun _ _ _ _ => False)
      (l := [(.ref CB, 2, fun a cls d => tRet (tOp rEq (tCB (rShowE K) (tCons (tXf a cls d CB "tile" (tVar 2)) tNil)) (tCB (rShowE K) (tCons (tVar 1) tNil))))])
      rfl rfl nd L2.takes0 (fun W pn xe tk _ => pss_one (ps_expr (pe_callS GF hr (by rfl) gF FF.kp bF (fun σ => passAt tk σ) (pa_cons (pv 0) (pa_cons (pv 1) pa_nil)))))
      (.cons ⟨rfl, by decide, .inl XB.mgx⟩ rfl rfl (fun a ob cls d pn hz hf => pss_one (ps_ret (pe_cmpR op_eq (pe_callB (call_showE free hu) (by rfl) TX.repr (by decide +kernel) (pa_cons (pe_xf XB.xf b1' hz hf (pv 2)) pa_nil)) (pe_callB (call_showE free hu) (by rfl) TX.repr (by decide +kernel) (pa_cons (pv 1) pa_nil)) (by rfl))))
      .nil)) (pss_one (ps_ret pe_bl)), ?_⟩
  refine ⟨_, rfl, _, rfl, .inr ⟨sw, m, first, be, v, rfl, so, mac, bad, fun dd H1 s1 e1 => ?_⟩⟩
  refine ⟨true, XB.ex, fun _ ea na => ?_, fun h => nomatch h⟩
  have sh := shw.same s1
  refine ⟨_, rfl, rfl, rfl, dd, _, _, rfl, e1, rfl, sh.run ?_⟩
  refine ⟨_, rfl, sh.run ?_⟩
  refine ⟨rfl, ?_⟩
  rw [decide_eq_true rfl]
  exact q _ s1
end
end K15

set_option Elab.async false
set_option linter.all false
set_option maxRecDepth 100000
set_option maxHeartbeats 4000000
namespace K15
open PySem PySem.Spec PyProof.Rows L2 Pen Tr AK LamX RU
/-! ### how long what is shown may be -/
theorem piled_le {m : Nat} : ∀ {ts : List Str}, (∀ t ∈ ts, t.length ≤ m) → PySem.piled ts ≤ ts.length * (m + 2)
  | [], _ => by simp [piled_nil]
  | t :: ts, h => by
    have h1 := h t (List.mem_cons_self ..)
    have h2 := piled_le (ts := ts) fun x hx => h x (List.mem_cons_of_mem _ hx)
    rw [piled_cons, List.length_cons, Nat.add_mul, Nat.one_mul]
    omega
theorem all_len : ∀ {ds : List PyData}, (PyData.shownAll ds).length = ds.length
  | [] => rfl
  | d :: ds => by simp [PyData.shownAll, all_len (ds := ds)]
theorem all_mem : ∀ {ds : List PyData} {t : Str}, t ∈ PyData.shownAll ds → ∃ d ∈ ds, d.shown = t
  | d :: ds, t, h => by
    rcases List.mem_cons.mp (by simpa [PyData.shownAll] using h : t ∈ d.shown :: PyData.shownAll ds) with rfl | h
    · exact ⟨d, List.mem_cons_self .., rfl⟩
    · obtain ⟨e, he, z⟩ := all_mem h
      exact ⟨e, List.mem_cons_of_mem _ he, z⟩
theorem joined_len {m : Nat} {ds : List PyData} (h : ∀ d ∈ ds, d.shown.length ≤ m) : (Str.join ", " (PyData.shownAll ds)).length ≤ ds.length * (m + 2) := by
  have p := piled_le (m := m) (ts := PyData.shownAll ds) fun t ht => by
    obtain ⟨d, hd, rfl⟩ := all_mem ht
    exact h d hd
  rw [all_len] at p
  by_cases c : PyData.shownAll ds = []
  · rw [c]
    have e3 : (Str.join ", " ([] : List Str)).length = 0 := by decide
    omega
  · have q := join_length_add _ c
    omega
theorem tuple_len {m : Nat} {ds : List PyData} (h : ∀ d ∈ ds, d.shown.length ≤ m) : (PyData.tuple ds).shown.length ≤ ds.length * (m + 2) + 3 := by
  show (tupleText (PyData.shownAll ds)).length ≤ _
  have p := joined_len h
  unfold tupleText
  rw [Str.length_append, Str.length_append]
  have e1 : (Str.ofString "(").length = 1 := by decide
  have e2 : (Str.ofString (if ((PyData.shownAll ds).length == 1) = true then ",)" else ")")).length ≤ 2 := by
    split <;> decide
  omega
theorem lt_len : ∀ ts : List Str, (listText ts).length ≤ piled ts + 2
  | [] => by decide
  | t :: r => by
    have h := textFrom_length_pos r 1 (("[" : Str) ++ (if (0 : Nat) > 0 then ", " else "" : String) ++ t) (Nat.succ_pos 0)
    have e : ((("[" : Str) ++ (if (0 : Nat) > 0 then ", " else "" : String) ++ t)).length = 1 + t.length := by
      rw [strLen_append, strLen_append]; rfl
    have hX : (listText (t :: r)).length = (textFrom 0 "[" (t :: r)).length + 1 := by
      show (textFrom 0 "[" (t :: r) ++ "]").length = _
      rw [strLen_append]; rfl
    have hY : (textFrom 0 "[" (t :: r)).length = (textFrom 1 (("[" : Str) ++ (if (0 : Nat) > 0 then ", " else "" : String) ++ t) r).length := rfl
    rw [hX, hY, h, e, piled_cons]; omega
theorem list_len {m : Nat} {ds : List PyData} (h : ∀ d ∈ ds, d.shown.length ≤ m) : (PyData.list ds).shown.length ≤ ds.length * (m + 2) + 3 := by
  show (listText (PyData.shownAll ds)).length ≤ _
  have p := piled_le (m := m) (ts := PyData.shownAll ds) fun t ht => by
    obtain ⟨d, hd, rfl⟩ := all_mem ht
    exact h d hd
  rw [all_len] at p
  have q := lt_len (PyData.shownAll ds)
  omega
theorem showAll_of : ∀ {ds : List PyData}, (∀ d ∈ ds, d.showable = true) → PyData.showableAll ds = true
  | [], _ => rfl
  | d :: ds, h => by
    simp only [PyData.showableAll, h d (List.mem_cons_self ..), showAll_of fun e he => h e (List.mem_cons_of_mem _ he), Bool.and_self]
theorem depthAll_of {m : Nat} : ∀ {ds : List PyData}, (∀ d ∈ ds, d.depth ≤ m) → PyData.depthAll ds ≤ m
  | [], _ => Nat.zero_le _
  | d :: ds, h => by
    have h1 := h d (List.mem_cons_self ..)
    have h2 := depthAll_of (ds := ds) fun e he => h e (List.mem_cons_of_mem _ he)
    simp only [PyData.depthAll]
    omega
/-- can be shown, of so much depth and length -/
structure Ni (a b : Nat) (d : PyData) : Prop where
  sh : d.showable = true
  de : d.depth ≤ a
  le : d.shown.length ≤ b
theorem Ni.mono {a b a' b' : Nat} {d : PyData} (h : Ni a b d) (h1 : a ≤ a') (h2 : b ≤ b') : Ni a' b' d := ⟨h.sh, Nat.le_trans h.de h1, Nat.le_trans h.le h2⟩
theorem Ni.tuple {a b n : Nat} {ds : List PyData} (h : ∀ d ∈ ds, Ni a b d) (few : ds.length ≤ n) : Ni (a + 1) (n * (b + 2) + 3) (.tuple ds) := by
  refine ⟨by simpa [PyData.showable] using showAll_of fun d hd => (h d hd).sh, ?_, ?_⟩
  · have := depthAll_of fun d hd => (h d hd).de
    simp only [PyData.depth]
    omega
  · have h1 := tuple_len fun d hd => (h d hd).le
    have h2 := Nat.mul_le_mul_right (b + 2) few
    omega
theorem Ni.list {a b n : Nat} {ds : List PyData} (h : ∀ d ∈ ds, Ni a b d) (few : ds.length ≤ n) : Ni (a + 1) (n * (b + 2) + 3) (.list ds) := by
  refine ⟨by simpa [PyData.showable] using showAll_of fun d hd => (h d hd).sh, ?_, ?_⟩
  · have := depthAll_of fun d hd => (h d hd).de
    simp only [PyData.depth]
    omega
  · have h1 := list_len fun d hd => (h d hd).le
    have h2 := Nat.mul_le_mul_right (b + 2) few
    omega
theorem Ni.menu {d : PyData} (h : d ∈ menuD) : Ni 1 20 d := by
  obtain ⟨h1, h2, h3, h4, h5⟩ := menu_show d h
  exact ⟨h1, h3, h4⟩
/-! ### what is told can be shown -/
section
variable {K : PySem.W.Frag} {H : Hp} {m : Mac}
theorem fed_mem (o : MacOk K H m) : ∀ (ws : List (List Sy)) (f : FedSt), (∀ w ∈ ws, ∀ l ∈ w, SyOk K H l ∧ l.2 ∈ m.ld) → (∀ s, f.st = some s → SyOk K H s ∧ s.2 ∈ m.sd f.b) →
    ∀ d ∈ (ws.foldl (fedS m) f).acc, d ∈ f.acc ∨ ∃ b s, ∃ w ∈ ws, (SyOk K H s ∧ s.2 ∈ m.sd b) ∧ d = recD m b s w
  | [], f, _, _, d, hd => .inl hd
  | w :: ws, f, hw, hf, d, hd => by
    rw [List.foldl_cons] at hd
    cases e : f.st with
    | none =>
      have ef : fedS m f w = f := by
        unfold fedS
        rw [e]
      rw [ef] at hd
      exact (fed_mem o ws f (fun x hx => hw x (List.mem_cons_of_mem _ hx)) hf d hd).imp id fun ⟨b, s, x, hx, h⟩ => ⟨b, s, x, List.mem_cons_of_mem _ hx, h⟩
    | some s =>
      have ef : fedS m f w = ⟨!f.b, nextS (m.turn f.b (sweepM m f.b s w).2.2), f.acc ++ [recD m f.b s w]⟩ := by
        unfold fedS
        rw [e]
      have hs := hf s e
      obtain ⟨w1, w2, w3⟩ := sweepM_ok o hs (hw w (List.mem_cons_self ..))
      have nx : ∀ s2, (fedS m f w).st = some s2 → SyOk K H s2 ∧ s2.2 ∈ m.sd (fedS m f w).b := fun s2 h => by
        rw [ef] at h ⊢
        cases t : m.turn f.b (sweepM m f.b s w).2.2 with
        | none =>
          rw [t] at h
          cases h
        | some y =>
          obtain ⟨s3, x⟩ := y
          rw [t] at h
          cases (show some s3 = some s2 from h)
          obtain ⟨z1, z2, _⟩ := o.tu _ _ _ _ w2.2 t
          exact ⟨z1, z2⟩
      rcases fed_mem o ws _ (fun x hx => hw x (List.mem_cons_of_mem _ hx)) nx d hd with h | ⟨b, s2, x, hx, h⟩
      · rw [ef] at h
        rcases List.mem_append.mp h with h | h
        · exact .inl h
        · exact .inr ⟨f.b, s, w, List.mem_cons_self .., hs, List.mem_singleton.mp h⟩
      · exact .inr ⟨b, s2, x, List.mem_cons_of_mem _ hx, h⟩
theorem rec_ni (o : MacOk K H m) {b : Bool} {s : Sy} {w : List Sy} (hs : SyOk K H s ∧ s.2 ∈ m.sd b) (hw : ∀ l ∈ w, SyOk K H l ∧ l.2 ∈ m.ld) (few : w.length ≤ 10) : Ni 3 500 (recD m b s w) := by
  obtain ⟨w1, w2, w3⟩ := sweepM_ok o hs hw
  have h1 : Ni 2 223 (wdD (sweepM m b s w).1) := Ni.tuple (n := 10) (fun d hd => by
    obtain ⟨l, hl, rfl⟩ := List.mem_map.mp hd
    exact Ni.menu (w1 l hl).1.mem) (by rw [List.length_map, w3]; exact few)
  have h2 : Ni 2 223 (tnD (m.turn b (sweepM m b s w).2.2)) := by
    cases t : m.turn b (sweepM m b s w).2.2 with
    | none => exact ⟨rfl, Nat.zero_le _, by decide⟩
    | some y =>
      obtain ⟨s2, x⟩ := y
      refine (Ni.tuple (a := 1) (b := 20) (n := 1) (ds := [xtD x]) (fun d hd => ?_) (Nat.le_refl _)).mono (Nat.le_refl _) (by decide)
      rw [List.mem_singleton.mp hd]
      cases x with
      | none => exact ⟨rfl, Nat.zero_le _, by decide⟩
      | some l => exact Ni.menu ((o.tu _ _ _ _ w2.2 t).2.2 l rfl).2.1.mem
  refine (Ni.tuple (a := 2) (b := 223) (n := 2) (ds := [wdD (sweepM m b s w).1, tnD (m.turn b (sweepM m b s w).2.2)]) (fun d hd => ?_) (Nat.le_refl _)).mono (Nat.le_refl _) (by decide)
  simp only [List.mem_cons, List.not_mem_nil, or_false] at hd
  rcases hd with rfl | rfl
  · exact h1
  · exact h2
theorem fed_ni (o : MacOk K H m) {be : Sy} {ws : List (List Sy)} (hb : SyOk K H be ∧ be.2 ∈ m.sd false) (hw : ∀ w ∈ ws, ∀ l ∈ w, SyOk K H l ∧ l.2 ∈ m.ld) (few : ∀ w ∈ ws, w.length ≤ 10) (fs : ws.length ≤ 6) : Ni 4 4000 (.tuple (fedM m be ws)) := by
  refine (Ni.tuple (a := 3) (b := 500) (n := 6) (fun d hd => ?_) ?_).mono (Nat.le_refl _) (by decide)
  · rcases fed_mem o ws ⟨false, some be, []⟩ hw (fun s h => by cases h; exact hb) d hd with h | ⟨b, s, w, mw, hs, rfl⟩
    · exact nomatch h
    · exact rec_ni o hs (hw w mw) (few w mw)
  · have := fed_len (m := m) ws ⟨false, some be, []⟩
    show (ws.foldl (fedS m) ⟨false, some be, []⟩).acc.length ≤ 6
    have e : (⟨false, some be, []⟩ : FedSt).acc.length = 0 := rfl
    omega
end
end K15

set_option Elab.async false
set_option linter.all false
set_option maxRecDepth 100000
set_option maxHeartbeats 4000000
namespace K15
open PySem PySem.Spec PyProof.Rows L2 Pen Tr AK LamX RU
section
variable {K : PySem.W.Frag} {w : World} {H H' : Hp} {m : Mac} {first : List Sy} {be : Sy} {p l : Addr} {n : Nat}
/-! ### all but the pen stays -/
theorem ld_pen {a : Addr} (PA : PenAt H p l n) (h : Ld H a) : a ≠ p := by
  obtain ⟨cells, x, d, c, f, P, _⟩ := PA
  rcases h with ⟨xs, h⟩ | h
  · exact ne_of h P.di fun z => nomatch z
  · exact ne_of h P.di fun z => by
      unfold penK at z
      injection z with z
      exact nomatch z
theorem Ld.pen {a : Addr} (PA : PenAt H p l n) (b : But p H H') (h : Ld H a) : Ld H' a := by
  have ne := ld_pen PA h
  exact h.imp (fun ⟨xs, e⟩ => ⟨xs, b _ _ e ne⟩) fun e => b _ _ e ne
theorem NoSy.pen {v : V} (PA : PenAt H p l n) (b : But p H H') (h : NoSy H v) : NoSy H' v := h.imp id fun ⟨a, e, x⟩ => ⟨a, e, x.pen PA b⟩
theorem LtOk.pen {lv : List Sy} {v : V} {r : Bool} (PA : PenAt H p l n) (b : But p H H') (h : LtOk K H lv v r) : LtOk K H' lv v r := h.imp (fun ⟨d, k, h1, h2, h3, h4, h5, h6, h7⟩ => ⟨d, k, dp_pen PA b _ _ h1, h2, h3, h4, h5.tups (pen_tups PA b), h6, h7⟩) fun ⟨h1, h2⟩ => ⟨h1, h2.pen PA b⟩
theorem TpOk.pen {c : V × Bool} (PA : PenAt H p l n) (b : But p H H') (h : TpOk K H c) : TpOk K H' c := h.imp (fun ⟨e, q, ys, h1, h2⟩ => ⟨e, q, ys, h1, SqT.tups (pen_tups PA b) h2⟩) fun ⟨e, h⟩ => ⟨e, h.pen PA b⟩
theorem BadW.pen {v : V} (PA : PenAt H p l n) (b : But p H H') (h : BadW K H m first be v) : BadW K H' m first be v := by
  rcases h with ⟨a, ws, xs, e, h1, h2, h3, h4, h5, h6⟩ | h | ⟨a, bs, e, h1, h2, h3, h4⟩
  · exact .inl ⟨a, ws, xs, e, sql_pen PA b h1, Paired.mono (fun _ _ ⟨q, e, h⟩ => ⟨q, e, SqT.tups (pen_tups PA b) h⟩) h2, h3, h4, fun lv o c w hw x hx => (h5 lv o c w hw x hx).pen PA b, h6⟩
  · exact .inr (.inl h)
  · exact .inr (.inr ⟨a, bs, e, sql_pen PA b h1, h2, fun c hc => (h3 c hc).pen PA b, h4⟩)
mutual
theorem dpe_pen (PA : PenAt H p l n) (b : But p H H') : ∀ {v : V} {d : PyData}, DpE K H v d → DpE K H' v d
  | _, _, .plain h => .plain (dp_pen PA b _ _ h)
  | _, _, .dict h => .dict (b _ _ h (ld_pen PA (.inr h)))
  | _, _, .tup h hs => .tup (SqT.tups (pen_tups PA b) h) (dpes_pen PA b hs)
theorem dpes_pen (PA : PenAt H p l n) (b : But p H H') : ∀ {vs : List V} {ds : List PyData}, DpEs K H vs ds → DpEs K H' vs ds
  | _, _, .nil => .nil
  | _, _, .cons h hs => .cons (dpe_pen PA b h) (dpes_pen PA b hs)
end
theorem Shw.pen {v : V} {z : Str} (PA : PenAt H p l n) (b : But p H H') (h : Shw K H v z) : Shw K H' v z :=
  h.imp (fun ⟨d, h1, h2⟩ => ⟨d, dp_pen PA b _ _ h1, h2⟩) fun ⟨a, x, ys, ds, e, h1, h2, h3⟩ => ⟨a, x, ys, ds, e, sql_pen PA b h1, dpes_pen PA b h2, h3⟩
/-- what is no row of words, and can be shown -/
structure OddV (K : PySem.W.Frag) (H : Hp) (m : Mac) (first : List Sy) (be : Sy) (v : V) : Prop where
  bad : BadW K H m first be v
  shw : ∃ z, Shw K H v z
theorem OddV.pen {v : V} (h : OddV K H m first be v) (PA : PenAt H p l n) (b : But p H H') : OddV K H' m first be v := ⟨h.bad.pen PA b, let ⟨z, s⟩ := h.shw; ⟨z, s.pen PA b⟩⟩
/-! ### the odd ones -/
theorem shw_dp {v : V} {d : PyData} (h : Dp K H v d) (n : Ni 60 4000 d) : ∃ z, Shw K H v z := ⟨_, .inl ⟨d, h, n.sh, dp_has d v h, n.de, Nat.le_trans n.le (by rw [sizeLine_eq]; decide), rfl⟩⟩
theorem odd_non : OddV K H m first be .non := ⟨.inr (.inl (.inl rfl)), shw_dp .non ⟨rfl, by decide, by decide⟩⟩
theorem odd_int : OddV K H m first be (.int 5) := ⟨.inr (.inl (.inr (.inl ⟨_, rfl⟩))), shw_dp (.int 5) ⟨rfl, by decide, by decide +kernel⟩⟩
theorem odd_str : OddV K H m first be (.str "a") := ⟨.inr (.inl (.inr (.inr ⟨_, rfl⟩))), shw_dp (.str "a") ⟨by decide +kernel, by decide, by decide +kernel⟩⟩
theorem row_ni {row : List Sy} (o : ∀ s ∈ row, SyOk K H s) : ∀ d ∈ row.map (·.2), Ni 1 20 d := fun d hd => by
  obtain ⟨s, hs, rfl⟩ := List.mem_map.mp hd
  exact Ni.menu (o s hs).mem
theorem odd_lst {a b : Addr} {row : List Sy} (few : row.length ≤ 10) (o : ∀ s ∈ row, SyOk K H s) (hb : H b = some (.lst (row.map (·.1)))) (ha : SqL K H a [.ref b]) : OddV K H m first be (.ref a) := by
  refine ⟨.inr (.inr ⟨a, [(.ref b, false)], rfl, ha, (show 1 ≤ 20 by decide), fun c hc => ?_, rfl⟩), shw_dp (d := .list [.list (row.map (·.2))]) (.lst ha (.cons (.lst (SqL.of hb) (wd_dp o)) .nil)) ?_⟩
  · rw [List.mem_singleton.mp hc]
    exact .inr ⟨rfl, .inr ⟨b, rfl, .inl ⟨_, hb⟩⟩⟩
  · refine (Ni.list (a := 2) (b := 223) (n := 1) (fun d hd => ?_) (Nat.le_refl _)).mono (by decide) (by decide)
    rw [List.mem_singleton.mp hd]
    exact Ni.list (n := 10) (row_ni o) (by rw [List.length_map]; exact few)
theorem odd_wn {a q : Addr} {row : List Sy} (few : row.length ≤ 10) (o : ∀ s ∈ row, SyOk K H s) (hq : SqT K H q (row.map (·.1))) (ha : SqL K H a [.ref q, .non]) : OddV K H m first be (.ref a) := by
  refine ⟨.inr (.inr ⟨a, [(.ref q, true), (.non, false)], rfl, ha, (show 2 ≤ 20 by decide), fun c hc => ?_, rfl⟩), shw_dp (d := .list [.tuple (row.map (·.2)), .none]) (.lst ha (.cons (.tup hq (wd_dp o)) (.cons .non .nil))) ?_⟩
  · simp only [List.mem_cons, List.not_mem_nil, or_false] at hc
    rcases hc with rfl | rfl
    · exact .inl ⟨rfl, q, _, rfl, hq⟩
    · exact .inr ⟨rfl, .inl rfl⟩
  · refine (Ni.list (a := 2) (b := 223) (n := 2) (fun d hd => ?_) (Nat.le_refl _)).mono (by decide) (by decide)
    simp only [List.mem_cons, List.not_mem_nil, or_false] at hd
    rcases hd with rfl | rfl
    · exact Ni.tuple (n := 10) (row_ni o) (by rw [List.length_map]; exact few)
    · exact ⟨rfl, Nat.zero_le _, by decide⟩
theorem dpes_app : ∀ {vs us : List V} {ds es : List PyData}, DpEs K H vs ds → DpEs K H us es → DpEs K H (vs ++ us) (ds ++ es)
  | _, _, _, _, .nil, h => h
  | _, _, _, _, .cons h1 h2, h => .cons h1 (dpes_app h2 h)
theorem dpes_of : ∀ {vs : List V} {ds : List PyData}, DpAll K H vs ds → DpEs K H vs ds
  | [], [], _ => .nil
  | v :: vs, d :: ds, h => by
    cases h with
    | cons h1 h2 => exact .cons (.plain h1) (dpes_of h2)
  | [], _ :: _, h => by cases h
  | _ :: _, [], h => by cases h
/-- a bad letter -/
structure BadL (K : PySem.W.Frag) (H : Hp) (v : V) (dv : PyData) : Prop where
  lt : ∀ lv : List Sy, (∀ s ∈ lv, s.2 ∈ menuD) → LtOk K H lv v false
  dp : DpE K H v dv
  ni : Ni 2 50 dv
theorem bad_non : BadL K H .non .none := ⟨fun lv _ => .inr ⟨rfl, .inl rfl⟩, .plain .non, ⟨rfl, by decide, by decide⟩⟩
theorem menu_no : ∀ d ∈ menuD, kOf d ≠ kOf (.str "no letter") := by decide +kernel
theorem bad_str : BadL K H (.str "no letter") (.str "no letter") := by
  refine ⟨fun lv o => .inl ⟨.str "no letter", kOf (.str "no letter"), .str _, rfl, (fun z => nomatch z), (by decide +kernel), ⟨.str "no letter", .str _, rfl⟩, (by decide +kernel), ?_⟩, .plain (.str _), ⟨by decide +kernel, by decide, by decide +kernel⟩⟩
  rw [atK_none.mpr fun x hx => by
    obtain ⟨s, hs, rfl⟩ := List.mem_map.mp hx
    exact menu_no _ (o s hs)]
  rfl
theorem bad_lst {a : Addr} (h : H a = some (.lst [.str "a"])) : BadL K H (.ref a) (.list [.str "a"]) := ⟨fun lv _ => .inr ⟨rfl, .inr ⟨a, rfl, .inl ⟨_, h⟩⟩⟩, .plain (.lst (SqL.of h) (.cons (.str _) .nil)), ⟨by decide +kernel, by decide +kernel, by decide +kernel⟩⟩
theorem bad_dict {a : Addr} (h : H a = some (.dK [])) : BadL K H (.ref a) (.dict []) := ⟨fun lv _ => .inr ⟨rfl, .inr ⟨a, rfl, .inr h⟩⟩, .dict h, ⟨by decide +kernel, by decide +kernel, by decide +kernel⟩⟩
/-- words, the last of them with a bad letter at its end -/
theorem odd_of {ws0 : List (List Sy)} {xs0 : List V} {row : List Sy} {q a : Addr} {v : V} {dv : PyData} (hw0 : WordsS K H ws0 xs0) (l0 : ws0.length ≤ 1) (w0 : ∀ w ∈ ws0, w.length ≤ 10 ∧ ∀ s ∈ w, LtIn K H m first be s) (few : row.length ≤ 10) (hr : ∀ s ∈ row, LtIn K H m first be s)
    (hq : SqT K H q (row.map (·.1) ++ [v])) (bv : BadL K H v dv) (ha : SqL K H a (xs0 ++ [.ref q])) : OddV K H m first be (.ref a) := by
  have good : ∀ {w : List Sy}, (∀ s ∈ w, LtIn K H m first be s) → ∀ lv : List Sy, (∀ s ∈ lv, s.2 ∈ menuD ∧ s.2 ∈ m.ld) → Clo m first be (lv.map (·.2)) → ∀ c ∈ w.map (fun s => (s.1, true)), LtOk K H lv c.1 c.2 := fun h lv o cl c hc => by
    obtain ⟨s, hs, rfl⟩ := List.mem_map.mp hc
    obtain ⟨S, cs⟩ := cl.clos
    exact lt_good (h s hs).ok ((h s hs).re S _ cs)
  have e1 : ∀ w : List Sy, ((w.map fun s => (s.1, true)).map (·.1)) = w.map (·.1) := fun w => by rw [List.map_map]; rfl
  refine ⟨.inl ⟨a, ws0.map (fun w => w.map fun s => (s.1, true)) ++ [row.map (fun s => (s.1, true)) ++ [(v, false)]], xs0 ++ [.ref q], rfl, ha, ?_, ?_, ?_, ?_, ?_⟩, ?_⟩
  · refine paired_app (paired_mapL (fun w x ⟨z, e, h⟩ => ⟨z, e, by rw [e1]; exact h⟩) hw0) (.cons ⟨q, rfl, ?_⟩ .nil)
    rw [List.map_append, e1]
    exact hq
  · rw [List.length_append, List.length_map]
    show _ + 1 ≤ 20
    omega
  · intro w hw
    rcases List.mem_append.mp hw with hw | hw
    · obtain ⟨u, hu, rfl⟩ := List.mem_map.mp hw
      have := (w0 u hu).1
      rw [List.length_map]
      omega
    · rw [List.mem_singleton.mp hw, List.length_append, List.length_map]
      show _ + 1 ≤ 20
      omega
  · intro lv o cl w hw c hc
    rcases List.mem_append.mp hw with hw | hw
    · obtain ⟨u, hu, rfl⟩ := List.mem_map.mp hw
      exact good (w0 u hu).2 lv o cl c hc
    · rw [List.mem_singleton.mp hw] at hc
      rcases List.mem_append.mp hc with hc | hc
      · exact good hr lv o cl c hc
      · rw [List.mem_singleton.mp hc]
        exact bv.lt lv fun s hs => (o s hs).1
  · rw [List.all_append]
    simp
  · have d0 : DpEs K H xs0 (ws0.map wdD) ∧ ∀ d ∈ ws0.map wdD, Ni 4 700 d := by
      constructor
      · clear ha
        have h := hw0
        have k := w0
        clear hw0 w0 l0
        induction h with
        | nil => exact .nil
        | cons h1 h2 ih =>
          obtain ⟨z, rfl, hz⟩ := h1
          exact .cons (.plain (.tup hz (wd_dp fun s hs => ((k _ (List.mem_cons_self ..)).2 s hs).ok))) (ih fun w hw => k w (List.mem_cons_of_mem _ hw))
      · intro d hd
        obtain ⟨u, hu, rfl⟩ := List.mem_map.mp hd
        exact (Ni.tuple (n := 10) (row_ni fun s hs => ((w0 u hu).2 s hs).ok) (by rw [List.length_map]; exact (w0 u hu).1)).mono (by decide) (by decide)
    have d1 : DpEs K H (xs0 ++ [.ref q]) (ws0.map wdD ++ [.tuple (row.map (·.2) ++ [dv])]) := dpes_app d0.1 (.cons (.tup hq (dpes_app (dpes_of (wd_dp fun s hs => (hr s hs).ok)) (.cons bv.dp .nil))) .nil)
    have n1 : Ni 5 2000 (.list (ws0.map wdD ++ [.tuple (row.map (·.2) ++ [dv])])) := by
      refine (Ni.list (a := 4) (b := 700) (n := 2) (fun d hd => ?_) (by rw [List.length_append, List.length_map]; show _ + 1 ≤ 2; omega)).mono (by decide) (by decide)
      rcases List.mem_append.mp hd with hd | hd
      · exact d0.2 d hd
      · rw [List.mem_singleton.mp hd]
        refine (Ni.tuple (a := 2) (b := 50) (n := 11) (fun e he => ?_) (by rw [List.length_append, List.length_map]; show _ + 1 ≤ 11; omega)).mono (by decide) (by decide)
        rcases List.mem_append.mp he with he | he
        · exact (row_ni (fun s hs => (hr s hs).ok) e he).mono (by decide) (by decide)
        · rw [List.mem_singleton.mp he]
          exact bv.ni
    obtain ⟨x, ys, exy⟩ : ∃ x ys, xs0 ++ [V.ref q] = x :: ys := by
      cases xs0 with
      | nil => exact ⟨_, _, rfl⟩
      | cons x xs => exact ⟨_, _, rfl⟩
    rw [exy] at ha d1
    exact ⟨_, .inr ⟨a, x, ys, _, rfl, ha, d1, n1.sh, Nat.le_trans n1.de (by decide), Nat.le_trans n1.le (by rw [sizeLine_eq]; decide), rfl⟩⟩
end
end K15

set_option Elab.async false
set_option linter.all false
set_option maxRecDepth 100000
set_option maxHeartbeats 4000000
namespace K15
open PySem PySem.Spec PyProof.Rows L2 Pen Tr AK LamX RU
theorem passE0 {X : Cx} : Passes (L2.CX X.prog X.w) X E0 := fun _ _ _ _ _ _ _ h => by
  obtain ⟨a, B, H', cls, d, h⟩ := h
  exact h.2.2.2.2.2.2.2.elim
section
variable {K : PySem.W.Frag} {w : World} {H H' : Hp} {m : Mac} {first : List Sy} {be : Sy} {p l mc sw t CS : Addr} {n n' : Nat} {TT : List (Addr × Str)} {ls : List Sy}
theorem McE.at2 (M : McE K w H mc m first be) : McAt K w H mc m first be := by
  obtain ⟨fi, ds, dt, es, et, h1, h2, h3, h4⟩ := M.ex
  exact ⟨fi, ds, dt, h1, h2, h3.tabM⟩
theorem McE.at_ (M : McE K w H mc m first be) (e : ExtN H H') : McE K w H' mc m first be := by
  obtain ⟨fi, ds, dt, es, et, h1, h2, h3, h4⟩ := M.ex
  have tu := ExtN.tups e
  exact ⟨⟨fi, ds, dt, es, et, (e _ _ h1 fun _ z => nomatch z), SqT.tups tu h2, h3.keep tu (e _ _ h3.h1 fun _ z => nomatch z) (e _ _ h3.h2 fun _ z => nomatch z), h4⟩, M.mac.tups tu, fun s hs => ⟨(M.fs s hs).1.tups tu, (M.fs s hs).2⟩, M.f2, M.f9, M.be_.1.tups tu, M.be_.2⟩
theorem McAt.pen (o : McAt K w H mc m first be) (PA : PenAt H p l n) (b : But p H H') : McAt K w H' mc m first be := by
  obtain ⟨fi, ds, dt, h1, h2, h3⟩ := o.ex
  have tu := pen_tups PA b
  obtain ⟨cells, x, d, c, f, P, _⟩ := PA
  refine ⟨fi, ds, dt, b _ _ h1 (ne_of h1 P.di fun z => ?_), SqT.tups tu h2, h3.keep tu fun c es _ h => ?_⟩
  · unfold macK penK at z
    injection z with z
    injection z with z _
    have z := congrArg Prod.fst z
    injection z with z
    exact absurd z (by decide)
  · rcases h with h | ⟨u, h⟩
    · exact .inl (b _ _ h (ne_of h P.di fun z => nomatch z))
    · exact .inr ⟨u, b _ _ h (ne_of h P.di fun z => nomatch z)⟩
/-- what stands while a machine is tried -/
structure Fr (K : PySem.W.Frag) (w : World) (CS : Addr) (TT : List (Addr × Str)) (p l mc sw t : Addr) (m : Mac) (first : List Sy) (be : Sy) (ls : List Sy) (n : Nat) (H : Hp) : Prop where
  pen : PenAt H p l n
  mo : McAt K w H mc m first be
  mac : MacOk K H m
  fs : ∀ s ∈ first, SyOk K H s ∧ s.2 ∈ m.ld
  f1 : first ≠ []
  f9 : first.length ≤ 1000
  be_ : SyOk K H be ∧ be.2 ∈ m.sd false
  so : SwO K w CS H sw m first be
  t : SqT K H t (ls.map (·.1))
  lt : ∀ x ∈ ls, LtIn K H m first be x
  ne : ls ≠ []
  few : ls.length ≤ 60
  tabs : Tabs TT H
theorem Fr.go (F : Fr K w CS TT p l mc sw t m first be ls n H) (b : But p H H') (pen : PenAt H' p l n') : Fr K w CS TT p l mc sw t m first be ls n' H' := by
  have tu := pen_tups F.pen b
  exact ⟨pen, F.mo.pen F.pen b, F.mac.tups tu, fun s hs => ⟨(F.fs s hs).1.tups tu, (F.fs s hs).2⟩, F.f1, F.f9, ⟨F.be_.1.tups tu, F.be_.2⟩, F.so.pen F.pen b, SqT.tups tu F.t, fun x hx => (F.lt x hx).tups tu, F.ne, F.few, Tabs.pen F.tabs F.pen b⟩
theorem Fr.same (F : Fr K w CS TT p l mc sw t m first be ls n H) (s : Same H H') : Fr K w CS TT p l mc sw t m first be ls n H' := F.go (But.same s) (F.pen.keep s)
/-! ### what is made new -/
theorem mkL {R : V → Hp → Prop} {xs : List V} (few : xs.length ≤ 100) (h : ∀ a H', Same H H' → H' a = some (.lst xs) → H a = none → R (.ref a) H') : xs.length ≤ sizeLine ∧ ∀ a, H a = none → R (.ref a) (upd H a (.lst xs)) := ⟨by rw [sizeLine_eq]; omega, fun a na => h a _ (same_upd na) upd_same na⟩
theorem mkT {R : V → Hp → Prop} {xs : List V} (few : xs.length ≤ 100) (h : ∀ a H', Same H H' → SqT K H' a xs → R (.ref a) H') : xs.length ≤ sizeLine ∧ ∀ a, H a = none → R (.ref a) (upd H a (.tup xs)) := ⟨by rw [sizeLine_eq]; omega, fun a na => h a _ (same_upd na) (SqT.of upd_same)⟩
theorem mkCat {R : VK} {a b : Addr} {xs ys : List V} (ha : SqT K H a xs) (hb : SqT K H b ys) (ne : xs ≠ []) (ny : ys ≠ []) (few : xs.length + ys.length ≤ 100) (h : ∀ c H', Same H H' → SqT K H' c (xs ++ ys) → R (.ref c) H') : rCatT K (.ref a) (.ref b) H R :=
  ⟨a, b, xs, ys, rfl, rfl, ha, hb, ne, by rw [sizeLine_eq]; omega, fun z => absurd z ny, fun _ c nc => h c _ (same_upd nc) (SqT.of upd_same)⟩
theorem mkDk {R : V → Hp → Prop} (h : ∀ a H', Same H H' → H' a = some (.dK []) → R (.ref a) H') : ∀ a, H a = none → R (.ref a) (upd H a (.dK [])) := fun a na => h a _ (same_upd na) upd_same
theorem mkList {R : V → Hp → Prop} {xs : List V} (h : ∀ a H', Same H H' → H' a = some (.lst xs) → H a = none → R (.ref a) H') : ∀ a, H a = none → R (.ref a) (upd H a (.lst xs)) := fun a na => h a _ (same_upd na) upd_same na
end
end K15

set_option Elab.async false
set_option linter.all false
set_option maxRecDepth 100000
set_option maxHeartbeats 4000000
namespace K15
open PySem PySem.Spec PyProof.Rows L2 Pen Tr AK LamX RU
section
variable {K : PySem.W.Frag} {w : World} {H H' : Hp} {m : Mac} {first : List Sy} {be : Sy} {σ : L2.St} {i : Nat} {wa : Addr} {row : List Sy}
theorem lst_ {t : TA} {Q : VK} (h : t σ H fun xs H1 => xs.length ≤ sizeLine ∧ ∀ p, H1 p = none → Q (.ref p) (upd H1 p (.lst xs))) : tLst t σ H Q := h
theorem tc_ {te : TE} {ta : TA} {Q : List V → Hp → Prop} (h : te σ H fun x H1 => ta σ H1 fun xs H2 => Q (x :: xs) H2) : tCons te ta σ H Q := h
theorem tn_ {Q : List V → Hp → Prop} (h : Q [] H) : tNil σ H Q := h
theorem cst_ {v : V} {Q : VK} (h : Q v H) : tC v σ H Q := h
/-- a word that is one -/
structure Wd (K : PySem.W.Frag) (H : Hp) (m : Mac) (first : List Sy) (be : Sy) (wa : Addr) (row : List Sy) : Prop where
  at_ : SqT K H wa (row.map (·.1))
  lt : ∀ s ∈ row, LtIn K H m first be s
  l1 : 1 ≤ row.length
  l9 : row.length ≤ 10
theorem Wd.same (W : Wd K H m first be wa row) (s : Same H H') : Wd K H' m first be wa row := ⟨SqT.tups (same_tups s) W.at_, fun x hx => (W.lt x hx).tups (same_tups s), W.l1, W.l9⟩
theorem BadL.same {v : V} {dv : PyData} (b : BadL K H v dv) (s : Same H H') : BadL K H' v dv := ⟨fun lv o => (b.lt lv o).same s, dpe_same s b.dp, b.ni⟩
theorem one_l : ∀ n : Nat, n ≤ 100 → n ≤ sizeLine := fun n h => by
  rw [sizeLine_eq]
  omega
theorem te_lst {Q : VK} (hσ : σ[i]? = some (some (.ref wa))) (W : Wd K H m first be wa row) (k : ∀ a H', Same H H' → OddV K H' m first be (.ref a) → Q (.ref a) H') :
    tLst (tCons (tCB (fun xs H Q => ∃ p ys, xs = [.ref p] ∧ (SqL K H p ys ∨ SqT K H p ys) ∧ ∀ l, H l = none → Q (.ref l) (upd H l (.lst ys))) (tCons (tVar i) tNil)) tNil) σ H Q := by
  refine ⟨_, hσ, wa, _, rfl, .inr W.at_, fun b nb => ⟨one_l 1 (by decide), fun a na => ?_⟩⟩
  have s1 := same_upd (o := .lst (row.map (·.1))) nb
  have s2 := same_upd (o := .lst [.ref b]) na
  have W2 := W.same (same_trans s1 s2)
  exact k a _ (same_trans s1 s2) (odd_lst W.l9 (fun s hs => (W2.lt s hs).ok) (s2 _ _ upd_same) (SqL.of upd_same))
theorem te_wn {Q : VK} (hσ : σ[i]? = some (some (.ref wa))) (W : Wd K H m first be wa row) (k : ∀ a H', Same H H' → OddV K H' m first be (.ref a) → Q (.ref a) H') : tLst (tCons (tVar i) (tCons (tC .non) tNil)) σ H Q := by
  refine ⟨_, hσ, one_l 2 (by decide), fun a na => ?_⟩
  have s1 := same_upd (o := .lst [.ref wa, .non]) na
  have W2 := W.same s1
  exact k a _ s1 (odd_wn W.l9 (fun s hs => (W2.lt s hs).ok) W2.at_ (SqL.of upd_same))
theorem te_nl {Q : VK} (k : ∀ a H', Same H H' → OddV K H' m first be (.ref a) → Q (.ref a) H') : tLst (tCons (tTup (tCons (tC (.str "no letter")) tNil)) tNil) σ H Q := by
  refine ⟨one_l 1 (by decide), fun b nb => ⟨one_l 1 (by decide), fun a na => ?_⟩⟩
  have s1 := same_upd (o := .tup [.str "no letter"]) nb
  have s2 := same_upd (o := .lst [.ref b]) na
  exact k a _ (same_trans s1 s2) (odd_of (ws0 := []) (xs0 := []) (row := []) .nil (by decide) (fun _ h => nomatch h) (by decide) (fun _ h => nomatch h) (SqT.tups (same_tups s2) (SqT.of upd_same)) bad_str (SqL.of upd_same))
theorem te_cat {Q : VK} {tb : TE} (hσ : σ[i]? = some (some (.ref wa))) (W : Wd K H m first be wa row) (hb : ∀ R : VK, (∀ v dv H', Same H H' → BadL K H' v dv → R v H') → tb σ H R) (k : ∀ a H', Same H H' → OddV K H' m first be (.ref a) → Q (.ref a) H') :
    tLst (tCons (tOp (rCatT K) (tVar i) (tTup (tCons tb tNil))) tNil) σ H Q := by
  refine ⟨_, hσ, ?_⟩
  refine hb _ fun v dv H1 s1 bl => ⟨one_l 1 (by decide), fun t nt => ?_⟩
  have s2 := same_upd (o := .tup [v]) nt
  have W2 := W.same (same_trans s1 s2)
  refine mkCat W2.at_ (SqT.of upd_same) (fun z => ?_) (fun z => nomatch z) (by have := W.l9; rw [List.length_map]; show _ + 1 ≤ 100; omega) fun c H3 s3 hc => ⟨one_l 1 (by decide), fun a na => ?_⟩
  · have l1 := W.l1
    rw [List.map_eq_nil_iff.mp z] at l1
    exact absurd l1 (by decide)
  · have s4 := same_upd (o := .lst [.ref c]) na
    have s34 := same_trans s3 s4
    have W4 := W2.same s34
    exact k a _ (same_trans s1 (same_trans s2 s34)) (odd_of (ws0 := []) (xs0 := []) .nil (by decide) (fun _ h => nomatch h) W.l9 W4.lt (SqT.tups (same_tups s4) hc) (bl.same (same_trans s2 s34)) (SqL.of upd_same))
theorem te_catw {Q : VK} {tb : TE} (hσ : σ[i]? = some (some (.ref wa))) (W : Wd K H m first be wa row) (hb : ∀ R : VK, (∀ v dv H', Same H H' → BadL K H' v dv → R v H') → tb σ H R) (k : ∀ a H', Same H H' → OddV K H' m first be (.ref a) → Q (.ref a) H') :
    tLst (tCons (tVar i) (tCons (tOp (rCatT K) (tVar i) (tTup (tCons tb tNil))) tNil)) σ H Q := by
  refine ⟨_, hσ, _, hσ, ?_⟩
  refine hb _ fun v dv H1 s1 bl => ⟨one_l 1 (by decide), fun t nt => ?_⟩
  have s2 := same_upd (o := .tup [v]) nt
  have W2 := W.same (same_trans s1 s2)
  refine mkCat W2.at_ (SqT.of upd_same) (fun z => ?_) (fun z => nomatch z) (by have := W.l9; rw [List.length_map]; show _ + 1 ≤ 100; omega) fun c H3 s3 hc => ⟨one_l 2 (by decide), fun a na => ?_⟩
  · have l1 := W.l1
    rw [List.map_eq_nil_iff.mp z] at l1
    exact absurd l1 (by decide)
  · have s4 := same_upd (o := .lst [.ref wa, .ref c]) na
    have s34 := same_trans s3 s4
    have W4 := W2.same s34
    exact k a _ (same_trans s1 (same_trans s2 s34)) (odd_of (ws0 := [row]) (xs0 := [.ref wa]) (.cons ⟨wa, rfl, W4.at_⟩ .nil) (Nat.le_refl 1) (fun u hu => by rw [List.mem_singleton.mp hu]; exact ⟨W.l9, W4.lt⟩) W.l9 W4.lt (SqT.tups (same_tups s4) hc) (bl.same (same_trans s2 s34)) (SqL.of upd_same))
theorem be_non {R : VK} (h : ∀ v dv H', Same H H' → BadL K H' v dv → R v H') : tC .non σ H R := h _ _ H same_refl bad_non
theorem be_str {R : VK} (h : ∀ v dv H', Same H H' → BadL K H' v dv → R v H') : tC (.str "no letter") σ H R := h _ _ H same_refl bad_str
theorem be_lst {R : VK} (h : ∀ v dv H', Same H H' → BadL K H' v dv → R v H') : tLst (tCons (tC (.str "a")) tNil) σ H R := ⟨one_l 1 (by decide), fun a na => h _ _ _ (same_upd na) (bad_lst upd_same)⟩
theorem be_dict {R : VK} (h : ∀ v dv H', Same H H' → BadL K H' v dv → R v H') : tDNewK σ H R := fun a na => h _ _ _ (same_upd na) (bad_dict upd_same)
/-- the first eight -/
theorem te_eight {Q : VK} {a1 a2 : V} (hσ : σ[i]? = some (some (.ref wa))) (W : Wd K H m first be wa row) (b1 : ∀ H', OddV K H' m first be a1) (b2 : ∀ H', OddV K H' m first be a2) {p l : Addr} {n : Nat} (PA : PenAt H p l n)
    (k : ∀ a H' xs, Same H H' → H' a = some (.lst xs) → (∀ v ∈ xs, OddV K H' m first be v) → xs.length = 8 → Q (.ref a) H') :
    tLst (tCons (tC a1) (tCons (tC a2) (tCons (tLst (tCons (tCB (fun xs H Q => ∃ p ys, xs = [.ref p] ∧ (SqL K H p ys ∨ SqT K H p ys) ∧ ∀ l, H l = none → Q (.ref l) (upd H l (.lst ys))) (tCons (tVar i) tNil)) tNil))
      (tCons (tLst (tCons (tVar i) (tCons (tC .non) tNil))) (tCons (tLst (tCons (tOp (rCatT K) (tVar i) (tTup (tCons (tC .non) tNil))) tNil)) (tCons (tLst (tCons (tOp (rCatT K) (tVar i) (tTup (tCons (tC (.str "no letter")) tNil))) tNil))
      (tCons (tLst (tCons (tTup (tCons (tC (.str "no letter")) tNil)) tNil)) (tCons (tC (.int 5)) tNil)))))))) σ H Q := by
  refine lst_ (tc_ (cst_ (tc_ (cst_ (tc_ (te_lst hσ W fun c3 H3 s3 o3 => tc_ (te_wn hσ (W.same s3) fun c4 H4 s4 o4 => tc_ (te_cat hσ (W.same (same_trans s3 s4)) (fun R h => be_non h) fun c5 H5 s5 o5 =>
    tc_ (te_cat hσ (W.same (same_trans s3 (same_trans s4 s5))) (fun R h => be_str h) fun c6 H6 s6 o6 => tc_ (te_nl (K := K) (m := m) (first := first) (be := be) fun c7 H7 s7 o7 => tc_ (cst_ (tn_ ⟨one_l 8 (by decide), fun a na => ?_⟩))))))))))))
  have s8 := same_upd (o := .lst [a1, a2, .ref c3, .ref c4, .ref c5, .ref c6, .ref c7, .int 5]) na
  have t67 := same_trans s7 s8
  have t57 := same_trans s6 t67
  have t47 := same_trans s5 t57
  have t37 := same_trans s4 t47
  refine k a _ _ (same_trans s3 t37) upd_same (fun v hv => ?_) rfl
  have P3 := PA.keep s3
  have P4 := P3.keep s4
  have P5 := P4.keep s5
  have P6 := P5.keep s6
  have P7 := P6.keep s7
  simp only [List.mem_cons, List.not_mem_nil, or_false] at hv
  rcases hv with rfl | rfl | rfl | rfl | rfl | rfl | rfl | rfl
  · exact b1 _
  · exact b2 _
  · exact o3.pen P3 (But.same t37)
  · exact o4.pen P4 (But.same t47)
  · exact o5.pen P5 (But.same t57)
  · exact o6.pen P6 (But.same t67)
  · exact o7.pen P7 (But.same s8)
  · exact odd_int
/-- the last two -/
theorem te_two {Q : VK} (hσ : σ[i]? = some (some (.ref wa))) (W : Wd K H m first be wa row) {p l : Addr} {n : Nat} (PA : PenAt H p l n)
    (k : ∀ a H' xs, Same H H' → H' a = some (.lst xs) → (∀ v ∈ xs, OddV K H' m first be v) → xs.length = 2 → Q (.ref a) H') :
    tLst (tCons (tLst (tCons (tOp (rCatT K) (tVar i) (tTup (tCons (tLst (tCons (tC (.str "a")) tNil)) tNil))) tNil)) (tCons (tLst (tCons (tVar i) (tCons (tOp (rCatT K) (tVar i) (tTup (tCons tDNewK tNil))) tNil))) tNil)) σ H Q := by
  refine lst_ (tc_ (te_cat hσ W (fun R h => be_lst h) fun c3 H3 s3 o3 => tc_ (te_catw hσ (W.same s3) (fun R h => be_dict h) fun c4 H4 s4 o4 => tn_ ⟨one_l 2 (by decide), fun a na => ?_⟩)))
  have s8 := same_upd (o := .lst [.ref c3, .ref c4]) na
  refine k a _ _ (same_trans s3 (same_trans s4 s8)) upd_same (fun v hv => ?_) rfl
  have P3 := PA.keep s3
  have P4 := P3.keep s4
  simp only [List.mem_cons, List.not_mem_nil, or_false] at hv
  rcases hv with rfl | rfl
  · exact o3.pen P3 (But.same (same_trans s4 s8))
  · exact o4.pen P4 (But.same s8)
end
end K15

set_option Elab.async false
set_option linter.all false
set_option maxRecDepth 100000
set_option maxHeartbeats 4000000
namespace K15
open PySem PySem.Spec PyProof.Rows L2 Pen Tr AK LamX RU
section
variable {P : Program} {w : World} {K : PySem.W.Frag} {mg : Str → Option PySem.Value} {base : Heap} {f CS CB fN fD fP fM fA fL fW fF fG fR : Addr} {fd fdN fdD fdP fdM fdA fdL fdW fdF fdG fdR : FuncData} {TT : List (Addr × Str)}
theorem asg_cb {H : Hp} {r : List V → Hp → VK → Prop} {te : TE} {g : TG} {D : Ends} {σ : L2.St} (h : te σ H fun x H1 => r [x] H1 fun y H2 => g y σ H2 D.nx) : tAsg (tCB r (tCons te tNil)) g D σ H := h
theorem words_dp {H : Hp} {ws : List (List Sy)} {xs : List V} (h : WordsS K H ws xs) (o : ∀ w ∈ ws, ∀ s ∈ w, SyOk K H s) : DpAll K H xs (ws.map wdD) := by
  induction h with
  | nil => exact .nil
  | cons h1 h2 ih =>
    obtain ⟨z, rfl, hz⟩ := h1
    exact .cons (.tup hz (wd_dp (o _ (List.mem_cons_self ..)))) (ih fun w hw => o w (List.mem_cons_of_mem _ hw))
theorem words_shaped {H : Hp} {ws : List (List Sy)} (o : ∀ w ∈ ws, ∀ s ∈ w, SyOk K H s) : SeqAt.shaped (.list (ws.map wdD)) = true := shaped_list fun d hd => by
  obtain ⟨u, hu, rfl⟩ := List.mem_map.mp hd
  have h : ∀ d ∈ u.map (fun s : Sy => s.2), d.canLay0 = true ∧ d.depth ≤ 1 := fun d hd => by
    obtain ⟨s, hs, rfl⟩ := List.mem_map.mp hd
    obtain ⟨h1, h2, h3, h4, h5⟩ := menu_show _ (o u hu s hs).mem
    exact ⟨h5, h3⟩
  obtain ⟨h1, h2⟩ := lay_all h
  exact ⟨by simpa [wdD, PyData.canLay0] using h1, by simp only [wdD, PyData.depth]; omega⟩
theorem two_at {a b v : V} {k : Nat} (h : [a, b][k]? = some v) : v = a ∨ v = b := by
  have := List.mem_of_getElem? h
  simpa using this
theorem asg_ {H : Hp} {te : TE} {g : TG} {D : Ends} {σ : L2.St} (h : te σ H fun x H1 => g x σ H1 D.nx) : tAsg te g D σ H := h
theorem asg_op {H : Hp} {r : R2} {tb : TE} {g : TG} {D : Ends} {σ : L2.St} {i : Nat} {v : V} (hσ : σ[i]? = some (some v)) (h : tb σ H fun y H2 => r v y H2 fun z H3 => g z σ H3 D.nx) : tAsg (tOp r (tVar i) tb) g D σ H := ⟨v, hσ, h⟩
def spLaw (K : PySem.W.Frag) (T : List (Addr × Str)) : Sp := fun vs H Q _ => ∃ (a : Addr) (ns : List Int), vs = [.ref a] ∧ SqL K H a (ns.map V.int) ∧ ns.length ≤ 63 ∧ Tabs T H ∧ ∀ H', Q (.bl true) H'
abbrev nLaw : List Str := ["_law_script", "_law_pen_here", "_law_lap", "_law_machine", "_law_made", "_law_letters", "_law_turn", "_law_words", "_law_kept", "_law_told", "_law_word", "_law_odd", "_law_place"]
theorem scLaw : FnScope nLaw ["_law_script"] (defScope (top 42)) := ⟨rfl, rfl, rfl, by decide +kernel, rfl, by decide +kernel, by decide +kernel⟩
theorem ok_law (F : FnT K "law" 42 f fd) (TX : Txt mg) (FN : FnP K "_law_pen" sPen fN fdN) (gN : mg "_law_pen" = some (.ref fN)) (FD : FnP K "_law_draw" sDraw fD fdD) (gD : mg "_law_draw" = some (.ref fD)) (FP : FnP K "_law_pick" sPick fP fdP) (gP : mg "_law_pick" = some (.ref fP))
    (FM : FnP K "_law_sw_machine" (top 32) fM fdM) (gM : mg "_law_sw_machine" = some (.ref fM)) (GM : FnOk P w K mg base CX0 3 fM fdM ["_law_pen_here", "_law_most"] (spMc K w))
    (FA : FnP K "_law_sw_made" (top 33) fA fdA) (gA : mg "_law_sw_made" = some (.ref fA)) (GA : GFn P w K mg base CX0 8 fA fdA ["_law_machine"] (spMade K w CS TT))
    (FL : FnT K "_law_sw_letters" 36 fL fdL) (gL : mg "_law_sw_letters" = some (.ref fL)) (GL : GFn P w K mg base CX0 3 fL fdL ["_law_machine"] (spLet K w))
    (FW : FnT K "_law_sw_words" 40 fW fdW) (gW : mg "_law_sw_words" = some (.ref fW)) (GW : GFn P w K mg base CX0 4 fW fdW ["_law_pen_here", "_law_machine"] (spWds K w))
    (FF : FnT K "fed" 26 fF fdF) (gF : mg "fed" = some (.ref fF)) (GF : FnOk P w K mg base (L2.CX P w) 5 fF fdF ["sweeps", "words"] (spFed K w CS CB))
    (FG : FnT K "_law_sw_fed" 39 fG fdG) (gG : mg "_law_sw_fed" = some (.ref fG)) (GG : FnOk P w K mg base CX0 2 fG fdG ["_law_machine", "_law_words"] (spFf K w))
    (FR : FnT K "_law_refused" 41 fR fdR) (gR : mg "_law_refused" = some (.ref fR)) (GR : GFn P w K mg base CX0 6 fR fdR ["_law_made", "_law_words"] (spRef K w CS)) : GFn P w K mg base CX0 9 f fd ["_law_script"] (spLaw K TT) := by
  refine GFn.of F scLaw (fun vs H Q E h => by obtain ⟨a, ns, rfl, _⟩ := h; rfl) (fun c A outer s0 H vs Q E hc hr free h => ?_)
  obtain ⟨sa, ns, rfl, hS, hlen, tabs, q⟩ := h
  have nd := scLaw.nd
  have hu := hr.units
  have GN := ok_pen (P := P) (w := w) (mg := mg) (base := base) FN TX
  have GP : FnOk P w K mg base CX0 2 fP fdP ["_law_pen_here", "_law_some"] (spPk2 K) := ok_pk2 FP TX FD gD
  have bN : L2.Binds K fdN ["_law_script"] [] := FN.bindsN fun _ _ _ _ _ _ us hl => match us, hl with | [_], _ => rfl
  have bP : L2.Binds K fdP ["_law_pen_here", "_law_some"] [] := FP.bindsN fun _ _ _ _ _ _ us hl => match us, hl with | [_, _], _ => rfl
  have bM : L2.Binds K fdM ["_law_pen_here", "_law_most"] [] := FM.bindsN fun _ _ _ _ _ _ us hl => match us, hl with | [_, _], _ => rfl
  have bA : L2.Binds K fdA ["_law_machine"] [] := FA.bindsN fun _ _ _ _ _ _ us hl => match us, hl with | [_], _ => rfl
  have bL : L2.Binds K fdL ["_law_machine"] [] := FunD.bindsN FL fun _ _ _ _ _ _ us hl => match us, hl with | [_], _ => rfl
  have bW : L2.Binds K fdW ["_law_pen_here", "_law_machine"] [] := FunD.bindsN FW fun _ _ _ _ _ _ us hl => match us, hl with | [_, _], _ => rfl
  have bF : L2.Binds K fdF ["sweeps", "words"] [] := FunD.bindsN FF fun _ _ _ _ _ _ us hl => match us, hl with | [_, _], _ => rfl
  have bG : L2.Binds K fdG ["_law_machine", "_law_words"] [] := FunD.bindsN FG fun _ _ _ _ _ _ us hl => match us, hl with | [_, _], _ => rfl
  have bR : L2.Binds K fdR ["_law_made", "_law_words"] [] := FunD.bindsN FR fun _ _ _ _ _ _ us hl => match us, hl with | [_, _], _ => rfl
  suffices z : ∃ t, PSs (cxOf CX0 P w K mg base nLaw "law" (defScope (top 42)) f (.ref c) A outer s0 H E).nox (defBody (top 42)) t ∧ t { nx := fun _ H' => Q .non H', rt := Q } (start nLaw [.ref sa]) H by
    obtain ⟨t, h1, h2⟩ := z
    exact ⟨t, h1.nox, h2⟩
  refine ⟨_, pss_cons (ps_asg (pe_call GN (hr.mono (by decide)) (by rfl) gN FN.kp bN .nil pass0 (pa_cons (pv 0) pa_nil)) (pg_name (i := 1) nd rfl (.inr rfl)))
    (pss_cons (ps_for PassesOwn.never rfl (pi_range1 (by rfl) TX.range (pa_cons pe_int pa_nil)) (pg_name (i := 2) nd rfl (.inl rfl))
      (pss_cons (ps_asg (pe_call GM (hr.mono (by decide)) (by rfl) gM FM.kp bM .nil pass0 (pa_cons (pv 1) (pa_cons pe_int pa_nil))) (pg_name (i := 3) nd rfl (.inl rfl)))
      (pss_cons (ps_asg (pe_tup (pa_cons (pe_callG GA free hr (by rfl) gA FA.kp bA pass0 (pa_cons (pv 3) pa_nil)) (pa_cons (pe_callG GL free (hr.mono (by decide)) (by rfl) gL FL.kp bL pass0 (pa_cons (pv 3) pa_nil)) pa_nil))) (pg_tup (by rfl) (pgs_cons (pg_name (i := 4) nd rfl (.inl rfl)) (pgs_cons (pg_name (i := 5) nd rfl (.inr rfl)) pgs_nil))))
      (C8.pss_cut (ps_for PassesOwn.never rfl (pi_range1 (by rfl) TX.range (pa_cons pe_int pa_nil)) (pg_name (i := 6) nd rfl (.inl rfl))
        (pss_cons (ps_asg (pe_callG GW free (hr.mono (by decide)) (by rfl) gW FW.kp bW pass0 (pa_cons (pv 1) (pa_cons (pv 3) pa_nil))) (pg_name (i := 7) nd rfl (.inl rfl)))
        (pss_cons (ps_asg (pe_callTy call_list_of (by rfl) TX.list (by decide +kernel) (pa_cons (pv 7) pa_nil)) (pg_name (i := 8) nd rfl (.inl rfl)))
        (pss_cons (ps_asg (pe_call GF (hr.mono (by decide)) (by rfl) gF FF.kp bF .nil passE0 (pa_cons (pv 4) (pa_cons (pe_call GP (hr.mono (by decide)) (by rfl) gP FP.kp bP .nil pass0 (pa_cons (pv 1) (pa_cons (pe_lst (pa_cons (pv 7) (pa_cons (pe_callTy call_tupR (by rfl) TX.tuple (by decide +kernel) (pa_cons (pv 7) pa_nil)) pa_nil))) pa_nil))) pa_nil))) (pg_name (i := 9) nd rfl (.inl rfl)))
        (pss_one (ps_if (PW.pt (pw_or (pt_cmpR op_ne (pe_callB (call_showV free hu) (by rfl) TX.repr (by decide +kernel) (pa_cons (pv 9) pa_nil)) (pe_callB (call_showV free hu) (by rfl) TX.repr (by decide +kernel) (pa_cons (pe_call GG (hr.mono (by decide)) (by rfl) gG FG.kp bG .nil pass0 (pa_cons (pv 3) (pa_cons (pv 7) pa_nil))) pa_nil)) (nomark _))
          (pw_or1 (pt_cmpR (op_neD hu) (pv 7) (pv 8) (nomark _))))) (pss_one (ps_ret pe_bl)) pss_nil))))))
      (C8.pss_cut (ps_asg (pe_callTy call_tupR (by rfl) TX.tuple (by decide +kernel) (pa_cons (pe_lc (own := [("_law_place", 12)]) (g := gName 12) (tt := tYes) (te := tCall (spPk2 K) [] E0 (tCons (tVar 1) (tCons (tVar 5) tNil))) (by rfl) nd
          (pi_range1 (by rfl) TX.range (pa_cons pe_int pa_nil)) (blkOk_by (own := [("_law_place", 12)]) (N := nLaw) (sc := defScope (top 42)) (by decide +kernel))
          (fun _ _ _ _ _ => pg_name (i := 12) nd rfl (Or.inl rfl)) (fun _ _ _ _ _ => pts_nil) (fun _ _ _ _ _ => pe_call GP (hr.mono (by decide)) (by rfl) gP FP.kp bP .nil pass0 (pa_cons (pv 1) (pa_cons (pv 5) pa_nil)))) pa_nil)) (pg_name (i := 10) nd rfl (.inl rfl)))
      (C8.pss_cut (ps_asg (pe_lst (pa_cons pe_non (pa_cons pe_str (pa_cons (pe_lst (pa_cons (pe_callTy call_list_of (by rfl) TX.list (by decide +kernel) (pa_cons (pv 10) pa_nil)) pa_nil)) (pa_cons (pe_lst (pa_cons (pv 10) (pa_cons pe_non pa_nil)))
          (pa_cons (pe_lst (pa_cons (pe_op op_catT (pv 10) (pe_tup (pa_cons pe_non pa_nil))) pa_nil)) (pa_cons (pe_lst (pa_cons (pe_op op_catT (pv 10) (pe_tup (pa_cons pe_str pa_nil))) pa_nil)) (pa_cons (pe_lst (pa_cons (pe_tup (pa_cons pe_str pa_nil)) pa_nil)) (pa_cons pe_int pa_nil))))))))) (pg_name (i := 11) nd rfl (.inl rfl)))
      (C8.pss_cut (ps_asg (pe_op op_cat (pv 11) (pe_lst (pa_cons (pe_lst (pa_cons (pe_op op_catT (pv 10) (pe_tup (pa_cons (pe_lst (pa_cons pe_str pa_nil)) pa_nil))) pa_nil)) (pa_cons (pe_lst (pa_cons (pv 10) (pa_cons (pe_op op_catT (pv 10) (pe_tup (pa_cons pe_dnewK pa_nil))) pa_nil))) pa_nil)))) (pg_name (i := 11) nd rfl (.inl rfl)))
      (pss_one (ps_if (pt_not (pt_val (pe_callG GR free (hr.mono (by decide)) (by rfl) gR FR.kp bR pass0 (pa_cons (pv 4) (pa_cons (pe_call GP (hr.mono (by decide)) (by rfl) gP FP.kp bP .nil pass0 (pa_cons (pv 1) (pa_cons (pv 11) pa_nil))) pa_nil))))) (pss_one (ps_ret pe_bl)) pss_nil)))))))))
    (pss_one (ps_ret pe_bl))), ?_⟩
  clear bN bP bM bA bL bW bF bG bR
  refine ⟨_, rfl, sa, ns, rfl, hS, hlen, fun p pl H1 PA1 s1 hp0 => ?_⟩
  refine ⟨4, rfl, by decide, by decide, ?_⟩
  refine for_it (walk_range (lo := 0) (n := 4)) (fun j σ H' => (∃ o2 o3 o4 o5 o6 o7 o8 o9 o10 o11, σ = [some (.ref sa), some (.ref p), o2, o3, o4, o5, o6, o7, o8, o9, o10, o11, none]) ∧ PenAt H' p pl (1000 * j) ∧ Tabs TT H') ?_ (fun _ _ _ _ _ => trivial) ?_ ?_
  · exact ⟨⟨_, _, _, _, _, _, _, _, _, _, rfl⟩, PA1, tabs.ext s1⟩
  · rintro j y σ H3 H2 hj ⟨⟨o2, o3, o4, o5, o6, o7, o8, o9, o10, o11, rfl⟩, PA2, t2⟩ ⟨rfl, rfl⟩
    refine ⟨_, rfl, p, pl, 1000 * j, 4, rfl, PA2, by omega, by decide, by decide, fun mc m first be H4 PA4 b4 M4 => ?_⟩
    have t4 := Tabs.pen t2 PA2 b4
    refine ⟨_, rfl, mc, m, first, be, rfl, M4, t4, fun sw H5 e5 t5 so5 => ?_⟩
    have M5 := M4.at_ e5
    have PA5 := Tr.PenAt.extN PA4 e5
    clear M4 PA4 b4 e5 t4 PA2 t2
    refine ⟨_, rfl, mc, m, first, be, rfl, M5.at2, M5.mac, M5.be_, M5.fs, (fun z => by have := M5.f2; rw [z] at this; exact absurd this (by decide)), Nat.le_trans M5.f9 (by decide), fun t H6 ls s6 ht lt ne few => ?_⟩
    refine ⟨(by show 2 ≤ sizeLine; rw [sizeLine_eq]; decide), fun pq npq => ?_⟩
    have s7 := same_upd (o := .tup [.ref sw, .ref t]) npq
    have hpq : SqT K (upd H6 pq (.tup [.ref sw, .ref t])) pq [.ref sw, .ref t] := SqT.of upd_same
    change H6 pq = none at npq
    generalize upd H6 pq (.tup [.ref sw, .ref t]) = H7 at s7 hpq ⊢
    refine ⟨pq, _, rfl, hpq, rfl, _, _, rfl, _, _, rfl, rfl, ?_⟩
    have tu6 := same_tups s6
    have F6 : Fr K w CS TT p pl mc sw t m first be ls (1000 * j + 300) H6 := ⟨PA5.keep s6, M5.at2.same s6, M5.mac.tups tu6, fun s hs => ⟨(M5.fs s hs).1.tups tu6, (M5.fs s hs).2⟩, (fun z => by have := M5.f2; rw [z] at this; exact absurd this (by decide)), Nat.le_trans M5.f9 (by decide), ⟨M5.be_.1.tups tu6, M5.be_.2⟩, so5.same s6, ht, lt, ne, few, Tabs.ext t5 s6⟩
    have F7 := F6.same s7
    clear F6 tu6 M5 PA5 so5 t5 ht lt hpq s6 s7
    refine ⟨fun σ H' => (∃ o6 o7 o8 o9, σ = [some (.ref sa), some (.ref p), some (.int (0 + (j : Int))), some (.ref mc), some (.ref sw), some (.ref t), o6, o7, o8, o9, o10, o11, none]) ∧ Fr K w CS TT p pl mc sw t m first be ls (1000 * j + 300 + 101 * 4) H', ?_, ?_⟩
    · refine ⟨4, rfl, by decide, by decide, ?_⟩
      refine for_it (walk_range (lo := 0) (n := 4)) (fun i σ H' => (∃ o6 o7 o8 o9, σ = [some (.ref sa), some (.ref p), some (.int (0 + (j : Int))), some (.ref mc), some (.ref sw), some (.ref t), o6, o7, o8, o9, o10, o11, none]) ∧ Fr K w CS TT p pl mc sw t m first be ls (1000 * j + 300 + 101 * i) H') ⟨⟨_, _, _, _, rfl⟩, F7⟩ (fun _ _ _ _ _ => trivial) ?_ fun σ H' h => h
      rintro i y σ H9 H8 hi ⟨⟨q6, q7, q8, q9, rfl⟩, F8⟩ ⟨rfl, rfl⟩
      refine ⟨_, rfl, _, rfl, p, pl, _, mc, m, first, be, rfl, F8.pen, by omega, F8.mo, F8.mac, F8.be_, F8.fs, F8.f1, F8.f9, fun D H9 ws xs b9 PA9 _ nDp hD hw wl w10 wlt => ?_⟩
      have F9 := F8.go b9 PA9
      clear F8 b9 PA9
      refine ⟨_, rfl, D, xs, rfl, .inl (SqL.of hD), fun L nL => ?_⟩
      have s10 := same_upd (o := .lst xs) nL
      have hL := upd_same (H := H9) (a := L) (o := .lst xs)
      generalize upd H9 L (.lst xs) = H10 at s10 hL ⊢
      refine ⟨_, rfl, _, rfl, _, rfl, _, rfl, D, xs, rfl, .inl (SqL.of (s10 _ _ hD)), fun t1 H11 s11 ht1 => ?_⟩
      refine ⟨(by show 2 ≤ sizeLine; rw [sizeLine_eq]; decide), fun L2 nL2 => ?_⟩
      have s12 := same_upd (o := .lst [.ref D, .ref t1]) nL2
      have hL2 := upd_same (H := H11) (a := L2) (o := .lst [.ref D, .ref t1])
      change H11 L2 = none at nL2
      generalize upd H11 L2 (.lst [.ref D, .ref t1]) = H12 at s12 hL2 ⊢
      have s9 := same_trans s10 (same_trans s11 s12)
      have F12 := F9.same s9
      have ht12 := SqT.tups (same_tups s12) ht1
      refine .inl ⟨p, pl, L2, _, [.ref D, .ref t1], rfl, F12.pen, by omega, SqL.of hL2, (fun z => nomatch z), (by show 2 < 1073741824; decide), pen_ne F12.pen hL2, fun k v H13 hv PA13 b13 => ?_⟩
      have F13 := F12.go b13 PA13
      have tu13 : Tups H9 H13 := Tups.trans (same_tups s9) (pen_tups F12.pen b13)
      have hD13 := b13 _ _ (s9 _ _ hD) nDp
      have hL13 := b13 _ _ (s12 _ _ (s11 _ _ hL)) (pen_ne F12.pen (s12 _ _ (s11 _ _ hL)))
      have ht13 := SqT.tups (pen_tups F12.pen b13) ht12
      obtain ⟨a, rfl, ha⟩ : ∃ a, v = .ref a ∧ (SqL K H13 a xs ∨ SqT K H13 a xs) := by
        rcases two_at hv with rfl | rfl
        · exact ⟨D, rfl, .inl (SqL.of hD13)⟩
        · exact ⟨t1, rfl, .inr ht13⟩
      have hw13 : WordsS K H13 ws xs := Paired.mono (fun _ _ ⟨z, e, h⟩ => ⟨z, e, SqT.tups tu13 h⟩) hw
      have wl13 : ∀ w ∈ ws, ∀ x ∈ w, LtIn K H13 m first be x := fun w hw x hx => (wlt w hw x hx).tups tu13
      have lo13 : ∀ w ∈ ws, ∀ x ∈ w, SyOk K H13 x ∧ x.2 ∈ m.ld := fun w hw x hx => ⟨(wl13 w hw x hx).ok, (wl13 w hw x hx).ld⟩
      have fni := fed_ni F13.mac F13.be_ lo13 w10 wl
      clear F9 F12 b13 PA13 s9 s10 s11 s12 hv ht13 ht12 ht1 hL2 hL hD tu13 wlt hw
      refine .inl ⟨sw, m, first, be, a, ws, xs, rfl, F13.so, F13.mac, F13.be_, ha, hw13, by omega, (fun w hw => Nat.le_trans (w10 w hw) (by decide)), lo13, (fun L2 cl w hw x hx => by
        obtain ⟨S, cs⟩ := cl.clos
        exact (wl13 w hw x hx).re S _ cs), fun pf H14 s14 hpf => ?_⟩
      have F14 := F13.same s14
      have hw14 : WordsS K H14 ws xs := Paired.mono (fun _ _ ⟨z, e, h⟩ => ⟨z, e, SqT.tups (same_tups s14) h⟩) hw13
      have lo14 : ∀ w ∈ ws, ∀ x ∈ w, SyOk K H14 x ∧ x.2 ∈ m.ld := fun w hw x hx => ⟨(lo13 w hw x hx).1.tups (same_tups s14), (lo13 w hw x hx).2⟩
      refine ⟨_, rfl, .ref pf, _, rfl, hpf, fni.sh, dp_has _ _ hpf, Nat.le_trans fni.de (by decide), Nat.le_trans fni.le (by rw [sizeLine_eq]; decide), ?_⟩
      refine ⟨_, rfl, _, rfl, mc, m, first, be, D, ws, xs, rfl, F14.mo, F14.mac, F14.be_, SqL.of (s14 _ _ hD13), hw14, by omega, (fun w hw => Nat.le_trans (w10 w hw) (by decide)), lo14, fun pg H15 s15 hpg sym => ?_⟩
      refine ⟨.ref pg, _, rfl, hpg, fni.sh, dp_has _ _ hpg, Nat.le_trans fni.de (by decide), Nat.le_trans fni.le (by rw [sizeLine_eq]; decide), rfl, _, rfl, ?_⟩
      rw [decide_eq_true rfl]
      refine iteF ?_
      have F15 := F14.same s15
      have hw15 : WordsS K H15 ws xs := Paired.mono (fun _ _ ⟨z, e, h⟩ => ⟨z, e, SqT.tups (same_tups s15) h⟩) hw14
      have lo15 : ∀ w ∈ ws, ∀ x ∈ w, SyOk K H15 x := fun w hw x hx => (lo14 w hw x hx).1.tups (same_tups s15)
      have sh := words_shaped lo15
      refine ⟨_, rfl, _, rfl, .list (ws.map wdD), .list (ws.map wdD), .lst (SqL.of (s15 _ _ (s14 _ _ hD13))) (words_dp hw15 lo15), .lst (SqL.of (s15 _ _ (s14 _ _ hL13))) (words_dp hw15 lo15), sh, sh, _, rfl, ?_⟩
      rw [SeqAt.eqv_refl _ (SeqAt.canLay_of_shaped sh)]
      exact iteF ⟨⟨_, _, _, _, rfl⟩, F15.go But.refl (F15.pen.mono (by omega))⟩
    · rintro σ H8 ⟨⟨q6, q7, q8, q9, rfl⟩, F8⟩
      refine ⟨fun σ H' => ∃ wa row, σ = [some (.ref sa), some (.ref p), some (.int (0 + (j : Int))), some (.ref mc), some (.ref sw), some (.ref t), q6, q7, q8, q9, some (.ref wa), o11, none] ∧ Fr K w CS TT p pl mc sw t m first be ls (1000 * j + 300 + 101 * 4 + 10) H' ∧ Wd K H' m first be wa row, ?_, ?_⟩
      · refine asg_cb ?_
        refine word_lc (p := p) (l := pl) (la := t) (c := 1000 * j + 300 + 101 * 4) (d := 0) (lo := 2) (ls := ls) rfl F8.pen (by omega) F8.t F8.ne F8.few (fun _ => rfl) (fun _ => rfl) (fun _ => rfl) (fun R h => h 2 H8 (by decide) (by decide) F8.pen But.refl) fun L H9 row sub r2 r9 PA9 b9 nLp hL => ?_
        refine ⟨L, _, rfl, .inl (SqL.of hL), fun wa HA sA hwa => ?_⟩
        have FA := (F8.go b9 PA9).same sA
        exact ⟨wa, row, rfl, FA.go But.refl (FA.pen.mono (by omega)), hwa, fun s hs => FA.lt s (sub s hs), by omega, r9⟩
      · rintro σ H9 ⟨wa, row, rfl, F9, W9⟩
        refine ⟨fun σ H' => ∃ O xs, σ = [some (.ref sa), some (.ref p), some (.int (0 + (j : Int))), some (.ref mc), some (.ref sw), some (.ref t), q6, q7, q8, q9, some (.ref wa), some (.ref O), none] ∧ Same H9 H' ∧ H' O = some (.lst xs) ∧ (∀ v ∈ xs, OddV K H' m first be v) ∧ xs.length = 8, ?_, ?_⟩
        · exact asg_ (te_eight (i := 10) (wa := wa) rfl W9 (fun _ => odd_non) (fun _ => odd_str) F9.pen fun O HA xs sA hO ok len => ⟨O, xs, rfl, sA, hO, ok, len⟩)
        · rintro σ HA ⟨O, xs, rfl, sA, hO, ok, len⟩
          refine ⟨fun σ H' => ∃ O xs, σ = [some (.ref sa), some (.ref p), some (.int (0 + (j : Int))), some (.ref mc), some (.ref sw), some (.ref t), q6, q7, q8, q9, some (.ref wa), some (.ref O), none] ∧ Same H9 H' ∧ H' O = some (.lst xs) ∧ (∀ v ∈ xs, OddV K H' m first be v) ∧ xs.length = 10, ?_, ?_⟩
          · refine asg_op (i := 11) rfl (te_two (i := 10) (wa := wa) rfl (W9.same sA) (F9.pen.keep sA) fun O2 HB xs2 sB hO2 ok2 len2 => ?_)
            refine ⟨O, O2, xs, xs2, rfl, rfl, sB _ _ hO, hO2, one_l _ (by omega), fun O3 n3 => ?_⟩
            have s3 := same_upd (o := .lst (xs ++ xs2)) n3
            refine ⟨O3, _, rfl, same_trans sA (same_trans sB s3), upd_same, fun v hv => ?_, by rw [List.length_append, len, len2]⟩
            rcases List.mem_append.mp hv with hv | hv
            · exact (ok v hv).pen (F9.pen.keep sA) (But.same (same_trans sB s3))
            · exact (ok2 v hv).pen ((F9.pen.keep sA).keep sB) (But.same s3)
          · rintro σ HB ⟨O, xs, rfl, sB, hO, ok, len⟩
            have FB := F9.same sB
            refine ⟨_, rfl, _, rfl, _, rfl, .inl ⟨p, pl, O, _, xs, rfl, FB.pen, by omega, SqL.of hO, (fun z => by rw [z] at len; exact absurd len (by decide)), by omega, pen_ne FB.pen hO, fun k v HC hv PAC bC => ?_⟩⟩
            have FC := FB.go bC PAC
            have od := (ok v (List.mem_of_getElem? hv)).pen FB.pen bC
            obtain ⟨z, shw⟩ := od.shw
            refine ⟨sw, m, first, be, v, z, rfl, FC.so, FC.mac, od.bad, shw, fun HD sD => ⟨true, rfl, ?_⟩⟩
            have FD2 := FC.same sD
            exact iteF ⟨⟨_, _, _, _, _, _, _, _, _, _, rfl⟩, FD2.pen.mono (by omega), FD2.tabs⟩
  · rintro σ H2 ⟨_, _, _⟩
    exact q _
end
end K15

set_option Elab.async false
set_option linter.all false
set_option maxRecDepth 100000
set_option maxHeartbeats 0
namespace K15
open PySem PySem.Spec PyProof.Rows L2 Pen Tr AK LamX RU
section
variable {P : Program} {w : World} {K : PySem.W.Frag} {h : Heap} {mg : Str → Option PySem.Value} {base : Heap} {f : Addr}
theorem ex_xc (q : ex K = true) : ∀ C ∈ cs K, Xc K C := fun C hC => xcAll_ok (List.all_eq_true.mp (Bool.and_eq_true_iff.mp q).1 C hC)
theorem ex_emd (q : ex K = true) : ∀ C ∈ cs K, ∀ D ∈ cs K, PySem.W.exmOne K (.ref C) (.ref D) = some (C == D) := fun C hC D hD => of_decide_eq_true (List.all_eq_true.mp (List.all_eq_true.mp (Bool.and_eq_true_iff.mp (Bool.and_eq_true_iff.mp q).2).1 C hC) D hD)
theorem ex_em (q : ex K = true) : ∀ C ∈ cs K, PySem.W.exmOne K (.ref C) (.ref C) = some true := fun C hC => by
  rw [ex_emd q C hC C hC, beq_self_eq_true]
theorem ex_no (q : ex K = true) : ∀ C ∈ cs K, ∀ y ∈ flds, PySem.W.findIn K (.ref C) y = some none := fun C hC y hy =>
  of_decide_eq_true (List.all_eq_true.mp (List.all_eq_true.mp (Bool.and_eq_true_iff.mp (Bool.and_eq_true_iff.mp (Bool.and_eq_true_iff.mp q).2).2).1 C hC) y hy)
theorem ex_rest (q : ex K = true) : AK.datB K 20 (.ref (He.ga K "DIRECTIONS")) dDirs = true ∧ strAt K (He.ga K "OTHER_DIRECTION") "l" "r" = true ∧ strAt K (He.ga K "OTHER_DIRECTION") "r" "l" = true := by
  obtain ⟨r1, r2⟩ := Bool.and_eq_true_iff.mp (Bool.and_eq_true_iff.mp (Bool.and_eq_true_iff.mp (Bool.and_eq_true_iff.mp q).2).2).2
  obtain ⟨r3, r4⟩ := Bool.and_eq_true_iff.mp r2
  exact ⟨r1, r3, r4⟩
theorem dat_at {a : Addr} {d : PyData} (q : AK.datB K 20 (.ref a) d = true) : ∀ H, Dp K H (.ref a) d := by
  obtain ⟨x, r, z⟩ := datB_ok _ _ _ q
  have e : x = .ref a := by
    cases x with
    | ref b => cases r; rfl
    | int i => obtain ⟨t, z⟩ := r; cases z
    | str i => obtain ⟨t, z⟩ := r; cases z
    | byt i => obtain ⟨t, z⟩ := r; cases z
    | flt i => obtain ⟨t, z⟩ := r; cases z
    | _ => cases r
  rw [e] at z
  exact z
theorem dirs_sq {a : Addr} (z : ∀ H, Dp K H (.ref a) dDirs) : ∀ H, SqT K H a [.str "l", .str "r"] := fun H => by
  cases z H with
  | tup hs ha =>
    cases ha with
    | cons h1 h2 =>
      cases h2 with
      | cons h3 h4 =>
        cases h4
        cases h1
        cases h3
        exact hs
theorem kd_of {a : Addr} {x y : Str} (k : He.dicW K a = some (He.keysIn w.params ["l", "r"])) (z : strAt K a x y = true) : KDct K w a x (.str y) := by
  obtain ⟨es, n, kd⟩ := He.dicW_ok k
  unfold strAt at z
  split at z
  · rename_i s t e
    obtain rfl := of_decide_eq_true z
    exact ⟨es, n, _, kd.1, kd.2, e, _, rfl⟩
  · cases z
theorem in_cs {x : Str} (hx : x ∈ errs) : He.ga K x ∈ cs K := List.mem_map.mpr ⟨x, hx, rfl⟩
theorem er_of {x : Str} {fs : List Str} {fd : FuncData} (hx : x ∈ errs) (hf : ∀ y ∈ fs, y ∈ flds) (q : ex K = true) (m : mg x = some (.ref (He.ga K x))) (M : Meth K (He.ga K x) "__init__" (He.ma K (He.ga K x) "__init__"))
    (G : FnOk P w K mg base CX0 1 (He.ma K (He.ga K x) "__init__") fd ("self" :: fs) (spI (He.ga K x) fs)) (b : L2.Binds K fd ("self" :: fs) []) : Er P w K mg base x (He.ga K x) fs :=
  ⟨ex_xc q _ (in_cs hx), fun y hy => ex_no q _ (in_cs hx) y (hf y hy), m, ⟨_, fd, M.at_, beq_iff_eq.mp M.fn, G, b⟩⟩
theorem ct_of {x : Str} {fs : List Str} (hx : x ∈ errs) (hf : ∀ y ∈ fs, y ∈ flds) (q : ex K = true) (m : mg x = some (.ref (He.ga K x))) : Ct K mg x (He.ga K x) fs :=
  ⟨m, (ex_xc q _ (in_cs hx)).f, fun y hy => ex_no q _ (in_cs hx) y (hf y hy), ex_em q _ (in_cs hx)⟩
/-- the tables and their defs -/
def csT (K : PySem.W.Frag) : List (Addr × Addr) := [He.cT K ("by_repr", none)]
def qs (K : PySem.W.Frag) : List (Addr × Str) := [((He.cT K ("by_repr", none)).2, ("by_repr" ++ ".<locals>." ++ "<lambda>" : Str))]
theorem qs_tabs {H : Hp} (z : ∀ p ∈ csT K, H p.2 = some (.tbl #[])) : Tabs (qs K) H := fun p hp => by
  unfold qs at hp
  simp only [List.mem_cons, List.not_mem_nil, or_false] at hp
  obtain rfl := hp
  exact TabS.nil (z _ (by simp [csT]))
theorem facts (X : K.In h) (N : h.Ns mainGlobals mg) (hfa : mg ("law" : Str) = some (.ref f)) (d : He.SaysD fa fn K) (q : ex K = true) (kO : He.dicW K (He.ga K "OTHER_DIRECTION") = some (He.keysIn w.params ["l", "r"])) :
    ∃ fd : FuncData, (∀ (s : Shared) (v : PySem.Value), BindsTo s fd ⟨[v], []⟩ [("_law_script", v)]) ∧ ∀ base : Heap, K.In base → base.Ns mainGlobals mg → (∀ p ∈ csT K, TabB base mg p.1 p.2) → GFn P w K mg base CX0 9 f fd ["_law_script"] (spLaw K (qs K)) := by
  obtain ⟨r1, r2, r3⟩ := ex_rest q
  have T : Txt mg := ⟨He.free_ok X N (d.fact 0 (f := .free "len") rfl), He.free_ok X N (d.fact 1 (f := .free "int") rfl), He.free_ok X N (d.fact 2 (f := .free "list") rfl), He.free_ok X N (d.fact 3 (f := .free "range") rfl), He.free_ok X N (d.fact 4 (f := .free "repr") rfl), He.free_ok X N (d.fact 5 (f := .free "isinstance") rfl), He.free_ok X N (d.fact 6 (f := .free "tuple") rfl), He.free_ok X N (d.fact 7 (f := .free "bool") rfl), He.free_ok X N (d.fact 8 (f := .free "sorted") rfl), He.free_ok X N (d.fact 9 (f := .free "all") rfl), He.free_ok X N (d.fact 10 (f := .free "dict") rfl), He.free_ok X N (d.fact 11 (f := .free "str") rfl), He.free_ok X N (d.fact 12 (f := .free "max") rfl)⟩
  have g_is_direction := He.glo_ok X N (d.fact 13 (f := .glo "is_direction") rfl)
  have g_in_order := He.glo_ok X N (d.fact 14 (f := .glo "in_order") rfl)
  have g_is_integer := He.glo_ok X N (d.fact 15 (f := .glo "is_integer") rfl)
  have g_is_datum := He.glo_ok X N (d.fact 16 (f := .glo "is_datum") rfl)
  have g_is_symbol := He.glo_ok X N (d.fact 17 (f := .glo "is_symbol") rfl)
  have g_is_tuple_of := He.glo_ok X N (d.fact 18 (f := .glo "is_tuple_of") rfl)
  have g_is_list := He.glo_ok X N (d.fact 19 (f := .glo "is_list") rfl)
  have g_by_repr := He.glo_ok X N (d.fact 20 (f := .glo "by_repr") rfl)
  have g_is_first := He.glo_ok X N (d.fact 21 (f := .glo "is_first") rfl)
  have g_are_steps := He.glo_ok X N (d.fact 22 (f := .glo "are_steps") rfl)
  have g_is_step := He.glo_ok X N (d.fact 23 (f := .glo "is_step") rfl)
  have g_are_turns := He.glo_ok X N (d.fact 24 (f := .glo "are_turns") rfl)
  have g_is_turn := He.glo_ok X N (d.fact 25 (f := .glo "is_turn") rfl)
  have g_are_words := He.glo_ok X N (d.fact 26 (f := .glo "are_words") rfl)
  have g_fed := He.glo_ok X N (d.fact 27 (f := .glo "fed") rfl)
  have g__law_pen := He.glo_ok X N (d.fact 28 (f := .glo "_law_pen") rfl)
  have g__law_draw := He.glo_ok X N (d.fact 29 (f := .glo "_law_draw") rfl)
  have g__law_pick := He.glo_ok X N (d.fact 30 (f := .glo "_law_pick") rfl)
  have g__law_shuffled := He.glo_ok X N (d.fact 31 (f := .glo "_law_shuffled") rfl)
  have g__law_sw_machine := He.glo_ok X N (d.fact 32 (f := .glo "_law_sw_machine") rfl)
  have g__law_sw_made := He.glo_ok X N (d.fact 33 (f := .glo "_law_sw_made") rfl)
  have g__law_sw_sorted := He.glo_ok X N (d.fact 34 (f := .glo "_law_sw_sorted") rfl)
  have g__law_sw_closed := He.glo_ok X N (d.fact 35 (f := .glo "_law_sw_closed") rfl)
  have g__law_sw_letters := He.glo_ok X N (d.fact 36 (f := .glo "_law_sw_letters") rfl)
  have g__law_sw_more := He.glo_ok X N (d.fact 37 (f := .glo "_law_sw_more") rfl)
  have g__law_sw_walk := He.glo_ok X N (d.fact 38 (f := .glo "_law_sw_walk") rfl)
  have g__law_sw_fed := He.glo_ok X N (d.fact 39 (f := .glo "_law_sw_fed") rfl)
  have g__law_sw_words := He.glo_ok X N (d.fact 40 (f := .glo "_law_sw_words") rfl)
  have g__law_refused := He.glo_ok X N (d.fact 41 (f := .glo "_law_refused") rfl)
  have g_law := He.glo_ok X N (d.fact 42 (f := .glo "law") rfl)
  have g_DIRECTIONS := He.glo_ok X N (d.fact 43 (f := .glo "DIRECTIONS") rfl)
  have g_OTHER_DIRECTION := He.glo_ok X N (d.fact 44 (f := .glo "OTHER_DIRECTION") rfl)
  have g_Reach := He.glo_ok X N (d.fact 45 (f := .glo "Reach") rfl)
  have g_Sweeps := He.glo_ok X N (d.fact 46 (f := .glo "Sweeps") rfl)
  have g_Walker := He.glo_ok X N (d.fact 47 (f := .glo "Walker") rfl)
  have g_BadTile := He.glo_ok X N (d.fact 48 (f := .glo "BadTile") rfl)
  obtain ⟨fd_is_direction, F_is_direction⟩ := d.def_ 0 rfl
  obtain ⟨fd_in_order, F_in_order⟩ := d.def_ 1 rfl
  obtain ⟨fd_is_integer, F_is_integer⟩ := d.def_ 2 rfl
  obtain ⟨fd_is_datum, F_is_datum⟩ := d.def_ 3 rfl
  obtain ⟨fd_is_symbol, F_is_symbol⟩ := d.def_ 4 rfl
  obtain ⟨fd_is_tuple_of, F_is_tuple_of⟩ := d.def_ 5 rfl
  obtain ⟨fd_is_list, F_is_list⟩ := d.def_ 6 rfl
  obtain ⟨fd_by_repr, F_by_repr⟩ := d.def_ 7 rfl
  obtain ⟨fd_is_first, F_is_first⟩ := d.def_ 8 rfl
  obtain ⟨fd_are_steps, F_are_steps⟩ := d.def_ 9 rfl
  obtain ⟨fd_is_step, F_is_step⟩ := d.def_ 10 rfl
  obtain ⟨fd_are_turns, F_are_turns⟩ := d.def_ 11 rfl
  obtain ⟨fd_is_turn, F_is_turn⟩ := d.def_ 12 rfl
  obtain ⟨fd_are_words, F_are_words⟩ := d.def_ 13 rfl
  obtain ⟨fd_fed, F_fed⟩ := d.def_ 14 rfl
  obtain ⟨fd__law_pen, F__law_pen⟩ := d.def_ 15 rfl
  obtain ⟨fd__law_draw, F__law_draw⟩ := d.def_ 16 rfl
  obtain ⟨fd__law_pick, F__law_pick⟩ := d.def_ 17 rfl
  obtain ⟨fd__law_shuffled, F__law_shuffled⟩ := d.def_ 18 rfl
  obtain ⟨fd__law_sw_machine, F__law_sw_machine⟩ := d.def_ 19 rfl
  obtain ⟨fd__law_sw_made, F__law_sw_made⟩ := d.def_ 20 rfl
  obtain ⟨fd__law_sw_sorted, F__law_sw_sorted⟩ := d.def_ 21 rfl
  obtain ⟨fd__law_sw_closed, F__law_sw_closed⟩ := d.def_ 22 rfl
  obtain ⟨fd__law_sw_letters, F__law_sw_letters⟩ := d.def_ 23 rfl
  obtain ⟨fd__law_sw_more, F__law_sw_more⟩ := d.def_ 24 rfl
  obtain ⟨fd__law_sw_walk, F__law_sw_walk⟩ := d.def_ 25 rfl
  obtain ⟨fd__law_sw_fed, F__law_sw_fed⟩ := d.def_ 26 rfl
  obtain ⟨fd__law_sw_words, F__law_sw_words⟩ := d.def_ 27 rfl
  obtain ⟨fd__law_refused, F__law_refused⟩ := d.def_ 28 rfl
  obtain ⟨fd_law, F_law⟩ := d.def_ 29 rfl
  obtain ⟨fd_BadTile___init__, F_BadTile___init__⟩ := d.def_ 30 rfl
  obtain ⟨fd_Reach___init__, F_Reach___init__⟩ := d.def_ 31 rfl
  obtain ⟨fd_Reach__add_letter, F_Reach__add_letter⟩ := d.def_ 32 rfl
  obtain ⟨fd_Reach__add_state, F_Reach__add_state⟩ := d.def_ 33 rfl
  obtain ⟨fd_Reach__look_at, F_Reach__look_at⟩ := d.def_ 34 rfl
  obtain ⟨fd_Reach__look_at_step, F_Reach__look_at_step⟩ := d.def_ 35 rfl
  obtain ⟨fd_Reach__look_at_turn, F_Reach__look_at_turn⟩ := d.def_ 36 rfl
  obtain ⟨fd_Sweeps___init__, F_Sweeps___init__⟩ := d.def_ 37 rfl
  obtain ⟨fd_Walker___init__, F_Walker___init__⟩ := d.def_ 38 rfl
  obtain ⟨fd_Walker_sweep, F_Walker_sweep⟩ := d.def_ 39 rfl
  obtain ⟨fd_Walker__turn, F_Walker__turn⟩ := d.def_ 40 rfl
  have M_BadTile___init__ := He.meth_ok (d.fact 49 (f := .meth "BadTile" "__init__") rfl)
  have K_Reach := He.mkr_ok (d.fact 51 (f := .mkr "Reach") rfl)
  have M_Reach__add_letter := He.meth_ok (d.fact 52 (f := .meth "Reach" "_add_letter") rfl)
  have M_Reach__add_state := He.meth_ok (d.fact 53 (f := .meth "Reach" "_add_state") rfl)
  have M_Reach__look_at := He.meth_ok (d.fact 54 (f := .meth "Reach" "_look_at") rfl)
  have M_Reach__look_at_step := He.meth_ok (d.fact 55 (f := .meth "Reach" "_look_at_step") rfl)
  have M_Reach__look_at_turn := He.meth_ok (d.fact 56 (f := .meth "Reach" "_look_at_turn") rfl)
  have K_Sweeps := He.mkr_ok (d.fact 64 (f := .mkr "Sweeps") rfl)
  have K_Walker := He.mkr_ok (d.fact 72 (f := .mkr "Walker") rfl)
  have M_Walker_sweep := He.meth_ok (d.fact 73 (f := .meth "Walker" "sweep") rfl)
  have M_Walker__turn := He.meth_ok (d.fact 74 (f := .meth "Walker" "_turn") rfl)
  have RF : ReF K (He.ga K "Reach") := ⟨He.cls_ok (d.fact 50 (f := .cls "Reach") rfl), He.noat_ok (d.fact 57 (f := .noat "Reach" "_steps") rfl), He.noat_ok (d.fact 58 (f := .noat "Reach" "_turns") rfl), He.noat_ok (d.fact 59 (f := .noat "Reach" "_todo") rfl), He.noat_ok (d.fact 60 (f := .noat "Reach" "letters") rfl), He.noat_ok (d.fact 61 (f := .noat "Reach" "states") rfl), He.noat_ok (d.fact 62 (f := .noat "Reach" "missing") rfl)⟩
  have SF : SwF K (He.ga K "Sweeps") := ⟨He.cls_ok (d.fact 63 (f := .cls "Sweeps") rfl), He.noat_ok (d.fact 65 (f := .noat "Sweeps" "first") rfl), He.noat_ok (d.fact 66 (f := .noat "Sweeps" "begin") rfl), He.noat_ok (d.fact 67 (f := .noat "Sweeps" "steps") rfl), He.noat_ok (d.fact 68 (f := .noat "Sweeps" "turns") rfl), He.noat_ok (d.fact 69 (f := .noat "Sweeps" "letters") rfl), He.noat_ok (d.fact 70 (f := .noat "Sweeps" "states") rfl)⟩
  have WF : WkF K (He.ga K "Walker") := ⟨He.cls_ok (d.fact 71 (f := .cls "Walker") rfl), He.noat_ok (d.fact 75 (f := .noat "Walker" "_sweeps") rfl), He.noat_ok (d.fact 76 (f := .noat "Walker" "direction") rfl), He.noat_ok (d.fact 77 (f := .noat "Walker" "state") rfl)⟩
  have e := hfa.symm.trans g_law
  cases e
  refine ⟨fd_law, fun s v => FunD.bindsA (ps := ["_law_script"]) F_law (fun _ _ _ _ _ _ us hl => match us, hl with | [_], _ => rfl) s [v] rfl, fun base _ _ tb => ?_⟩
  have E_BadTile : Er P w K mg base "BadTile" (He.ga K "BadTile") ["tile"] := er_of (by simp [errs]) (by simp [flds]) q g_BadTile M_BadTile___init__ (ok_BadTile F_BadTile___init__ (ex_xc q _ (in_cs (by simp [errs]))) (fun y hy => ex_no q _ (in_cs (by simp [errs])) y (by revert hy; revert y; simp [flds])))
    (FunD.bindsN F_BadTile___init__ fun _ _ _ _ _ _ us hl => match us, hl with | [_, _], _ => rfl)
  have X_BadTile : Ct K mg "BadTile" (He.ga K "BadTile") ["tile"] := ct_of (by simp [errs]) (by simp [flds]) q g_BadTile
  have hD := dat_at r1
  have hDs := dirs_sq hD
  have hO : ∀ b, KDct K w (He.ga K "OTHER_DIRECTION") (wayS b) (.str (wayS (!b))) := fun b => match b with
    | true => kd_of kO r3
    | false => kd_of kO r2
  have G_datum : FnOk P w K mg base CX0 2 _ _ ["value"] (spSym K) := ok_datum F_is_datum T F_is_integer g_is_integer
  have G_symbol := ok_symbol (P := P) (w := w) (mg := mg) (base := base) F_is_symbol F_is_datum g_is_datum G_datum
  have G_tupof : FnOk P w K mg base CX0 1 _ _ ["many", "value"] (spTup K) := ok_tupof F_is_tuple_of T
  have G_dir : FnOk P w K mg base CX0 1 _ _ ["value"] (spDir K) := ok_dir F_is_direction g_DIRECTIONS hD
  have G_ord : FnOk P w K mg base CX0 1 _ _ ["direction", "columns"] (spOrd K) := ok_ord F_in_order T
  have tb1 := tb (He.cT K ("by_repr", none)) (by simp [csT])
  have in1 : ((He.cT K ("by_repr", none)).2, ("by_repr" ++ ".<locals>." ++ "<lambda>" : Str)) ∈ qs K := by simp [qs]
  have un1 : ∀ p ∈ qs K, p.1 = (He.cT K ("by_repr", none)).2 → p.2 = ("by_repr" ++ ".<locals>." ++ "<lambda>" : Str) := fun p hp _ => by
    unfold qs at hp
    simp only [List.mem_cons, List.not_mem_nil, or_false] at hp
    obtain rfl := hp
    rfl
  have G_by : GFn P w K mg base CX0 4 _ _ ["values"] (spBy K w (qs K)) := ok_by F_by_repr T rfl tb1 in1 un1
  have G_addS : FnOk P w K mg base CX0 1 _ _ ["self", "direction", "state"] (spAddS K w (He.ga K "Reach")) := ok_addS F_Reach__add_state RF
  have G_lookS : FnOk P w K mg base CX0 2 _ _ ["self", "key"] (spLookS K w (He.ga K "Reach")) := ok_lookS F_Reach__look_at_step RF M_Reach__add_state F_Reach__add_state M_Reach__add_letter F_Reach__add_letter g_DIRECTIONS hDs
  have G_lookT : FnOk P w K mg base CX0 2 _ _ ["self", "key"] (spLookT K w (He.ga K "Reach")) := ok_lookT F_Reach__look_at_turn RF M_Reach__add_state F_Reach__add_state M_Reach__add_letter F_Reach__add_letter g_DIRECTIONS hDs g_OTHER_DIRECTION hO
  have G_look : FnOk P w K mg base CX0 3 _ _ ["self", "key"] (spLook K w (He.ga K "Reach")) := ok_look F_Reach__look_at T RF M_Reach__look_at_step F_Reach__look_at_step G_lookS M_Reach__look_at_turn F_Reach__look_at_turn G_lookT
  have G_reach : FnOk P w K mg base CX0 4 _ _ ["self", "first", "begin", "steps", "turns"] (spRe K w (He.ga K "Reach")) := ok_reach F_Reach___init__ RF M_Reach__add_state F_Reach__add_state M_Reach__add_letter F_Reach__add_letter g_DIRECTIONS hDs M_Reach__look_at F_Reach__look_at G_look
  have G_isStep : FnOk P w K mg base CX0 4 _ _ ["key", "told"] (spStep K) := ok_isStep F_is_step F_is_tuple_of g_is_tuple_of G_tupof F_is_direction g_is_direction G_dir F_is_symbol g_is_symbol G_symbol
  have G_isTurn : FnOk P w K mg base CX0 4 _ _ ["key", "told"] (spTurn K) := ok_isTurn F_is_turn F_is_tuple_of g_is_tuple_of G_tupof F_is_direction g_is_direction G_dir F_is_symbol g_is_symbol G_symbol
  have G_areSteps : FnOk P w K mg base CX0 5 _ _ ["steps"] (spSteps K w) := ok_areSteps F_are_steps T F_is_step g_is_step G_isStep
  have G_areTurns : FnOk P w K mg base CX0 5 _ _ ["turns"] (spTurns K w) := ok_areTurns F_are_turns T F_is_turn g_is_turn G_isTurn
  have G_first : FnOk P w K mg base CX0 4 _ _ ["first"] (spFirst K) := ok_first F_is_first T F_is_symbol g_is_symbol G_symbol
  have G_sweeps : GFn P w K mg base CX0 6 _ _ ["self", "first", "begin", "steps", "turns"] (spSw K w (He.ga K "Sweeps") (qs K)) := ok_sweeps F_Sweeps___init__ T SF RF F_is_first g_is_first G_first F_is_symbol g_is_symbol G_symbol F_are_steps g_are_steps G_areSteps F_are_turns g_are_turns G_areTurns F_Reach___init__ K_Reach G_reach g_Reach F_by_repr g_by_repr G_by
  have G_turnW : FnOk P w K mg base CX0 1 _ _ ["self", "state"] (spTurnW K w (He.ga K "Walker") (He.ga K "Sweeps")) := ok_turnW F_Walker__turn WF SF g_OTHER_DIRECTION hO
  have G_sweep : FnOk P w K mg base CX0 2 _ _ ["self", "word"] (spSweep K w (He.ga K "Walker") (He.ga K "Sweeps")) := ok_sweep F_Walker_sweep WF SF F_in_order g_in_order G_ord M_Walker__turn F_Walker__turn G_turnW
  have G_mc : FnOk P w K mg base CX0 3 _ _ ["_law_pen_here", "_law_most"] (spMc K w) := ok_mc F__law_sw_machine T F__law_draw g__law_draw F__law_pick g__law_pick F__law_shuffled g__law_shuffled
  have G_made : GFn P w K mg base CX0 8 _ _ ["_law_machine"] (spMade K w (He.ga K "Sweeps") (qs K)) := ok_made F__law_sw_made F_Sweeps___init__ K_Sweeps g_Sweeps G_sweeps
  have G_datF : FnOk P w K mg base CX0 2 _ _ ["value"] spDatF := ok_datF F_is_datum T F_is_integer g_is_integer
  have G_sy : FnOk P w K mg base CX0 3 _ _ ["value"] (spSy K) := fn_or G_symbol (ok_symF F_is_symbol F_is_datum g_is_datum G_datF)
  have G_aw : FnOk P w K mg base CX0 4 _ _ ["sweeps", "words"] (spAw K w (He.ga K "Sweeps")) := ok_aw F_are_words T SF F_is_list g_is_list F_is_symbol g_is_symbol G_sy
  have G_fed : FnOk P w K mg base (L2.CX P w) 5 _ _ ["sweeps", "words"] (spFed K w (He.ga K "Sweeps") (He.ga K "BadTile")) := ok_fed F_fed T WF SF E_BadTile F_are_words g_are_words G_aw F_Walker___init__ K_Walker g_Walker M_Walker_sweep F_Walker_sweep G_sweep
  have G_ff : FnOk P w K mg base CX0 2 _ _ ["_law_machine", "_law_words"] (spFf K w) := ok_ff F__law_sw_fed T F__law_sw_walk g__law_sw_walk
  have G_cl : FnOk P w K mg base CX0 2 _ _ ["_law_machine"] (spCl K w) := ok_cl F__law_sw_closed T F__law_sw_more g__law_sw_more
  have G_srt : GFn P w K mg base CX0 2 _ _ ["_law_values"] (spSrt K) := ok_srt F__law_sw_sorted T
  have G_let : GFn P w K mg base CX0 3 _ _ ["_law_machine"] (spLet K w) := ok_let F__law_sw_letters T F__law_sw_closed g__law_sw_closed G_cl F__law_sw_sorted g__law_sw_sorted G_srt
  have G_wds : GFn P w K mg base CX0 4 _ _ ["_law_pen_here", "_law_machine"] (spWds K w) := ok_wds F__law_sw_words T F__law_draw g__law_draw F__law_pick g__law_pick F__law_sw_letters g__law_sw_letters G_let
  have G_ref : GFn P w K mg base CX0 6 _ _ ["_law_made", "_law_words"] (spRef K w (He.ga K "Sweeps")) := ok_ref F__law_refused T X_BadTile F_fed g_fed G_fed
  exact ok_law F_law T F__law_pen g__law_pen F__law_draw g__law_draw F__law_pick g__law_pick F__law_sw_machine g__law_sw_machine G_mc F__law_sw_made g__law_sw_made G_made F__law_sw_letters g__law_sw_letters G_let F__law_sw_words g__law_sw_words G_wds F_fed g_fed G_fed F__law_sw_fed g__law_sw_fed G_ff F__law_refused g__law_refused G_ref
end
end K15

set_option Elab.async false
set_option linter.all false
set_option maxRecDepth 100000
set_option maxHeartbeats 0
open PySem PySem.W PySem.Calls PyProof.Rows


theorem PySem.Challenge.cw_tilesregrow_k15_whole_words_fed_holds : PySem.Challenge.rw_tilesregrow_k15_whole_words_fed.Holds := by
  w_on; o_law; k_head
  case hw => w_witness2
  k_fill
  refine Tr.law_walkT (l := PySem.Challenge.rw_tilesregrow_k15_whole_words_fed) (n := 63) (k := 9) (x := "_law_script") rfl (by decide) (by kernel_rfl) ⟨rfl, by decide, by decide⟩ ?F
  intro w mg fa h Y G hmg0
  have KX := PySem.W.km_in_of Y
  have TB := PySem.W.km_tabs_of Y
  have hmg : mg ("law" : PySem.Str) = some (.ref fa) := hmg0
  obtain ⟨fd, hb, hF⟩ := K15.facts (P := (PySem.Challenge.rw_tilesregrow_k15_whole_words_fed).prog) (w := w) KX G hmg (show He.obsD K15.fa K15.fn _ = He.valD K15.fn by kernel_rfl) (by kernel_rfl) (by kernel_rfl)
  refine ⟨_, fd, K15.spLaw _ (K15.qs _), K15.csT _, KX, fun p hp => ?_, fun p hp => ?_, fun p hp => ?_, hb, fun H a ns hl hz hS => ⟨a, ns, rfl, hS, hl, K15.qs_tabs hz, fun _ => rfl⟩, hF⟩
  · obtain rfl := List.mem_singleton.mp hp
    first
      | exact TB 99 (by simp)
      | exact TB 163 (by simp)
  · obtain rfl := List.mem_singleton.mp hp
    kernel_rfl
  · obtain rfl := List.mem_singleton.mp hp
    kernel_rfl

