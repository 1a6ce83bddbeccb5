import PyProof.Rows.All
import Wide.All
import OpenK.AllK
import Wide.FinOn
import KE.KeyNested
import KE.KDictKeyed
import PyProof.DictRoadsH
import PyProof.DictMoreH
import HandS.ForMost
import HandS.Deep
import HandS.Comp
import HandS.DictComp
import KE.GoesEnum
import HandS.Iter
import HandS.Walk
import KE.KStateDown
import Lean
import HandS.Exc
import HandS.ExcInit
import HandS.ExcField
import HandS.ExcIs
import HandS.IsInst
import HandS.TupAny
import HandS.Style
import HandS.WordsExc
import HandS.Defaults
import HandS.Head0
import HandS.Head1
import HandS.Head2
import HandS.HeadEnd
import HandS.HeadHook1
import HandS.HeadHook2
import HandS.HeadHook3
import HandS.HeadHook4
import HandS.Lambda
import HandS.SortKw
import HandS.NestedK
import KE.KExcIs
import HandS.Codes
import KE.SortKeyHeap
import KE.KDictCopyH
import KE.KDictSum
import HandS.ExcValue
import HandS.Flow
import PyProof.ReprBulk
import HandS.EndTab
import PySem.Challenge.RW_tilesregrow_k03_tiles_and_sets
set_option Elab.async false
set_option linter.all false
set_option maxRecDepth 100000
set_option maxHeartbeats 4000000
/-! dicts whose keys are data of every kind beside each other: None, bools, whole numbers, texts, tuples of these -/
namespace AK
open PySem PySem.SeqAt PyProof.Rows
/-- an entry: the key, the value that is it, what is stored -/
abbrev En := NestedKey × Value × Value
def ent (w : World) (e : En) : DictEntry := ⟨e.1.hash w, e.2.1, e.2.2⟩
/-- at d: a dict of these entries, in order -/
structure DkOf (w : World) (h : Heap) (d : Addr) (es : List En) : Prop where
  ex : ∃ o arr ep, h.get? d = some o ∧ o.ExactDict ∧ o.data = .dict arr ep ∧ arr.toList = es.map (ent w)
  is : ∀ e ∈ es, NestedIs h e.1 e.2.1 ∧ e.1.depth ≤ 8
  nd : (es.map (·.1)).Nodup
theorem uniq {es : List En} (nd : (es.map (·.1)).Nodup) {i j : Nat} {e f : En} (hi : es[i]? = some e) (hj : es[j]? = some f) (h : e.1 = f.1) : i = j := by
  have li : i < (es.map (·.1)).length := by
    rw [List.length_map]
    exact (List.getElem?_eq_some_iff.mp hi).1
  refine (List.getElem?_inj li nd).mp ?_
  rw [List.getElem?_map, List.getElem?_map, hi, hj]
  exact congrArg some h
section
variable {prog : Program} {w : World} {A : Around} {E : Value → Shared → Prop} {s : Shared}
/-- asked of each stored key, == tells nothing -/
theorem no_tell {u : Value} {k : NestedKey} {st : List Value} {Q : Bool → Shared → Prop} (hk : NestedIs s.heap k u) (kd : k.depth ≤ 8) (hs : ∀ v ∈ st, ∃ j : NestedKey, NestedIs s.heap j v ∧ j.depth ≤ 8) (q : Q false s) :
    wpAny (model prog w) A (tableMayTell u st) Q E s := by
  unfold tableMayTell
  by_cases h0 : st.isEmpty = true
  · rw [if_pos h0]
    exact wpAny_pure q
  · rw [if_neg h0]
    refine wpAny_bind (quiet_key k u 8 s hk kd _ _ _ ?_)
    rw [if_neg (by decide)]
    refine wpAny_bind (wpAny_forIn_list _ (fun left r s' => s' = s ∧ r = (none, ()) ∧ ∀ v ∈ left, v ∈ st) _ ?_ ?_ _ _ ⟨rfl, rfl, fun v hv => hv⟩)
    · rintro v left r s' ⟨rfl, rfl, all⟩
      obtain ⟨j, hj, jd⟩ := hs v (all v List.mem_cons_self)
      refine wpAny_bind (quiet_key j v 8 _ hj jd _ _ _ ?_)
      rw [if_neg (by decide)]
      exact wpAny_pure ⟨rfl, rfl, fun v hv => all v (List.mem_cons_of_mem _ hv)⟩
    · rintro r s' ⟨rfl, rfl, _⟩
      exact wpAny_pure q
end
end AK

set_option Elab.async false
set_option linter.all false
set_option maxRecDepth 100000
set_option maxHeartbeats 4000000
namespace AK
open PySem PySem.SeqAt PyProof.Rows
section
variable {prog : Program} {w : World} {A : Around} {E : Value → Shared → Prop} {s : Shared} {arr : Array DictEntry} {es : List En} {k : NestedKey} {u : Value}
theorem ent_at (he : arr.toList = es.map (ent w)) (j : Nat) : arr[j]? = (es[j]?).map (ent w) := by
  rw [← Array.getElem?_toList, he, List.getElem?_map]
theorem ent_size (he : arr.toList = es.map (ent w)) : arr.size = es.length := by
  have z := congrArg List.length he
  rw [Array.length_toList, List.length_map] at z
  exact z
/-- the places that are looked at -/
abbrev spots (w : World) (arr : Array DictEntry) (k : NestedKey) : List Nat := placesWithHash arr.size (fun i => arr[i]?.map (·.hash)) (k.hash w)
theorem spots_nd : (spots w arr k).Nodup := (List.nodup_range).sublist List.filter_sublist
theorem spots_is (he : arr.toList = es.map (ent w)) {i : Nat} (h : i ∈ spots w arr k) : ∃ e, es[i]? = some e ∧ e.1.hash w = k.hash w := by
  have z := (List.mem_filter.mp h).2
  dsimp only at z
  rw [ent_at he] at z
  cases q : es[i]? with
  | none =>
    rw [q] at z
    cases z
  | some e =>
    rw [q] at z
    exact ⟨e, rfl, Option.some.inj (beq_iff_eq.mp z)⟩
theorem spots_has (he : arr.toList = es.map (ent w)) {j : Nat} {e : En} (h : es[j]? = some e) (hk : e.1 = k) : j ∈ spots w arr k := by
  have lj := (List.getElem?_eq_some_iff.mp h).1
  refine List.mem_filter.mpr ⟨List.mem_range.mpr (by rw [ent_size he]; exact lj), ?_⟩
  dsimp only
  rw [ent_at he, h]
  subst hk
  exact beq_self_eq_true _
/-- what == of a stored key and the asked one says -/
theorem ask {e : En} {Q : Bool → Shared → Prop} (hu : A.units + 8 < cLine) (h1 : NestedIs s.heap e.1 e.2.1) (hk : NestedIs s.heap k u) (kd : k.depth ≤ 8) (q : Q (decide (e.1 = k)) s) : wpAny (model prog w) A (eqBool e.2.1 u) Q E s := by
  refine eqAt_key e.1 k A s e.2.1 u h1 hk ?_ _ _ _ _ ?_
  · have : min e.1.depth k.depth ≤ k.depth := Nat.min_le_right _ _
    omega
  · rw [← NestedKey.decide_eq]
    exact q
/-- the first of the places whose key it is -/
def hitIn (es : List En) (k : NestedKey) (l : List Nat) : Option Nat := l.find? fun i => match es[i]? with
  | some e => decide (e.1 = k)
  | none => false
theorem hit_snoc {l : List Nat} {i : Nat} {e : En} (he : es[i]? = some e) : hitIn es k (l ++ [i]) = (hitIn es k l).or (if decide (e.1 = k) = true then some i else none) := by
  unfold hitIn
  rw [List.find?_append, List.find?_cons, he]
  by_cases h : e.1 = k
  · simp [h]
  · simp [h]
theorem hit_some {l : List Nat} {j : Nat} (h : hitIn es k l = some j) : j ∈ l ∧ ∃ e, es[j]? = some e ∧ e.1 = k := by
  have m := List.mem_of_find?_eq_some h
  have p := List.find?_some h
  refine ⟨m, ?_⟩
  cases q : es[j]? with
  | none =>
    rw [q] at p
    cases p
  | some e =>
    rw [q] at p
    exact ⟨e, rfl, of_decide_eq_true p⟩
theorem hit_none {l : List Nat} (h : hitIn es k l = none) {j : Nat} (hj : j ∈ l) {e : En} (he : es[j]? = some e) : e.1 ≠ k := by
  have z := List.find?_eq_none.mp h j hj
  rw [he] at z
  exact fun q => z (decide_eq_true q)
/-- behind the places: what was found is what there is -/
theorem hit_end {Q : Option Nat → Shared → Prop} (he : arr.toList = es.map (ent w)) (no : (∀ e ∈ es, e.1 ≠ k) → Q none s) (yes : ∀ j e, es[j]? = some e → e.1 = k → Q (some j) s) : Q (hitIn es k (spots w arr k)) s := by
  cases h : hitIn es k (spots w arr k) with
  | some j =>
    obtain ⟨_, e, h1, h2⟩ := hit_some h
    exact yes j e h1 h2
  | none =>
    refine no fun e hm hk => ?_
    obtain ⟨j, hj⟩ := List.mem_iff_getElem?.mp hm
    exact hit_none h (spots_has he hj hk) hj hk
/-- the plain walk -/
theorem plain_walk {d : Addr} {o : Obj} {ep : Nat} {Q : Option Nat → Shared → Prop} (hu : A.units + 8 < cLine) (hk : NestedIs s.heap k u) (kd : k.depth ≤ 8) (ho : s.heap.get? d = some o) (hd : o.data = .dict arr ep) (he : arr.toList = es.map (ent w))
    (his : ∀ e ∈ es, NestedIs s.heap e.1 e.2.1 ∧ e.1.depth ≤ 8) (nd : (es.map (·.1)).Nodup) (no : (∀ e ∈ es, e.1 ≠ k) → Q none s) (yes : ∀ j e, es[j]? = some e → e.1 = k → Q (some j) s) :
    wpAny (model prog w) A (dictWalkPlain d u (k.hash w) arr (spots w arr k)) Q E s := by
  unfold dictWalkPlain
  refine wpAny_bind (wpAny_forIn_list _ (fun left r s' => s' = s ∧ r = (none, ()) ∧ ∃ done, spots w arr k = done ++ left ∧ hitIn es k done = none) _ ?_ ?_ _ _ ⟨rfl, rfl, [], rfl, rfl⟩)
  · rintro i left r s' ⟨rfl, rfl, done, split, miss⟩
    have hi : i ∈ spots w arr k := by
      rw [split]
      exact List.mem_append_right _ List.mem_cons_self
    obtain ⟨e, ei, eh⟩ := spots_is he hi
    have isE := (his e (List.mem_of_getElem? ei)).1
    rw [show arr[i]? = some (ent w e) by rw [ent_at he, ei] <;> rfl]
    dsimp only
    rw [if_pos (show ((ent w e).hash == k.hash w) = true from beq_iff_eq.mpr eh)]
    refine wpAny_bind (wpAny_dictEpoch ho hd (wpAny_bind (ask (e := e) hu isE hk kd (wpAny_bind (wpAny_dictEpoch ho hd ?_)))))
    rw [if_neg (show ¬ (ep != ep) = true by simp)]
    by_cases hh : e.1 = k
    · rw [decide_eq_true hh]
      exact wpAny_bind (wpAny_rule (wpAny_pure (wpAny_pure (yes i e ei hh))))
    · rw [decide_eq_false hh]
      have more : hitIn es k (done ++ [i]) = none := by
        rw [hit_snoc ei, miss, decide_eq_false hh]
        rfl
      have cut : spots w arr k = (done ++ [i]) ++ left := by
        rw [split, List.append_assoc]
        rfl
      first
        | exact wpAny_bind (wpAny_rule (wpAny_pure ⟨rfl, rfl, done ++ [i], cut, more⟩))
        | exact wpAny_bind (wpAny_pure (wpAny_bind (wpAny_rule (wpAny_pure ⟨rfl, rfl, done ++ [i], cut, more⟩))))
  · rintro r s' ⟨rfl, rfl, done, split, miss⟩
    have all := hit_end (w := w) (arr := arr) he no yes
    rw [split, List.append_nil, miss] at all
    exact wpAny_pure all
/-- dict's own look-up, by keys of every kind -/
theorem find_any {d : Addr} {o : Obj} {ep : Nat} {Q : Option Nat → Shared → Prop} (hu : A.units + 8 < cLine) (hk : NestedIs s.heap k u) (kd : k.depth ≤ 8) (ho : s.heap.get? d = some o) (hd : o.data = .dict arr ep) (he : arr.toList = es.map (ent w))
    (his : ∀ e ∈ es, NestedIs s.heap e.1 e.2.1 ∧ e.1.depth ≤ 8) (nd : (es.map (·.1)).Nodup) (no : (∀ e ∈ es, e.1 ≠ k) → Q none s) (yes : ∀ j e, es[j]? = some e → e.1 = k → Q (some j) s) :
    wpAny (model prog w) A (dictFind d u (k.hash w)) Q E s := by
  have own : ∀ e ∈ arr, ∃ x ∈ es, e = ent w x := fun e hin => by
    have z : e ∈ es.map (ent w) := he ▸ Array.mem_toList_iff.mpr hin
    obtain ⟨x, hx, rfl⟩ := List.mem_map.mp z
    exact ⟨x, hx, rfl⟩
  have kept : ∀ v ∈ (spots w arr k).filterMap (fun i => arr[i]?.map (·.key)), ∃ j : NestedKey, NestedIs s.heap j v ∧ j.depth ≤ 8 := fun v hv => by
    obtain ⟨i, hi, e1⟩ := List.mem_filterMap.mp hv
    obtain ⟨x, ex, _⟩ := spots_is he hi
    rw [ent_at he, ex] at e1
    have e2 : x.2.1 = v := Option.some.inj e1
    rw [← e2]
    exact ⟨x.1, his x (List.mem_of_getElem? ex)⟩
  have sameHash : ∀ a, u = .ref a → ¬ (arr.any fun e => e.key == Value.ref a && e.hash != k.hash w) = true := fun a hua => by
    rw [← Array.any_toList, List.any_eq_true]
    rintro ⟨e, hin, hc⟩
    obtain ⟨x, hx, rfl⟩ := own e (Array.mem_toList_iff.mp hin)
    obtain ⟨c1, c2⟩ := Bool.and_eq_true_iff.mp hc
    have c3 : x.2.1 = Value.ref a := beq_iff_eq.mp c1
    have z := (his x hx).1
    rw [c3, ← hua] at z
    have c4 : (x.1.hash w != k.hash w) = true := c2
    rw [NestedIs.inj _ _ _ z hk] at c4
    simp at c4
  unfold dictFind
  refine wpAny_holding (wpAny_bind (wpAny_dictEntries ho hd ?_))
  have shape : u = .none ∨ (∃ b, u = .bool b) ∨ (∃ i t, u = .int i t) ∨ (∃ a, u = .ref a) ∨ ∃ x t, u = .str x t := by
    cases hk with
    | none => exact .inl rfl
    | bool _ => exact .inr (.inl ⟨_, rfl⟩)
    | int i t => exact .inr (.inr (.inl ⟨i, t, rfl⟩))
    | tup _ _ _ _ => exact .inr (.inr (.inr (.inl ⟨_, rfl⟩)))
    | text x t => exact .inr (.inr (.inr (.inr ⟨x, t, rfl⟩)))
  have quick : ∀ x t, u = .str x t → (arr.all fun e => isExactStrKey e.key) = true → wpAny (model prog w) A (foundByValue d u arr x) Q E s := fun x t hux hall => by
    have kx : k = .text x := by
      rw [hux] at hk
      cases hk
      rfl
    have texts : ∀ (j : Nat) (e : En), es[j]? = some e → ∃ (y : Str) (t' : Tok), e.1 = NestedKey.text y ∧ e.2.1 = Value.str y t' := fun j e ej => by
      have hm : ent w e ∈ arr := by
        refine Array.mem_toList_iff.mp ?_
        rw [he]
        exact List.mem_map_of_mem (List.mem_of_getElem? ej)
      have z : isExactStrKey (ent w e).key = true := by
        rw [← Array.all_toList] at hall
        exact List.all_eq_true.mp hall _ (Array.mem_toList_iff.mpr hm)
      have ise := (his e (List.mem_of_getElem? ej)).1
      obtain ⟨k1, u1, v1⟩ := e
      cases ise with
      | text y t' => exact ⟨y, t', rfl, rfl⟩
      | none => cases z
      | bool _ => cases z
      | int _ _ => cases z
      | tup _ _ _ _ => cases z
    unfold foundByValue
    cases q : arr.findIdx? (fun e => e.key.isStr x) with
    | none =>
      refine wpAny_pure (no fun e hm hk1 => ?_)
      obtain ⟨j, ej⟩ := List.mem_iff_getElem?.mp hm
      obtain ⟨y, t', h1, h2⟩ := texts j e ej
      have hmem : ent w e ∈ arr := by
        refine Array.mem_toList_iff.mp ?_
        rw [he]
        exact List.mem_map_of_mem hm
      have z := Array.findIdx?_eq_none_iff.mp q (ent w e) hmem
      have ey : y = x := by
        rw [h1, kx] at hk1
        injection hk1
      have z2 : e.2.1.isStr x = false := z
      rw [h2, ey] at z2
      simp [Value.isStr] at z2
    | some i =>
      obtain ⟨li, hi1, _⟩ := Array.findIdx?_eq_some_iff_getElem.mp q
      have li2 : i < es.length := by
        rw [← ent_size he]
        exact li
      have ei : es[i]? = some es[i] := List.getElem?_eq_getElem li2
      obtain ⟨y, t', h1, h2⟩ := texts i _ ei
      have at1 : arr[i]? = some (ent w es[i]) := by
        rw [ent_at he, ei]
        rfl
      have g1 : arr[i] = ent w es[i] := by
        rw [Array.getElem?_eq_getElem li] at at1
        exact Option.some.inj at1
      have hk1 : es[i].1 = k := by
        rw [g1] at hi1
        have z2 : es[i].2.1.isStr x = true := hi1
        rw [h2] at z2
        rw [h1, kx]
        exact congrArg NestedKey.text (by simpa [Value.isStr] using z2)
      have isE := (his _ (List.mem_of_getElem? ei)).1
      dsimp only
      rw [at1]
      dsimp only
      refine wpAny_bind (wpAny_dictEpoch ho hd (wpAny_bind (ask (e := es[i]) hu isE hk kd (wpAny_bind (wpAny_dictEpoch ho hd ?_)))))
      rw [if_neg (show ¬ (ep != ep) = true by simp), decide_eq_true hk1]
      refine wpAny_bind (wpAny_rule ?_)
      exact wpAny_pure (yes i _ ei hk1)
  by_cases hv : (u :: (spots w arr k).filterMap (fun i => arr[i]?.map (·.key))).all carriedByValue = true
  · rcases shape with rfl | ⟨b, rfl⟩ | ⟨i, t, rfl⟩ | ⟨a, rfl⟩ | ⟨x, t, rfl⟩
    case inr.inr.inr.inr =>
      dsimp only
      by_cases hall : (arr.all fun e => isExactStrKey e.key) = true
      · rw [if_pos hall]
        exact quick x t rfl hall
      · rw [if_neg hall, if_pos hv]
        exact plain_walk hu hk kd ho hd he his nd no yes
    all_goals
      dsimp only
      rw [if_pos hv]
      exact plain_walk hu hk kd ho hd he his nd no yes
  · by_cases hone : ((spots w arr k).filterMap (fun i => arr[i]?.map (·.key)) == [u]) = true
    all_goals rcases shape with rfl | ⟨b, rfl⟩ | ⟨i, t, rfl⟩ | ⟨a, rfl⟩ | ⟨x, t, rfl⟩
    all_goals dsimp only
    case' pos.inr.inr.inr.inr | neg.inr.inr.inr.inr =>
      by_cases hall : (arr.all fun e => isExactStrKey e.key) = true
      · rw [if_pos hall]
        exact quick x t rfl hall
      rw [if_neg hall]
    all_goals rw [if_neg hv]
    case' pos.inr.inr.inr.inl | neg.inr.inr.inr.inl =>
      rw [if_neg (sameHash a rfl)]
    all_goals first | rw [if_pos hone] | rw [if_neg hone]
    all_goals first | refine wpAny_bind (wpAny_pure ?_) | refine wpAny_bind (no_tell hk kd kept ?_)
    all_goals rw [if_neg (by simp)]
    all_goals
      refine wpAny_bind (wpAny_forIn_list _ (fun left r s' => s' = s ∧ ∃ done, spots w arr k = done ++ left ∧ r = (none, hitIn es k done)) _ ?_ ?_ _ _ ⟨rfl, [], rfl, rfl⟩)
      · rintro i left r s' ⟨rfl, done, cut0, rfl⟩
        have hi : i ∈ spots w arr k := by
          rw [cut0]
          exact List.mem_append_right _ List.mem_cons_self
        obtain ⟨e, ei, eh⟩ := spots_is he hi
        have isE := (his e (List.mem_of_getElem? ei)).1
        have cut : spots w arr k = (done ++ [i]) ++ left := by
          rw [cut0, List.append_assoc]
          rfl
        rw [show arr[i]? = some (ent w e) by rw [ent_at he, ei] <;> rfl]
        dsimp only
        rw [if_pos (show ((ent w e).hash == k.hash w) = true from beq_iff_eq.mpr eh)]
        refine wpAny_bind (wpAny_dictEpoch ho hd (wpAny_bind (ask (e := e) hu isE hk kd (wpAny_bind (wpAny_dictEpoch ho hd ?_)))))
        rw [if_neg (show ¬ (ep != ep) = true by simp)]
        by_cases hh : e.1 = k
        · have first : hitIn es k done = none := by
            cases q : hitIn es k done with
            | none => rfl
            | some j =>
              obtain ⟨hj, f, ej, hf⟩ := hit_some q
              have same := uniq nd ei ej (hh.trans hf.symm)
              subst same
              have ndL : (spots w arr k).Nodup := spots_nd
              rw [cut0, List.nodup_append] at ndL
              exact absurd rfl (ndL.2.2 i hj i List.mem_cons_self)
          rw [first, decide_eq_true hh, if_pos rfl, if_neg (by decide)]
          refine wpAny_bind (wpAny_rule ?_)
          by_cases two : ((spots w arr k).filterMap (fun i => arr[i]?.map (·.key))).length < 2
          · rw [if_pos two]
            exact wpAny_pure (wpAny_pure (yes i e ei hh))
          · rw [if_neg two]
            refine wpAny_pure ⟨rfl, done ++ [i], cut, ?_⟩
            rw [hit_snoc ei, first, decide_eq_true hh]
            rfl
        · rw [decide_eq_false hh, if_neg Bool.false_ne_true]
          refine wpAny_bind (wpAny_rule ?_)
          rw [Bool.false_and, if_neg Bool.false_ne_true]
          refine wpAny_pure ⟨rfl, done ++ [i], cut, ?_⟩
          rw [hit_snoc ei, decide_eq_false hh, if_neg Bool.false_ne_true, Option.or_none]
      · rintro r s' ⟨rfl, done, cut0, rfl⟩
        have all := hit_end (w := w) (arr := arr) he no yes
        rw [cut0, List.append_nil] at all
        exact wpAny_pure all
end
end AK

set_option Elab.async false
set_option linter.all false
set_option maxRecDepth 100000
set_option maxHeartbeats 4000000
namespace AK
open PySem PySem.SeqAt PyProof.Rows
/-! ### the table that a dict is -/
section
variable {β γ : Type}
/-- what is stored at a key -/
def atK (es : List (NestedKey × β × γ)) (k : NestedKey) : Option γ := (es.find? fun e => decide (e.1 = k)).map (·.2.2)
/-- stored in its place, the key as it was; or at the end -/
def putE (es : List (NestedKey × β × γ)) (k : NestedKey) (u : β) (v : γ) : List (NestedKey × β × γ) :=
  if (atK es k).isSome = true then es.map (fun e => if e.1 = k then (e.1, e.2.1, v) else e) else es ++ [(k, u, v)]
theorem atK_nil {k : NestedKey} : atK ([] : List (NestedKey × β × γ)) k = none := rfl
theorem atK_pos {e : NestedKey × β × γ} {r : List (NestedKey × β × γ)} {k : NestedKey} (h : e.1 = k) : atK (e :: r) k = some e.2.2 := by simp [atK, List.find?_cons, h]
theorem atK_neg {e : NestedKey × β × γ} {r : List (NestedKey × β × γ)} {k : NestedKey} (h : ¬ e.1 = k) : atK (e :: r) k = atK r k := by simp [atK, List.find?_cons, h]
theorem atK_none : ∀ {es : List (NestedKey × β × γ)} {k : NestedKey}, atK es k = none ↔ ∀ e ∈ es, e.1 ≠ k
  | [], k => by simp [atK_nil]
  | e :: r, k => by
    by_cases h : e.1 = k
    · rw [atK_pos h]
      constructor
      · intro z
        cases z
      · intro z
        exact absurd h (z e List.mem_cons_self)
    · rw [atK_neg h, atK_none]
      constructor
      · intro z f hf
        rcases List.mem_cons.mp hf with rfl | hf
        · exact h
        · exact z f hf
      · exact fun z f hf => z f (List.mem_cons_of_mem _ hf)
theorem atK_get : ∀ {es : List (NestedKey × β × γ)} {k : NestedKey} {j : Nat} {e : NestedKey × β × γ}, (es.map (·.1)).Nodup → es[j]? = some e → e.1 = k → atK es k = some e.2.2
  | [], _, _, _, _, h, _ => by simp at h
  | f :: r, k, 0, e, _, h, hk => by
    obtain rfl : f = e := by simpa using h
    exact atK_pos hk
  | f :: r, k, j + 1, e, nd, h, hk => by
    have nd2 : f.1 ∉ r.map (·.1) ∧ (r.map (·.1)).Nodup := List.nodup_cons.mp (by simpa using nd)
    have h2 : r[j]? = some e := by simpa using h
    have hne : ¬ f.1 = k := fun z => nd2.1 (List.mem_map.mpr ⟨e, List.mem_of_getElem? h2, hk.trans z.symm⟩)
    rw [atK_neg hne]
    exact atK_get nd2.2 h2 hk
theorem putE_new {es : List (NestedKey × β × γ)} {k : NestedKey} {u : β} {v : γ} (h : atK es k = none) : putE es k u v = es ++ [(k, u, v)] := by
  unfold putE
  rw [h]
  exact if_neg (fun z => by cases z)
theorem putE_old {es : List (NestedKey × β × γ)} {k : NestedKey} {u : β} {v y : γ} (h : atK es k = some y) : putE es k u v = es.map (fun e => if e.1 = k then (e.1, e.2.1, v) else e) := by
  unfold putE
  rw [h]
  exact if_pos rfl
theorem repl_keys (es : List (NestedKey × β × γ)) (k : NestedKey) (v : γ) : (es.map (fun e => if e.1 = k then (e.1, e.2.1, v) else e)).map (·.1) = es.map (·.1) := by
  rw [List.map_map]
  refine List.map_congr_left fun e _ => ?_
  by_cases h : e.1 = k <;> simp [h]
theorem putE_nd {es : List (NestedKey × β × γ)} {k : NestedKey} {u : β} {v : γ} (nd : (es.map (·.1)).Nodup) : ((putE es k u v).map (·.1)).Nodup := by
  cases h : atK es k with
  | none =>
    rw [putE_new h, List.map_append, List.nodup_append]
    refine ⟨nd, by simp, fun x hx y hy => ?_⟩
    obtain rfl : y = k := by simpa using hy
    obtain ⟨e, he, rfl⟩ := List.mem_map.mp hx
    exact fun z => (atK_none.mp h e he) z
  | some y =>
    rw [putE_old h, repl_keys]
    exact nd
theorem putE_len (es : List (NestedKey × β × γ)) (k : NestedKey) (u : β) (v : γ) : (putE es k u v).length ≤ es.length + 1 := by
  cases h : atK es k with
  | none =>
    rw [putE_new h]
    simp
  | some y =>
    rw [putE_old h]
    simp
/-- which keys are there -/
theorem putE_mem {es : List (NestedKey × β × γ)} {k : NestedKey} {u : β} {v : γ} {e : NestedKey × β × γ} (h : e ∈ putE es k u v) : (∃ f ∈ es, f.1 = e.1 ∧ f.2.1 = e.2.1) ∨ (e.1 = k ∧ e.2.1 = u) := by
  cases q : atK es k with
  | none =>
    rw [putE_new q] at h
    rcases List.mem_append.mp h with h | h
    · exact .inl ⟨e, h, rfl, rfl⟩
    · obtain rfl : e = (k, u, v) := by simpa using h
      exact .inr ⟨rfl, rfl⟩
  | some y =>
    rw [putE_old q] at h
    obtain ⟨f, hf, rfl⟩ := List.mem_map.mp h
    refine .inl ⟨f, hf, ?_⟩
    by_cases z : f.1 = k <;> simp [z]
theorem atK_put {es : List (NestedKey × β × γ)} {k j : NestedKey} {u : β} {v : γ} : atK (putE es k u v) j = if j = k then some v else atK es j := by
  cases q : atK es k with
  | none =>
    rw [putE_new q]
    have snoc : ∀ l : List (NestedKey × β × γ), atK l k = none → atK (l ++ [(k, u, v)]) j = if j = k then some v else atK l j := by
      intro l
      induction l with
      | nil =>
        intro _
        by_cases e : k = j
        · rw [if_pos e.symm]
          exact atK_pos e
        · rw [if_neg (fun z => e z.symm)]
          exact atK_neg e
      | cons p r ih =>
        intro hn
        rw [List.cons_append]
        have hk : ¬ p.1 = k := fun z => by
          rw [atK_pos z] at hn
          cases hn
        rw [atK_neg hk] at hn
        by_cases e : p.1 = j
        · rw [atK_pos e, atK_pos e, if_neg (fun z => hk (e.trans z))]
        · rw [atK_neg e, atK_neg e, ih hn]
    exact snoc es q
  | some y =>
    rw [putE_old q]
    have repl : ∀ l : List (NestedKey × β × γ), atK (l.map (fun e => if e.1 = k then (e.1, e.2.1, v) else e)) j = (atK l j).map fun x => if j = k then v else x := by
      intro l
      induction l with
      | nil => rfl
      | cons p r ih =>
        rw [List.map_cons]
        by_cases h : p.1 = k
        · rw [if_pos h]
          by_cases e : p.1 = j
          · rw [atK_pos (e := (p.1, p.2.1, v)) e, atK_pos e, Option.map_some, if_pos (e.symm.trans h)]
          · rw [atK_neg (e := (p.1, p.2.1, v)) e, atK_neg e, ih]
        · rw [if_neg h]
          by_cases e : p.1 = j
          · rw [atK_pos e, atK_pos e, Option.map_some, if_neg (fun z => h (e.trans z))]
          · rw [atK_neg e, atK_neg e, ih]
    rw [repl]
    by_cases e : j = k
    · rw [if_pos e, e, q, Option.map_some, if_pos rfl]
    · rw [if_neg e]
      cases atK es j with
      | none => rfl
      | some x => rw [Option.map_some, if_neg e]
end
section
variable {prog : Program} {w : World} {A : Around} {E : Value → Shared → Prop} {s : Shared} {es : List En} {k : NestedKey} {u : Value} {d : Addr}
theorem DkOf.type (h : DkOf w s.heap d es) : s.TypeIs (.ref d) "dict" := by
  obtain ⟨⟨o, arr, ep, ho, hc, hd, he⟩, _, _⟩ := h
  exact ⟨o, ho, hc.1⟩
theorem dictGet_any {Q : Option Value → Shared → Prop} (hu : A.units + 8 < cLine) (hk : NestedIs s.heap k u) (kd : k.depth ≤ 8) (D : DkOf w s.heap d es) (h : Q (atK es k) { s with toks := s.toks + k.draws }) :
    wpAny (model prog w) A (dictGet d u) Q E s := by
  obtain ⟨⟨o, arr, ep, ho, hc, hd, he⟩, his, nd⟩ := D
  unfold dictGet
  try with_reducible refine wpAny_holding ?_
  refine wpAny_bind (pyHash_key k u A s _ hk (by omega) (wpAny_bind (find_any (s := { s with toks := s.toks + k.draws }) hu hk kd ho hd he his nd ?_ ?_)))
  · intro hno
    rw [atK_none.mpr hno] at h
    exact wpAny_pure h
  · intro j e hj hkj
    rw [atK_get nd hj hkj] at h
    refine wpAny_bind (wpAny_dictEntries (s := { s with toks := s.toks + k.draws }) ho hd ?_)
    rw [ent_at he, hj]
    exact wpAny_pure h
theorem nested_keep {h h' : Heap} {d : Addr} {o : Obj} {arr : Array DictEntry} {ep : Nat} (ho : h.get? d = some o) (hd : o.data = .dict arr ep) (sb : Heap.SameBut d h h') {k : NestedKey} {u : Value} (hk : NestedIs h k u) : NestedIs h' k u := by
  refine NestedIs.at (fun a o1 vs n e1 e2 => ?_) k u hk
  have ne : a ≠ d := by
    rintro rfl
    rw [ho] at e1
    cases e1
    rw [hd] at e2
    cases e2
  exact (sb.2 a ne).trans e1
theorem grown {arr : Array DictEntry} (he : arr.toList = es.map (ent w)) (hn : atK es k = none) (v : Value) : (arr.push ⟨k.hash w, u, v⟩).toList = (putE es k u v).map (ent w) := by
  rw [putE_new hn, Array.toList_push, he, List.map_append]
  rfl
theorem changed {arr : Array DictEntry} (he : arr.toList = es.map (ent w)) (nd : (es.map (·.1)).Nodup) {j : Nat} {e : En} (hj : es[j]? = some e) (hk : e.1 = k) (v : Value) :
    (arr.modify j fun x => { x with val := v }).toList = (putE es k u v).map (ent w) := by
  rw [putE_old (atK_get nd hj hk), Array.toList_modify, he]
  have gen : ∀ (l : List En) (i : Nat), (l.map (·.1)).Nodup → l[i]? = some e → (l.map (ent w)).modify i (fun x => { x with val := v }) = (l.map (fun e => if e.1 = k then (e.1, e.2.1, v) else e)).map (ent w) := by
    intro l
    induction l with
    | nil =>
      intro i _ h
      simp at h
    | cons f r ih =>
      intro i nd h
      have nd2 : f.1 ∉ r.map (·.1) ∧ (r.map (·.1)).Nodup := List.nodup_cons.mp (by simpa using nd)
      cases i with
      | zero =>
        obtain rfl : f = e := by simpa using h
        have rest : r.map (fun e => if e.1 = k then (e.1, e.2.1, v) else e) = r := by
          conv => rhs; rw [← List.map_id r]
          refine List.map_congr_left fun g hg => ?_
          rw [if_neg (fun z => nd2.1 (List.mem_map.mpr ⟨g, hg, z.trans hk.symm⟩))]
          rfl
        rw [List.map_cons, List.map_cons, List.map_cons, rest, if_pos hk]
        rfl
      | succ i =>
        have h2 : r[i]? = some e := by simpa using h
        have hne : ¬ f.1 = k := fun z => nd2.1 (List.mem_map.mpr ⟨e, List.mem_of_getElem? h2, hk.trans z.symm⟩)
        rw [List.map_cons, List.map_cons, List.map_cons, if_neg hne, List.modify_succ_cons, ih i nd2.2 h2]
  exact gen es j nd hj
theorem DkOf.put_is {h h' : Heap} {d : Addr} {o : Obj} {arr : Array DictEntry} {ep : Nat} (ho : h.get? d = some o) (hd : o.data = .dict arr ep) (sb : Heap.SameBut d h h') (hk : NestedIs h k u) (kd : k.depth ≤ 8)
    (his : ∀ e ∈ es, NestedIs h e.1 e.2.1 ∧ e.1.depth ≤ 8) (v : Value) : ∀ e ∈ putE es k u v, NestedIs h' e.1 e.2.1 ∧ e.1.depth ≤ 8 := fun e hm => by
  rcases putE_mem hm with ⟨f, hf, e1, e2⟩ | ⟨e1, e2⟩
  · rw [← e1, ← e2]
    exact ⟨nested_keep ho hd sb (his f hf).1, (his f hf).2⟩
  · rw [e1, e2]
    exact ⟨nested_keep ho hd sb hk, kd⟩
theorem dictSet_any {v : Value} {Q : Unit → Shared → Prop} (hu : A.units + 8 < cLine) (hk : NestedIs s.heap k u) (kd : k.depth ≤ 8) (D : DkOf w s.heap d es) (hsz : es.length ≤ sizeLine)
    (hQ : ∀ h', DkOf w h' d (putE es k u v) → Heap.SameBut d s.heap h' → Q () { s with heap := h', toks := s.toks + k.draws }) : wpAny (model prog w) A (dictSet d u v) Q E s := by
  obtain ⟨⟨o, arr, ep, ho, hc, hd, he⟩, his, nd⟩ := D
  unfold dictSet
  try with_reducible refine wpAny_holding ?_
  refine wpAny_bind (pyHash_key k u A s _ hk (by omega) ?_)
  unfold dictSetHashed
  try with_reducible refine wpAny_holding ?_
  refine wpAny_bind (find_any (s := { s with toks := s.toks + k.draws }) hu hk kd ho hd he his nd ?_ ?_)
  · intro hno
    refine wpAny_bind (wpAny_rule (wpAny_updateDictKeys (hz := by rw [ent_size he]; exact hsz) (s := { s with toks := s.toks + k.draws }) ho hd (hQ _ ⟨⟨_, _, ep + 1, Heap.get?_update_self _ ho (Obj.isFreed_of_dict (Obj.data_mapDictKeys hd _)),
      hc.mapDictKeys _, Obj.data_mapDictKeys hd _, ?_⟩, ?_, ?_⟩ (Heap.SameBut.update ..))))
    · exact grown he (atK_none.mpr hno) v
    · exact DkOf.put_is ho hd (Heap.SameBut.update ..) hk kd his v
    · exact putE_nd nd
  · intro j e hj hkj
    refine wpAny_bind (wpAny_rule (wpAny_bind (wpAny_updateDict (s := { s with toks := s.toks + k.draws }) ho hd (wpAny_point (hQ _ ⟨⟨_, _, ep, Heap.get?_update_self _ ho (Obj.isFreed_of_dict (Obj.data_mapDict hd _)),
      hc.mapDict _, Obj.data_mapDict hd _, ?_⟩, ?_, ?_⟩ (Heap.SameBut.update ..))))))
    · exact changed he nd hj hkj v
    · exact DkOf.put_is ho hd (Heap.SameBut.update ..) hk kd his v
    · exact putE_nd nd
theorem dictSetDefault_any {v : Value} {Q : Value → Shared → Prop} (hu : A.units + 8 < cLine) (hk : NestedIs s.heap k u) (kd : k.depth ≤ 8) (D : DkOf w s.heap d es) (hsz : es.length ≤ sizeLine)
    (h1 : ∀ y, atK es k = some y → Q y { s with toks := s.toks + k.draws })
    (h2 : atK es k = none → ∀ h', DkOf w h' d (putE es k u v) → Heap.SameBut d s.heap h' → Q v { s with heap := h', toks := s.toks + k.draws }) : wpAny (model prog w) A (dictSetDefault d u v) Q E s := by
  obtain ⟨⟨o, arr, ep, ho, hc, hd, he⟩, his, nd⟩ := D
  unfold dictSetDefault
  try with_reducible refine wpAny_holding ?_
  refine wpAny_bind (pyHash_key k u A s _ hk (by omega) ?_)
  refine wpAny_bind (find_any (s := { s with toks := s.toks + k.draws }) hu hk kd ho hd he his nd ?_ ?_)
  · intro hno
    refine wpAny_bind (wpAny_rule (wpAny_bind (wpAny_updateDictKeys (hz := by rw [ent_size he]; exact hsz) (s := { s with toks := s.toks + k.draws }) ho hd (wpAny_pure (h2 (atK_none.mpr hno) _ ⟨⟨_, _, ep + 1, Heap.get?_update_self _ ho (Obj.isFreed_of_dict (Obj.data_mapDictKeys hd _)),
      hc.mapDictKeys _, Obj.data_mapDictKeys hd _, ?_⟩, ?_, ?_⟩ (Heap.SameBut.update ..))))))
    · exact grown he (atK_none.mpr hno) v
    · exact DkOf.put_is ho hd (Heap.SameBut.update ..) hk kd his v
    · exact putE_nd nd
  · intro j e hj hkj
    refine wpAny_bind (wpAny_dictEntries (s := { s with toks := s.toks + k.draws }) ho hd ?_)
    rw [ent_at he, hj]
    exact wpAny_bind (wpAny_rule (wpAny_pure (h1 _ (atK_get nd hj hkj))))
end
end AK

set_option Elab.async false
set_option linter.all false
set_option maxRecDepth 100000
set_option maxHeartbeats 4000000
namespace AK
open PySem PySem.SeqAt PyProof.Rows
section
variable {prog : Program} {w : World} {A : Around} {E : Value → Shared → Prop} {s : Shared} {es : List En} {k : NestedKey} {u : Value} {d : Addr}
theorem u1 (hu : A.units + 9 < cLine) : A.in1.units + 8 < cLine := by
  simp only [Around.in1_units]
  omega
theorem contains_any {Q : Bool → Shared → Prop} (hu : A.units + 9 < cLine) (hk : NestedIs s.heap k u) (kd : k.depth ≤ 8) (hd : (d == sysModules) = false) (D : DkOf w s.heap d es) (h : Q (atK es k).isSome { s with toks := s.toks + k.draws }) :
    wpAny (model prog w) A (contains (.ref d) u) Q E s := by
  refine wpAny_contains_slot D.type PySem.F.slot_dict_contains ?_
  refine call_meetsIn PySem.F.slot_dict_contains D.type PySem.F.entry_dict_contains (PySem.F.args_dict_contains_2 _ _) (S := fun A' R s' => A' = A ∧ s' = s ∧ R (.ok (.ret (.bool (atK es k).isSome))) { s with toks := s.toks + k.draws }) (.of_wp fun A' R s' hS => ?_) ⟨rfl, rfl, wpAny_truthy_bool h⟩
  obtain ⟨rfl, rfl, hq⟩ := hS
  show wpAny _ _ (dictGet d u >>= _) _ _ _
  refine wpAny_bind (dictGet_any (u1 hu) hk kd D ?_)
  cases hf : atK es k with
  | some p =>
    rw [hf] at hq
    show wpAny _ _ (ret (.bool true)) _ _ _
    exact wpAny_pure ⟨_, rfl, hq⟩
  | none =>
    rw [hf] at hq
    show wpAny _ _ (Builtin.Dict.pendingKey? d u >>= _) _ _ _
    exact wpAny_bind (wpAny_pendingKey_other hd (wpAny_pure ⟨_, rfl, hq⟩))
theorem in_any {Q : Value → Shared → Prop} (hu : A.units + 9 < cLine) (hk : NestedIs s.heap k u) (kd : k.depth ≤ 8) (hd : (d == sysModules) = false) (D : DkOf w s.heap d es) (h : Q (.bool (atK es k).isSome) { s with toks := s.toks + k.draws }) :
    wpAny (model prog w) A (compareOp .In u (.ref d)) Q E s := by
  show wpAny _ _ (do return .bool (← contains (.ref d) u)) Q E s
  exact wpAny_bind (contains_any hu hk kd hd D (wpAny_pure h))
theorem notIn_any {Q : Value → Shared → Prop} (hu : A.units + 9 < cLine) (hk : NestedIs s.heap k u) (kd : k.depth ≤ 8) (hd : (d == sysModules) = false) (D : DkOf w s.heap d es) (h : Q (.bool (!(atK es k).isSome)) { s with toks := s.toks + k.draws }) :
    wpAny (model prog w) A (compareOp .NotIn u (.ref d)) Q E s := by
  show wpAny _ _ (do return .bool (!(← contains (.ref d) u))) Q E s
  exact wpAny_bind (contains_any hu hk kd hd D (wpAny_pure h))
theorem getItem_any {v : Value} {Q : Value → Shared → Prop} (hu : A.units + 9 < cLine) (hk : NestedIs s.heap k u) (kd : k.depth ≤ 8) (D : DkOf w s.heap d es) (hv : atK es k = some v) (h : Q v { s with toks := s.toks + k.draws }) :
    wpAny (model prog w) A (getItem (.ref d) u) Q E s := by
  unfold getItem
  try with_reducible refine wpAny_holding ?_
  refine wpAny_bind (wpAny_sequenceKey D.type (by decide) ?_)
  refine wpAny_bind (wpAny_callSpecial?_slot (name := Str.ofString "__getitem__") D.type PySem.F.slot_dict_getitem
    (wpAny_call_entry PySem.F.slot_dict_getitem D.type PySem.F.entry_dict_getitem ?_ (PySem.F.args_dict_getitem_2 _ _)))
  show wpAny _ _ (dictGet d u >>= _) _ _ s
  refine wpAny_bind (dictGet_any (u1 hu) hk kd D ?_)
  rw [hv]
  exact wpAny_pure ⟨v, rfl, wpAny_pure h⟩
theorem setItem_any {v : Value} {Q : Unit → Shared → Prop} (hu : A.units + 9 < cLine) (hk : NestedIs s.heap k u) (kd : k.depth ≤ 8) (D : DkOf w s.heap d es) (hsz : es.length ≤ sizeLine)
    (hQ : ∀ h', DkOf w h' d (putE es k u v) → Heap.SameBut d s.heap h' → Q () { s with heap := h', toks := s.toks + k.draws }) :
    wpAny (model prog w) A (setItem (.ref d) u v) Q E s := by
  unfold setItem
  try with_reducible refine wpAny_holding ?_
  refine wpAny_bind (wpAny_sequenceKey D.type (by decide) ?_)
  refine wpAny_bind (wpAny_callSpecial?_slot (name := Str.ofString "__setitem__") D.type PySem.F.slot_dict_setitem
    (wpAny_call_entry PySem.F.slot_dict_setitem D.type PySem.F.entry_dict_setitem ?_ (PySem.F.args_dict_setitem_3 _ _ _)))
  show wpAny _ _ (Builtin.Dict.notOrdered "__setitem__" ⟨[.ref d, u, v], []⟩ >>= _) _ _ s
  refine wpAny_bind (wpAny_notOrdered_dict D.type ?_)
  show wpAny _ _ (dictSet d u v >>= _) _ _ s
  exact wpAny_bind (dictSet_any (u1 hu) hk kd D hsz fun h' hm' hs' => wpAny_pure ⟨.none, rfl, wpAny_pure (hQ h' hm' hs')⟩)
/-- d.get(k), d.get(k, x) -/
theorem get1_any {Q : Value → Shared → Prop} (hu : A.units + 9 < cLine) (hk : NestedIs s.heap k u) (kd : k.depth ≤ 8) (hd : (d == sysModules) = false) (D : DkOf w s.heap d es) (h : Q ((atK es k).getD .none) { s with toks := s.toks + k.draws }) :
    wpAny (model prog w) A (call (.builtin "dict.get") [.ref d, u]) Q E s := by
  refine call_meetsIn PySem.F.slot_dict_get D.type PySem.F.entry_dict_get (PySem.F.args_dict_get_2 _ _) (S := fun A' R s' => A' = A ∧ s' = s ∧ R (.ok (.ret ((atK es k).getD .none))) { s with toks := s.toks + k.draws }) (.of_wp fun A' R s' hS => ?_) ⟨rfl, rfl, h⟩
  obtain ⟨rfl, rfl, hq⟩ := hS
  show wpAny _ _ (dictGet d u >>= _) _ _ _
  refine wpAny_bind (dictGet_any (u1 hu) hk kd D ?_)
  cases hf : atK es k with
  | some v =>
    rw [hf] at hq
    exact wpAny_pure ⟨v, rfl, hq⟩
  | none =>
    rw [hf] at hq
    show wpAny _ _ (Builtin.Dict.missed d u >>= _) _ _ _
    exact wpAny_bind (wpAny_missed_other hd (wpAny_pure ⟨.none, rfl, hq⟩))
theorem get2_any {x : Value} {Q : Value → Shared → Prop} (hu : A.units + 9 < cLine) (hk : NestedIs s.heap k u) (kd : k.depth ≤ 8) (hd : (d == sysModules) = false) (D : DkOf w s.heap d es) (h : Q ((atK es k).getD x) { s with toks := s.toks + k.draws }) :
    wpAny (model prog w) A (call (.builtin "dict.get") [.ref d, u, x]) Q E s := by
  refine call_meetsIn PySem.F.slot_dict_get D.type PySem.F.entry_dict_get (PySem.F.args_dict_get_3 _ _ _) (S := fun A' R s' => A' = A ∧ s' = s ∧ R (.ok (.ret ((atK es k).getD x))) { s with toks := s.toks + k.draws }) (.of_wp fun A' R s' hS => ?_) ⟨rfl, rfl, h⟩
  obtain ⟨rfl, rfl, hq⟩ := hS
  show wpAny _ _ (dictGet d u >>= _) _ _ _
  refine wpAny_bind (dictGet_any (u1 hu) hk kd D ?_)
  cases hf : atK es k with
  | some v =>
    rw [hf] at hq
    exact wpAny_pure ⟨v, rfl, hq⟩
  | none =>
    rw [hf] at hq
    show wpAny _ _ (Builtin.Dict.missed d u >>= _) _ _ _
    exact wpAny_bind (wpAny_missed_other hd (wpAny_pure ⟨x, rfl, hq⟩))
/-- d.setdefault(k, x) -/
theorem setdefault_any {x : Value} {Q : Value → Shared → Prop} (hu : A.units + 9 < cLine) (hk : NestedIs s.heap k u) (kd : k.depth ≤ 8) (hd : (d == sysModules) = false) (D : DkOf w s.heap d es) (hsz : es.length ≤ sizeLine)
    (h1 : ∀ y, atK es k = some y → Q y { s with toks := s.toks + k.draws })
    (h2 : atK es k = none → ∀ h', DkOf w h' d (putE es k u x) → Heap.SameBut d s.heap h' → Q x { s with heap := h', toks := s.toks + k.draws }) :
    wpAny (model prog w) A (call (.builtin "dict.setdefault") [.ref d, u, x]) Q E s := by
  refine call_meetsIn PySem.F.slot_dict_setdefault D.type PySem.F.entry_dict_setdefault (PySem.F.args_dict_setdefault_3 _ _ _) (S := fun A' R s' => A' = A ∧ s' = s ∧ (∀ y, atK es k = some y → R (.ok (.ret y)) { s with toks := s.toks + k.draws }) ∧
    (atK es k = none → ∀ h', DkOf w h' d (putE es k u x) → Heap.SameBut d s.heap h' → R (.ok (.ret x)) { s with heap := h', toks := s.toks + k.draws })) (.of_wp fun A' R s' hS => ?_) ⟨rfl, rfl, h1, h2⟩
  obtain ⟨rfl, rfl, g1, g2⟩ := hS
  unfold Builtin.«dict.setdefault»
  refine wpAny_bind ?_
  unfold Builtin.Dict.keyAndDefault
  refine wpAny_bind (wpAny_notOrdered_dict D.type ?_)
  show wpAny _ _ (pure (d, u, some x)) _ _ _
  refine wpAny_pure ?_
  show wpAny _ _ (if (d == sysModules) = true then _ else (dictSetDefault d u x >>= _)) _ _ _
  rw [if_neg (by rw [hd]; exact Bool.false_ne_true)]
  exact wpAny_bind (dictSetDefault_any (u1 hu) hk kd D hsz (fun v hv => wpAny_pure ⟨v, rfl, g1 v hv⟩) fun hn h' hm' hs' => wpAny_pure ⟨x, rfl, g2 hn h' hm' hs'⟩)
end
end AK

set_option Elab.async false
set_option linter.all false
set_option maxRecDepth 100000
set_option maxHeartbeats 4000000
namespace AK
open PySem PySem.Spec PyProof.Rows L2
/-! ### data as keys -/
mutual
def keyD : PyData → Option NestedKey
  | .none => some .none
  | .bool b => some (.num (if b = true then 1 else 0))
  | .int i => some (.num i)
  | .str x => some (.text x)
  | .tuple ds => (keyDs ds).map .tup
  | .list _ => none
  | .dict _ => none
def keyDs : List PyData → Option (List NestedKey)
  | [] => some []
  | d :: ds => match keyD d, keyDs ds with
    | some k, some ks => some (k :: ks)
    | _, _ => none
end
theorem keyDs_cons {d : PyData} {ds : List PyData} {ks : List NestedKey} (h : keyDs (d :: ds) = some ks) : ∃ k ks', keyD d = some k ∧ keyDs ds = some ks' ∧ ks = k :: ks' := by
  unfold keyDs at h
  cases h1 : keyD d with
  | none =>
    rw [h1] at h
    cases h
  | some k =>
    cases h2 : keyDs ds with
    | none =>
      rw [h1, h2] at h
      cases h
    | some ks' =>
      rw [h1, h2] at h
      cases h
      exact ⟨k, ks', rfl, rfl, rfl⟩
mutual
theorem eqv_key : ∀ (d e : PyData) (k j : NestedKey), keyD d = some k → keyD e = some j → PyData.eqv d e = NestedKey.beq k j
  | .none, e, k, j, h1, h2 => by
    cases h1
    cases e with
    | none => cases h2; rfl
    | bool b => cases h2; rfl
    | int i => cases h2; rfl
    | str x => cases h2; rfl
    | tuple ds =>
      obtain ⟨ks, _, rfl⟩ := Option.map_eq_some_iff.mp h2
      rfl
    | list _ => cases h2
    | dict _ => cases h2
  | .bool b, e, k, j, h1, h2 => by
    cases h1
    cases e with
    | none => cases h2; rfl
    | bool c => cases h2; cases b <;> cases c <;> rfl
    | int i =>
      cases h2
      cases b
      · show ((0 : Int) == i) = decide ((0 : Int) = i)
        by_cases z : (0 : Int) = i <;> simp [z]
      · show ((1 : Int) == i) = decide ((1 : Int) = i)
        by_cases z : (1 : Int) = i <;> simp [z]
    | str x => cases h2; rfl
    | tuple ds =>
      obtain ⟨ks, _, rfl⟩ := Option.map_eq_some_iff.mp h2
      rfl
    | list _ => cases h2
    | dict _ => cases h2
  | .int i, e, k, j, h1, h2 => by
    cases h1
    cases e with
    | none => cases h2; rfl
    | bool c =>
      cases h2
      cases c
      · show (i == (0 : Int)) = decide (i = (0 : Int))
        by_cases z : i = (0 : Int) <;> simp [z]
      · show (i == (1 : Int)) = decide (i = (1 : Int))
        by_cases z : i = (1 : Int) <;> simp [z]
    | int l =>
      cases h2
      show (i == l) = decide (i = l)
      by_cases z : i = l <;> simp [z]
    | str x => cases h2; rfl
    | tuple ds =>
      obtain ⟨ks, _, rfl⟩ := Option.map_eq_some_iff.mp h2
      rfl
    | list _ => cases h2
    | dict _ => cases h2
  | .str x, e, k, j, h1, h2 => by
    cases h1
    cases e with
    | none => cases h2; rfl
    | bool c => cases h2; rfl
    | int l => cases h2; rfl
    | str y =>
      cases h2
      show (x == y) = decide (x = y)
      by_cases z : x = y <;> simp [z]
    | tuple ds =>
      obtain ⟨ks, _, rfl⟩ := Option.map_eq_some_iff.mp h2
      rfl
    | list _ => cases h2
    | dict _ => cases h2
  | .tuple xs, e, k, j, h1, h2 => by
    obtain ⟨ks, hk, rfl⟩ := Option.map_eq_some_iff.mp h1
    cases e with
    | none => cases h2; rfl
    | bool c => cases h2; rfl
    | int l => cases h2; rfl
    | str y => cases h2; rfl
    | tuple ds =>
      obtain ⟨js, hj, rfl⟩ := Option.map_eq_some_iff.mp h2
      exact eqvAll_key xs ds ks js hk hj
    | list _ => cases h2
    | dict _ => cases h2
  | .list _, _, _, _, h1, _ => by cases h1
  | .dict _, _, _, _, h1, _ => by cases h1
theorem eqvAll_key : ∀ (d e : List PyData) (k j : List NestedKey), keyDs d = some k → keyDs e = some j → PyData.eqvAll d e = NestedKey.beqAll k j
  | [], [], _, _, h1, h2 => by
    cases h1
    cases h2
    rfl
  | [], e :: es, _, _, h1, h2 => by
    cases h1
    obtain ⟨j, js, _, _, rfl⟩ := keyDs_cons h2
    rfl
  | d :: ds, [], _, _, h1, h2 => by
    cases h2
    obtain ⟨j, js, _, _, rfl⟩ := keyDs_cons h1
    rfl
  | d :: ds, e :: es, _, _, h1, h2 => by
    obtain ⟨k, ks, a1, a2, rfl⟩ := keyDs_cons h1
    obtain ⟨j, js, b1, b2, rfl⟩ := keyDs_cons h2
    show (PyData.eqv d e && PyData.eqvAll ds es) = (NestedKey.beq k j && NestedKey.beqAll ks js)
    rw [eqv_key d e k j a1 b1, eqvAll_key ds es ks js a2 b2]
end
theorem eqv_dec {d e : PyData} {k j : NestedKey} (h1 : keyD d = some k) (h2 : keyD e = some j) : PyData.eqv d e = decide (k = j) := by
  rw [eqv_key d e k j h1 h2, NestedKey.decide_eq]
/-! ### the value of a key -/
def NK (K : PySem.W.Frag) (H : Hp) (k : NestedKey) (v : V) : Prop := ∃ d, Dp K H v d ∧ keyD d = some k
section
variable {X : Cx} {pins : List (Addr × Obj)} {σ : L2.St} {H H' : Hp} {s : Shared}
mutual
theorem nk_is (I : Inv X pins σ H s) : ∀ (d : PyData) (v : V) (u : Value) (k : NestedKey), Dp X.K H v d → keyD d = some k → RelV v u → NestedIs s.heap k u
  | .none, _, _, _, h, hk, r => by
    cases h
    cases r
    cases hk
    exact .none
  | .bool b, _, _, _, h, hk, r => by
    cases h
    cases r
    cases hk
    exact .bool rfl
  | .int i, _, _, _, h, hk, r => by
    cases h
    obtain ⟨t, rfl⟩ := r
    cases hk
    exact .int i t
  | .str x, _, _, _, h, hk, r => by
    cases h
    obtain ⟨t, rfl⟩ := r
    cases hk
    exact .text x t
  | .tuple ds, _, _, _, h, hk, r => by
    obtain ⟨ks, hks, rfl⟩ := Option.map_eq_some_iff.mp hk
    cases h with
    | tup hs ha =>
      cases r
      obtain ⟨its, rv, ⟨o, ho, hc, n, hd⟩, _⟩ := I.tuple hs
      exact .tup ho hc hd (by simpa using nks_are I ds _ its ks ha hks rv)
  | .list _, _, _, _, _, hk, _ => by cases hk
  | .dict _, _, _, _, _, hk, _ => by cases hk
theorem nks_are (I : Inv X pins σ H s) : ∀ (ds : List PyData) (vs : List V) (us : List Value) (ks : List NestedKey), DpAll X.K H vs ds → keyDs ds = some ks → Vals vs us → NestedAll s.heap ks us
  | [], _, _, _, h, hk, r => by
    cases h
    cases r
    cases hk
    exact .nil
  | d :: ds, _, _, _, h, hk, r => by
    obtain ⟨k, ks, a1, a2, rfl⟩ := keyDs_cons hk
    cases h with
    | cons h1 h2 =>
      cases r with
      | cons r1 r2 => exact .cons (nk_is I d _ _ k h1 a1 r1) (nks_are I ds _ _ ks h2 a2 r2)
end
theorem NK.is {k : NestedKey} {v : V} {u : Value} (n : NK X.K H k v) (I : Inv X pins σ H s) (r : RelV v u) : NestedIs s.heap k u := by
  obtain ⟨d, h1, h2⟩ := n
  exact nk_is I d v u k h1 h2 r
end
/-! ### what stays -/
/-- the tuples stay -/
def Tups (H H' : Hp) : Prop := ∀ a xs, Rd H a (.tup xs) → Rd H' a (.tup xs)
theorem Tups.rfl' {H : Hp} : Tups H H := fun _ _ h => h
theorem Tups.trans {H H1 H2 : Hp} (a : Tups H H1) (b : Tups H1 H2) : Tups H H2 := fun c xs h => b c xs (a c xs h)
theorem Tups.upd {H : Hp} {a : Addr} {o : HO} (n : ∀ xs, ¬ Rd H a (.tup xs)) : Tups H (upd H a o) := fun c xs h => by
  have ne : c ≠ a := by
    rintro rfl
    exact n xs h
  unfold Rd
  rw [upd_ne ne]
  exact h
theorem Tups.new {H : Hp} {a : Addr} {o : HO} (n : H a = none) : Tups H (L2.upd H a o) := Tups.upd fun xs h => by
  unfold Rd at h
  rw [n] at h
  rcases h with h | ⟨_, h⟩ <;> cases h
theorem SqT.tups {K : PySem.W.Frag} {H H' : Hp} {a : Addr} {xs : List V} (t : Tups H H') (h : SqT K H a xs) : SqT K H' a xs := h.elim (fun h => .inl (t _ _ h)) .inr
mutual
theorem dp_tups {K : PySem.W.Frag} {H H' : Hp} (t : Tups H H') : ∀ (d : PyData) (v : V) (k : NestedKey), keyD d = some k → Dp K H v d → Dp K H' v d
  | .none, _, _, _, h => by cases h; exact .non
  | .bool b, _, _, _, h => by cases h; exact .bl b
  | .int i, _, _, _, h => by cases h; exact .int i
  | .str x, _, _, _, h => by cases h; exact .str x
  | .tuple ds, _, _, hk, h => by
    obtain ⟨ks, hks, _⟩ := Option.map_eq_some_iff.mp hk
    cases h with
    | tup hs ha => exact .tup (SqT.tups t hs) (dps_tups t ds _ ks hks ha)
  | .list _, _, _, hk, _ => by cases hk
  | .dict _, _, _, hk, _ => by cases hk
theorem dps_tups {K : PySem.W.Frag} {H H' : Hp} (t : Tups H H') : ∀ (ds : List PyData) (vs : List V) (ks : List NestedKey), keyDs ds = some ks → DpAll K H vs ds → DpAll K H' vs ds
  | [], _, _, _, h => by cases h; exact .nil
  | d :: ds, _, _, hk, h => by
    obtain ⟨k, ks, a1, a2, _⟩ := keyDs_cons hk
    cases h with
    | cons h1 h2 => exact .cons (dp_tups t d _ k a1 h1) (dps_tups t ds _ ks a2 h2)
end
theorem NK.tups {K : PySem.W.Frag} {H H' : Hp} {k : NestedKey} {v : V} (t : Tups H H') (n : NK K H k v) : NK K H' k v := by
  obtain ⟨d, h1, h2⟩ := n
  exact ⟨d, dp_tups t d v k h2 h1, h2⟩
/-! ### the dict as it is tracked -/
abbrev Eh := NestedKey × V × V
def DkRaw (w : World) (d : Addr) (es : List Eh) (h : Heap) : Prop := (d == sysModules) = false ∧ es.length ≤ sizeLine ∧ ∃ o arr ep, ∃ us : List En, h.get? d = some o ∧ o.ExactDict ∧ o.data = .dict arr ep ∧ arr.toList = us.map (ent w) ∧ Paired (fun (p : Eh) (q : En) => p.1 = q.1 ∧ RelV p.2.1 q.2.1 ∧ RelV p.2.2 q.2.2) es us
def DkO (w : World) (d : Addr) (es : List Eh) : HO := .ext (DkRaw w d es)
/-- at d: the dict es, its keys known -/
structure DA (K : PySem.W.Frag) (w : World) (H : Hp) (d : Addr) (es : List Eh) : Prop where
  at_ : Rd H d (DkO w d es)
  nk : ∀ e ∈ es, NK K H e.1 e.2.1 ∧ e.1.depth ≤ 8
  nd : (es.map (·.1)).Nodup
theorem pr_atK {es : List Eh} {us : List En} (r : Paired (fun (p : Eh) (q : En) => p.1 = q.1 ∧ RelV p.2.1 q.2.1 ∧ RelV p.2.2 q.2.2) es us) (k : NestedKey) : RelO (atK es k) (atK us k) := by
  induction r with
  | nil => exact True.intro
  | @cons p q ps qs h t ih =>
    obtain ⟨h1, _, h2⟩ := h
    by_cases e : p.1 = k
    · rw [atK_pos e, atK_pos (h1.symm.trans e)]
      exact h2
    · rw [atK_neg e, atK_neg (fun z => e (h1.trans z))]
      exact ih
theorem pr_keys {es : List Eh} {us : List En} (r : Paired (fun (p : Eh) (q : En) => p.1 = q.1 ∧ RelV p.2.1 q.2.1 ∧ RelV p.2.2 q.2.2) es us) : es.map (·.1) = us.map (·.1) := by
  induction r with
  | nil => rfl
  | cons h t ih => rw [List.map_cons, List.map_cons, ih, h.1]
theorem pr_put {es : List Eh} {us : List En} (r : Paired (fun (p : Eh) (q : En) => p.1 = q.1 ∧ RelV p.2.1 q.2.1 ∧ RelV p.2.2 q.2.2) es us) (k : NestedKey) {v x : V} {u z : Value} (rv : RelV v u) (rx : RelV x z) :
    Paired (fun (p : Eh) (q : En) => p.1 = q.1 ∧ RelV p.2.1 q.2.1 ∧ RelV p.2.2 q.2.2) (putE es k v x) (putE us k u z) := by
  have ro := pr_atK r k
  cases h : atK es k with
  | none =>
    rw [h] at ro
    have h' : atK us k = none := by
      cases q : atK us k with
      | none => rfl
      | some y =>
        rw [q] at ro
        exact (show False from ro).elim
    rw [putE_new h, putE_new h']
    exact Paired.snoc r ⟨rfl, rv, rx⟩
  | some y =>
    rw [h] at ro
    have h' : ∃ y', atK us k = some y' := by
      cases q : atK us k with
      | none =>
        rw [q] at ro
        exact (show False from ro).elim
      | some y' => exact ⟨y', rfl⟩
    obtain ⟨y', h'⟩ := h'
    rw [putE_old h, putE_old h']
    clear h h' ro
    induction r with
    | nil => exact .nil
    | @cons p q ps qs hpq t ih =>
      rw [List.map_cons, List.map_cons]
      refine .cons ?_ ih
      obtain ⟨h1, h2, h3⟩ := hpq
      by_cases e : p.1 = k
      · rw [if_pos e, if_pos (h1.symm.trans e)]
        exact ⟨h1, h2, rx⟩
      · rw [if_neg e, if_neg (fun z => e (h1.trans z))]
        exact ⟨h1, h2, h3⟩
section
variable {X : Cx} {pins : List (Addr × Obj)} {σ : L2.St} {H H' : Hp} {s : Shared} {d : Addr} {es : List Eh}
/-- what stands in the heap -/
theorem DA.raw (D : DA X.K X.w H d es) (I : Inv X pins σ H s) : (d == sysModules) = false ∧ es.length ≤ sizeLine ∧ ∃ us : List En, DkOf X.w s.heap d us ∧ Paired (fun (p : Eh) (q : En) => p.1 = q.1 ∧ RelV p.2.1 q.2.1 ∧ RelV p.2.2 q.2.2) es us := by
  obtain ⟨⟨hd, hz, o, arr, ep, us, ho, hc, hdat, he, r⟩, _, _⟩ := (show ObjOk X.prog X.w H s.heap d (DkO X.w d es) from D.at_.ok I.hok)
  refine ⟨hd, hz, us, ⟨⟨o, arr, ep, ho, hc, hdat, he⟩, ?_, by rw [← pr_keys r]; exact D.nd⟩, r⟩
  have all : ∀ {l : List Eh} {m : List En}, Paired (fun (p : Eh) (q : En) => p.1 = q.1 ∧ RelV p.2.1 q.2.1 ∧ RelV p.2.2 q.2.2) l m → (∀ e ∈ l, NK X.K H e.1 e.2.1 ∧ e.1.depth ≤ 8) → ∀ e ∈ m, NestedIs s.heap e.1 e.2.1 ∧ e.1.depth ≤ 8 := by
    intro l m q
    induction q with
    | nil => intro _ e he; exact nomatch he
    | @cons p q ps qs hq t ih =>
      intro hl e he
      rcases List.mem_cons.mp he with rfl | he
      · obtain ⟨a, b⟩ := hl p List.mem_cons_self
        rw [← hq.1]
        exact ⟨a.is I hq.2.1, b⟩
      · exact ih (fun e he => hl e (List.mem_cons_of_mem _ he)) e he
  exact all r D.nk
theorem dk_obj {P : Program} {w : World} {H : Hp} {h : Heap} {us : List En} (hd : (d == sysModules) = false) (hz : es.length ≤ sizeLine) (D : DkOf w h d us) (r : Paired (fun (p : Eh) (q : En) => p.1 = q.1 ∧ RelV p.2.1 q.2.1 ∧ RelV p.2.2 q.2.2) es us) :
    ObjOk P w H h d (DkO w d es) := by
  obtain ⟨⟨o, arr, ep, ho, hc, hdat, he⟩, _, _⟩ := D
  refine ⟨⟨hd, hz, o, arr, ep, us, ho, hc, hdat, he, r⟩, ⟨o, ho⟩, fun h1 h2 z st => ?_⟩
  obtain ⟨hd, hz, o, arr, ep, us, ho, rest⟩ := z
  exact ⟨hd, hz, o, arr, ep, us, st _ ho, rest⟩
theorem DA.keep (D : DA X.K X.w H d es) (t : Tups H H') (e : Rd H' d (DkO X.w d es)) : DA X.K X.w H' d es := ⟨e, fun x hx => ⟨(D.nk x hx).1.tups t, (D.nk x hx).2⟩, D.nd⟩
theorem dk_ntup {w : World} {H : Hp} {d : Addr} {es : List Eh} (e : H d = some (DkO w d es)) : ∀ xs, ¬ Rd H d (.tup xs) := fun xs h => by
  unfold Rd at h
  rw [e] at h
  rcases h with h | ⟨_, h⟩
  · exact nomatch (show DkO w d es = HO.tup xs from Option.some.inj h)
  · exact nomatch (show DkO w d es = HO.frz _ _ from Option.some.inj h)
/-- stored -/
theorem DA.put (D : DA X.K X.w H d es) (e : H d = some (DkO X.w d es)) {k : NestedKey} {v x : V} (n : NK X.K H k v) (kd : k.depth ≤ 8) : DA X.K X.w (upd H d (DkO X.w d (putE es k v x))) d (putE es k v x) := by
  have t : Tups H (upd H d (DkO X.w d (putE es k v x))) := Tups.upd (dk_ntup e)
  refine ⟨.inl upd_same, fun f hf => ?_, putE_nd D.nd⟩
  rcases putE_mem hf with ⟨g, hg, e1, e2⟩ | ⟨e1, e2⟩
  · rw [← e1, ← e2]
    exact ⟨(D.nk g hg).1.tups t, (D.nk g hg).2⟩
  · rw [e1, e2]
    exact ⟨n.tups t, kd⟩
theorem da_new {p : Addr} {w : World} {K : PySem.W.Frag} : DA K w (upd H p (DkO w p [])) p [] := ⟨.inl upd_same, (fun _ h => nomatch h), List.nodup_nil⟩
end
/-! ### the rules -/
section
variable {X : Cx} {pos : Pos}
def tDNewA (w : World) : TE := fun _ H Q => ∀ p, H p = none → Q (.ref p) (upd H p (DkO w p []))
theorem pe_dnewA : PE X (.Dict [] [] pos) (tDNewA X.w) := ⟨fun pins s σ H Q I h =>
  wpAny_Dict_empty ⟨.ref s.heap.objs.size, _, I.laid (a := s.heap.objs.size) (o := DkO X.w s.heap.objs.size []) (t' := s.toks) (fun _ _ q => Heap.get?_push_of_some _ q) (Nat.le_refl _) (by
    have e : (s.heap.push { cls := .type "dict", data := .dict #[] }).get? s.heap.objs.size = some { cls := .type "dict", data := .dict #[] } := Heap.get?_push_size _ rfl
    obtain ⟨_, hd, _⟩ := dk_empty (P := X.prog) (w := X.w) (H := H) s.heap I.big
    exact dk_obj (us := []) hd (Nat.zero_le _) ⟨⟨_, _, _, e, ⟨rfl, rfl, rfl⟩, rfl, rfl⟩, (fun _ h => nomatch h), List.nodup_nil⟩ .nil), rfl, h _ (I.hok.fresh (Nat.le_refl _))⟩⟩
def rInA (K : PySem.W.Frag) (w : World) : R2 := fun x y H Q => ∃ d es k, y = .ref d ∧ DA K w H d es ∧ NK K H k x ∧ k.depth ≤ 8 ∧ Q (.bl (atK es k).isSome) H
def rNotInA (K : PySem.W.Frag) (w : World) : R2 := fun x y H Q => ∃ d es k, y = .ref d ∧ DA K w H d es ∧ NK K H k x ∧ k.depth ≤ 8 ∧ Q (.bl (!(atK es k).isSome)) H
theorem op_inA (hu : X.A.units + 64 < cLine) : OpR X (compareOp .In) (rInA X.K X.w) := by
  intro pins s σ H x y v u Q I rx ry h
  obtain ⟨d, es, k, rfl, D, n, kd, q⟩ := h
  cases ry
  obtain ⟨hd, hz, us, R, r⟩ := D.raw I
  refine in_any (by omega) (n.is I rx) kd hd R ⟨.bl _, H, I.tok _, rfl, ?_⟩
  rw [← (pr_atK r k).isSome_eq]
  exact q
theorem op_notInA (hu : X.A.units + 64 < cLine) : OpR X (compareOp .NotIn) (rNotInA X.K X.w) := by
  intro pins s σ H x y v u Q I rx ry h
  obtain ⟨d, es, k, rfl, D, n, kd, q⟩ := h
  cases ry
  obtain ⟨hd, hz, us, R, r⟩ := D.raw I
  refine notIn_any (by omega) (n.is I rx) kd hd R ⟨.bl _, H, I.tok _, rfl, ?_⟩
  rw [← (pr_atK r k).isSome_eq]
  exact q
theorem relO_some {o : Option V} {u : Option Value} {v : V} (r : RelO o u) (h : o = some v) : ∃ z, u = some z ∧ RelV v z := by
  subst h
  cases u with
  | none => exact (show False from r).elim
  | some z => exact ⟨z, rfl, r⟩
def rIxA (K : PySem.W.Frag) (w : World) : R2 := fun x y H Q => ∃ d es k v, x = .ref d ∧ DA K w H d es ∧ NK K H k y ∧ k.depth ≤ 8 ∧ atK es k = some v ∧ Q v H
theorem ix_dictA (hu : X.A.units + 64 < cLine) : IxR X (rIxA X.K X.w) := by
  intro value slice pins s σ H x y v u Q I rx ry h hs
  obtain ⟨d, es, k, z, rfl, D, n, kd, hv, q⟩ := h
  cases rx
  obtain ⟨hd, hz, us, R, r⟩ := D.raw I
  obtain ⟨z', h1, h2⟩ := relO_some (pr_atK r k) hv
  refine subscriptTail_builtinR (x := z') R.type PySem.F.slot_dict_getitem.lookup ?_ hs
  exact getItem_any (by omega) (n.is I ry) kd R h1 ⟨rfl, z, H, I.tok _, h2, q⟩
def rSetA (K : PySem.W.Frag) (w : World) : TSet := fun o i v H Q => ∃ d es k, o = .ref d ∧ H d = some (DkO w d es) ∧ DA K w H d es ∧ NK K H k i ∧ k.depth ≤ 8 ∧ es.length < sizeLine ∧ Q (upd H d (DkO w d (putE es k i v)))
theorem dk_put {pins : List (Addr × Obj)} {σ : L2.St} {H : Hp} {s : Shared} {d : Addr} {es : List Eh} {us : List En} {k : NestedKey} {i v : V} {iv u : Value} {h' : Heap} {t : Nat} (I : Inv X pins σ H s) (e : H d = some (DkO X.w d es)) (hd : (d == sysModules) = false)
    (r : Paired (fun (p : Eh) (q : En) => p.1 = q.1 ∧ RelV p.2.1 q.2.1 ∧ RelV p.2.2 q.2.2) es us) (ri : RelV i iv) (rv : RelV v u) (hl : es.length < sizeLine) (hm : DkOf X.w h' d (putE us k iv u)) (hs : Heap.SameBut d s.heap h') :
    Inv X pins σ (upd H d (DkO X.w d (putE es k i v))) { s with heap := h', toks := t } := by
  have he : ∃ q, h'.get? d = some q := by
    obtain ⟨⟨o, _, _, ho, _⟩, _⟩ := hm
    exact ⟨o, ho⟩
  have hz : (putE es k i v).length ≤ sizeLine := by
    have := putE_len es k i v
    omega
  exact d_write I (by rw [e]; exact True.intro) hs he (dk_obj hd hz hm (pr_put r k ri rv))
theorem set_dictA (hu : X.A.units + 64 < cLine) : PSet X (rSetA X.K X.w) := by
  intro pins s σ H o i v ov iv u Q I ro ri rv h
  obtain ⟨d, es, k, rfl, e, D, n, kd, hl, q⟩ := h
  cases ro
  obtain ⟨hd, hz, us, R, r⟩ := D.raw I
  have hz2 : us.length ≤ sizeLine := by
    rw [← Paired.length r]
    exact hz
  exact setItem_any (by omega) (n.is I ri) kd R hz2 fun h' hm hs => ⟨_, dk_put I e hd r ri rv hl hm hs, q⟩
end
end AK

set_option Elab.async false
set_option linter.all false
set_option maxRecDepth 100000
set_option maxHeartbeats 4000000
namespace AK
open PySem PySem.Spec PyProof.Rows L2
section
variable {X : Cx}
/-- d.m(e, ..), d a dict of this kind -/
def isDA (w : World) (x : V) (H : Hp) : Prop := ∃ d es, x = .ref d ∧ Rd H d (DkO w d es)
theorem isDA_is {pins : List (Addr × Obj)} {σ : L2.St} {H : Hp} {s : Shared} {x : V} {v : PySem.Value} (I : L2.Inv X pins σ H s) (r : RelV x v) (ty : isDA X.w x H) :
    s.TypeIs v "dict" ∧ ∀ a, v = .ref a → ∃ ob, s.heap.get? a = some ob ∧ ob.dict = none := by
  obtain ⟨d, es, rfl, e⟩ := ty
  cases r
  obtain ⟨⟨_, _, o, arr, ep, us, ho, hc, _⟩, _, _⟩ := (show ObjOk X.prog X.w H s.heap d (DkO X.w d es) from e.ok I.hok)
  refine ⟨⟨o, ho, hc.1⟩, fun a z => ?_⟩
  cases z
  exact ⟨o, ho, hc.2.1⟩
def tBMA (w : World) (r : V → List V → Hp → VK → Prop) (to : TE) (t : TA) : TE := fun σ H Q => to σ H fun x H1 => isDA w x H1 ∧ t σ H1 fun xs H2 => r x xs H2 Q
variable {o e : PySem.Expr} {es : List PySem.Expr} {to : TE} {t : TA} {name : Str} {apos cpos : Pos} {id : String} {r : V → List V → Hp → VK → Prop}
theorem pe_bmA (slot : Slot "dict" name id) (hty : typeOf (.builtin id) = pure (.type "method_descriptor")) (hm : MtR X id r) (ho : PE X o to) (ha : PA X (e :: es) t)
    (hbase : attributeBase o name X.env (eval o X.env) = eval o X.env := by rfl)
    (hfew : ((backTo cpos (starEach (e :: es) X.env)).all (fun x => !x.1) && (backToKw cpos (keywordEach [] X.env)).all (fun x => x.1.isSome)
      && decide ((e :: es).length + ([] : List Keyword).length + (if ([] : List Keyword).isEmpty then 0 else 1) < 30)) = true := by rfl)
    (hline : (apos.endLine == cpos.line) = true := by rfl) (hs : starEach (e :: es) X.env = (false, eval e X.env) :: starEach es X.env := by rfl) (hplain : (backTo cpos (starEach es X.env)).any (·.1) = false := by rfl) :
    PE X (.Call (.Attribute o name apos) (e :: es) [] cpos) (tBMA X.w r to t) := by
  refine ⟨fun pins s σ H Q I h => ?_⟩
  refine wpAny_Call_method_late hbase hfew hline rfl (thn (ho.run pins s σ H _ I h) fun v s1 ⟨x, H1, I1, r1, ty, q1⟩ => ?_)
  obtain ⟨h1, h2⟩ := isDA_is I1 r1 ty
  refine ⟨"dict", id, PySem.F.plainAttrs_dict, slot, hty, h1, h2, ?_⟩
  have hA := ha.run cpos pins s1 σ H1 _ I1 q1
  rw [hs] at hA ⊢
  refine Calls.callWith_builtin (by show (false || (backTo cpos (starEach es X.env)).any (·.1)) = false; rw [hplain] <;> rfl) (Calls.evalArgs_plain ?_)
  exact thn hA fun us s2 ⟨vs, H2, I2, r2, q2⟩ => hm pins s2 σ H2 x vs v us Q I2 r1 r2 q2
def rGetA1 (K : PySem.W.Frag) (w : World) : V → List V → Hp → VK → Prop := fun x xs H Q => ∃ d es k y, x = .ref d ∧ xs = [y] ∧ DA K w H d es ∧ NK K H k y ∧ k.depth ≤ 8 ∧ Q ((atK es k).getD .non) H
def rGetA2 (K : PySem.W.Frag) (w : World) : V → List V → Hp → VK → Prop := fun x xs H Q => ∃ d es k y z, x = .ref d ∧ xs = [y, z] ∧ DA K w H d es ∧ NK K H k y ∧ k.depth ≤ 8 ∧ Q ((atK es k).getD z) H
def rSdA (K : PySem.W.Frag) (w : World) : V → List V → Hp → VK → Prop := fun x xs H Q => ∃ d es k y z, x = .ref d ∧ xs = [y, z] ∧ H d = some (DkO w d es) ∧ DA K w H d es ∧ NK K H k y ∧ k.depth ≤ 8 ∧ es.length < sizeLine ∧
  (∀ v, atK es k = some v → Q v H) ∧ (atK es k = none → Q z (upd H d (DkO w d (putE es k y z))))
theorem mt_getA1 (hu : X.A.units + 64 < cLine) : MtR X "dict.get" (rGetA1 X.K X.w) := by
  intro pins s σ H x xs v us Q I rx rs h
  obtain ⟨d, es, k, y, rfl, rfl, D, n, kd, q⟩ := h
  cases rx
  obtain ⟨u, rfl, ry⟩ := vals1 rs
  obtain ⟨hd, hz, us, R, r⟩ := D.raw I
  exact get1_any (by omega) (n.is I ry) kd hd R ⟨_, H, I.tok _, RelO.getD (d := V.non) (d' := PySem.Value.none) (pr_atK r k) rfl, q⟩
theorem mt_getA2 (hu : X.A.units + 64 < cLine) : MtR X "dict.get" (rGetA2 X.K X.w) := by
  intro pins s σ H x xs v us Q I rx rs h
  obtain ⟨d, es, k, y, z, rfl, rfl, D, n, kd, q⟩ := h
  cases rx
  obtain ⟨u, u2, rfl, ry, rz⟩ := vals2 rs
  obtain ⟨hd, hz, us, R, r⟩ := D.raw I
  exact get2_any (by omega) (n.is I ry) kd hd R ⟨_, H, I.tok _, RelO.getD (pr_atK r k) rz, q⟩
theorem mt_sdA (hu : X.A.units + 64 < cLine) : MtR X "dict.setdefault" (rSdA X.K X.w) := by
  intro pins s σ H x xs v us Q I rx rs h
  obtain ⟨d, es, k, y, z, rfl, rfl, e, D, n, kd, hl, q1, q2⟩ := h
  cases rx
  obtain ⟨u, u2, rfl, ry, rz⟩ := vals2 rs
  obtain ⟨hd, hz, us, R, r⟩ := D.raw I
  have hz2 : us.length ≤ sizeLine := by
    rw [← Paired.length r]
    exact hz
  have ro := pr_atK r k
  refine setdefault_any (by omega) (n.is I ry) kd hd R hz2 (fun v' hv => ?_) (fun hn h' hm hs => ?_)
  · rw [hv] at ro
    cases qv : atK es k with
    | none =>
      rw [qv] at ro
      exact (show False from ro).elim
    | some v =>
      rw [qv] at ro
      exact ⟨v, H, I.tok _, ro, q1 v qv⟩
  · rw [hn] at ro
    cases qv : atK es k with
    | none => exact ⟨z, _, dk_put I e hd r ry rz hl hm hs, rz, q2 qv⟩
    | some v =>
      rw [qv] at ro
      exact (show False from ro).elim
end
end AK

set_option Elab.async false
set_option linter.all false
set_option maxRecDepth 100000
set_option maxHeartbeats 4000000
namespace AK
open PySem PySem.Spec PyProof.Rows L2
/-- a comprehension's store into such a dict -/
theorem comp_put {X : Cx} {pins : List (Addr × Obj)} {σ : L2.St} {H : Hp} {s : Shared} {E : PySem.Value → Shared → Prop} {d : Addr} {es : List Eh} {k : NestedKey} {y z : V} {u r : PySem.Value} {Q : Unit → Shared → Prop} (hu : X.A.units + 64 < cLine) (I : L2.Inv X pins σ H s)
    (e : H d = some (DkO X.w d es)) (D : DA X.K X.w H d es) (n : NK X.K H k y) (kd : k.depth ≤ 8) (hl : es.length < sizeLine) (ry : RelV y u) (rz : RelV z r) (h : ∀ s', L2.Inv X pins σ (upd H d (DkO X.w d (putE es k y z))) s' → Q () s') :
    wpAny (model X.prog X.w) X.A (dictSet d u r) Q E s := by
  obtain ⟨hd, hz, us, R, rel⟩ := D.raw I
  have hz2 : us.length ≤ sizeLine := by
    rw [← Paired.length rel]
    exact hz
  exact dictSet_any (by omega) (n.is I ry) kd R hz2 fun h' hm hs => h _ (dk_put I e hd rel ry rz hl hm hs)
/-- how far a comprehension has come: the turns that are left, the heap's view -/
def tDcA (K : PySem.W.Frag) (w : World) (wi : TI) (g : TG) (tk tv : TE) (vs : List Nat) : TE := fun σ H Q => wi σ H fun J H1 => ∀ d, H1 d = none → ∃ Left : Nat → Nat → Hp → Prop, (∃ m, Left 0 m (upd H1 d (DkO w d []))) ∧ ∀ i m H, Left i m H →
  (J.stop i H ∧ Q (.ref d) H) ∨ (J.go i H ∧ ∃ Next : Hp → Prop, (∀ H', Next H' → ∃ m', m' < m ∧ Left (i + 1) m' H') ∧ ∀ x H', J.yld i H x H' → g x (wipe σ vs) H' fun σ2 H2 => wipe σ2 vs = wipe σ vs ∧
    tk σ2 H2 fun y H4 => tv σ2 H4 fun z H5 => ∃ es k, H5 d = some (DkO w d es) ∧ DA K w H5 d es ∧ NK K H5 k y ∧ k.depth ≤ 8 ∧ es.length < sizeLine ∧ Next (upd H5 d (DkO w d (putE es k y z))))
/-- the new dict, tracked -/
theorem fresh_dict {X : Cx} {pins : List (Addr × Obj)} {σ : L2.St} {H : Hp} {s : Shared} (I : L2.Inv X pins σ H s) :
    L2.Inv X pins σ (upd H s.heap.objs.size (DkO X.w s.heap.objs.size [])) { s with heap := s.heap.push { cls := .type "dict", data := .dict #[] } } := by
  refine I.laid (t' := s.toks) (fun _ _ q => Heap.get?_push_of_some _ q) (Nat.le_refl _) ?_
  have e : (s.heap.push { cls := .type "dict", data := .dict #[] }).get? s.heap.objs.size = some { cls := .type "dict", data := .dict #[] } := Heap.get?_push_size _ rfl
  obtain ⟨_, hd, _⟩ := dk_empty (P := X.prog) (w := X.w) (H := H) s.heap I.big
  exact dk_obj (us := []) hd (Nat.zero_le _) ⟨⟨_, _, _, e, ⟨rfl, rfl, rfl⟩, rfl, rfl⟩, (fun _ h => nomatch h), List.nodup_nil⟩ .nil
theorem pe_dcA {X : Cx} {kx vx tg it : PySem.Expr} {scope : Scope} {own : List (Str × Nat)} {pos : Pos} {wi : TI} {g : TG} {tk tv : TE} (hu : X.A.units + 64 < cLine) (calm : X.calm = true) (nd : X.N.Nodup) (walk : PI X tg it wi) (blk : BlkOk X.N X.env.scope scope own)
    (target : ∀ (s : Shared) (H : Hp) (C : Addr) (cl : List (Str × Addr)) (fp : List Addr), PG (X.blk s H scope (compEnvC scope cl C X.env) fp) tg g)
    (key : ∀ (s : Shared) (H : Hp) (C : Addr) (cl : List (Str × Addr)) (fp : List Addr), PE (X.blk s H scope (compEnvC scope cl C X.env) fp) kx tk)
    (val : ∀ (s : Shared) (H : Hp) (C : Addr) (cl : List (Str × Addr)) (fp : List Addr), PE (X.blk s H scope (compEnvC scope cl C X.env) fp) vx tv) (plain : ∀ x, foldedSetIterable it X.env x = pure x := by intro _; rfl) :
    PE X (.DictComp kx vx [⟨tg, it, [], 0⟩] scope pos) (tDcA X.K X.w wi g tk tv (own.map (·.2))) := by
  refine ⟨fun pins s0 σ H0 Q I0 start => ?_⟩
  rw [arm_eval_DictComp]
  have caught : ∀ y ∈ scope.names, y.2 = .free → ∃ c, X.env.cells.lookup y.1 = some c := fun y hy e => (blk.free y hy e).elim (fun k => I0.ok.has _ (.inl k)) fun k => I0.ok.has _ (.inr k)
  refine wpAny_comprehension_free (use := _) rfl plain (closure_ok caught) blk.kind (fun y hy e => by rw [blk.uniq y hy, e]) (thn (walk.run pins s0 σ H0 _ I0 start) fun _ sa ha => thn ha fun _ sb hb => ?_)
  obtain ⟨itA, feet, place, J, Hb, rfl, Ib, T, at0, apart, more⟩ := hb
  refine wpAny_newObj_type (newEnv_comp ?_)
  obtain ⟨Left, ⟨mFirst, first⟩, each⟩ := more sb.heap.objs.size (Ib.hok.fresh (Nat.le_refl _))
  have Ic := fresh_dict Ib
  have small : ∀ b ∈ feet, b < sb.heap.objs.size := fun b hb => let ⟨_, e, _⟩ := T.obj _ _ at0 b hb; Heap.lt_size e
  have apart2 : ∀ b ∈ feet, FpOk X pins (upd Hb sb.heap.objs.size (DkO X.w sb.heap.objs.size [])) b ∧ b < (sb.heap.push { cls := .type "dict", data := .dict #[] }).objs.size := fun b hb => by
    refine ⟨⟨?_, (apart b hb).2⟩, ?_⟩
    · rw [upd_ne (Nat.ne_of_lt (small b hb))]
      exact (apart b hb).1
    · rw [Heap.size_push]
      exact Nat.lt_succ_of_lt (small b hb)
  have at1 : place 0 (sb.heap.push { cls := .type "dict", data := .dict #[] }) := T.keep _ _ _ at0 fun b _ o e => Heap.get?_push_of_some _ e
  -- the block's own frame
  generalize eC : ({ sb with heap := sb.heap.push { cls := .type "dict", data := .dict #[] } } : Shared) = sc at Ic
  have hC : sb.heap.push { cls := .type "dict", data := .dict #[] } = sc.heap := by rw [← eC]
  rw [hC] at apart2 at1
  generalize sb.heap.objs.size = d at Ic apart2 first each ⊢
  generalize eH : upd Hb d (DkO X.w d []) = HC at Ic apart2 first
  have Id := block_start Ic blk nd apart2
  have ptg := target sc HC sc.heap.objs.size (cellsFrom (sc.heap.objs.size + 1) scope.names (cloFrom X.env.cells scope.names [])) feet
  have pky := key sc HC sc.heap.objs.size (cellsFrom (sc.heap.objs.size + 1) scope.names (cloFrom X.env.cells scope.names [])) feet
  have pvl := val sc HC sc.heap.objs.size (cellsFrom (sc.heap.objs.size + 1) scope.names (cloFrom X.env.cells scope.names [])) feet
  show codeAny _ _ (.compStart (.DictComp kx vx [⟨tg, it, [], 0⟩] scope pos) 0 (.ref itA) (.ref d) (compEnvC scope (cellsFrom (sc.heap.objs.size + 1) scope.names (cloFrom X.env.cells scope.names [])) sc.heap.objs.size X.env)) (compPost (model X.prog X.w) X.A X.xe none (EP X pins σ Q) (.ref d) sc.heap.objs.size) { sc with heap := pushCells (sc.heap.push { cls := .type "dict", data := .dict #[] }) scope.names }
  generalize eEnv : compEnvC scope (cellsFrom (sc.heap.objs.size + 1) scope.names (cloFrom X.env.cells scope.names [])) sc.heap.objs.size X.env = env at Id ptg pky pvl ⊢
  have eLoc : env.locals = sc.heap.objs.size := by rw [← eEnv] <;> rfl
  generalize eD : ({ sc with heap := pushCells (sc.heap.push { cls := .type "dict", data := .dict #[] }) scope.names } : Shared) = sd at Id ⊢
  have at2 : place 0 sd.heap := by
    rw [← eD]
    exact T.keep _ _ _ at1 fun b _ o e => pushCells_keeps _ _ _ _ (Heap.get?_push_of_some _ e)
  -- the walk's own objects stay apart
  have keptApart : ∀ {σ' : L2.St} {H' : Hp} {s' : Shared}, L2.Inv (X.blk sc HC scope env feet) [] σ' H' s' → (∀ b ∈ feet, H' b = none) → ∀ b ∈ feet, FpOk (X.blk sc HC scope env feet) [] H' b := fun I' no b hb => by
    obtain ⟨x1, x2⟩ := I'.ok.exf b hb
    exact ⟨no b hb, x1, I'.ok.exfs b hb, .inl hb, fun x c e => x2 x c e, fun p hp => by simp at hp⟩
  have turns : codeAny (model X.prog X.w) X.A (.compLoop (.DictComp kx vx [⟨tg, it, [], 0⟩] scope pos) 0 (.ref itA) (.ref d) env) (compPost (model X.prog X.w) X.A X.xe none (EP X pins σ Q) (.ref d) sc.heap.objs.size) sd := by
    refine compLoop_anyD (fun n s' => ∃ i H', L2.Inv (X.blk sc HC scope env feet) [] (wipe σ (own.map (·.2))) H' s' ∧ place i s'.heap ∧ (∀ b ∈ feet, H' b = none) ∧ Left i n H') ?_ mFirst ⟨0, HC, Id, at2, (fun b hb => (apart2 b hb).1.1), first⟩
    rintro n s1 ⟨i, H1, I1, p1, no1, left⟩
    rcases each i n H1 left with ⟨halt, here⟩ | ⟨goes, Next, down, turn⟩
    · refine thnF (T.done (X.blk sc HC scope env feet) rfl rfl rfl calm i [] s1 _ H1 (fun _ _ => False) I1 (keptApart I1 no1) p1 halt) fun r s2 z => ?_
      obtain ⟨rfl, I2⟩ := z
      have back : L2.Inv X pins σ H1 s2 := Ic.call' (ch := feet) I2.os I2.base I2.hok I2.bare fun b hb => by
        obtain ⟨⟨_, y1, _, y2, y3, y4⟩, _⟩ := apart2 b hb
        exact ⟨y2, y1, y3, y4⟩
      have nLoc : H1 sc.heap.objs.size = none := by
        rw [← eLoc]
        exact I2.free
      obtain ⟨m, hm, _⟩ := I2.loc
      have hm2 : s2.heap.Ns sc.heap.objs.size m := by
        rw [← eLoc]
        exact hm
      refine ⟨m, hm2, fun h'' sb2 => ?_⟩
      obtain ⟨y0, y1, y2, y3, y4, y5⟩ := Ic.fpOk (Nat.le_refl _) nLoc
      exact ⟨.ref d, H1, back.turned (t' := s2.toks) (fun b o hb e => (sb2.2 b hb).trans e) y0 y1 y3 y4 y5, rfl, here⟩
    · refine thnF (T.item (X.blk sc HC scope env feet) rfl rfl rfl calm i [] s1 _ H1 (fun _ _ => False) I1 (keptApart I1 no1) p1 goes) fun r s2 z => ?_
      obtain ⟨u, rfl, got⟩ := z
      refine thnF got fun _ s3 z => ?_
      obtain ⟨x, H3, I3, rx, yl, p3, no3⟩ := z
      have I3p := I3.pinned (keptApart I3 no3) (T.obj _ _ p3)
      refine thnF (ptg.run _ s3 _ H3 x u _ I3p rx (turn x H3 yl)) fun _ s4 z => ?_
      obtain ⟨σ4, H4, I4, same, q4⟩ := z
      refine wpAny_pure ?_
      rw [if_pos rfl]
      refine thnF (pky.run _ s4 σ4 H4 _ I4 q4) fun kv s5 z => ?_
      obtain ⟨y, H5, I5, ry, q5⟩ := z
      refine thnF (pvl.run _ s5 σ4 H5 _ I5 q5) fun vv s6 z => ?_
      obtain ⟨zv, H6, I6, rz, es, k, e6, D6, n6, kd, few, next⟩ := z
      refine comp_put (X := X.blk sc HC scope env feet) hu I6 e6 D6 n6 kd few ry rz fun s7 I7 => ?_
      obtain ⟨m', lower, left'⟩ := down _ next
      have pinned : ∀ b ∈ feet, ∀ o, s3.heap.get? b = some o → s7.heap.get? b = some o ∧ (upd H6 d (DkO X.w d (putE es k y zv))) b = none := fun b hb o e => by
        have z := I7.pin (b, o) (List.mem_append_right _ (List.mem_append_right _ (mem_pinsAt hb e)))
        exact ⟨z.1, z.2.1⟩
      have len : (wipe σ (own.map (·.2))).length = σ4.length := by rw [← same, wipe_length]
      refine ⟨m', lower, i + 1, _, (I7.unpinned (pins := [])).weak len (fun j v e => ?_), T.keep _ _ _ p3 fun b hb o e => (pinned b hb o e).1, (fun b hb => ?_), left'⟩
      · rw [← same] at e
        exact (wipe_some e).1
      · obtain ⟨o, e, _⟩ := T.obj _ _ p3 b hb
        exact (pinned b hb o e).2
  exact codeAny_compStart_dict turns (T.self X.A 0 _ _ _ at2 turns)
end AK

set_option Elab.async false
set_option linter.all false
set_option maxRecDepth 100000
set_option maxHeartbeats 4000000
namespace AK
open PySem PySem.Spec PyProof.Rows L2
/-! ### enumerate of a tuple -/
theorem new_enum {v : PySem.Value} {o : Obj} {Hb : Heap → Prop} (B : Begins v o Hb) :
    Meets (Builtin.«enumerate.__new__» ⟨[.type "enumerate", v], []⟩) (fun _ R s => Hb s.heap ∧
      R (.ok (.ret (.ref (s.heap.push o).objs.size))) { s with heap := (s.heap.push o).push { cls := .type "enumerate", data := .fields #[.none, .bool false, .ref s.heap.objs.size, rawInt 0, .none, .none] } }) :=
  .of_wp fun prog w A R s both => by
    obtain ⟨hp, gs, dr, tk, os⟩ := s
    obtain ⟨there, ends⟩ := both
    have sub1 := sub_enumerate
    have begun : ∀ {A' : Around} {E : PySem.Value → Shared → Prop} {Q : PySem.Value → Shared → Prop}, Q (.ref hp.objs.size) ⟨hp.push o, gs, dr, tk, os⟩ → wpAny (model prog w) A' (pyIter v) Q E ⟨hp, gs, dr, tk, os⟩ :=
      fun z => B.iter prog w _ _ ⟨hp, gs, dr, tk, os⟩ _ there z
    wp_walk using begun
    refine wpAny_stack_any fun st => wpAny_pure ?_
    split
    · rename_i c _ _ _ _ _
      by_cases ec : (c == PySem.Value.type "enumerate") = true
      · rw [ec]
        wp_walk using begun
        exact ⟨_, rfl, ends⟩
      · rw [Bool.eq_false_iff.mpr ec]
        wp_walk using begun
        exact ⟨_, rfl, ends⟩
    · wp_walk using begun
      exact ⟨_, rfl, ends⟩
theorem call_enum {prog : Program} {w : World} {A : Around} {E : PySem.Value → Shared → Prop} {s : Shared} {v : PySem.Value} {o : Obj} {Hb : Heap → Prop} {Q : PySem.Value → Shared → Prop} (B : Begins v o Hb) (there : Hb s.heap)
    (ends : ∀ h', IsEnum h' (s.heap.objs.size + 1) s.heap.objs.size 0 .none → h'.get? s.heap.objs.size = some o → (∀ b o, s.heap.get? b = some o → h'.get? b = some o) → Q (.ref (s.heap.objs.size + 1)) { s with heap := h' }) :
    wpAny (model prog w) A (call (.type "enumerate") [v]) Q E s := by
  refine callType_new PySem.F.called_enumerate (by decide) (PySem.F.typeCall_enumerate_1 _) (PySem.F.newCall_enumerate_1 _) (fun obj => PySem.F.args_object_init_2 obj _) PySem.F.entry_enumerate_new (new_enum B) ⟨there, ?_⟩
  have size1 : (s.heap.push o).objs.size = s.heap.objs.size + 1 := Heap.size_push ..
  have made : IsEnum ((s.heap.push o).push { cls := .type "enumerate", data := .fields #[.none, .bool false, .ref s.heap.objs.size, rawInt 0, .none, .none] }) (s.heap.objs.size + 1) s.heap.objs.size 0 .none := by
    have z := Heap.get?_push_size (s.heap.push o) (o := { cls := .type "enumerate", data := .fields #[.none, .bool false, .ref s.heap.objs.size, rawInt 0, .none, .none] }) rfl
    rw [size1] at z
    exact z
  show _ ∧ _
  rw [size1]
  exact ⟨⟨_, made, rfl⟩, ends _ made (Heap.get?_push_of_some _ (Heap.get?_push_size _ B.free)) fun b o x => Heap.get?_push_of_some _ (Heap.get?_push_of_some _ x)⟩
/-- each turn: a new pair of the place and the item -/
def IteT (K : PySem.W.Frag) (a : Addr) : It :=
  ⟨fun i H => ∃ (xs : List V) (x : V), SqT K H a xs ∧ xs[i]? = some x, fun i H v H' => ∃ T x, v = .ref T ∧ H T = none ∧ H' = upd H T (.tup [.int (i : Nat), x]) ∧ ∀ xs, SqT K H a xs → xs[i]? = some x, fun i H => ∃ xs : List V, SqT K H a xs ∧ xs.length = i⟩
theorem turn_enumT {P : Program} {w : World} {K : PySem.W.Frag} {elts : List PySem.Expr} {kk : Nat} {tpos : Pos} (a e it : Addr) :
    Turn P w K (.Tuple elts kk tpos) (IteT K a) [e, it] e (fun i h => (∃ old, IsEnum h e it ((i : Nat) : Int) old) ∧ h.IsTupleIter it a i ∧ e ≠ it) where
  mem := by simp
  obj := fun i h st b hb => by
    obtain ⟨⟨old, is⟩, ⟨o, there, _, data⟩, _⟩ := st
    rcases List.mem_cons.mp hb with rfl | hb
    · exact ⟨_, is, fun v q => nomatch q⟩
    · obtain rfl := List.mem_singleton.mp hb
      exact ⟨o, there, fun v q => by rw [data] at q; cases q⟩
  keep := fun i h h' st k => by
    obtain ⟨⟨old, is⟩, iter, ne⟩ := st
    exact ⟨⟨old, k e (by simp) _ is⟩, iter.at (fun o q => k it (by simp) o q), ne⟩
  item := by
    intro X hP hw hK calm i pins s σ H E I apart st more
    subst hP hw hK
    obtain ⟨⟨old, is⟩, iter, ne⟩ := st
    obtain ⟨xs, x, sq, at_⟩ := more
    obtain ⟨its, rel, tup, _⟩ := I.tuple sq
    obtain ⟨u, hu, ru⟩ := rel.get at_
    have few : i < its.toArray.size := by
      rw [List.size_toArray]
      exact (List.getElem?_eq_some_iff.mp hu).1
    have ea : e < s.heap.objs.size := Heap.lt_size is
    have ia : it < s.heap.objs.size := by
      obtain ⟨_, q, _⟩ := iter
      exact Heap.lt_size q
    have apart1 : a ≠ it := by
      rintro rfl
      obtain ⟨o1, g1, c1, _⟩ := tup
      obtain ⟨o2, g2, c2, _⟩ := iter
      rw [g1] at g2
      cases g2
      rw [c1] at c2
      exact absurd c2 (by decide)
    have apart2 : e ∉ [it, a] := fun z => by
      rcases List.mem_cons.mp z with z | z
      · exact ne z
      · obtain rfl := List.mem_singleton.mp z
        obtain ⟨o1, g1, c1, _⟩ := tup
        have g2 : s.heap.get? e = _ := is
        rw [g1] at g2
        cases g2
        exact absurd c1 (by show ¬ (PySem.Value.type "enumerate" = PySem.Value.type "tuple"); decide)
    refine wpAny_pyNext_enum_itemD (Draws.tuple (A := X.A.in1) (I.ok.hd calm) it a apart1 its.toArray) is ⟨iter, tup⟩ few ne apart2 fun y h' tk hy out st' hT size keep => ?_
    obtain rfl : y = u := by
      have z : its.toArray[i]? = some u := by simpa using hu
      exact Option.some.inj (hy.symm.trans z)
    refine ⟨_, rfl, wpAny_letOwnedTupleGo_enum (s := { s with heap := h', toks := tk + 1 }) out fun h'' is' sb => ?_⟩
    have hT2 : h''.get? s.heap.objs.size = some { cls := .type "tuple", data := .seq #[.int i tk, y] } := (sb.2 _ (Nat.ne_of_gt ea)).trans hT
    have new : ObjOk X.prog X.w (upd H s.heap.objs.size (.tup [.int (i : Nat), x])) h'' s.heap.objs.size (.tup [.int (i : Nat), x]) :=
      ⟨by show 2 ≤ sizeLine; decide, [.int i tk, y], .cons ⟨_, rfl⟩ (.cons ru .nil), ⟨_, hT2, rfl, _, rfl⟩⟩
    have I1 : L2.Inv X pins σ (upd H s.heap.objs.size (.tup [.int (i : Nat), x])) { s with heap := h'', toks := tk + 1 } :=
      I.turnedNew (ch := [e, it]) (fun b ob hb q => (sb.2 b (fun z => hb (by simp [z]))).trans (keep b ob (fun z => hb (by simp [z])) (fun z => hb (by simp [z])) q)) apart (Nat.le_refl _) new
    refine ⟨.ref s.heap.objs.size, _, I1, rfl, ⟨_, x, rfl, I.hok.fresh (Nat.le_refl _), rfl, fun ys hy => by rw [I.tuple_inj hy sq]; exact at_⟩, ⟨⟨y, ?_⟩, st'.1.at (fun o q => (sb.2 it (Ne.symm ne)).trans q), ne⟩, fun b hb => ?_⟩
    · have e1 : ((i + 1 : Nat) : Int) = (i : Int) + 1 := by omega
      rw [e1]
      exact is'
    · have hb' : b < s.heap.objs.size := by
        rcases List.mem_cons.mp hb with rfl | hb
        · exact ea
        · rw [List.mem_singleton.mp hb]
          exact ia
      rw [upd_ne (Nat.ne_of_lt hb')]
      exact (apart b hb).1
  done := by
    intro X hP hw hK calm i pins s σ H E I apart st more
    subst hP hw hK
    obtain ⟨⟨old, is⟩, iter, ne⟩ := st
    obtain ⟨xs, sq, rfl⟩ := more
    obtain ⟨its, rel, tup, _⟩ := I.tuple sq
    obtain ⟨y0, y1, y2, y3, y4, y5⟩ := apart it (by simp)
    have apart1 : a ≠ it := by
      rintro rfl
      obtain ⟨o1, g1, c1, _⟩ := tup
      obtain ⟨o2, g2, c2, _⟩ := iter
      rw [g1] at g2
      cases g2
      rw [c1] at c2
      exact absurd c2 (by decide)
    have size1 : xs.length = its.toArray.size := by
      rw [List.size_toArray]
      exact rel.length
    rw [size1] at is iter
    exact wpAny_pyNext_enum_endD (Draws.tuple (A := X.A.in1) (I.ok.hd calm) it a apart1 its.toArray) is ⟨iter, tup⟩ fun h' eb => ⟨rfl, I.turned (t' := s.toks) (fun b o hb q => eb b o hb q) y0 y1 y3 y4 y5⟩
  self := fun A i s Q E st h => let ⟨⟨_, is⟩, _⟩ := st; wpAny_pyIter_enum is h
def iEnumT (K : PySem.W.Frag) (ta : TA) : TI := fun σ H R => ta σ H fun vs H1 => ∃ a xs, vs = [.ref a] ∧ SqT K H1 a xs ∧ R (IteT K a) H1
theorem pi_enumT {X : Cx} {e : PySem.Expr} {ta : TA} {p pos tpos : Pos} {elts : List PySem.Expr} {kk : Nat} (hg : Gl X "enumerate") (hm : X.mg "enumerate" = none) (ha : PA X [e] ta) (hs : starEach [e] X.env = [(false, eval e X.env)] := by rfl) :
    PI X (.Tuple elts kk tpos) (.Call (.Name "enumerate" p) [e] [] pos) (iEnumT X.K ta) := by
  refine ⟨fun pins s σ H R I h => ?_⟩
  refine Call_ (ld_blt I hg hm boot_enumerate (PyProof.Rows.callWith_type1 (thn (ha.run pos pins s σ H _ I h) fun us s1 ⟨vs, H1, I1, r1, a, xs, ex, sq, q⟩ => ?_) hs rfl))
  subst ex
  obtain ⟨u, rfl, ru⟩ := vals1 r1
  cases ru
  obtain ⟨its, rel, tup, _⟩ := I1.tuple sq
  refine call_enum (begins_tuple a its.toArray) tup fun h' is iter keep => wpAny_pyIter_enum is ?_
  have I2 : L2.Inv X pins σ H1 { s1 with heap := h' } := I1.kept (t' := s1.toks) keep
  refine ⟨s1.heap.objs.size + 1, [s1.heap.objs.size + 1, s1.heap.objs.size], _, _, H1, rfl, I2, turn_enumT a (s1.heap.objs.size + 1) s1.heap.objs.size, ⟨⟨.none, is⟩, ⟨_, iter, rfl, rfl⟩, Nat.succ_ne_self _⟩, fun b hb => ?_, q⟩
  have le : s1.heap.objs.size ≤ b := by
    rcases List.mem_cons.mp hb with rfl | hb
    · exact Nat.le_succ _
    · rw [List.mem_singleton.mp hb]
      exact Nat.le_refl _
  exact I1.fpOk le (I1.hok.fresh le)
theorem walk_enumT {K : PySem.W.Frag} {a : Addr} {xs : List V} : Walk (IteT K a) xs.length (fun H => SqT K H a xs) (YPair (fun i => some (.int (i : Nat))) (fun i => xs[i]?)) := by
  refine ⟨fun i _ hi q => ⟨xs, xs[i], q, List.getElem?_eq_getElem hi⟩, fun _ q => ⟨xs, q, rfl⟩, ?_⟩
  rintro i H v H' _ q ⟨T, x, h1, h2, h3, h4⟩
  exact ⟨T, .int (i : Nat), x, h1, h2, h3, rfl, h4 xs q⟩
/-- a comprehension that makes such a dict, by its turns -/
theorem dcA_it {J : It} {n : Nat} {G : Hp → Prop} {Y : Nat → Hp → V → Hp → Prop} (wk : Walk J n G Y) {K : PySem.W.Frag} {w : World} {g : TG} {tk tv : TE} {vs : List Nat} {σ : L2.St} {H1 : Hp} {d : Addr} {Qd : Hp → Prop} (Pv : Nat → Hp → Prop) (h0 : Pv 0 (upd H1 d (DkO w d []))) (hG : ∀ i H, i ≤ n → Pv i H → G H)
    (hs : ∀ i x H H', i < n → Pv i H → Y i H x H' → g x (wipe σ vs) H' fun σ2 H2 => wipe σ2 vs = wipe σ vs ∧
      tk σ2 H2 fun y H4 => tv σ2 H4 fun z H5 => ∃ es k, H5 d = some (DkO w d es) ∧ DA K w H5 d es ∧ NK K H5 k y ∧ k.depth ≤ 8 ∧ es.length < sizeLine ∧ Pv (i + 1) (upd H5 d (DkO w d (putE es k y z)))) (hd : ∀ H, Pv n H → Qd H) :
    ∃ Left : Nat → Nat → Hp → Prop, (∃ m, Left 0 m (upd H1 d (DkO w d []))) ∧ ∀ i m H, Left i m H →
      (J.stop i H ∧ Qd H) ∨ (J.go i H ∧ ∃ Next : Hp → Prop, (∀ H', Next H' → ∃ m', m' < m ∧ Left (i + 1) m' H') ∧ ∀ x H', J.yld i H x H' → g x (wipe σ vs) H' fun σ2 H2 => wipe σ2 vs = wipe σ vs ∧
        tk σ2 H2 fun y H4 => tv σ2 H4 fun z H5 => ∃ es k, H5 d = some (DkO w d es) ∧ DA K w H5 d es ∧ NK K H5 k y ∧ k.depth ≤ 8 ∧ es.length < sizeLine ∧ Next (upd H5 d (DkO w d (putE es k y z)))) := by
  refine ⟨fun i m H => m = n - i ∧ i ≤ n ∧ Pv i H, ⟨n, by omega, Nat.zero_le _, h0⟩, ?_⟩
  rintro i m H ⟨rfl, le, p⟩
  have here := hG i H le p
  rcases Nat.lt_or_ge i n with lt | ge
  · exact .inr ⟨wk.goes i H lt here, Pv (i + 1), fun H' p' => ⟨n - (i + 1), by omega, rfl, lt, p'⟩, fun x H' y => hs i x H H' lt p (wk.yields i H x H' lt here y)⟩
  · obtain rfl : i = n := by omega
    exact .inl ⟨wk.stops H here, hd H p⟩
end AK

set_option Elab.async false
set_option linter.all false
set_option maxRecDepth 100000
set_option maxHeartbeats 0
namespace Tr
open PySem PySem.Spec PyProof.Rows L2

/-! ### what the head must say of an own error's class -/
def xcB (K : PySem.W.Frag) (C : Addr) : Bool := match K.lookup C with
  | some ⟨.type "type", _, .cls cd, sl⟩ => (match cd.mro, sl.toList with
    | .ref C' :: bm, [_, _, _, _, some (.builtin n), _] => C' == C && (n == "ValueError.__new__" && (!cd.hasDel && (cd.hasDict && PySem.HandSPX.refsVE bm)))
    | _, _ => false)
  | _ => false
theorem xcB_ok {K : PySem.W.Frag} {C : Addr} (q : xcB K C = true) :
    ∃ nm qn N bs bm sn sub ab col dd k0 k1 k2 k3 k5, K.lookup C = some (excClassObj nm qn C N bs bm true sn sub ab col dd k0 k1 k2 k3 k5 "ValueError.__new__") ∧ PySem.HandSPX.refsVE bm = true := by
  unfold xcB at q
  split at q
  · rename_i dd cd sl ho
    split at q
    · rename_i C1 bm k0 k1 k2 k3 n k5 hm hs
      obtain ⟨q1, q⟩ := Bool.and_eq_true_iff.mp q
      obtain ⟨q2, q⟩ := Bool.and_eq_true_iff.mp q
      obtain ⟨q3, q⟩ := Bool.and_eq_true_iff.mp q
      obtain ⟨q4, q5⟩ := Bool.and_eq_true_iff.mp q
      have e1 : C1 = C := beq_iff_eq.mp q1
      have e2 : n = "ValueError.__new__" := beq_iff_eq.mp q2
      subst e1 e2
      obtain ⟨nm, bs, mro, ns, qn, hd, sn, sub, ab, col, del⟩ := cd
      dsimp only at hm q3 q4
      obtain ⟨l⟩ := sl
      dsimp only at hs
      subst hm hs q4
      have e3 : del = false := by
        cases del with
        | false => rfl
        | true => cases q3
      subst e3
      exact ⟨nm, qn, ns, bs, bm, sn, sub, ab, col, dd, k0, k1, k2, k3, k5, ho, q5⟩
    · cases q
  · cases q
/-- a class of errors of one's own: how it is made, how its fields are stored and read, how isinstance asks its instances -/
structure Xc (K : PySem.W.Frag) (C : Addr) : Prop where
  o : OexC K C
  f : XfC K C
  i : ExcC K C
def xcAll (K : PySem.W.Frag) (C : Addr) : Bool :=
  xcB K C && (xfB K C && (decide (PySem.W.findIn K (.ref C) "__setattr__" = some (some (.builtin "object.__setattr__"))) && (decide (PySem.W.typeIn K (.ref C) = some (.type "type")) && (PySem.W.keepIn K (.ref C) &&
    (decide (PySem.W.findIn K (.ref C) "__class__" = some (some (.builtin "object.__class__"))) && (decide (PySem.W.specialIn K (.builtin "object.__class__") "__get__" = some (some (.builtin "getset_descriptor.__get__"))) &&
      (decide (PySem.W.takesIn K (.builtin "object.__class__") = some true) && decide (PySem.W.mroIn K C (.type "object") = some true))))))))
theorem xcAll_ok {K : PySem.W.Frag} {C : Addr} (h : xcAll K C = true) : Xc K C := by
  obtain ⟨h1, h⟩ := Bool.and_eq_true_iff.mp h
  obtain ⟨h2, h⟩ := Bool.and_eq_true_iff.mp h
  obtain ⟨h3, h⟩ := Bool.and_eq_true_iff.mp h
  obtain ⟨h4, h⟩ := Bool.and_eq_true_iff.mp h
  obtain ⟨h5, h⟩ := Bool.and_eq_true_iff.mp h
  obtain ⟨h6, h⟩ := Bool.and_eq_true_iff.mp h
  obtain ⟨h7, h⟩ := Bool.and_eq_true_iff.mp h
  obtain ⟨h8, h9⟩ := Bool.and_eq_true_iff.mp h
  have F := xfB_ok h2
  exact ⟨⟨xcB_ok h1, of_decide_eq_true h3, F.exC, of_decide_eq_true h4, h5⟩, F, ⟨F.ga, F.gg, F.exC, F.hdC, of_decide_eq_true h6, of_decide_eq_true h7, of_decide_eq_true h8, of_decide_eq_true h9⟩⟩
/-- isinstance among these classes: each is just itself -/
def kitB1 (K : PySem.W.Frag) (Cs : List Addr) : Bool := Cs.all fun c => Cs.all fun d => decide (PySem.W.kitOne K (.ref c) (.ref d) = some (c == d))
def kitUp (K : PySem.W.Frag) (Cs : List Addr) (t : PySem.Value) : Bool := Cs.all fun c => decide (PySem.W.kitOne K (.ref c) t = some true)
end Tr
/-! ### constants of the written part that are data -/
namespace AK
open PySem PySem.Spec PyProof.Rows L2
mutual
def datB (K : PySem.W.Frag) : Nat → PySem.Value → PyData → Bool
  | 0, _, _ => false
  | n + 1, v, d => match d, v with
    | .none, .none => true
    | .int i, .int j _ => decide (i = j)
    | .tuple ds, .ref a => (match K.lookup a with
      | some ⟨.type c, _, .seq its _, _⟩ => decide (c = "tuple") && (decide (its.size ≤ 100) && datsB K n its.toList ds)
      | _ => false)
    | _, _ => false
def datsB (K : PySem.W.Frag) : Nat → List PySem.Value → List PyData → Bool
  | 0, _, _ => false
  | _ + 1, [], [] => true
  | n + 1, v :: vs, d :: ds => datB K n v d && datsB K n vs ds
  | _ + 1, _, _ => false
end
mutual
theorem datB_ok {K : PySem.W.Frag} : ∀ (n : Nat) (v : PySem.Value) (d : PyData), datB K n v d = true → ∃ x, RelV x v ∧ ∀ H, Dp K H x d
  | 0, _, _, h => by
    unfold datB at h
    cases h
  | n + 1, v, d, h => by
    unfold datB at h
    split at h
    · exact ⟨.non, rfl, fun _ => .non⟩
    · rename_i i j t
      obtain rfl := of_decide_eq_true h
      exact ⟨.int i, ⟨t, rfl⟩, fun _ => .int i⟩
    · rename_i ds a
      split at h
      · rename_i c od its k sl e
        obtain ⟨h1, h⟩ := Bool.and_eq_true_iff.mp h
        obtain ⟨h2, h3⟩ := Bool.and_eq_true_iff.mp h
        obtain rfl := of_decide_eq_true h1
        have h2 := of_decide_eq_true h2
        obtain ⟨xs, r, q⟩ := datsB_ok n _ _ h3
        have hn : its.size ≤ sizeLine := by
          rw [sizeLine_eq]
          omega
        refine ⟨.ref a, rfl, fun H => .tup (.inr ⟨_, its, k, e, rfl, rfl, hn, r⟩) (q H)⟩
      · cases h
    · cases h
theorem datsB_ok {K : PySem.W.Frag} : ∀ (n : Nat) (vs : List PySem.Value) (ds : List PyData), datsB K n vs ds = true → ∃ xs, Vals xs vs ∧ ∀ H, DpAll K H xs ds
  | 0, _, _, h => by
    unfold datsB at h
    cases h
  | n + 1, [], [], _ => ⟨[], .nil, fun _ => .nil⟩
  | n + 1, v :: vs, d :: ds, h => by
    unfold datsB at h
    obtain ⟨h1, h2⟩ := Bool.and_eq_true_iff.mp h
    obtain ⟨x, r, q⟩ := datB_ok n v d h1
    obtain ⟨xs, rs, qs⟩ := datsB_ok n vs ds h2
    exact ⟨x :: xs, .cons r rs, fun H => .cons (q H) (qs H)⟩
  | n + 1, [], _ :: _, h => by
    unfold datsB at h
    cases h
  | n + 1, _ :: _, [], h => by
    unfold datsB at h
    cases h
end
end AK
namespace K3
open PySem PySem.Spec PyProof.Rows L2
def top (i : Nat) : Stmt := PySem.Challenge.pw_tilesregrow_k03_tiles_and_sets.main.body.getD i (.Pass ⟨0, 0, 0, 0⟩)
abbrev sPen : Stmt := top 25
abbrev sDraw : Stmt := top 26
abbrev sPick : Stmt := top 27
abbrev cFits (j : Nat) : Stmt := inClass (top 10) j
abbrev cTile (j : Nat) : Stmt := inClass (top 22) j
abbrev cSet (j : Nat) : Stmt := inClass (top 23) j
def mkD (x : Str) (st : Stmt) : He.DefD := ⟨(x, none), x, x, defArgs st, defBody st, defScope st, [], []⟩
def mkM (x m : Str) (q : Str) (st : Stmt) : He.DefD := ⟨(x, some m), m, q, defArgs st, defBody st, defScope st, [], []⟩
def errs : List Str := ["BadNumber", "BadTile", "BadPlace", "NoName", "TakenName"]
def fn : List He.DefD := [mkD "_law_pen" sPen, mkD "_law_draw" sDraw, mkD "_law_pick" sPick, mkD "_law_is_whole" (top 28), mkD "_law_t2_is" (top 29), mkD "_law_t2_datum" (top 30), mkD "_law_t2_any_glue" (top 31), mkD "_law_t2_bad_tile" (top 32), mkD "_law_t2_side_right" (top 33), mkD "_law_t2_named" (top 34),
  mkD "_law_t2_with_glue" (top 35), mkD "_law_t2_set_right" (top 36), mkD "_law_t2_beside_right" (top 37), mkD "law" (top 38),
  mkD "is_integer" (top 12), mkD "is_side" (top 13), mkD "is_place" (top 14), mkD "is_glue" (top 15), mkD "places_around" (top 18), mkD "beside" (top 19), mkD "check_place" (top 20), mkD "check_side" (top 21),
  mkM "BadNumber" "__init__" "BadNumber.__init__" (inClass (top 3) 0), mkM "BadTile" "__init__" "BadTile.__init__" (inClass (top 4) 0), mkM "BadPlace" "__init__" "BadPlace.__init__" (inClass (top 5) 0), mkM "NoName" "__init__" "NoName.__init__" (inClass (top 6) 0), mkM "TakenName" "__init__" "TakenName.__init__" (inClass (top 7) 0),
  mkM "Fits" "__init__" "Fits.__init__" (cFits 0), mkM "Fits" "_number_of" "Fits._number_of" (cFits 1), mkM "Fits" "_file_strong" "Fits._file_strong" (cFits 2), mkM "Fits" "_file_weak" "Fits._file_weak" (cFits 3),
  mkM "Tile" "__init__" "Tile.__init__" (cTile 0), mkM "Tile" "glue_at" "Tile.glue_at" (cTile 1),
  mkM "TileSet" "__init__" "TileSet.__init__" (cSet 0), mkM "TileSet" "_named_by" "TileSet._named_by" (cSet 1), mkM "TileSet" "tile_of" "TileSet.tile_of" (cSet 2), mkM "TileSet" "has" "TileSet.has" (cSet 3), mkM "TileSet" "names" "TileSet.names" (cSet 4), mkM "TileSet" "with_glue" "TileSet.with_glue" (cSet 5)]
def fa : List He.Fa := [.free "len", .free "int", .free "list", .free "range", .free "str", .free "repr", .free "isinstance", .free "tuple", .free "bool", .free "sorted", .free "enumerate", .free "all",
  .glo "_law_pen", .glo "_law_draw", .glo "_law_pick", .glo "_law_is_whole", .glo "_law_t2_is", .glo "_law_t2_datum", .glo "_law_t2_any_glue", .glo "_law_t2_bad_tile", .glo "_law_t2_side_right", .glo "_law_t2_named", .glo "_law_t2_with_glue", .glo "_law_t2_set_right", .glo "_law_t2_beside_right", .glo "law",
  .glo "is_integer", .glo "is_side", .glo "is_place", .glo "is_glue", .glo "places_around", .glo "beside", .glo "check_place", .glo "check_side", .glo "NONE", .glo "SIDE_PAIRS", .glo "Fits", .glo "Tile", .glo "TileSet"] ++ errs.map .glo ++ (errs.map fun x => .meth x "__init__") ++
  [.cls "Fits", .mkr "Fits", .meth "Fits" "_number_of", .meth "Fits" "_file_strong", .meth "Fits" "_file_weak", .noat "Fits" "_numbers", .noat "Fits" "_strengths", .noat "Fits" "_strong", .noat "Fits" "_weak", .noat "Fits" "_sides",
   .cls "Tile", .mkr "Tile", .meth "Tile" "glue_at", .noat "Tile" "name", .noat "Tile" "west", .noat "Tile" "south", .noat "Tile" "east", .noat "Tile" "north",
   .cls "TileSet", .mkr "TileSet", .meth "TileSet" "_named_by", .meth "TileSet" "tile_of", .meth "TileSet" "has", .meth "TileSet" "names", .meth "TileSet" "with_glue",
   .noat "TileSet" "tiles", .noat "TileSet" "_tile_by_name", .noat "TileSet" "_names", .noat "TileSet" "_ranks", .noat "TileSet" "_names_by_glue", .noat "TileSet" "fits"]
def flds : List Str := ["name", "tile", "place", "what", "number"]
def tf : List He.Defn := [("TileSet", some "__init__"), ("_law_t2_set_right", none)]
def cs (K : PySem.W.Frag) : List Addr := errs.map (He.ga K)
def dNone : PyData := .tuple [.none, .int 0]
def dPairs : PyData := .tuple [.tuple [.int 0, .int 1], .tuple [.int 0, .int 2], .tuple [.int 0, .int 3], .tuple [.int 1, .int 2], .tuple [.int 1, .int 3], .tuple [.int 2, .int 3]]
def ex (K : PySem.W.Frag) : Bool := (cs K).all (Tr.xcAll K) && (((cs K).all fun c => decide (PySem.W.exmOne K (.ref c) (.ref c) = some true)) && (((cs K).all fun c => flds.all fun f => decide (PySem.W.findIn K (.ref c) f = some none)) &&
  (AK.datB K 20 (.ref (He.ga K "NONE")) dNone && (AK.datB K 20 (.ref (He.ga K "SIDE_PAIRS")) dPairs && decide ((He.cT K ("TileSet", some "__init__")).2 ≠ (He.cT K ("_law_t2_set_right", none)).2)))))
abbrev R : PySem.W.OpenRow := PySem.W.OpenLaw.row PySem.Challenge.rw_tilesregrow_k03_tiles_and_sets
abbrev hk : PySem.W.Hook := He.hookX 5 fa fn [] tf ex
def ob (s : PySem.W.SharedT) : He.AlX := He.obsX 5 fa fn [] tf ex (HandSHeadRun.getT s)
theorem ob_eq (s : PySem.W.SharedT) : ob s = hk.obs s.abs := He.obsX_eq (HandSHeadRun.getT_eq s)
def loose1 : List Str := ["_wall", "TileError", "BadNumber", "BadTile", "BadPlace", "NoName", "TakenName", "SIDE_PAIRS", "Fits", "is_integer", "is_side", "is_place", "is_glue", "NONE", "places_around", "beside", "check_place", "check_side", "Tile", "TileSet"]
def loose2 : List Str := ["_law_pen", "_law_draw", "_law_pick", "_law_is_whole", "_law_t2_is", "_law_t2_datum", "_law_t2_any_glue", "_law_t2_bad_tile", "_law_t2_side_right", "_law_t2_named", "_law_t2_with_glue", "_law_t2_set_right", "_law_t2_beside_right"]
def loose : List Str := loose1 ++ loose2
theorem run (w : World) : HandSHeadRun.RunEq R (PySem.W.view R.prog [38]) hk ob 4000 loose w := by
  intro os
  kernel_rfl
end K3

set_option Elab.async false
set_option linter.all false
set_option maxRecDepth 100000
set_option maxHeartbeats 4000000
namespace Tr
open PySem PySem.Spec PyProof.Rows L2

/-! ### an own error as a value: made by its __init__, kept, its fields read -/
/-- x(e, ..): what __init__ must bear at the new error, which stays tracked -/
def tXmk (C : Addr) (sp : Sp) (ta : TA) : TE := fun σ H Q => ta σ H fun vs H1 =>
  vs.length ≤ 1000 ∧ ∀ a, H1 a = none → sp (.ref a :: vs) (upd H1 a (exo a C none)) (fun v H2 => v = .non ∧ Q (.ref a) H2) E0
section
variable {Y : Cx} {nm : Str} {C fI : Addr} {k : Nat} {fd : FuncData} {ps : List Str} {sp : Sp} {pins : List (Addr × Obj)} {σ : L2.St} {H : Hp}
/-- the class is called with values -/
theorem xmk_run {s : Shared} {us : List PySem.Value} {vs : List V} {Q : VK} (T : OexC Y.K C) (hi : PySem.W.findIn Y.K (.ref C) "__init__" = some (some (.ref fI))) (ht : PySem.W.typeIn Y.K (.ref fI) = some (.type "function"))
    (FF : FnOk Y.prog Y.w Y.K Y.mg Y.base CX0 k fI fd ps sp) (room : Room (k + 1) Y.A) (bs : Binds Y.K fd ps []) (I : L2.Inv Y pins σ H s) (rel : Vals vs us) (small : vs.length ≤ 1000)
    (want : ∀ a, H a = none → sp (.ref a :: vs) (upd H a (exo a C none)) (fun v H2 => v = .non ∧ Q (.ref a) H2) E0) :
    wpAny (model Y.prog Y.w) Y.A (call (.ref C) us) (EP Y pins σ Q) Y.xe s := by
  obtain ⟨n1, n2, n3, n4, bm, n5, n6, n7, n8, n9, l0, l1, l2, l3, l5, look, chain⟩ := T.cls
  obtain ⟨h0, gs, dr, tk, os⟩ := s
  have le1 : h0.objs.size ≤ h0.objs.size + 1 := Nat.le_succ _
  have new1 : H (h0.objs.size + 1) = none := I.hok.fresh le1
  have sp1 := want (h0.objs.size + 1) new1
  have keep2 : ∀ b o, h0.get? b = some o → ((h0.push (PySem.W.kdv_tup us)).push (PySem.HandSPX.excO C h0.objs.size)).get? b = some o :=
    fun b o e => Heap.get?_push_of_some _ (Heap.get?_push_of_some _ e)
  have at2 : ((h0.push (PySem.W.kdv_tup us)).push (PySem.HandSPX.excO C h0.objs.size)).get? (h0.objs.size + 1) = some (PySem.HandSPX.excO C h0.objs.size) := by heap_get
  have J : L2.Inv Y pins σ (upd H (h0.objs.size + 1) (exo (h0.objs.size + 1) C none))
      ⟨(h0.push (PySem.W.kdv_tup us)).push (PySem.HandSPX.excO C h0.objs.size), gs, dr, tk, os⟩ :=
    I.laid (t' := tk) (a := h0.objs.size + 1) (o := exo (h0.objs.size + 1) C none)
      (h' := (h0.push (PySem.W.kdv_tup us)).push (PySem.HandSPX.excO C h0.objs.size)) keep2 le1 (exo_ok at2)
  have relS : Vals (V.ref (h0.objs.size + 1) :: vs) (PySem.Value.ref (h0.objs.size + 1) :: us) := .cons rfl rel
  have lenS : (PySem.Value.ref (h0.objs.size + 1) :: us ++ []).length = ps.length := by
    rw [List.append_nil, ← relS.length]
    exact FF.len _ _ _ _ sp1
  have few : us.length ≤ sizeLine := by
    have e := Paired.length rel
    rw [sizeLine_eq]
    omega
  have bound : BindsTo ⟨(h0.push (PySem.W.kdv_tup us)).push (PySem.HandSPX.excO C h0.objs.size), gs, dr, tk, os⟩ fd ⟨PySem.Value.ref (h0.objs.size + 1) :: us, []⟩ (ps.zip (PySem.Value.ref (h0.objs.size + 1) :: us)) := by
    have b := bs _ (PySem.Value.ref (h0.objs.size + 1) :: us) J.kIn lenS
    rw [List.append_nil] at b
    exact b
  refine wpAny_call (PySem.HandSPX.call_own F.excBase_ValueError (fun Z => PySem.HandSPX.refsVE_contains Z bm chain) (I.kIn _ _ look)
    (PySem.W.looks_findIn I.kIn hi) (fun self => PySem.W.bind_fn I.kIn self ht) few
    (codeAny_mono (FF.run _ Y.stack _ _ _ _ _ _ E0 (room.make C us []) (J.env0.make C us []) bound relS sp1) fun r s' hq => ?_))
  match r, hq with
  | .ok (.ret u), hq =>
    obtain ⟨v, H', K1, rv, ev, q⟩ := J.after hq
    subst ev
    exact ⟨rv, ⟨V.ref (h0.objs.size + 1), H', K1, rfl, q⟩⟩
  | .ok .next, hq => exact hq.elim
  | .ok .brk, hq => exact hq.elim
  | .ok .cont, hq => exact hq.elim
  | .error _, hq => exact hq.elim
theorem pe_xmk {e : PySem.Expr} {es : List PySem.Expr} {ta : TA} {p pos : Pos} (T : OexC Y.K C) (hi : PySem.W.findIn Y.K (.ref C) "__init__" = some (some (.ref fI))) (ht : PySem.W.typeIn Y.K (.ref fI) = some (.type "function"))
    (FF : FnOk Y.prog Y.w Y.K Y.mg Y.base CX0 k fI fd ps sp) (room : Room (k + 1) Y.A) (bs : Binds Y.K fd ps []) (hm : Y.mg nm = some (.ref C)) (ha : PA Y (e :: es) ta) (hg : Gl Y nm := by rfl)
    (nodebug : (nm == ("__debug__" : Str)) = false := by decide) (stars : starEach (e :: es) Y.env = (false, eval e Y.env) :: starEach es Y.env := by rfl)
    (plain : (backTo pos (starEach es Y.env)).any (·.1) = false := by rfl) : PE Y (.Call (.Name nm p) (e :: es) [] pos) (tXmk C sp ta) := by
  refine ⟨fun pins s σ H Q I h => wpAny_Call_Name_kw (ld_glob I hg hm ?_ nodebug)⟩
  refine PySem.W.callWith_K (h₀ := Y.base) I.ok.mod.kin T.kC (thn (ha.run pos pins s σ H _ I h) ?_) stars plain
  rintro us s1 ⟨vs, H1, I1, rel, small, want⟩
  exact ⟨I1.kIn, xmk_run T hi ht FF room bs I1 rel small want⟩
theorem pe_xmk0 {p pos : Pos} (T : OexC Y.K C) (hi : PySem.W.findIn Y.K (.ref C) "__init__" = some (some (.ref fI))) (ht : PySem.W.typeIn Y.K (.ref fI) = some (.type "function"))
    (FF : FnOk Y.prog Y.w Y.K Y.mg Y.base CX0 k fI fd ps sp) (room : Room (k + 1) Y.A) (bs : Binds Y.K fd ps []) (hm : Y.mg nm = some (.ref C)) (hg : Gl Y nm := by rfl)
    (nodebug : (nm == ("__debug__" : Str)) = false := by decide) : PE Y (.Call (.Name nm p) [] [] pos) (tXmk C sp tNil) := by
  refine ⟨fun pins s σ H Q I h => wpAny_Call_Name_kw (ld_glob I hg hm ?_ nodebug)⟩
  exact PySem.W.callWith_K0 I.kIn T.kC (xmk_run (us := []) (vs := []) T hi ht FF room bs I .nil h.1 h.2)

/-- e.f of such an error -/
def tXget (K : PySem.W.Frag) (te : TE) (f : Str) : TE := fun σ H Q => te σ H fun x H1 => ∃ (a C d : Addr) (fs : List (Str × V)) (v : V),
  x = .ref a ∧ H1 a = some (exo a C (some d)) ∧ H1 d = some (exd d fs) ∧ XfC K C ∧ PySem.W.findIn K (.ref C) f = some none ∧ fs.lookup f = some v ∧ Q v H1
theorem xo_inst {h : Heap} {a C d t1 : Addr} {od : Obj} (e : h.get? a = some ({ cls := .ref C, dict := some d, data := .fields #[.ref t1, .none, .none, .none, .bool false, .none] } : Obj)) (hd : h.get? d = some od) :
    PySem.W.InstAt h a { cls := .ref C, dict := some d, data := .fields #[.ref t1, .none, .none, .none, .bool false, .none] } C (some od) := ⟨e, rfl, rfl, hd⟩
theorem pe_xget {e : PySem.Expr} {te : TE} {f : Str} {pos : Pos} (he : PE Y e te) (base : attributeBase e f Y.env (eval e Y.env) = eval e Y.env := by rfl) : PE Y (.Attribute e f pos) (tXget Y.K te f) := by
  refine ⟨fun pins s σ H Q I h => attr_of base (thn (he.run pins s σ H _ I h) ?_)⟩
  rintro u s1 ⟨x, H1, I1, rx, a, C, d, fs, v, rfl, ea, ed, T, hno, hl, q⟩
  obtain rfl : u = PySem.Value.ref a := rx
  obtain ⟨t1, oa⟩ := exo_at I1.hok ea
  obtain ⟨mA, hns, rel⟩ := exd_at I1.hok ed
  obtain ⟨od, ho, look⟩ := lookIn_ns hns
  have some_f : RelO (some v) (mA f) := by
    have z := rel f
    rw [hl] at z
    exact z
  obtain ⟨u2, hu, ru⟩ := RelO.some_of some_f
  have own : PySem.W.lookIn f od = some (some u2) := by rw [look, hu]
  exact PySem.HandSPX.exc_get I1.kIn (xo_inst oa ho) T.ga T.gg T.exC (PySem.W.findObj_own T.hdC hno rfl own) (handed_of ru) ⟨v, H1, I1.tok _, ru, q⟩
end

/-! ### repr of data -/
/-- the shown text of a value that is data -/
def rShow (K : PySem.W.Frag) : List V → Hp → VK → Prop := fun xs H Q => ∃ (a : Addr) (d : PyData), xs = [.ref a] ∧ Dp K H (.ref a) d ∧ d.showable = true ∧ d.hasDict = false ∧ d.depth ≤ 60 ∧ d.shown.length ≤ sizeLine ∧ Q (.str d.shown) H
theorem call_show {Y : Cx} (free : Y.A.guards = some []) (hu : Y.A.units + 64 < cLine) : CallR Y (.builtin "repr") (rShow Y.K) := by
  intro pins s σ H xs us Q I rel h
  obtain ⟨a, d, rfl, hd, hs, nd, deep, short, q⟩ := h
  obtain ⟨u, rfl, ru⟩ := vals1 rel
  obtain rfl : u = PySem.Value.ref a := ru
  obtain ⟨as, rd⟩ := Dp.reads I d (.ref a) (.ref a) hd rfl
  refine repr_of_reads' rd hs (PyData.noDict_hsm nd) free (by omega) (fun _ _ e => e) (fun h' t' tk keep => ?_) short
  exact ⟨.str d.shown, H, I.kept (t' := tk) keep, ⟨_, rfl⟩, q⟩
end Tr

set_option Elab.async false
set_option linter.all false
set_option maxRecDepth 100000
set_option maxHeartbeats 4000000
namespace Tr
open PySem PySem.Spec PyProof.Rows L2
/-! ### isinstance of an own error that is held as a value -/
/-- an own error at a: its class C, its dict (none as yet, or one with these fields) -/
def XoAt (H : Hp) (a C : Addr) (fs : Option (List (Str × V))) : Prop := match fs with
  | none => H a = some (exo a C none)
  | some l => ∃ d, H a = some (exo a C (some d)) ∧ H d = some (exd d l)
theorem xo_some {Y : Cx} {pins : List (Addr × Obj)} {σ : L2.St} {H : Hp} {s : Shared} {a C : Addr} {fs : Option (List (Str × V))} (I : L2.Inv Y pins σ H s) (h : XoAt H a C fs) : ∃ ox od, PySem.W.InstAt s.heap a ox C od := by
  cases fs with
  | none =>
    obtain ⟨t, e⟩ := exo_at I.hok (show H a = some (exo a C none) from h)
    exact ⟨_, none, e, rfl, rfl, trivial⟩
  | some l =>
    obtain ⟨d, ea, ed⟩ := h
    obtain ⟨t, oa⟩ := exo_at I.hok ea
    obtain ⟨mA, hns, _⟩ := exd_at I.hok ed
    obtain ⟨od, ho, _⟩ := lookIn_ns hns
    exact ⟨_, some od, xo_inst oa ho⟩
def rIsX (K : PySem.W.Frag) : List V → Hp → VK → Prop := fun xs H Q => ∃ (a C : Addr) (fs : Option (List (Str × V))) (c : V) (cv : PySem.Value) (b : Bool),
  xs = [.ref a, c] ∧ XoAt H a C fs ∧ ClsV c cv ∧ Xc K C ∧ PySem.W.kitOne K (.ref C) cv = some b ∧ Q (.bl b) H
theorem call_isX {Y : Cx} : CallR Y (.builtin "isinstance") (rIsX Y.K) := by
  intro pins s σ H xs us Q I rel h
  obtain ⟨a, C, fs, c, cv, b, rfl, hx, hc, T, e, q⟩ := h
  obtain ⟨u, u2, rfl, ru, rc⟩ := vals2 rel
  obtain rfl : u = PySem.Value.ref a := ru
  obtain rfl := hc.eq rc
  obtain ⟨ox, od, J⟩ := xo_some I hx
  have isC : (PySem.W.clsIn Y.K C).isSome = true := by
    obtain ⟨cd, e, _⟩ := PySem.W.any_some T.f.hdC
    rw [e]
    rfl
  have Z := PySem.W.kitx_exc (x := a) (ox := ox) (od := od) isC T.f.ga T.f.gg T.f.exC T.i.ha T.i.hn T.i.ht T.i.hm
  exact PySem.W.kia_one Z I.kIn J e (fun z => nomatch z) fun tk => ⟨.bl b, H, I.tok tk, rfl, q⟩
end Tr

set_option Elab.async false
set_option linter.all false
set_option maxRecDepth 100000
set_option maxHeartbeats 4000000
namespace Tr
open PySem PySem.Spec PyProof.Rows L2
/-! ### a def that runs where nothing is being shown: repr may be asked in it -/
structure GOk (P : Program) (w : World) (K : PySem.W.Frag) (mg : Str → Option PySem.Value) (base : Heap) (k : Nat) (f : Addr) (fd : FuncData) (ps : List Str) (sp : Sp) : Prop where
  len : ∀ vs H Q, sp vs H Q E0 → vs.length = ps.length
  run : ∀ (A : Around) (outer : List Env) (s : Shared) (H : Hp) (args : Args) (us : List PySem.Value) (vs : List V) (Q : VK), Room k A → A.guards = some [] → Env0 P w K mg base A outer s H →
    BindsTo s fd args (ps.zip us) → Vals vs us → sp vs H Q E0 → codeAny (model P w) A (.call (.ref f) args) (CR CX0 outer P w H s Q E0) s
section
variable {P : Program} {w : World} {K : PySem.W.Frag} {mg : Str → Option PySem.Value} {base : Heap} {x qual : Str} {params : Arguments} {body : List PySem.Stmt} {scope : Scope} {f : Addr} {fd : FuncData}
theorem GOk.of {N ps : List Str} {k : Nat} {sp : Sp} {dvs : List V} {kws : List (Str × V)} (D : FunD K x qual params body scope dvs kws f fd) (S : FnScope N ps scope) (len : ∀ vs H Q, sp vs H Q E0 → vs.length = ps.length)
    (walk : ∀ (cdv : PySem.Value) (A : Around) (outer : List Env) (s : Shared) (H : Hp) (vs : List V) (Q : VK), Room k (A.deeper (envOfC qual scope s.heap.objs.size f cdv)) → A.guards = some [] → sp vs H Q E0 →
      ∃ t, PSs (cxOf CX0 P w K mg base N qual scope f cdv A outer s H E0).nox body t ∧ t { nx := fun _ H' => Q .non H', rt := Q } (start N vs) H) : GOk P w K mg base (k + 1) f fd ps sp := by
  obtain ⟨oc, od, dV, kV, doc, pm, an, cdv, ct, osl, rfl, found, isCode, _, _⟩ := D.ex
  refine ⟨len, fun A outer s H args us vs Q room free e0 bound rel h => ?_⟩
  have inK : K.In s.heap := e0.mod.kin.keeps fun b o e => (e0.bs b o e).1
  have roomy : s.heap.NoLimit := e0.mod.nolimit.keeps fun b o e => (e0.bs b o e).1
  have kinds : ∀ y ∈ ps.zip us, scope.names.lookup y.1 = some .local ∨ (scope.names.lookup y.1 = some .cell ∧ ((cellsFrom (s.heap.objs.size + 1) scope.names []).lookup y.1).isSome = true) := by
    rintro ⟨n, v⟩ hy
    exact (S.par n (List.of_mem_zip hy).1).imp id fun c => ⟨c, PySem.W.cellsFrom_some _ _ _ (.inl c)⟩
  refine codeAny_call_function room.depth (inK _ _ found) rfl S.co S.gen rfl (PySem.W.codeRec_of inK isCode) (bound _ _ _ _ (wpAny_newFunctionEnv_cells S.kind kinds ?_))
  rintro env1 rfl s1 into
  refine ⟨roomy.keeps into.toInCall.keep, codeAny_func ?_⟩
  obtain ⟨t, term, reads⟩ := walk cdv A outer s H vs Q (room.deeper _) free h
  have I1 := inv_start (CX := CX0) (P := P) (w := w) (K := K) (mg := mg) (base := base) (qual := qual) (f := f) (cd := cdv) (E := E0) S room.hd e0 (len _ _ _ h) rel into
  refine wpAny_mono (term.nox.run [] s1 (start N vs) H _ I1 reads) (fun fl s' z => ?_) fun _ _ z => z
  have done : ∀ {v : V} {u : PySem.Value} {H' : Hp} {σ' : L2.St}, L2.Inv (cxOf CX0 P w K mg base N qual scope f cdv A outer s H E0) [] σ' H' s' → RelV v u → Q v H' → CE outer P w H s Q u s' :=
    fun {v u H' σ'} J r q => ⟨v, H', J.os, J.bare, J.base, J.hok, r, q⟩
  match fl, z with
  | .ret _, ⟨v, _, H', J, r, q⟩ => exact done J r q
  | .next, ⟨_, H', J, q⟩ => exact done (v := V.non) J rfl q
  | .brk, ⟨_, _, _, q⟩ => exact q.elim
  | .cont, ⟨_, _, _, q⟩ => exact q.elim
end
/-! ### the end: such a def is the law -/
section
variable {P : Program} {w : World} {K : PySem.W.Frag} {mg mb : Str → Option PySem.Value} {k : Nat} {fa a : Addr} {fd : FuncData} {x : Str} {sp : Sp} {s₁ : Shared} {vs : List PySem.Value} {ns : List Int}
theorem law_run (KX : K.In s₁.heap) (gl : s₁.heap.Ns mainGlobals mg) (bl : s₁.heap.Ns builtinsNs mb) (blb : ∀ x : Str, x ≠ "__name__" → mb x = bootBuiltins x) (lim : s₁.heap.NoLimit) (noGens : s₁.gens = #[])
    (script : s₁.heap.get? a = some { cls := .type "list", data := .seq vs.toArray }) (theInts : IntsAre vs ns) (few : ns.length ≤ sizeLine) (room : Room k callerA)
    (FF : ∀ base : Heap, K.In base → base.Ns mainGlobals mg → GOk P w K mg base k fa fd [x] sp) (bound : ∀ (s : Shared) (u : PySem.Value), BindsTo s fd ⟨[u], []⟩ [(x, u)])
    (asks : ∀ H : Hp, SqL K H a (ns.map V.int) → sp [.ref a] H (fun v _ => v = .bl true) E0) :
    codeAny (model P w) callerA (.call (.ref fa) ⟨[.ref a], []⟩) (fun r s' => r = .ok (.ret (.bool true)) ∧ OldK s₁.heap s'.heap ∧ s'.os = s₁.os ∧ AllBare s'.gens) s₁ := by
  have rel : Vals (ns.map V.int) vs := vals_ints theInts
  have sized : vs.length = ns.length := theInts.length
  -- the script is tracked, locked, unless it is an object of the written part
  have main : ∀ H : Hp, (∀ b o, H b = some o → b = a ∧ K.lookup a = none ∧ o = .frz { cls := .type "list", data := .seq vs.toArray } (.lst (ns.map V.int))) → SqL K H a (ns.map V.int) →
      codeAny (model P w) callerA (.call (.ref fa) ⟨[.ref a], []⟩) (fun r s' => r = .ok (.ret (.bool true)) ∧ OldK s₁.heap s'.heap ∧ s'.os = s₁.os ∧ AllBare s'.gens) s₁ := by
    intro H only sq
    have hok : HOk P w H s₁.heap := by
      intro b o e
      obtain ⟨rfl, _, rfl⟩ := only b o e
      exact ⟨script, by rw [List.length_map]; exact few, vs, _, rel, script⟩
    have off : ∀ {b : Addr}, (∀ o, H b ≠ some o) → H b = none := fun {b} z => by
      match e : H b with
      | none => rfl
      | some o => exact absurd e (z o)
    have notDict : ∀ {b : Addr} {o : Obj} {es : Array DictEntry} {n : Nat}, s₁.heap.get? b = some o → o.data = .dict es n → H b = none := fun {b o es n} e d => off fun u q => by
      obtain ⟨rfl, _, _⟩ := only b u q
      rw [script] at e
      obtain rfl := Option.some.inj e
      cases d
    have names : ∀ {b : Addr} {m : Str → Option PySem.Value}, s₁.heap.Ns b m → (hidT s₁.heap H).Ns b m := by
      rintro b m ⟨o, es, n, e, d, r⟩
      exact ⟨o, es, n, hidT_get e (notDict e d), d, r⟩
    have inK : K.In (hidT s₁.heap H) := fun b o e => hidT_get (KX b o e) (off fun u q => by
      obtain ⟨rfl, none_, _⟩ := only b u q
      rw [none_] at e
      cases e)
    obtain ⟨mc, lim1, lim2⟩ := lim
    have mod : Mod K mg (hidT s₁.heap H) := ⟨inK, names gl, ⟨mb, names bl, blb⟩, ⟨mc, names lim1, lim2⟩⟩
    have e0 : Env0 P w K mg (hidT s₁.heap H) callerA [] s₁ H :=
      ⟨rfl, mod, fun _ _ e => of_hidT e, Nat.le_of_eq (hidT_size _ _), trivial, fun _ z => (nomatch z), hok, .of_eq noGens⟩
    refine codeAny_mono ((FF _ inK (names gl)).run callerA [] s₁ H ⟨[.ref a], []⟩ [.ref a] [.ref a] _ room rfl e0 (bound s₁ _) (.cons rfl .nil) (asks H sq)) ?_
    intro r s' z
    match r, z with
    | .ok (.ret u), ⟨v, H', os, bare, un, hok', ru, q⟩ =>
      obtain rfl : v = .bl true := q
      obtain rfl : u = PySem.Value.bool true := ru
      refine ⟨rfl, OldK.of_keep fun b o e => ?_, os, bare⟩
      match eb : H b with
      | none => exact un.keep b o e eb (fun z => nomatch z) (fun z => nomatch z)
      | some u =>
        obtain ⟨rfl, _, rfl⟩ := only b u eb
        obtain ⟨there, _⟩ := hok' _ _ (un.frzs b _ _ eb)
        rw [script] at e
        obtain rfl := Option.some.inj e
        exact there
    | .ok .next, z => exact z.elim
    | .ok .brk, z => exact z.elim
    | .ok .cont, z => exact z.elim
    | .error _, z => exact z.elim
  match ek : K.lookup a with
  | some o =>
    have same := KX a o ek
    rw [script] at same
    obtain rfl := Option.some.inj same
    exact main (fun _ => none) (fun _ _ z => nomatch z) (.inr ⟨_, vs.toArray, _, ek, rfl, rfl, rfl, by rw [List.size_toArray, sized]; exact few, by simpa using rel⟩)
  | none =>
    refine main (fun b => if b = a then some (.frz { cls := .type "list", data := .seq vs.toArray } (.lst (ns.map V.int))) else none) (fun b o z => ?_) (.inl (.inr ⟨_, if_pos rfl⟩))
    by_cases hb : b = a
    · exact ⟨hb, ek, (Option.some.inj ((if_pos hb).symm.trans z)).symm⟩
    · exact nomatch (if_neg hb).symm.trans z
end
/-- for the goal that head_any leaves -/
theorem law_walk {l : PySem.W.OpenLaw} {n k : Nat} {q : Program} {loose : List Str} {XP : (Str → Option PySem.Value) → Heap → Prop} {YP : World → Heap → Prop} {d : DefRec} {x : Str}
    (most : l.most = some n) (small : n ≤ sizeLine) (plain : d.params.defaults = []) (room : Room k callerA)
    (told : ∀ (w : World) (mg : Str → Option PySem.Value) (fa : Addr) (h : Heap), YP w h → h.Ns mainGlobals mg → mg d.name = some (.ref fa) →
      ∃ (K : PySem.W.Frag) (fd : FuncData) (sp : Sp), K.In h ∧ (∀ (s : Shared) (u : PySem.Value), BindsTo s fd ⟨[u], []⟩ [(x, u)]) ∧
        (∀ (H : Hp) (a : Addr) (ns : List Int), ns.length ≤ n → SqL K H a (ns.map V.int) → sp [.ref a] H (fun v _ => v = .bl true) E0) ∧
        ∀ base : Heap, K.In base → base.Ns mainGlobals mg → GOk l.prog w K mg base k fa fd [x] sp) :
    PySem.W.WalkO q loose XP YP l.row.toRowW d [] (fun f vs => PySem.call f vs) := by
  refine Att.attach_call most plain ?_
  intro w s₀ s₁ mg mb fa o pm cd doc a vs ns G Y ho hd hcd hmg script theInts few noGens
  obtain ⟨K, fd, sp, KX, bound, asks, FF⟩ := told w mg fa _ Y G.T.g hmg
  exact law_run KX G.T.g G.T.b G.T.builtins G.T.nolimit noGens script theInts (Nat.le_trans few small) room FF bound fun H z => asks H a ns few z
end Tr

set_option Elab.async false
set_option linter.all false
set_option maxRecDepth 100000
set_option maxHeartbeats 4000000
namespace Pen
open PySem PySem.Spec PyProof.Rows L2
/-! ### the pen: a dict of five names -/
def penK (l : Addr) (at_ dg ct fo : Int) : List (Key × V) := [(Sum.inr "cells", .ref l), (Sum.inr "at", .int at_), (Sum.inr "digits", .int dg), (Sum.inr "count", .int ct), (Sum.inr "fold", .int fo)]
section
variable {H : Hp} {p l : Addr} {a d c f z : Int}
theorem get_ {k : Str} {v : V} (e : valV (penK l a d c f) (Sum.inr k) = some v) (h : H p = some (.dK (penK l a d c f))) : DGet H p (.str k) (some v) := by
  have g := DGet.k (k := Sum.inr k) h
  rw [e] at g
  exact g
theorem put_ {k : Str} {v : V} {kvs : List (Key × V)} (e : putK (penK l a d c f) (Sum.inr k) v = kvs) (h : H p = some (.dK (penK l a d c f))) : DPut H p (.str k) v (upd H p (.dK kvs)) := by
  have g := DPut.k (k := Sum.inr k) (v := v) h (small1000 (by show 5 ≤ 1000; decide))
  rw [e] at g
  exact g
theorem gCells (h : H p = some (.dK (penK l a d c f))) : DGet H p (.str "cells") (some (.ref l)) := get_ (by kernel_rfl) h
theorem gAt (h : H p = some (.dK (penK l a d c f))) : DGet H p (.str "at") (some (.int a)) := get_ (by kernel_rfl) h
theorem gDigits (h : H p = some (.dK (penK l a d c f))) : DGet H p (.str "digits") (some (.int d)) := get_ (by kernel_rfl) h
theorem gCount (h : H p = some (.dK (penK l a d c f))) : DGet H p (.str "count") (some (.int c)) := get_ (by kernel_rfl) h
theorem gFold (h : H p = some (.dK (penK l a d c f))) : DGet H p (.str "fold") (some (.int f)) := get_ (by kernel_rfl) h
theorem pAt (h : H p = some (.dK (penK l a d c f))) : DPut H p (.str "at") (.int z) (upd H p (.dK (penK l z d c f))) := put_ (by kernel_rfl) h
theorem pDigits (h : H p = some (.dK (penK l a d c f))) : DPut H p (.str "digits") (.int z) (upd H p (.dK (penK l a z c f))) := put_ (by kernel_rfl) h
theorem pCount (h : H p = some (.dK (penK l a d c f))) : DPut H p (.str "count") (.int z) (upd H p (.dK (penK l a d z f))) := put_ (by kernel_rfl) h
theorem pFold (h : H p = some (.dK (penK l a d c f))) : DPut H p (.str "fold") (.int z) (upd H p (.dK (penK l a d c z))) := put_ (by kernel_rfl) h
end
/-- the pen at p with these fields -/
structure PenV (H : Hp) (p l : Addr) (cells : List Int) (a d c f : Int) : Prop where
  di : H p = some (.dK (penK l a d c f))
  li : H l = some (.lst (cells.map V.int))
  a0 : 0 ≤ a
  d0 : 0 ≤ d
  c0 : 0 ≤ c
  f0 : 0 ≤ f
  f1 : f < 2147483648
/-- a pen at p that was asked at most n times -/
def PenAt (H : Hp) (p l : Addr) (n : Nat) : Prop := ∃ cells a d c f, PenV H p l cells a d c f ∧ c ≤ n
/-- all that was tracked but p is as it was -/
def But (p : Addr) (H H' : Hp) : Prop := ∀ b o, H b = some o → b ≠ p → H' b = some o
theorem But.refl {p : Addr} {H : Hp} : But p H H := fun _ _ e _ => e
theorem But.trans {p : Addr} {H H1 H2 : Hp} (x : But p H H1) (y : But p H1 H2) : But p H H2 := fun b o e n => y b o (x b o e n) n
theorem But.upd {p : Addr} {H H1 : Hp} {o : HO} (x : But p H H1) : But p H (L2.upd H1 p o) := fun b u e n => by rw [upd_ne n]; exact x b u e n
theorem But.same {p : Addr} {H H1 : Hp} (x : Same H H1) : But p H H1 := fun b o e _ => x b o e
theorem PenV.keep {H H' : Hp} {p l : Addr} {cells : List Int} {a d c f : Int} (P : PenV H p l cells a d c f) (s : Same H H') : PenV H' p l cells a d c f := ⟨s _ _ P.di, s _ _ P.li, P.a0, P.d0, P.c0, P.f0, P.f1⟩
theorem PenAt.keep {H H' : Hp} {p l : Addr} {n : Nat} (P : PenAt H p l n) (s : Same H H') : PenAt H' p l n := by
  obtain ⟨cells, a, d, c, f, P, h⟩ := P
  exact ⟨cells, a, d, c, f, P.keep s, h⟩
theorem PenAt.mono {H : Hp} {p l : Addr} {n m : Nat} (P : PenAt H p l n) (h : n ≤ m) : PenAt H p l m := by
  obtain ⟨cells, a, d, c, f, P, h1⟩ := P
  exact ⟨cells, a, d, c, f, P, by omega⟩
theorem PenAt.is {H : Hp} {p l : Addr} {n : Nat} (P : PenAt H p l n) : ∃ kvs, H p = some (.dK kvs) := by
  obtain ⟨cells, a, d, c, f, P, _⟩ := P
  exact ⟨_, P.di⟩
theorem PenAt.lis {H : Hp} {p l : Addr} {n : Nat} (P : PenAt H p l n) : ∃ xs, H l = some (.lst xs) := by
  obtain ⟨cells, a, d, c, f, P, _⟩ := P
  exact ⟨_, P.li⟩
/-- another object changes -/
theorem PenAt.other {H : Hp} {p l D : Addr} {o : HO} {n : Nat} (P : PenAt H p l n) (h1 : D ≠ p) (h2 : D ≠ l) : PenAt (L2.upd H D o) p l n := by
  obtain ⟨cells, a, d, c, f, P, h⟩ := P
  exact ⟨cells, a, d, c, f, ⟨by rw [upd_ne (Ne.symm h1)]; exact P.di, by rw [upd_ne (Ne.symm h2)]; exact P.li, P.a0, P.d0, P.c0, P.f0, P.f1⟩, h⟩
/-- the pen with another dict -/
theorem PenV.set {H : Hp} {p l : Addr} {cells : List Int} {a d c f a' d' c' f' : Int} (P : PenV H p l cells a d c f) (a0 : 0 ≤ a') (d0 : 0 ≤ d') (c0 : 0 ≤ c') (f0 : 0 ≤ f') (f1 : f' < 2147483648) :
    PenV (upd H p (.dK (penK l a' d' c' f'))) p l cells a' d' c' f' :=
  ⟨upd_same, by rw [upd_ne (ne_of P.li P.di (by intro z; cases z))]; exact P.li, a0, d0, c0, f0, f1⟩
/-! ### promises -/
def spPen (K : PySem.W.Frag) : Sp := fun vs H Q _ => ∃ (a : Addr) (ns : List Int), vs = [.ref a] ∧ SqL K H a (ns.map V.int) ∧ ns.length ≤ 63 ∧ ∀ p l H', PenAt H' p l 0 → Same H H' → H p = none → Q (.ref p) H'
def spDraw : Sp := fun vs H Q _ => ∃ (p l : Addr) (n : Nat) (m : Int), vs = [.ref p, .int m] ∧ PenAt H p l n ∧ n ≤ 1000000 ∧ 1 ≤ m ∧ m < 1073741824 ∧
  ∀ r H', 0 ≤ r → r < m → PenAt H' p l (n + 1) → But p H H' → Q (.int r) H'
def spPick (K : PySem.W.Frag) : Sp := fun vs H Q _ => ∃ (p l s : Addr) (n : Nat) (xs : List V), vs = [.ref p, .ref s] ∧ PenAt H p l n ∧ n ≤ 1000000 ∧ SqL K H s xs ∧ xs ≠ [] ∧ xs.length < 1073741824 ∧ s ≠ p ∧
  ∀ (i : Nat) v H', xs[i]? = some v → PenAt H' p l (n + 1) → But p H H' → Q v H'
end Pen
namespace K3
open PySem PySem.Spec PyProof.Rows L2 Pen
/-! ### what the top's names hold -/
structure Txt (mg : Str → Option PySem.Value) : Prop where
  len : mg "len" = none
  int : mg "int" = none
  list : mg "list" = none
  range : mg "range" = none
  str : mg "str" = none
  repr : mg "repr" = none
  isi : mg "isinstance" = none
  tuple : mg "tuple" = none
  bool : mg "bool" = none
  sorted : mg "sorted" = none
  enum : mg "enumerate" = none
  all : mg "all" = none
abbrev FnP (K : PySem.W.Frag) (x : Str) (st : PySem.Stmt) (f : Addr) (fd : FuncData) : Prop := FunD K x x (defArgs st) (defBody st) (defScope st) [] [] f fd
section
variable {P : Program} {w : World} {K : PySem.W.Frag} {mg : Str → Option PySem.Value} {base : Heap} {f : Addr} {fd : FuncData}
theorem scPen : FnScope ["_law_script", "_law_fold", "_law_cell"] ["_law_script"] (defScope sPen) := ⟨rfl, rfl, rfl, by decide +kernel, rfl, by decide +kernel, by decide +kernel⟩
theorem ok_pen (F : FnP K "_law_pen" sPen f fd) (T : Txt mg) : FnOk P w K mg base CX0 1 f fd ["_law_script"] (spPen K) := by
  refine F.ok scPen (fun vs H Q E h => ?_) (fun cdv A outer s H vs Q E hr h => ?_)
  · obtain ⟨a, ns, rfl, _⟩ := h
    rfl
  · obtain ⟨a, ns, rfl, hS, hl, k⟩ := h
    have nd := scPen.nd
    suffices z : ∃ t, PSs (cxOf CX0 P w K mg base ["_law_script", "_law_fold", "_law_cell"] "_law_pen" (defScope sPen) f cdv A outer s H E).nox (defBody sPen) t ∧ t { nx := fun _ H' => Q .non H', rt := Q } (start ["_law_script", "_law_fold", "_law_cell"] [.ref a]) H by
      obtain ⟨t, h1, h2⟩ := z
      exact ⟨t, h1.nox, h2⟩
    refine ⟨_, pss_cons (ps_set (i := 1) nd rfl (.inl rfl) pe_int)
      (pss_cons (ps_for PassesOwn.never rfl (pi_list (pv 0)) (pg_name (i := 2) nd rfl (.inl rfl))
        (pss_one (ps_set (i := 1) nd rfl (.inl rfl) (pe_op op_mod (pe_callTy call_int1 (by rfl) T.int (by decide +kernel) (pa_cons (pe_op op_add (pe_op op_mul (pv 1) pe_int) (pv 2)) pa_nil)) pe_int))))
      (pss_one (ps_ret (pe_disp (pps_cons pe_str (pe_callTy call_list_of (by rfl) T.list (by decide +kernel) (pa_cons (pv 0) pa_nil)) (pps_cons pe_str pe_int (pps_cons pe_str pe_int (pps_cons pe_str pe_int (pps_cons pe_str (pv 1) pps_nil)))))
        rfl rfl (by intro z; cases z) (by decide))))), ?_⟩
    refine ⟨_, rfl, a, rfl, ⟨_, hS⟩, for_list (K := K) (a := a) (xs := ns.map V.int) (fun i σ H2 => ∃ (fo : Int) (v : Option V), σ = [some (.ref a), some (.int fo), v] ∧ H2 = H ∧ 0 ≤ fo ∧ fo < 1000000007)
      ⟨0, none, rfl, rfl, by decide, by decide⟩ (fun i σ H2 _ ⟨_, _, _, e, _⟩ => by rw [e]; exact hS) ?_ ?_⟩
    · rintro i y σ H2 hi ⟨fo, v, rfl, rfl, f0, f1⟩
      obtain ⟨z, _, rfl⟩ : ∃ z, ns[i]? = some z ∧ V.int z = y := by
        rw [List.getElem?_map] at hi
        exact Option.map_eq_some_iff.mp hi
      refine ⟨_, rfl, _, _, rfl, rfl, .inr ⟨by decide, by decide⟩, _, rfl, _, _, rfl, rfl, .inl ⟨_, rfl, _, _, rfl, rfl, (by show (0 : Int) < 1000000007; decide), ?_⟩⟩
      exact ⟨(fo * 41 + z) % 1000000007, _, rfl, rfl, Int.emod_nonneg _ (by decide), Int.emod_lt_of_pos _ (by decide)⟩
    · rintro σ H2 ⟨fo, v, rfl, rfl, f0, f1⟩
      intro p hp
      refine ⟨_, rfl, a, _, rfl, .inl (Same.seq (fun b o e => by rw [upd_ne (ne_of_none e hp)]; exact e) hS), fun l hl => ?_⟩
      have nlp : p ≠ l := ne_of_none (upd_same (H := H2) (a := p)) hl
      have hl2 : H2 l = none := by rw [← hl, upd_ne nlp.symm]
      refine ⟨_, rfl, ?_⟩
      refine ⟨(by rw [upd_ne nlp]; exact upd_same), penK l 0 0 0 fo, rfl, (by show 5 ≤ 15; decide), ?_⟩
      have e0 : mergeK [] (penK l 0 0 0 fo) = penK l 0 0 0 fo := by kernel_rfl
      rw [e0]
      refine k p l _ ⟨ns, 0, 0, 0, fo, ⟨upd_same, by rw [upd_ne nlp.symm, upd_same], by decide, by decide, by decide, f0, by omega⟩, by decide⟩ (fun b o e => ?_) hp
      rw [upd_ne (ne_of_none e hp), upd_ne (ne_of_none e hl2), upd_ne (ne_of_none e hp)]
      exact e
end
end K3

set_option Elab.async false
set_option linter.all false
set_option maxRecDepth 100000
set_option maxHeartbeats 4000000
namespace K3
open PySem PySem.Spec PyProof.Rows L2 Pen
section
variable {P : Program} {w : World} {K : PySem.W.Frag} {mg : Str → Option PySem.Value} {base : Heap} {f : Addr} {fd : FuncData}
abbrev nDraw : List Str := ["_law_pen_here", "_law_many", "_law_cell", "_law_digit", "_law_blend"]
theorem scDraw : FnScope nDraw ["_law_pen_here", "_law_many"] (defScope sDraw) := ⟨rfl, rfl, rfl, by decide +kernel, rfl, by decide +kernel, by decide +kernel⟩
theorem ok_draw (F : FnP K "_law_draw" sDraw f fd) (T : Txt mg) : FnOk P w K mg base CX0 1 f fd ["_law_pen_here", "_law_many"] spDraw := by
  refine F.ok scDraw (fun vs H Q E h => ?_) (fun cdv A outer s H vs Q E hr h => ?_)
  · obtain ⟨a, _, ns, _, rfl, _⟩ := h
    rfl
  · obtain ⟨p, l, n, m, rfl, ⟨cells, at_, dg, ct, fo, PV, cn⟩, hn, m1, m2, k⟩ := h
    have nd := scDraw.nd
    have hu := hu_of hr
    suffices z : ∃ t, PSs (cxOf CX0 P w K mg base nDraw "_law_draw" (defScope sDraw) f cdv A outer s H E).nox (defBody sDraw) t ∧ t { nx := fun _ H' => Q .non H', rt := Q } (start nDraw [.ref p, .int m]) H by
      obtain ⟨t, h1, h2⟩ := z
      exact ⟨t, h1.nox, h2⟩
    refine ⟨_, pss_cons (ps_dput hu (pv 0) pe_str (pe_op op_add (pe_dget hu (pv 0) pe_str (fun _ _ => rfl)) pe_int) rfl)
      (C8.pss_cut (ps_if (PW.pt (pw_and (pt_cmpR op_eq (pe_dget hu (pv 0) pe_str (fun _ _ => rfl)) pe_int (nomark _))
          (pw_and1 (pt_cmpR op_lt (pe_dget hu (pv 0) pe_str (fun _ _ => rfl)) (pe_callB call_len_seq (by rfl) T.len PySem.boot_len (pa_cons (pe_dget hu (pv 0) pe_str (fun _ _ => rfl)) pa_nil)) (nomark _)))))
        (pss_cons (ps_set (i := 2) nd rfl (.inl rfl) (pe_ix ix_list (pe_dget hu (pv 0) pe_str (fun _ _ => rfl)) (pe_dget hu (pv 0) pe_str (fun _ _ => rfl)) (fun _ _ => rfl)))
        (pss_cons (ps_dput hu (pv 0) pe_str (pe_op op_add (pe_dget hu (pv 0) pe_str (fun _ _ => rfl)) pe_int) rfl)
        (pss_one (ps_if (pt_cmpR op_ge (pv 2) (pe_op op_pow pe_int pe_int) (nomark _))
          (pss_one (ps_dput hu (pv 0) pe_str (pe_op op_sub (pv 2) (pe_op op_pow pe_int pe_int)) rfl))
          (pss_one (ps_dput hu (pv 0) pe_str (pe_op op_mod (pe_callTy call_int1 (by rfl) T.int (by decide +kernel) (pa_cons (pe_op op_add (pe_op op_mul (pe_dget hu (pv 0) pe_str (fun _ _ => rfl)) pe_int) (pv 2)) pa_nil)) pe_int) rfl))))))
        pss_nil)
      (pss_cons (ps_if (pt_cmpR op_gt (pe_dget hu (pv 0) pe_str (fun _ _ => rfl)) pe_int (nomark _))
        (pss_cons (ps_set (i := 3) nd rfl (.inl rfl) (pe_op op_mod (pe_callTy call_int1 (by rfl) T.int (by decide +kernel) (pa_cons (pe_dget hu (pv 0) pe_str (fun _ _ => rfl)) pa_nil)) (pv 1)))
        (pss_cons (ps_dput hu (pv 0) pe_str (pe_op op_fdiv (pe_dget hu (pv 0) pe_str (fun _ _ => rfl)) (pv 1)) rfl)
        (pss_one (ps_ret (pv 3)))))
        pss_nil)
      (pss_cons (ps_set (i := 4) nd rfl (.inl rfl) (pe_op op_add (pe_op op_add (pe_dget hu (pv 0) pe_str (fun _ _ => rfl)) (pe_op op_mul (pe_dget hu (pv 0) pe_str (fun _ _ => rfl)) pe_int)) pe_int))
      (pss_one (ps_ret (pe_op op_mod (pe_op op_fdiv (pe_callTy call_int1 (by rfl) T.int (by decide +kernel) (pa_cons (pe_op op_mod (pe_op op_pow (pv 4) pe_int) pe_int) pa_nil)) pe_int) (pv 1))))))), ?_⟩
    -- count
    refine ⟨_, rfl, p, _, rfl, gCount PV.di, _, _, rfl, rfl, _, rfl, p, _, rfl, pCount PV.di, ?_⟩
    have P1 := PV.set (c' := ct + 1) PV.a0 PV.d0 (by have := PV.c0; omega) PV.f0 PV.f1
    -- behind the draw of a cell
    refine ⟨fun σ H2 => ∃ (v : Option V) (a d f : Int), σ = [some (.ref p), some (.int m), v, none, none] ∧ PenV H2 p l cells a d (ct + 1) f ∧ But p H H2, ?_, ?_⟩
    · refine ⟨_, rfl, p, _, rfl, gDigits P1.di, rfl, _, rfl, ?_⟩
      by_cases hd : dg = 0
      · subst hd
        refine iteT ⟨_, rfl, p, _, rfl, gAt P1.di, _, rfl, p, _, rfl, gCells P1.di, l, _, rfl, .inl (.of P1.li), _, _, rfl, rfl, _, rfl, ?_⟩
        by_cases hlt : at_ < ((cells.map V.int).length : Int)
        · rw [decide_eq_true hlt]
          refine iteT ?_
          have a0 := PV.a0
          have hlt2 : at_.toNat < cells.length := by
            rw [List.length_map] at hlt
            omega
          obtain ⟨z, item⟩ : ∃ z, L2.atI (cells.map V.int) at_ = some (.int z) := by
            obtain ⟨i, rfl⟩ : ∃ i : Nat, at_ = (i : Int) := ⟨at_.toNat, by omega⟩
            exact ⟨cells[i]'hlt2, atI_nat (by rw [List.getElem?_map, List.getElem?_eq_getElem (show i < cells.length from hlt2)] <;> rfl)⟩
          refine ⟨_, rfl, p, _, rfl, gCells P1.di, _, rfl, p, _, rfl, gAt P1.di, l, _, _, _, rfl, rfl, .of P1.li, item, ?_⟩
          refine ⟨_, rfl, p, _, rfl, gAt P1.di, _, _, rfl, rfl, _, rfl, p, _, rfl, pAt P1.di, ?_⟩
          have P2 := P1.set (a' := at_ + 1) (by omega) P1.d0 P1.c0 P1.f0 P1.f1
          refine ⟨_, rfl, _, _, rfl, rfl, ⟨by decide, by decide, by decide⟩, _, _, rfl, rfl, _, rfl, ?_⟩
          refine ite2 (fun hbig => ?_) (fun _ => ?_)
          · refine ⟨_, rfl, _, _, rfl, rfl, ⟨by decide, by decide, by decide⟩, _, _, rfl, rfl, _, rfl, p, _, rfl, pDigits P2.di, ?_⟩
            have big := of_decide_eq_true hbig
            exact ⟨_, _, _, _, rfl, P2.set P2.a0 (by omega) P2.c0 P2.f0 P2.f1, But.refl.upd.upd.upd⟩
          · refine ⟨_, rfl, p, _, rfl, gFold P2.di, _, _, rfl, rfl, .inr ⟨by decide, by decide⟩, _, rfl, _, _, rfl, rfl, .inl ⟨_, rfl, _, _, rfl, rfl, (by show (0 : Int) < 2147483587; decide), _, rfl, p, _, rfl, pFold P2.di, ?_⟩⟩
            exact ⟨_, _, _, _, rfl, P2.set P2.a0 P2.d0 P2.c0 (Int.emod_nonneg _ (by decide)) (by have := Int.emod_lt_of_pos (fo * 69069 + z) (show (0 : Int) < 2147483587 by decide); omega), But.refl.upd.upd.upd⟩
        · rw [decide_eq_false hlt]
          exact iteF ⟨_, _, _, _, rfl, P1, But.refl.upd⟩
      · have e : decide (V.int dg = V.int 0) = false := decide_eq_false (fun z => hd (by injection z))
        rw [e]
        exact iteF ⟨_, _, _, _, rfl, P1, But.refl.upd⟩
    · rintro σ H2 ⟨v, a, d, f, rfl, P2, b2⟩
      refine ⟨_, rfl, p, _, rfl, gDigits P2.di, _, _, rfl, rfl, _, rfl, ?_⟩
      refine ite2 (fun hpos => ?_) (fun _ => ?_)
      · have pos := of_decide_eq_true hpos
        refine ⟨_, rfl, p, _, rfl, gDigits P2.di, .inl ⟨_, rfl, _, rfl, _, _, rfl, rfl, (by omega), ?_⟩⟩
        refine ⟨_, rfl, p, _, rfl, gDigits P2.di, _, rfl, _, _, rfl, rfl, ⟨by omega, m2⟩, _, rfl, p, _, rfl, pDigits P2.di, ?_⟩
        refine ⟨_, rfl, ?_⟩
        refine k _ _ (Int.emod_nonneg _ (by omega)) (Int.emod_lt_of_pos _ (by omega)) ⟨cells, _, _, _, _, P2.set P2.a0 (Int.ediv_nonneg P2.d0 (by omega)) P2.c0 P2.f0 P2.f1, by omega⟩ b2.upd
      · have c0 := P2.c0
        have f0 := P2.f0
        have f1 := P2.f1
        refine ⟨_, rfl, p, _, rfl, gFold P2.di, _, rfl, p, _, rfl, gCount P2.di, _, _, rfl, rfl, .inr ⟨by decide, by decide⟩, _, _, rfl, rfl, _, _, rfl, rfl, ?_⟩
        refine ⟨_, rfl, _, _, rfl, rfl, ⟨by decide, by decide, by omega⟩, _, _, rfl, rfl, (by show (0 : Int) < 2305843009213693951; decide), .inl ⟨_, rfl, _, _, rfl, rfl, ⟨by decide, by decide⟩, _, rfl, _, _, rfl, rfl, (by omega), ?_⟩⟩
        exact k _ _ (Int.emod_nonneg _ (by omega)) (Int.emod_lt_of_pos _ (by omega)) ⟨cells, _, _, _, _, P2, by omega⟩ b2
end
end K3

set_option Elab.async false
set_option linter.all false
set_option maxRecDepth 100000
set_option maxHeartbeats 4000000
namespace Pen
open PySem PySem.Spec PyProof.Rows L2
theorem But.seq {K : PySem.W.Frag} {p a : Addr} {H H' : Hp} {xs : List V} (s : But p H H') (n : a ≠ p) (h : SqL K H a xs) : SqL K H' a xs := by
  rcases h with (h | ⟨o, h⟩) | h
  · exact .inl (.inl (s _ _ h n))
  · exact .inl (.inr ⟨o, s _ _ h n⟩)
  · exact .inr h
theorem But.seqT {K : PySem.W.Frag} {p a : Addr} {H H' : Hp} {xs : List V} (s : But p H H') (n : a ≠ p) (h : SqT K H a xs) : SqT K H' a xs := by
  rcases h with (h | ⟨o, h⟩) | h
  · exact .inl (.inl (s _ _ h n))
  · exact .inl (.inr ⟨o, s _ _ h n⟩)
  · exact .inr h
/-! ### digits -/
theorem dv_lt : ∀ (cs : List Nat) (a : Nat), NumText.AllDigits cs → cs.foldl (fun acc c => acc * 10 + (c - 48)) a < (a + 1) * 10 ^ cs.length
  | [], a, _ => by
    show a < (a + 1) * 10 ^ 0
    omega
  | c :: cs, a, h => by
    have h0 := h.head
    have z := dv_lt cs (a * 10 + (c - 48)) h.tail
    show cs.foldl (fun acc c => acc * 10 + (c - 48)) (a * 10 + (c - 48)) < (a + 1) * 10 ^ (cs.length + 1)
    have e : (a + 1) * 10 ^ (cs.length + 1) = (a * 10 + 10) * 10 ^ cs.length := by
      rw [Nat.pow_succ, Nat.mul_comm (10 ^ cs.length) 10, ← Nat.mul_assoc]
      have : (a + 1) * 10 = a * 10 + 10 := by omega
      rw [this]
    rw [e]
    refine Nat.lt_of_lt_of_le z (Nat.mul_le_mul_right _ ?_)
    omega
/-- the last fg figures of a number, read back -/
theorem cut_num (n fg : Nat) (h1 : 1 ≤ fg) (short : (TL.numL n).length ≤ 640) :
    ∃ z : Nat, PySem.intText? (cutS (Str.ofString (toString (n : Int))) (some (-(fg : Int))) none) = some (z : Int) ∧ z < 10 ^ fg ∧ (cutS (Str.ofString (toString (n : Int))) (some (-(fg : Int))) none).length ≤ 640 := by
  have hd : (Str.ofString (toString (n : Int))).cps.toList = TL.numL n := TL.tl_num n
  have hlen : (Str.ofString (toString (n : Int))).length = (TL.numL n).length := by
    show (Str.ofString (toString (n : Int))).cps.size = _
    rw [← Array.length_toList, hd]
  have hne : 0 < (TL.numL n).length := List.length_pos_iff.mpr (TL.numL_ne n)
  have shape : cutS (Str.ofString (toString (n : Int))) (some (-(fg : Int))) none = SX.S ((TL.numL n).drop ((TL.numL n).length - fg)) := by
    unfold cutS
    rw [hd, hlen]
    have e1 : HT.sIx (TL.numL n).length 0 (some (-(fg : Int))) = (TL.numL n).length - fg := by
      show (if (-(fg : Int)) < 0 then ((-(fg : Int)) + ((TL.numL n).length : Int)).toNat else _) = _
      rw [if_pos (by omega)]
      omega
    have e2 : HT.sIx (TL.numL n).length (TL.numL n).length none = (TL.numL n).length := rfl
    rw [e1, e2, List.take_of_length_le (by rw [List.length_drop]; omega)]
  have dl : ((TL.numL n).drop ((TL.numL n).length - fg)).length ≤ fg := by rw [List.length_drop]; omega
  have dg : NumText.AllDigits ((TL.numL n).drop ((TL.numL n).length - fg)) := fun c hc => TL.numL_digits n c (List.mem_of_mem_drop hc)
  rw [shape]
  refine ⟨NumText.digitsVal ((TL.numL n).drop ((TL.numL n).length - fg)), SX.int_S ?_ ?_ ?_, ?_, ?_⟩
  · refine List.all_eq_true.mpr fun c hc => ?_
    obtain ⟨a, b⟩ := dg c hc
    rw [decide_eq_true a, decide_eq_true b] <;> rfl
  · intro e
    have := congrArg List.length e
    rw [List.length_drop] at this
    simp at this
    omega
  · rw [List.length_drop]
    omega
  · have z := dv_lt _ 0 dg
    refine Nat.lt_of_lt_of_le z ?_
    rw [Nat.zero_add, Nat.one_mul]
    exact Nat.pow_le_pow_right (by decide) dl
  · rw [SX.S_len, List.length_drop]
    omega
/-- _law_big: a number of at most fg figures -/
def spBig : Sp := fun vs H Q _ => ∃ (p l : Addr) (n fg : Nat), vs = [.ref p, .int fg] ∧ PenAt H p l n ∧ n ≤ 900000 ∧ 1 ≤ fg ∧ fg ≤ 500 ∧
  ∀ (z : Nat) H', z < 10 ^ fg → PenAt H' p l (n + 1 + (fg + 3)) → But p H H' → Q (.int z) H'
end Pen
namespace K3
open PySem PySem.Spec PyProof.Rows L2 Pen
section
variable {P : Program} {w : World} {K : PySem.W.Frag} {mg : Str → Option PySem.Value} {base : Heap} {f fD fP : Addr} {fd fdD fdP : FuncData}
theorem scPick : FnScope ["_law_pen_here", "_law_some"] ["_law_pen_here", "_law_some"] (defScope sPick) := ⟨rfl, rfl, rfl, by decide +kernel, rfl, by decide +kernel, by decide +kernel⟩
theorem ok_pick (F : FnP K "_law_pick" sPick f fd) (T : Txt mg) (FD : FnP K "_law_draw" sDraw fD fdD) (gD : mg "_law_draw" = some (.ref fD)) : FnOk P w K mg base CX0 2 f fd ["_law_pen_here", "_law_some"] (spPick K) := by
  have GD : FnOk P w K mg base CX0 1 fD fdD ["_law_pen_here", "_law_many"] spDraw := ok_draw FD T
  have bD : Binds K fdD ["_law_pen_here", "_law_many"] [] := FD.bindsN fun _ _ _ _ _ _ us hl => match us, hl with | [_, _], _ => rfl
  refine F.ok scPick (fun vs H Q E h => ?_) (fun cdv A outer s H vs Q E hr h => ?_)
  · obtain ⟨_, _, _, _, _, rfl, _⟩ := h
    rfl
  · obtain ⟨p, l, a, n, xs, rfl, PA, hn, hS, ne, many, nap, k⟩ := h
    suffices z : ∃ t, PSs (cxOf CX0 P w K mg base ["_law_pen_here", "_law_some"] "_law_pick" (defScope sPick) f cdv A outer s H E).nox (defBody sPick) t ∧ t { nx := fun _ H' => Q .non H', rt := Q } (start ["_law_pen_here", "_law_some"] [.ref p, .ref a]) H by
      obtain ⟨t, h1, h2⟩ := z
      exact ⟨t, h1.nox, h2⟩
    refine ⟨_, pss_one (ps_ret (pe_ix ix_list (pv 1) (pe_call GD hr (by rfl) gD FD.kp bD .nil pass0 (pa_cons (pv 0) (pa_cons (pe_callB call_len_seq (by rfl) T.len PySem.boot_len (pa_cons (pv 1) pa_nil)) pa_nil))) (fun _ _ => rfl))), ?_⟩
    have pos : 0 < xs.length := List.length_pos_iff.mpr ne
    refine ⟨_, rfl, _, rfl, _, rfl, a, xs, rfl, .inl hS, p, l, n, _, rfl, PA, hn, by omega, by omega, fun r H' r0 r1 PA' but => ?_⟩
    obtain ⟨i, rfl⟩ : ∃ i : Nat, r = (i : Int) := ⟨r.toNat, by omega⟩
    have hi : i < xs.length := by omega
    exact ⟨a, xs, _, _, rfl, rfl, but.seq nap hS, atI_nat (List.getElem?_eq_getElem hi), k i _ H' (List.getElem?_eq_getElem hi) PA' but⟩
end
end K3

set_option Elab.async false
set_option linter.all false
set_option maxRecDepth 100000
set_option maxHeartbeats 4000000
namespace Tr
open PySem PySem.Spec PyProof.Rows L2
/-! ### defs that run where nothing is being shown; what they hold of code objects -/
structure GFn (P : Program) (w : World) (K : PySem.W.Frag) (mg : Str → Option PySem.Value) (base : Heap) (CX : CXT) (k : Nat) (f : Addr) (fd : FuncData) (ps : List Str) (sp : Sp) : Prop where
  len : ∀ vs H Q E, sp vs H Q E → vs.length = ps.length
  run : ∀ (A : Around) (outer : List Env) (s : Shared) (H : Hp) (args : Args) (us : List PySem.Value) (vs : List V) (Q : VK) (E : XK), Room k A → A.guards = some [] → Env0 P w K mg base A outer s H →
    BindsTo s fd args (ps.zip us) → Vals vs us → sp vs H Q E → codeAny (model P w) A (.call (.ref f) args) (CR CX outer P w H s Q E) s
section
variable {CX : CXT} {P : Program} {w : World} {K : PySem.W.Frag} {mg : Str → Option PySem.Value} {base : Heap} {x qual : Str} {params : Arguments} {body : List PySem.Stmt} {scope : Scope} {f : Addr} {fd : FuncData}
theorem GFn.of {N ps : List Str} {k : Nat} {sp : Sp} {dvs : List V} {kws : List (Str × V)} (D : FunD K x qual params body scope dvs kws f fd) (S : FnScope N ps scope) (len : ∀ vs H Q E, sp vs H Q E → vs.length = ps.length)
    (walk : ∀ (c : Addr) (A : Around) (outer : List Env) (s : Shared) (H : Hp) (vs : List V) (Q : VK) (E : XK), (∀ p, He.fAd K p = f → He.codeOf K p = c) → Room k (A.deeper (envOfC qual scope s.heap.objs.size f (.ref c))) → A.guards = some [] → sp vs H Q E →
      ∃ t, PSs (cxOf CX P w K mg base N qual scope f (.ref c) A outer s H E) body t ∧ t { nx := fun _ H' => Q .non H', rt := Q } (start N vs) H) : GFn P w K mg base CX (k + 1) f fd ps sp := by
  obtain ⟨oc, od, dV, kV, doc, pm, an, cdv, ct, osl, rfl, found, isCode, _, _⟩ := D.ex
  obtain ⟨c, rfl⟩ := He.codeIn_ref isCode
  refine ⟨len, fun A outer s H args us vs Q E room free e0 bound rel h => ?_⟩
  have inK : K.In s.heap := e0.mod.kin.keeps fun b o e => (e0.bs b o e).1
  have roomy : s.heap.NoLimit := e0.mod.nolimit.keeps fun b o e => (e0.bs b o e).1
  have kinds : ∀ y ∈ ps.zip us, scope.names.lookup y.1 = some .local ∨ (scope.names.lookup y.1 = some .cell ∧ ((cellsFrom (s.heap.objs.size + 1) scope.names []).lookup y.1).isSome = true) := by
    rintro ⟨n, v⟩ hy
    exact (S.par n (List.of_mem_zip hy).1).imp id fun c => ⟨c, PySem.W.cellsFrom_some _ _ _ (.inl c)⟩
  refine codeAny_call_function room.depth (inK _ _ found) rfl S.co S.gen rfl (PySem.W.codeRec_of inK isCode) (bound _ _ _ _ (wpAny_newFunctionEnv_cells S.kind kinds ?_))
  rintro env1 rfl s1 into
  refine ⟨roomy.keeps into.toInCall.keep, codeAny_func ?_⟩
  obtain ⟨t, term, reads⟩ := walk c A outer s H vs Q E (fun p e => He.codeOf_eq (by rw [e]; exact found) rfl) (room.deeper _) free h
  have I1 := inv_start (CX := CX) (P := P) (w := w) (K := K) (mg := mg) (base := base) (qual := qual) (f := f) (cd := PySem.Value.ref c) (E := E) S room.hd e0 (len _ _ _ _ h) rel into
  refine wpAny_mono (term.run [] s1 (start N vs) H _ I1 reads) (fun fl s' z => ?_) fun _ _ z => z
  have done : ∀ {v : V} {u : PySem.Value} {H' : Hp} {σ' : L2.St}, L2.Inv (cxOf CX P w K mg base N qual scope f (.ref c) A outer s H E) [] σ' H' s' → RelV v u → Q v H' → CE outer P w H s Q u s' :=
    fun {v u H' σ'} J r q => ⟨v, H', J.os, J.bare, J.base, J.hok, r, q⟩
  match fl, z with
  | .ret _, ⟨v, _, H', J, r, q⟩ => exact done J r q
  | .next, ⟨_, H', J, q⟩ => exact done (v := V.non) J rfl q
  | .brk, ⟨_, _, _, q⟩ => exact q.elim
  | .cont, ⟨_, _, _, q⟩ => exact q.elim
end
section
variable {X : Cx} {CX : CXT} {k : Nat} {f C : Addr} {fd : FuncData} {ps : List Str} {sp : Sp} {E : XK} {x m : Str} {p pos apos : Pos} {e o : Expr} {es : List Expr} {ta : TE} {t : TA}
theorem run_fnG {pins : List (Addr × Obj)} {σ : L2.St} {H : Hp} {s : Shared} {Q : VK} {us : List PySem.Value} {vs : List V} (F : GFn X.prog X.w X.K X.mg X.base CX k f fd ps sp) (hG : X.A.guards = some []) (hr : Room k X.A) (hb : L2.Binds X.K fd ps []) (hx : Passes CX X E)
    (I : L2.Inv X pins σ H s) (r : Vals vs us) (h : sp vs H Q E) : wpAny (model X.prog X.w) X.A (call (.ref f) us) (EP X pins σ Q) X.xe s := by
  have hl : (us ++ []).length = ps.length := by
    rw [List.append_nil, ← r.length]
    exact F.len _ _ _ _ h
  have b := hb s us I.kIn hl
  rw [List.append_nil] at b
  refine wpAny_call (codeAny_mono (F.run X.A X.stack s H ⟨us, []⟩ us vs Q E hr hG I.env0 b r h) fun r s' hq => ?_)
  cases r with
  | error e => exact hx pins σ H s e s' I hq
  | ok fl =>
    cases fl with
    | ret u => exact I.after hq
    | next => exact False.elim hq
    | brk => exact False.elim hq
    | cont => exact False.elim hq
theorem pe_callG (F : GFn X.prog X.w X.K X.mg X.base CX k f fd ps sp) (hG : X.A.guards = some []) (hr : Room k X.A) (hg : Gl X x) (hm : X.mg x = some (.ref f)) (hk : PySem.W.keepIn X.K (.ref f) = true) (hb : L2.Binds X.K fd ps []) (hx : Passes CX X E)
    (ha : PA X (e :: es) t) (hdb : (x == ("__debug__" : Str)) = false := by decide) (he : starEach (e :: es) X.env = (false, eval e X.env) :: starEach es X.env := by rfl) (hpl : (backTo pos (starEach es X.env)).any (·.1) = false := by rfl) :
    PE X (.Call (.Name x p) (e :: es) [] pos) (fun σ H Q => t σ H fun vs H1 => sp vs H1 Q E) := by
  refine ⟨fun pins s σ H Q I h => ?_⟩
  refine wpAny_Call_Name_kw (ld_glob I hg hm ?_ hdb)
  refine PySem.W.callWith_K (h₀ := X.base) I.ok.mod.kin hk (thn (ha.run pos pins s σ H _ I h) fun us s1 ⟨vs, H1, I1, r, q⟩ => ⟨I1.kIn, ?_⟩) he hpl
  exact run_fnG F hG hr hb hx I1 r q
def tMakeG (C : Addr) (sp : Sp) (E : XK) (t : TA) : TE := fun σ H Q => t σ H fun vs H1 => ∀ x dx, H1 x = none → H1 dx = none → dx ≠ x →
  sp (.ref x :: vs) (upd (upd H1 dx (.own x)) x (.ins C dx [])) (fun v H2 => v = .non ∧ Q (.ref x) H2) E
/-- for exceptions that look at the heap from which the call was made: a promise of the class's call as a whole -/
theorem run_makeG {pins : List (Addr × Obj)} {σ : L2.St} {H : Hp} {s : Shared} {Q : VK} {us : List PySem.Value} {vs : List V} (M : Mk X.K C f) (F : GFn X.prog X.w X.K X.mg X.base CX k f fd ps sp) (hG : X.A.guards = some []) (hr : Room (k + 1) X.A) (hb : L2.Binds X.K fd ps [])
    (hx : Passes CX X E) (I : L2.Inv X pins σ H s) (r : Vals vs us)
    (h : ∀ x dx, H x = none → H dx = none → dx ≠ x → sp (.ref x :: vs) (upd (upd H dx (.own x)) x (.ins C dx [])) (fun v H2 => v = .non ∧ Q (.ref x) H2) E) :
    wpAny (model X.prog X.w) X.A (call (.ref C) us) (EP X pins σ Q) X.xe s := by
  have hq := h (s.heap.objs.size + 1) s.heap.objs.size (I.hok.fresh (Nat.le_succ _)) (I.hok.fresh (Nat.le_refl _)) (Nat.ne_of_lt (Nat.lt_succ_self _))
  have I2 := Inv.made (C := C) I
  have r2 : Vals (V.ref (s.heap.objs.size + 1) :: vs) (PySem.Value.ref (s.heap.objs.size + 1) :: us) := .cons rfl r
  have hl : (PySem.Value.ref (s.heap.objs.size + 1) :: us ++ []).length = ps.length := by
    have e := r2.length
    rw [F.len _ _ _ _ hq] at e
    rw [List.append_nil]
    exact e.symm
  have b := hb { s with heap := _ } (PySem.Value.ref (s.heap.objs.size + 1) :: us) I2.kIn hl
  rw [List.append_nil] at b
  have hG2 : (X.A.under (.builtin "type.__call__" ⟨.ref C :: us, []⟩)).guards = some [] := by
    have e1 : (Code.builtin "type.__call__" ⟨.ref C :: us, []⟩).guards = [] := by
      have e2 : (Code.builtin "type.__call__" ⟨.ref C :: us, []⟩).isGuard = false := by
        show guardIds.contains "type.__call__" = false
        decide +kernel
      unfold Code.guards
      rw [e2]
      rfl
    show pushGuards (Code.builtin "type.__call__" ⟨.ref C :: us, []⟩).guards X.A.guards = some []
    rw [e1, hG]
    first | rfl | (rw [pushGuards_eq]; rfl)
  refine wpAny_call (make_map (f := f) I.kIn M.makes M.init (beq_iff_eq.mp M.fn) (codeAny_mono (F.run _ X.stack _ _ ⟨PySem.Value.ref (s.heap.objs.size + 1) :: us, []⟩ (PySem.Value.ref (s.heap.objs.size + 1) :: us) _ _ E (hr.make C us []) hG2
    (I2.env0.make C us []) b r2 hq) fun r s' hq' => ?_))
  cases r with
  | error e => exact hx pins σ _ _ e s' I2 hq'
  | ok fl =>
    cases fl with
    | ret u =>
      obtain ⟨v, H', I3, rv, ev, q3⟩ := I2.after hq'
      subst ev
      exact ⟨rv, ⟨V.ref (s.heap.objs.size + 1), H', I3, rfl, q3⟩⟩
    | next => exact False.elim hq'
    | brk => exact False.elim hq'
    | cont => exact False.elim hq'
theorem pe_makeG (M : Mk X.K C f) (F : GFn X.prog X.w X.K X.mg X.base CX k f fd ps sp) (hG : X.A.guards = some []) (hr : Room (k + 1) X.A) (hg : Gl X x) (hm : X.mg x = some (.ref C)) (hb : L2.Binds X.K fd ps []) (hx : Passes CX X E)
    (ha : PA X (e :: es) t) (hdb : (x == ("__debug__" : Str)) = false := by decide) (he : starEach (e :: es) X.env = (false, eval e X.env) :: starEach es X.env := by rfl) (hpl : (backTo pos (starEach es X.env)).any (·.1) = false := by rfl) :
    PE X (.Call (.Name x p) (e :: es) [] pos) (tMakeG C sp E t) := by
  refine ⟨fun pins s σ H Q I h => ?_⟩
  refine wpAny_Call_Name_kw (ld_glob I hg hm ?_ hdb)
  refine PySem.W.callWith_K (h₀ := X.base) I.ok.mod.kin M.kp (thn (ha.run pos pins s σ H _ I h) fun us s1 ⟨vs, H1, I1, r, q⟩ => ⟨I1.kIn, ?_⟩) he hpl
  exact run_makeG M F hG hr hb hx I1 r q
end
end Tr

set_option Elab.async false
set_option linter.all false
set_option maxRecDepth 100000
set_option maxHeartbeats 4000000
namespace Tr
open PySem PySem.Spec PyProof.Rows L2 LamX AK
section
variable {prog : Program} {w : World} {A : Around} {E : PySem.Value → Shared → Prop} {s : Shared} {Q : PySem.Value → Shared → Prop}
theorem repr_any {v : PySem.Value} {d : PyData} {as : List Addr} (r : Reads s.heap v d as) (hs : d.showable = true) (nd : d.hasDict = false) (free : A.guards = some []) (hu : A.units + (d.depth + 1) < cLine) (short : d.shown.length ≤ sizeLine)
    (hQ : ∀ h' u tk, (∀ b o, s.heap.get? b = some o → h'.get? b = some o) → Q (.str d.shown u) { s with heap := h', toks := tk }) : wpAny (model prog w) A (call (.builtin "repr") [v]) Q E s := by
  cases r with
  | none => exact P.repr_of_none (hQ s.heap _ _ fun _ _ e => e)
  | bool b => exact P.repr_of_bool (hQ s.heap _ _ fun _ _ e => e)
  | int i t => exact P.repr_of_int (of_decide_eq_true hs) (hQ s.heap _ _ fun _ _ e => e)
  | str x t => exact P.repr_of_str (hQ s.heap _ _ fun _ _ e => e) short
  | list h1 h2 h3 h4 => exact repr_of_reads' (.list h1 h2 h3 h4) hs (PyData.noDict_hsm nd) free hu (fun _ _ e => e) hQ short
  | tuple h1 h2 h3 h4 => exact repr_of_reads' (.tuple h1 h2 h3 h4) hs (PyData.noDict_hsm nd) free hu (fun _ _ e => e) hQ short
  | dict _ _ _ _ _ => cases nd
end
/-- repr(x) of any data -/
def rShowV (K : PySem.W.Frag) : List V → Hp → VK → Prop := fun xs H Q => ∃ (x : V) (d : PyData), xs = [x] ∧ Dp K H x d ∧ d.showable = true ∧ d.hasDict = false ∧ d.depth ≤ 60 ∧ d.shown.length ≤ sizeLine ∧ Q (.str d.shown) H
theorem call_showV {Y : Cx} (free : Y.A.guards = some []) (hu : Y.A.units + 64 < cLine) : CallR Y (.builtin "repr") (rShowV Y.K) := by
  intro pins s σ H xs us Q I rel h
  obtain ⟨x, d, rfl, hd, hs, nd, deep, short, q⟩ := h
  obtain ⟨u, rfl, ru⟩ := vals1 rel
  obtain ⟨as, rd⟩ := Dp.reads I d x u hd ru
  refine repr_any rd hs nd free (by omega) short (fun h' t' tk keep => ?_)
  exact ⟨.str d.shown, H, I.kept (t' := tk) keep, ⟨_, rfl⟩, q⟩
/-! ### sorted(x, key=lambda n: repr(n)) -/
abbrev Vd := V × PyData
def srt (xs : List Vd) : List Vd := xs.mergeSort (PySem.W.dataLe false fun x : Vd => .str x.2.shown)
theorem srt_perm (xs : List Vd) : (srt xs).Perm xs := List.mergeSort_perm _ _
theorem srt_len (xs : List Vd) : (srt xs).length = xs.length := (srt_perm xs).length_eq
theorem ExtN.rd {H H' : Hp} (e : ExtN H H') {a : Addr} {o : HO} (n : ∀ ps, o ≠ .tbl ps) (h : Rd H a o) : Rd H' a o := h.elim (fun h => .inl (e _ _ h n)) fun ⟨u, h⟩ => .inr ⟨u, e _ _ h fun ps z => nomatch z⟩
theorem ExtN.tups {H H' : Hp} (e : ExtN H H') : Tups H H' := fun a xs h => ExtN.rd e (fun ps z => nomatch z) h
theorem ExtN.seq {K : PySem.W.Frag} {H H' : Hp} (e : ExtN H H') {a : Addr} {xs : List V} (h : SqL K H a xs) : SqL K H' a xs := h.elim (fun h => .inl (ExtN.rd e (fun ps z => nomatch z) h)) .inr
theorem ExtN.da {K : PySem.W.Frag} {w : World} {H H' : Hp} (e : ExtN H H') {d : Addr} {es : List Eh} (D : DA K w H d es) : DA K w H' d es :=
  ⟨ExtN.rd e (fun ps z => nomatch z) D.at_, fun x hx => ⟨(D.nk x hx).1.tups (ExtN.tups e), (D.nk x hx).2⟩, D.nd⟩
/-- its items, in order: a list's, a dict's keys -/
def Colls (K : PySem.W.Frag) (w : World) (H : Hp) (x : V) (xs : List V) : Prop := ∃ a, x = .ref a ∧ (SqL K H a xs ∨ ∃ es : List Eh, DA K w H a es ∧ es.map (·.2.1) = xs)
/-- what is known of the things that are shown -/
def ShowOk (K : PySem.W.Frag) (H : Hp) (p : Vd) : Prop := Dp K H p.1 p.2 ∧ p.2.showable = true ∧ p.2.hasDict = false ∧ p.2.depth ≤ 60 ∧ p.2.shown.length ≤ sizeLine ∧ ∃ k, keyD p.2 = some k
theorem ShowOk.tups {K : PySem.W.Frag} {H H' : Hp} {p : Vd} (t : Tups H H') (h : ShowOk K H p) : ShowOk K H' p := by
  obtain ⟨h1, h2, h3, h4, h5, k, h6⟩ := h
  exact ⟨dp_tups t _ _ k h6 h1, h2, h3, h4, h5, k, h6⟩
section
variable {X : Cx} {pins : List (Addr × Obj)} {σ : L2.St} {H : Hp} {s : Shared}
theorem colls_run {x : V} {xs : List V} {r : Addr} {R : List PySem.Value → Shared → Prop} {E : PySem.Value → Shared → Prop} {A : Around} (hh : A.handled = none) (I : L2.Inv X pins σ H s) (c : Colls X.K X.w H x xs) (e : x = .ref r) (hz : xs.length ≤ sizeLine)
    (h : ∀ (h' : Heap) (tk : Nat) (us : List PySem.Value), (∀ b o, s.heap.get? b = some o → h'.get? b = some o) → Vals xs us → R us { s with heap := h', toks := tk }) : wpAny (model X.prog X.w) A (collect (.ref r)) R E s := by
  obtain ⟨a, rfl, c⟩ := c
  cases e
  rcases c with hs | ⟨es, D, rfl⟩
  · obtain ⟨its, rv, pl, _⟩ := I.list hs
    refine collect_list pl.isList ?_ (by rw [← rv.length]; exact hz)
    refine h _ _ its (fun b o q => ?_) rv
    rw [Heap.get?_update_ne _ _ _ _ (Nat.ne_of_lt (Heap.lt_size q))]
    exact Heap.get?_push_of_some _ q
  · obtain ⟨hd, _, us, ⟨⟨o, arr, ep, ho, hc, hdat, he⟩, his, nd⟩, rel⟩ := D.raw I
    have hsz : arr.size = es.length := by
      rw [ent_size he]
      exact (Paired.length rel).symm
    rw [List.length_map] at hz
    refine PySem.W.kdu_collect (KdlSrc.rawDict hd) hh ⟨o, ho, hc, hdat⟩ (by rw [hsz]; exact hz) fun h' tk acc keep items => h h' tk acc.toList keep ?_
    obtain ⟨hl, hi⟩ := items
    have key : acc.toList = us.map (·.2.1) := by
      refine List.ext_getElem? fun i => ?_
      by_cases hlt : i < arr.size
      · obtain ⟨v, h1⟩ : ∃ v, acc.toList[i]? = some v := ⟨_, List.getElem?_eq_getElem (by rw [Array.length_toList, hl]; exact hlt)⟩
        obtain ⟨hlt2, e2⟩ := hi i v (by rw [← Array.getElem?_toList]; exact h1)
        have h3 : arr[i]? = some arr[i] := Array.getElem?_eq_getElem hlt2
        have h4 := ent_at he i
        rw [h3] at h4
        obtain ⟨f, hf1, hf2⟩ := Option.map_eq_some_iff.mp h4.symm
        rw [h1, e2, List.getElem?_map, hf1, ← hf2]
        rfl
      · rw [List.getElem?_eq_none (by rw [Array.length_toList, hl]; omega), List.getElem?_eq_none (by rw [List.length_map, ← ent_size he]; omega)]
    rw [key]
    clear key
    have gen : ∀ {l : List Eh} {m : List En}, Paired (fun (p : Eh) (q : En) => p.1 = q.1 ∧ RelV p.2.1 q.2.1 ∧ RelV p.2.2 q.2.2) l m → Vals (l.map (·.2.1)) (m.map (·.2.1)) := by
      intro l m q
      induction q with
      | nil => exact .nil
      | cons hq t ih => exact .cons hq.2.1 ih
    exact gen rel
end
end Tr

set_option Elab.async false
set_option linter.all false
set_option maxRecDepth 100000
set_option maxHeartbeats 4000000
namespace Tr
open PySem PySem.Spec PyProof.Rows L2 LamX AK
/-- the lambda's scope: its one name is local, repr is none of its own -/
structure LamR (scope : Scope) (n : Str) : Prop where
  kind : scope.kind = .function
  co : scope.isCoroutine = false
  gen : scope.isGenerator = false
  loc : scope.names.lookup n = some .local
  rep : scope.names.lookup ("repr" : Str) = some .globalImplicit
  nocell : ∀ y ∈ scope.names, y.2 ≠ .cell
  nofree : ∀ y ∈ scope.names, y.2 ≠ .free
section
variable {X : Cx} {pins : List (Addr × Obj)} {σ : L2.St} {H : Hp} {s : Shared}
/-- the lambda called where all that was there stays -/
theorem lam_repr {f c' : Addr} {pm ctv : PySem.Value} {params : Arguments} {scope : Scope} {n : Str} {p1 p2 p3 : Pos} {k : Nat} {h : Heap} {tk : Nat} {x : V} {v : PySem.Value} {d : PyData} (I : L2.Inv X pins σ H s) (L : LamR scope n) (hr : Room (k + 3) X.A) (free : X.A.guards = some [])
    (hm : X.mg "repr" = none) (hnd : (n == ("__debug__" : Str)) = false)
    (hf : s.heap.get? f = some (PySem.W.kla_obj "<lambda>" (X.env.qual ++ "<lambda>") params (.Call (.Name "repr" p1) [.Name n p2] [] p3) scope (cloFrom X.env.cells scope.names []) pm c' ctv)) (hc : H c' = some (CodeO c' (X.env.qual ++ "<lambda>")))
    (hbind : ∀ (q : Str) (cl : List (Str × Addr)) (pm cv ctv u : PySem.Value), bindArgs (PySem.W.kla_fn "<lambda>" q params (.Call (.Name "repr" p1) [.Name n p2] [] p3) scope cl pm cv ctv) ⟨[u], []⟩ = pure [(n, u)])
    (kept : ∀ b o, s.heap.get? b = some o → h.get? b = some o) (rx : RelV x v) (hd : ShowOk X.K H (x, d)) :
    wpAny (model X.prog X.w) X.A.in1.in1 (call (.ref f) [v]) (PySem.W.KeyPure (.str d.shown) { s with heap := h, toks := tk }) (fun _ _ => False) { s with heap := h, toks := tk } := by
  have J : L2.Inv X pins σ H { s with heap := h, toks := tk } := I.kept kept
  obtain ⟨hD, hs, nd, deep, short, _⟩ := hd
  obtain ⟨as, rd⟩ := Dp.reads J d x v hD rx
  have of1 := kept _ _ hf
  obtain ⟨⟨oc, vs, t, hoc, hdc, hvc⟩, _, _⟩ := J.hok c' _ hc
  have rc : codeAny (model X.prog X.w) X.A.in1.in1 (.call (.ref f) ⟨[v], []⟩) (fun r s' => ∃ u, r = .ok (.ret u) ∧ PySem.W.KeyPure (.str d.shown) { s with heap := h, toks := tk } u s') { s with heap := h, toks := tk } := by
    refine PySem.W.kla_callFunE (hr.in1.in1).depth of1 rfl L.co L.gen rfl ⟨c', oc, vs, t, rfl, hoc, hdc, hvc⟩ ?_
    rw [hbind]
    refine wpAny_pure (wpAny_newFunctionEnv (fun y hy => L.nocell y hy) (fun y hy => by
      obtain rfl : y = (n, v) := by simpa using hy
      exact L.loc) (fun h₁ hns hsb => ⟨J.nolimit.fresh _ hsb, ?_⟩) L.kind)
    have kp : ∀ b o, h.get? b = some o → h₁.get? b = some o := fun b o e => hsb.extBut b o (Nat.ne_of_lt (Heap.lt_size e)) (Heap.get?_push_of_some _ e)
    have J1 : L2.Inv X pins σ H { s with heap := h₁, toks := tk + 1 } := J.kept kp
    show codeAny _ _ (.expr (.Call (.Name "repr" p1) [.Name n p2] [] p3) (PySem.W.envX (X.env.qual ++ "<lambda>") scope h.objs.size f (.ref c') (cloFrom X.env.cells scope.names []))) _ _
    refine PySem.W.kla_codeExpr ?_
    obtain ⟨mb, b1, b2⟩ := J1.mod.blt
    refine wpAny_Call_Name_kw (Calls.Name_function_global L.kind L.rep (Calls.loadGlobal_builtin (J1.mod.glob.keeps J1.bk) hm (b1.keeps J1.bk) ((b2 "repr" (by decide)).trans boot_repr) ?_) (by decide))
    refine PyProof.Rows.callWith_builtin1 (Calls.spliced_cons ?_) rfl rfl
    show wpAny _ _ (eval (.Name n p2) (PySem.W.envX (X.env.qual ++ "<lambda>") scope h.objs.size f (.ref c') (cloFrom X.env.cells scope.names []))) _ _ _
    refine wpAny_Name (wpAny_loadName_local (m := fun y => ([(n, v)] : List (Str × PySem.Value)).reverse.lookup y) L.kind L.loc hns (show ([(n, v)] : List (Str × PySem.Value)).reverse.lookup n = some v by simp) ?_) hnd
    refine Calls.spliced_nil ?_
    have hu := hr.units
    refine repr_any (PyProof.Rows.Reads.keeps kp rd) hs nd (by exact free) (by
      show X.A.units + 1 + 1 + 3 + (d.depth + 1) < cLine
      have := hr.un
      have deep : d.depth ≤ 60 := deep
      omega) short fun h2 u tk2 keep => ?_
    exact ⟨_, rfl, h2, tk2, rfl, fun b o e => keep b o (kp b o e), .str _ _⟩
  refine wpAny_call (codeAny_mono rc fun r s' hq => ?_)
  obtain ⟨u, rfl, q⟩ := hq
  exact q
/-- the whole call's reading -/
def aSortR (K : PySem.W.Frag) (w : World) (T : List (Addr × Str)) (Q : VK) (x : V) (H1 : Hp) : Prop := Tabs T H1 ∧ ∃ xs : List Vd, Colls K w H1 x (xs.map (·.1)) ∧ (∀ q ∈ xs, ShowOk K H1 q) ∧ xs.length ≤ sizeLine ∧
  ∀ H2 p, ExtN H1 H2 → Tabs T H2 → H2 p = none → Q (.ref p) (upd H2 p (.lst ((srt xs).map (·.1))))
def tSortR (K : PySem.W.Frag) (w : World) (T : List (Addr × Str)) (te : TE) : TE := fun σ H Q => te σ H fun x H1 => aSortR K w T Q x H1
def oneOf (R : V → Hp → Prop) : List V → Hp → Prop := fun vs H => match vs with
  | [x] => R x H
  | _ => False
theorem oneOf_is {R : V → Hp → Prop} {vs : List V} {H : Hp} (h : oneOf R vs H) : ∃ x, vs = [x] ∧ R x H := by
  match vs, h with
  | [x], h => exact ⟨x, rfl, h⟩
theorem objok_get {P : Program} {w : World} {H : Hp} {h : Heap} {a : Addr} {o : HO} (x : ObjOk P w H h a o) : ∃ ob, h.get? a = some ob := by
  cases o with
  | lst xs => obtain ⟨_, _, _, _, e⟩ := x; exact ⟨_, e⟩
  | tup xs => obtain ⟨_, _, _, o, e, _⟩ := x; exact ⟨_, e⟩
  | dK kvs => obtain ⟨_, _, _, _, o, _, _, e, _⟩ := x; exact ⟨_, e⟩
  | dT kvs => obtain ⟨_, _, _, _, o, _, _, e, _⟩ := x; exact ⟨_, e⟩
  | set S n => obtain ⟨o, _, _, _, e, _⟩ := x; exact ⟨_, e⟩
  | ins C dx fs => obtain ⟨_, _, _, e, _⟩ := x; exact ⟨_, e⟩
  | own y => exact x
  | xd fs => obtain ⟨_, ⟨_, _, _, e, _⟩, _⟩ := x; exact ⟨_, e⟩
  | rng lo hi => obtain ⟨_, _, _, e⟩ := x; exact ⟨_, e⟩
  | frz ob u => obtain ⟨e, _⟩ := x; exact ⟨_, e⟩
  | tbl ps => exact ⟨_, x⟩
  | met f y => exact ⟨_, x⟩
  | ext φ => obtain ⟨_, e, _⟩ := x; exact e
theorem each_of : ∀ {xs : List Vd} {us : List PySem.Value}, Vals (xs.map (·.1)) us → PySem.W.EachIs (fun (v : PySem.Value) (x : Vd) => RelV x.1 v) us xs
  | [], _, r => by cases r; exact .nil
  | x :: xs, _, r => by
    cases r with
    | cons h t => exact .cons h (each_of t)
theorem of_each : ∀ {xs : List Vd} {us : List PySem.Value}, PySem.W.EachIs (fun (v : PySem.Value) (x : Vd) => RelV x.1 v) us xs → Vals (xs.map (·.1)) us
  | _, _, .nil => .nil
  | _, _, .cons h t => .cons h (of_each t)
theorem boot_sortedN : bootBuiltins ("sorted" : Str) = some (.builtin "sorted") := by decide +kernel
theorem key_kz {xs : List Vd} : ∀ d ∈ xs.map (fun x : Vd => PyData.str x.2.shown), ∃ z, d = .str z := fun d hd => by
  obtain ⟨x, _, rfl⟩ := List.mem_map.mp hd
  exact ⟨_, rfl⟩
theorem pe_sortR {T : List (Addr × Str)} {c P : Addr} {te : TE} {e : PySem.Expr} {params : Arguments} {scope : Scope} {n : Str} {p pos lp kp p1 p2 p3 : Pos} {k : Nat} (he : PE X e te) (TB : TabB X.base X.mg c P) (hcode : X.env.code = .ref c)
    (hmT : (P, X.env.qual ++ "<lambda>") ∈ T) (huT : ∀ p ∈ T, p.1 = P → p.2 = X.env.qual ++ "<lambda>") (L : LamR scope n) (hr : Room (k + 3) X.A) (free : X.A.guards = some []) (hm : X.mg "repr" = none) (hms : X.mg "sorted" = none) (hgs : Gl X "sorted")
    (hnd : (n == ("__debug__" : Str)) = false) (hdef : defaultsOf params X.env = ([], []))
    (hbind : ∀ (q : Str) (cl : List (Str × Addr)) (pm cv ctv u : PySem.Value), bindArgs (PySem.W.kla_fn "<lambda>" q params (.Call (.Name "repr" p1) [.Name n p2] [] p3) scope cl pm cv ctv) ⟨[u], []⟩ = pure [(n, u)])
    (hst : starEach [e] X.env = (false, eval e X.env) :: starEach [] X.env := by rfl) :
    PE X (.Call (.Name "sorted" p) [e] [⟨some "key", .Lambda params (.Call (.Name "repr" p1) [.Name n p2] [] p3) scope lp, kp⟩] pos) (tSortR X.K X.w T te) := by
  refine ⟨fun pins s σ H Q I h => ?_⟩
  refine wpAny_Call_Name_kw (ld_blt I hgs hms boot_sortedN ?_ (by decide))
  refine PyProof.Rows.callWith_kw (thn ((pa_cons he pa_nil hst).run pos pins s σ H (oneOf (aSortR X.K X.w T Q)) I h) fun xsv s1 ⟨vs, H1, I1, rvs, one⟩ => ?_) (by rw [hst] <;> rfl) (by rw [hst] <;> rfl) rfl rfl
  obtain ⟨x, rfl, hT, xs, hC, hS, hz, q1⟩ := oneOf_is one
  obtain ⟨xv, rfl, rx⟩ := vals1 rvs
  show wpAny _ _ (evalAll [do let v ← eval (.Lambda params (.Call (.Name "repr" p1) [.Name n p2] [] p3) scope lp) X.env; standAt pos; pure v]) _ _ s1
  refine wpAny_evalAll_cons (wpAny_bind (lam_make2 I1 TB hcode hmT huT hT hdef (fun y hy e => absurd e (L.nofree y hy)) fun f c' pm ctv H2 s2 I2 ext hT2 hf hfn hfr hco => ?_))
  refine wpAny_bind (wpAny_standAt (wpAny_pure (wpAny_evalAll_nil ?_)))
  obtain ⟨r, rfl, hC⟩ := hC
  cases rx
  have hC2 : Colls X.K X.w H2 (.ref r) (xs.map (·.1)) := ⟨r, rfl, hC.elim (fun z => .inl (ExtN.seq ext z)) fun ⟨es, D, e⟩ => .inr ⟨es, ExtN.da ext D, e⟩⟩
  have hS2 : ∀ q ∈ xs, ShowOk X.K H2 q := fun q hq => (hS q hq).tups (ExtN.tups ext)
  show wpAny _ _ (call (.builtin "sorted") [.ref r] [(Str.ofString "key", .ref f)]) _ _ s2
  have hz2 : (xs.map (·.1)).length ≤ sizeLine := by
    rw [List.length_map]
    exact hz
  refine call_function_entry_kw PyProof.Rows.kind_sorted PyProof.Rows.plain_sorted PyProof.Rows.entry_sorted (PyProof.Rows.ksk_s1 _ _) ?_
  unfold Builtin.«sorted»
  refine wpAny_bind (m := checkCount "sorted" 1 1 _) (wpAny_pure ?_)
  refine wpAny_bind (colls_run (A := X.A.in1) hr.hd I2 hC2 rfl hz2 fun h' tk us keep rel => ?_)
  have hus : us.length = xs.length := by
    rw [← rel.length, List.length_map]
  refine wpAny_bind (wpAny_newList ?_ (by rw [hus]; exact hz))
  have at1 : (h'.push (seqObj "list" us.toArray 0)).get? h'.objs.size = some (seqObj "list" us.toArray 0) := Heap.get?_push_size _ rfl
  have keep1 : ∀ b o, s2.heap.get? b = some o → b ≠ h'.objs.size ∧ (h'.push (seqObj "list" us.toArray 0)).get? b = some o := fun b o e => ⟨Nat.ne_of_lt (Heap.lt_size (keep b o e)), Heap.get?_push_of_some _ (keep b o e)⟩
  refine wpAny_bind (wpAny_holding (wpAny_call_entry_kw PyProof.Rows.slot_list_sort ⟨_, at1, rfl⟩ PyProof.Rows.entry_list_sort ?_ (PyProof.Rows.ksk_l1 _ _)))
  rw [PyProof.Rows.ksk_t1]
  have alk : PySem.W.AllAlike (xs.map fun x : Vd => PyData.str x.2.shown) := fun d hd d' hd' => by
    obtain ⟨z, rfl⟩ := key_kz d hd
    obtain ⟨z', rfl⟩ := key_kz d' hd'
    rfl
  have srtb : PySem.W.Sortable (xs.map fun x : Vd => PyData.str x.2.shown) := .inr fun d hd => by
    obtain ⟨z, rfl⟩ := key_kz d hd
    exact ⟨(fun e => nomatch e), (fun _ e => nomatch e)⟩
  have eu := each_of rel
  refine PySem.W.keyH_tree (A := X.A.in1.in1) (b := false) (kz := xs.map fun x : Vd => PyData.str x.2.shown) (vs := us) (s := { s2 with heap := h'.push (seqObj "list" us.toArray 0), toks := tk }) at1 (by rw [List.length_map, hus]) (by rw [hus]; exact hz) alk srtb (fun d hd => ?_)
    (PySem.W.keyH_turns (bs := xs) (k := fun x : Vd => PyData.str x.2.shown) (s := { s2 with heap := h'.push (seqObj "list" us.toArray 0), toks := tk }) eu fun v x hR hx g tk2 kp => ?_) fun h3 tk3 out c3 kp hD ko => ?_
  · obtain ⟨z, rfl⟩ := key_kz d hd
    have := hr.un
    show X.A.units + 1 + 1 + 0 < cLine
    omega
  · exact lam_repr (s := s2) (h := g) (tk := tk2) I2 L hr free hm hnd hf hco hbind (fun b o e => kp b o (keep1 b o e).1 (keep1 b o e).2) hR (hS2 x hx)
  · have eo := of_each (PySem.W.keyedOut_each (fun x : Vd => PyData.str x.2.shown) ko eu)
    have np : ∀ o, s2.heap.get? h'.objs.size ≠ some o := fun o e => Nat.lt_irrefl _ (Heap.lt_size (keep _ _ e))
    have n1 : s2.heap.get? h'.objs.size = none := by
      cases q : s2.heap.get? h'.objs.size with
      | none => rfl
      | some o => exact absurd q (np o)
    have n2 : H2 h'.objs.size = none := by
      cases q : H2 h'.objs.size with
      | none => rfl
      | some o =>
        obtain ⟨ob, e⟩ := objok_get (I2.hok _ _ q)
        exact absurd e (np ob)
    refine ⟨_, rfl, wpAny_pure ⟨_, rfl, .ref h'.objs.size, _, I2.laidN (t' := tk3) (fun b o e => kp b o (keep1 b o e).1 (keep1 b o e).2) n1 n2 (show ObjOk X.prog X.w _ h3 _ (.lst ((srt xs).map (·.1))) from ⟨?_, out, c3, eo, hD⟩), rfl, q1 H2 _ ext hT2 n2⟩⟩
    rw [List.length_map, srt_len]
    exact hz
end
end Tr

set_option Elab.async false
set_option linter.all false
set_option maxRecDepth 100000
set_option maxHeartbeats 4000000
namespace Tr
open PySem PySem.Spec PyProof.Rows L2 AK
/-- the type of a datum -/
def tyD : PyData → String
  | .none => "NoneType"
  | .bool _ => "bool"
  | .int _ => "int"
  | .str _ => "str"
  | .list _ => "list"
  | .tuple _ => "tuple"
  | .dict _ => "dict"
/-- isinstance(x, c), x a datum, c a built-in type -/
def rIsD (K : PySem.W.Frag) : List V → Hp → VK → Prop := fun xs H Q => ∃ (x : V) (c : String) (d : PyData) (b : Bool), xs = [x, .ty c] ∧ Dp K H x d ∧ kitB (tyD d) c = some b ∧ Q (.bl b) H
theorem call_isD {X : Cx} : CallR X (.builtin "isinstance") (rIsD X.K) := by
  intro pins s σ H xs us Q I r h
  obtain ⟨x, c, d, b, rfl, hD, e, q⟩ := h
  obtain ⟨u1, u2, rfl, r1, r2⟩ := vals2 r
  obtain rfl : u2 = PySem.Value.type c := r2
  have kit : ∃ P : Heap → Prop, PySem.W.KitX X.K u1 (.type (tyD d)) P ∧ P s.heap ∧ u1 ≠ .builtin "__main__.__loader__#opaque" := by
    cases hD with
    | non => cases (show u1 = PySem.Value.none from r1); exact ⟨_, PySem.W.kitx_none, True.intro, fun z => nomatch z⟩
    | bl y => cases (show u1 = PySem.Value.bool y from r1); exact ⟨_, PySem.W.kitx_bool, True.intro, fun z => nomatch z⟩
    | int i => obtain ⟨t, rfl⟩ := r1; exact ⟨_, PySem.W.kitx_int, True.intro, fun z => nomatch z⟩
    | str y => obtain ⟨t, rfl⟩ := r1; exact ⟨_, PySem.W.kitx_str, True.intro, fun z => nomatch z⟩
    | lst hs ha =>
      cases r1
      obtain ⟨its, rv, ⟨o, n, ho, hc, _⟩, _⟩ := I.list hs
      exact ⟨_, PySem.W.kitx_list, ⟨o, ho, hc⟩, fun z => nomatch z⟩
    | tup hs ha =>
      cases r1
      obtain ⟨its, rv, ⟨o, ho, hc, _⟩, _⟩ := I.tuple hs
      exact ⟨_, PySem.W.kitx_tuple, ⟨o, ho, hc⟩, fun z => nomatch z⟩
  obtain ⟨P, Z, p, hx⟩ := kit
  exact PySem.W.kia_one Z I.kIn p (kit_ty e) hx fun tk => ⟨.bl b, H, I.tok tk, rfl, q⟩
def isIntD : PyData → Bool
  | .int _ => true
  | _ => false
def isTupD : PyData → Bool
  | .tuple _ => true
  | _ => false
def notBoolD : PyData → Bool
  | .bool _ => false
  | _ => true
theorem kit_int (d : PyData) (nd : ∀ kvs, d ≠ .dict kvs) : ∃ b, kitB (tyD d) "int" = some b ∧ (b = true → ∃ c, kitB (tyD d) "bool" = some c ∧ (!c) = isIntD d) ∧ (b = false → isIntD d = false) := by
  have k1 : kitB "NoneType" "int" = some false := by decide +kernel
  have k2 : kitB "bool" "int" = some true := by decide +kernel
  have k3 : kitB "int" "int" = some true := by decide +kernel
  have k4 : kitB "str" "int" = some false := by decide +kernel
  have k5 : kitB "list" "int" = some false := by decide +kernel
  have k6 : kitB "tuple" "int" = some false := by decide +kernel
  have k7 : kitB "bool" "bool" = some true := by decide +kernel
  have k8 : kitB "int" "bool" = some false := by decide +kernel
  cases d with
  | none => exact ⟨false, k1, nofun, fun _ => rfl⟩
  | bool b => exact ⟨true, k2, fun _ => ⟨true, k7, rfl⟩, nofun⟩
  | int i => exact ⟨true, k3, fun _ => ⟨false, k8, rfl⟩, nofun⟩
  | str x => exact ⟨false, k4, nofun, fun _ => rfl⟩
  | list xs => exact ⟨false, k5, nofun, fun _ => rfl⟩
  | tuple xs => exact ⟨false, k6, nofun, fun _ => rfl⟩
  | dict kvs => exact absurd rfl (nd kvs)
theorem kit_tup (d : PyData) (nd : ∀ kvs, d ≠ .dict kvs) : kitB (tyD d) "tuple" = some (isTupD d) := by
  have k1 : kitB "NoneType" "tuple" = some false := by decide +kernel
  have k2 : kitB "bool" "tuple" = some false := by decide +kernel
  have k3 : kitB "int" "tuple" = some false := by decide +kernel
  have k4 : kitB "str" "tuple" = some false := by decide +kernel
  have k5 : kitB "list" "tuple" = some false := by decide +kernel
  have k6 : kitB "tuple" "tuple" = some true := by decide +kernel
  cases d with
  | none => exact k1
  | bool b => exact k2
  | int i => exact k3
  | str x => exact k4
  | list xs => exact k5
  | tuple xs => exact k6
  | dict kvs => exact absurd rfl (nd kvs)
theorem dp_nodict {K : PySem.W.Frag} {H : Hp} {v : V} {d : PyData} (h : Dp K H v d) : ∀ kvs, d ≠ .dict kvs := by
  intro kvs e
  subst e
  cases h
/-- called with a datum: whether it is such a one -/
def spAsk (f : PyData → Bool) (K : PySem.W.Frag) : Sp := fun vs H Q _ => ∃ (v : V) (d : PyData), vs = [v] ∧ Dp K H v d ∧ Q (.bl (f d)) H
theorem spAsk_len {f : PyData → Bool} {K : PySem.W.Frag} {x : Str} {vs : List V} {H : Hp} {Q : VK} {E : XK} (h : spAsk f K vs H Q E) : vs.length = [x].length := by
  obtain ⟨v, d, rfl, _⟩ := h
  rfl
end Tr
namespace K3
open PySem PySem.Spec PyProof.Rows L2 Pen Tr AK
abbrev FnT (K : PySem.W.Frag) (x : Str) (i : Nat) (f : Addr) (fd : FuncData) : Prop := FunD K x x (defArgs (top i)) (defBody (top i)) (defScope (top i)) [] [] f fd
section
variable {P : Program} {w : World} {K : PySem.W.Frag} {mg : Str → Option PySem.Value} {base : Heap} {f : Addr} {fd : FuncData}
theorem scIsInt : FnScope ["value"] ["value"] (defScope (top 12)) := ⟨rfl, rfl, rfl, by decide +kernel, rfl, by decide +kernel, by decide +kernel⟩
theorem ok_is_integer (F : FnT K "is_integer" 12 f fd) (T : Txt mg) : FnOk P w K mg base CX0 1 f fd ["value"] (spAsk isIntD K) := by
  refine F.ok scIsInt (fun vs H Q E h => spAsk_len h) (fun cdv A outer s H vs Q E hr h => ?_)
  obtain ⟨v, d, rfl, hD, q⟩ := h
  suffices z : ∃ t, PSs (cxOf CX0 P w K mg base ["value"] "is_integer" (defScope (top 12)) f cdv A outer s H E).nox (defBody (top 12)) t ∧ t { nx := fun _ H' => Q .non H', rt := Q } (start ["value"] [v]) H by
    obtain ⟨t, h1, h2⟩ := z
    exact ⟨t, h1.nox, h2⟩
  refine ⟨_, pss_one (ps_ret (pe_and (pe_callB call_isD (by rfl) T.isi (by decide +kernel) (pa_cons (pv 0) (pa_cons (pe_bltn (by rfl) T.int (by decide +kernel) (v := .ty "int") rfl) pa_nil)))
    (pe_one (pe_not (pe_callB call_isD (by rfl) T.isi (by decide +kernel) (pa_cons (pv 0) (pa_cons (pe_bltn (by rfl) T.bool (by decide +kernel) (v := .ty "bool") rfl) pa_nil))))))), ?_⟩
  obtain ⟨b, h1, h2, h3⟩ := kit_int d (dp_nodict hD)
  refine ⟨_, rfl, _, "int", d, b, rfl, hD, h1, b, rfl, ?_⟩
  by_cases hb : b = true
  · rw [if_pos hb]
    obtain ⟨c, c1, c2⟩ := h2 hb
    refine ⟨_, rfl, _, "bool", d, c, rfl, hD, c1, c, rfl, ?_⟩
    rw [c2]
    exact q
  · rw [if_neg hb]
    rw [h3 (by simpa using hb)] at q
    exact q
/-- 0 to 3 -/
def isSideD : PyData → Bool
  | .int i => decide (0 ≤ i) && decide (i ≤ 3)
  | _ => false
theorem scIsSide : FnScope ["value"] ["value"] (defScope (top 13)) := ⟨rfl, rfl, rfl, by decide +kernel, rfl, by decide +kernel, by decide +kernel⟩
section
variable {fI : Addr} {fdI : FuncData}
theorem ok_is_side (F : FnT K "is_side" 13 f fd) (T : Txt mg) (FI : FnT K "is_integer" 12 fI fdI) (gI : mg "is_integer" = some (.ref fI)) : FnOk P w K mg base CX0 2 f fd ["value"] (spAsk isSideD K) := by
  refine F.ok scIsSide (fun vs H Q E h => spAsk_len h) (fun cdv A outer s H vs Q E hr h => ?_)
  obtain ⟨v, d, rfl, hD, q⟩ := h
  suffices z : ∃ t, PSs (cxOf CX0 P w K mg base ["value"] "is_side" (defScope (top 13)) f cdv A outer s H E).nox (defBody (top 13)) t ∧ t { nx := fun _ H' => Q .non H', rt := Q } (start ["value"] [v]) H by
    obtain ⟨t, h1, h2⟩ := z
    exact ⟨t, h1.nox, h2⟩
  have GI := ok_is_integer (P := P) (w := w) (base := base) FI T
  have bI : L2.Binds K fdI ["value"] [] := FunD.bindsN FI fun _ _ _ _ _ _ us hl => match us, hl with | [_], _ => rfl
  refine ⟨_, pss_one (ps_ret (pe_and (pe_call GI hr (by rfl) gI FI.kp bI .nil pass0 (pa_cons (pv 0) pa_nil)) (pe_one (pe_chain op_le op_le pe_int (pv 0) pe_int)))), ?_⟩
  refine ⟨_, rfl, v, d, rfl, hD, _, rfl, ?_⟩
  by_cases hb : isIntD d = true
  · rw [if_pos hb]
    cases hD with
    | int i =>
      refine ⟨_, rfl, 0, i, rfl, rfl, _, rfl, ?_⟩
      by_cases h0 : 0 ≤ i
      · rw [if_pos (decide_eq_true h0)]
        refine ⟨i, 3, rfl, rfl, ?_⟩
        have e : isSideD (.int i) = decide (i ≤ 3) := by
          show (decide (0 ≤ i) && decide (i ≤ 3)) = _
          rw [decide_eq_true h0, Bool.true_and]
        rw [e] at q
        exact q
      · rw [if_neg (by simpa using h0)]
        have e : isSideD (.int i) = false := by
          show (decide (0 ≤ i) && decide (i ≤ 3)) = _
          rw [decide_eq_false h0, Bool.false_and]
        rw [e] at q
        exact q
    | _ => cases hb
  · rw [if_neg hb]
    have z : isSideD d = false := by
      cases d <;> first | rfl | exact absurd rfl hb
    rw [z] at q
    exact q
/-- a pair of whole numbers -/
def isPlaceD : PyData → Bool
  | .tuple [a, b] => isIntD a && isIntD b
  | _ => false
/-- a label and a strength of 0, 1, 2 -/
def isGlueD : PyData → Bool
  | .tuple [_, .int s] => decide (0 ≤ s) && decide (s ≤ 2)
  | _ => false
theorem dps_len : ∀ {xs : List V} {ds : List PyData} {H : Hp}, DpAll K H xs ds → xs.length = ds.length
  | [], _, _, h => by cases h; rfl
  | x :: xs, _, _, h => by
    cases h with
    | cons _ t => exact congrArg Nat.succ (dps_len t)
theorem two_of {xs : List V} {ds : List PyData} {H : Hp} (h : DpAll K H xs ds) (e : xs.length = 2) : ∃ x y d e, xs = [x, y] ∧ ds = [d, e] ∧ Dp K H x d ∧ Dp K H y e := by
  cases h with
  | nil => cases e
  | cons h1 t1 =>
    cases t1 with
    | nil => cases e
    | cons h2 t2 =>
      cases t2 with
      | nil => exact ⟨_, _, _, _, rfl, rfl, h1, h2⟩
      | cons _ _ => simp at e
theorem scIsPlace : FnScope ["value"] ["value"] (defScope (top 14)) := ⟨rfl, rfl, rfl, by decide +kernel, rfl, by decide +kernel, by decide +kernel⟩
theorem ok_is_place (F : FnT K "is_place" 14 f fd) (T : Txt mg) (FI : FnT K "is_integer" 12 fI fdI) (gI : mg "is_integer" = some (.ref fI)) : FnOk P w K mg base CX0 2 f fd ["value"] (spAsk isPlaceD K) := by
  refine F.ok scIsPlace (fun vs H Q E h => spAsk_len h) (fun cdv A outer s H vs Q E hr h => ?_)
  obtain ⟨v, d, rfl, hD, q⟩ := h
  suffices z : ∃ t, PSs (cxOf CX0 P w K mg base ["value"] "is_place" (defScope (top 14)) f cdv A outer s H E).nox (defBody (top 14)) t ∧ t { nx := fun _ H' => Q .non H', rt := Q } (start ["value"] [v]) H by
    obtain ⟨t, h1, h2⟩ := z
    exact ⟨t, h1.nox, h2⟩
  have GI := ok_is_integer (P := P) (w := w) (base := base) FI T
  have bI : L2.Binds K fdI ["value"] [] := FunD.bindsN FI fun _ _ _ _ _ _ us hl => match us, hl with | [_], _ => rfl
  refine ⟨_, pss_one (ps_ret (pe_and (pe_callB call_isD (by rfl) T.isi (by decide +kernel) (pa_cons (pv 0) (pa_cons (pe_bltn (by rfl) T.tuple (by decide +kernel) (v := .ty "tuple") rfl) pa_nil)))
    (pe_and (pe_cmp (pc_eqI (pe_callB call_len_seq (by rfl) T.len PySem.boot_len (pa_cons (pv 0) pa_nil)) pe_int) rfl)
    (pe_and (pe_call GI hr (by rfl) gI FI.kp bI .nil pass0 (pa_cons (pe_ix ix_tup (pv 0) pe_int (fun _ _ => rfl)) pa_nil))
      (pe_one (pe_call GI hr (by rfl) gI FI.kp bI .nil pass0 (pa_cons (pe_ix ix_tup (pv 0) pe_int (fun _ _ => rfl)) pa_nil))))))), ?_⟩
  refine ⟨_, rfl, v, "tuple", d, _, rfl, hD, kit_tup d (dp_nodict hD), _, rfl, ?_⟩
  by_cases hb : isTupD d = true
  · rw [if_pos hb]
    cases hD with
    | @tup a xs ds hs ha =>
      refine ⟨_, rfl, a, xs, rfl, .inr hs, _, _, rfl, rfl, _, rfl, ?_⟩
      by_cases h2 : xs.length = 2
      · obtain ⟨x, y, d, e, rfl, rfl, hx, hy⟩ := two_of ha h2
        rw [if_pos (by rw [h2] <;> rfl)]
        refine ⟨_, rfl, a, _, 0, x, rfl, rfl, hs, rfl, x, d, rfl, hx, _, rfl, ?_⟩
        have z : isPlaceD (.tuple [d, e]) = (isIntD d && isIntD e) := rfl
        rw [z] at q
        by_cases h3 : isIntD d = true
        · rw [if_pos h3]
          rw [h3, Bool.true_and] at q
          exact ⟨_, rfl, a, _, 1, y, rfl, rfl, hs, rfl, y, e, rfl, hy, q⟩
        · rw [if_neg h3]
          rw [Bool.eq_false_iff.mpr h3, Bool.false_and] at q
          exact q
      · have hne : ¬ ((xs.length : Int) = 2) := by omega
        rw [if_neg (by simpa using hne)]
        have z : isPlaceD (.tuple ds) = false := by
          have hl := dps_len ha
          match ds, hl with
          | [], _ => rfl
          | [_], _ => rfl
          | [_, _], hl => exact absurd hl h2
          | _ :: _ :: _ :: _, _ => rfl
        rw [z] at q
        exact q
    | _ => cases hb
  · rw [if_neg hb]
    have z : isPlaceD d = false := by
      cases d <;> first | rfl | exact absurd rfl hb
    rw [z] at q
    exact q
theorem scIsGlue : FnScope ["value"] ["value"] (defScope (top 15)) := ⟨rfl, rfl, rfl, by decide +kernel, rfl, by decide +kernel, by decide +kernel⟩
theorem ok_is_glue (F : FnT K "is_glue" 15 f fd) (T : Txt mg) (FI : FnT K "is_integer" 12 fI fdI) (gI : mg "is_integer" = some (.ref fI)) : FnOk P w K mg base CX0 2 f fd ["value"] (spAsk isGlueD K) := by
  refine F.ok scIsGlue (fun vs H Q E h => spAsk_len h) (fun cdv A outer s H vs Q E hr h => ?_)
  obtain ⟨v, d, rfl, hD, q⟩ := h
  suffices z : ∃ t, PSs (cxOf CX0 P w K mg base ["value"] "is_glue" (defScope (top 15)) f cdv A outer s H E).nox (defBody (top 15)) t ∧ t { nx := fun _ H' => Q .non H', rt := Q } (start ["value"] [v]) H by
    obtain ⟨t, h1, h2⟩ := z
    exact ⟨t, h1.nox, h2⟩
  have GI := ok_is_integer (P := P) (w := w) (base := base) FI T
  have bI : L2.Binds K fdI ["value"] [] := FunD.bindsN FI fun _ _ _ _ _ _ us hl => match us, hl with | [_], _ => rfl
  refine ⟨_, pss_one (ps_ret (pe_and (pe_callB call_isD (by rfl) T.isi (by decide +kernel) (pa_cons (pv 0) (pa_cons (pe_bltn (by rfl) T.tuple (by decide +kernel) (v := .ty "tuple") rfl) pa_nil)))
    (pe_and (pe_cmp (pc_eqI (pe_callB call_len_seq (by rfl) T.len PySem.boot_len (pa_cons (pv 0) pa_nil)) pe_int) rfl)
    (pe_and (pe_call GI hr (by rfl) gI FI.kp bI .nil pass0 (pa_cons (pe_ix ix_tup (pv 0) pe_int (fun _ _ => rfl)) pa_nil))
      (pe_one (pe_chain op_le op_le pe_int (pe_ix ix_tup (pv 0) pe_int (fun _ _ => rfl)) pe_int)))))), ?_⟩
  refine ⟨_, rfl, v, "tuple", d, _, rfl, hD, kit_tup d (dp_nodict hD), _, rfl, ?_⟩
  by_cases hb : isTupD d = true
  · rw [if_pos hb]
    cases hD with
    | @tup a xs ds hs ha =>
      refine ⟨_, rfl, a, xs, rfl, .inr hs, _, _, rfl, rfl, _, rfl, ?_⟩
      by_cases h2 : xs.length = 2
      · obtain ⟨x, y, d, e, rfl, rfl, hx, hy⟩ := two_of ha h2
        rw [if_pos (by rw [h2] <;> rfl)]
        refine ⟨_, rfl, a, _, 1, y, rfl, rfl, hs, rfl, y, e, rfl, hy, _, rfl, ?_⟩
        by_cases h3 : isIntD e = true
        · rw [if_pos h3]
          cases hy with
          | int i =>
            refine ⟨_, rfl, a, _, 1, _, rfl, rfl, hs, rfl, 0, i, rfl, rfl, _, rfl, ?_⟩
            have z : isGlueD (.tuple [d, .int i]) = (decide (0 ≤ i) && decide (i ≤ 2)) := rfl
            rw [z] at q
            by_cases h0 : 0 ≤ i
            · rw [if_pos (decide_eq_true h0)]
              rw [decide_eq_true h0, Bool.true_and] at q
              exact ⟨i, 2, rfl, rfl, q⟩
            · rw [if_neg (by simpa using h0)]
              rw [decide_eq_false h0, Bool.false_and] at q
              exact q
          | _ => cases h3
        · rw [if_neg h3]
          have z : isGlueD (.tuple [d, e]) = false := by
            cases e <;> first | rfl | exact absurd rfl h3
          rw [z] at q
          exact q
      · have hne : ¬ ((xs.length : Int) = 2) := by omega
        rw [if_neg (by simpa using hne)]
        have z : isGlueD (.tuple ds) = false := by
          have hl := dps_len ha
          match ds, hl with
          | [], _ => rfl
          | [_], _ => rfl
          | [_, _], hl => exact absurd hl h2
          | _ :: x :: _ :: _, _ => cases x <;> rfl
        rw [z] at q
        exact q
    | _ => cases hb
  · rw [if_neg hb]
    have z : isGlueD d = false := by
      cases d <;> first | rfl | exact absurd rfl hb
    rw [z] at q
    exact q
end
end
end K3

set_option Elab.async false
set_option linter.all false
set_option maxRecDepth 100000
set_option maxHeartbeats 4000000
namespace Tr
open PySem PySem.Spec PyProof.Rows L2 Pen
/-! ### what __init__ of an own error bears: each parameter stored under its name -/
def spI (C : Addr) (fs : List Str) : Sp := fun vs H Q _ => ∃ (a : Addr) (ws : List V), vs = .ref a :: ws ∧ ws.length = fs.length ∧ H a = some (exo a C none) ∧
  ∀ (H' : Hp) (d : Addr), H d = none → H' a = some (exo a C (some d)) → H' d = some (exd d (fs.zip ws).reverse) → But a H H' → Q .non H'
theorem spI_len {C : Addr} {fs : List Str} {vs : List V} {H : Hp} {Q : VK} {E : XK} (h : spI C fs vs H Q E) : vs.length = (("self" : Str) :: fs).length := by
  obtain ⟨a, ws, rfl, hl, _⟩ := h
  exact congrArg Nat.succ hl
theorem XoAt.keep {H H' : Hp} {a C : Addr} {fs : Option (List (Str × V))} (x : XoAt H a C fs) (s : Same H H') : XoAt H' a C fs := by
  cases fs with
  | none => exact s _ _ x
  | some l =>
    obtain ⟨d, e1, e2⟩ := x
    exact ⟨d, s _ _ e1, s _ _ e2⟩
theorem same_new {H H1 : Hp} {a : Addr} {o : HO} (n : H a = none) (b : But a (upd H a o) H1) : Same H H1 := fun c u e => by
  have ne := ne_of_none e n
  exact b c u (by rw [upd_ne ne]; exact e) ne
/-- the first field -/
theorem xo_first {H : Hp} {a C d : Addr} {f : Str} {v : V} (hd : H d = none) (hne : d ≠ a) : XoAt (upd (upd H d (exd d [(f, v)])) a (exo a C (some d))) a C (some [(f, v)]) :=
  ⟨d, upd_same, by rw [upd_ne hne, upd_same]⟩
theorem but_first {H : Hp} {a C d : Addr} {f : Str} {v : V} (hd : H d = none) : But a H (upd (upd H d (exd d [(f, v)])) a (exo a C (some d))) := fun b o e n => by
  rw [upd_ne n, upd_ne (ne_of_none e hd)]
  exact e
/-- a class of errors, all that a body asks -/
structure Er (P : Program) (w : World) (K : PySem.W.Frag) (mg : Str → Option PySem.Value) (base : Heap) (x : Str) (C : Addr) (fs : List Str) : Prop where
  t : Xc K C
  no : ∀ f ∈ fs, PySem.W.findIn K (.ref C) f = some none
  mgx : mg x = some (.ref C)
  ini : ∃ fI fd, PySem.W.findIn K (.ref C) "__init__" = some (some (.ref fI)) ∧ PySem.W.typeIn K (.ref fI) = some (.type "function") ∧ FnOk P w K mg base CX0 1 fI fd ("self" :: fs) (spI C fs) ∧ L2.Binds K fd ("self" :: fs) []
/-- raise x(e, ..) -/
theorem pmk_er {X : Cx} {k : Nat} {x : Str} {C : Addr} {fs : List Str} {ta : TA} {e : PySem.Expr} {es : List PySem.Expr} {p pos : Pos} (T : Er X.prog X.w X.K X.mg X.base x C fs) (hr : Room (k + 2) X.A) (hg : Gl X x) (ha : PA X (e :: es) ta)
    (hdb : (x == ("__debug__" : Str)) = false := by decide) (he : starEach (e :: es) X.env = (false, eval e X.env) :: starEach es X.env := by rfl) (hpl : (backTo pos (starEach es X.env)).any (·.1) = false := by rfl) :
    PMk X (.Call (.Name x p) (e :: es) [] pos) (tMkO C (spI C fs) [] ta) := by
  obtain ⟨fI, fd, i1, i2, F, b⟩ := T.ini
  exact pmk_oex (p := p) (pos := pos) T.t.o i1 i2 F (hr.mono (by omega)) b .nil pass0 hg T.mgx ha hdb he hpl
/-- .. what is to be shown then: cls is the class, its dict is new -/
theorem raise_sp {C : Addr} {fs : List Str} {vs : List V} {H1 : Hp} {Q : XK} (z1 : vs.length = fs.length) (z0 : fs.length ≤ 10) (z3 : ∀ d, H1 d = none → ∀ H2, Same H1 H2 → H2 d = some (.xd (fs.zip vs).reverse) → Q (.ref C) (some d) H2) :
    vs.length ≤ 1000 ∧ ∀ a, H1 a = none → spI C fs (.ref a :: (vs ++ [])) (upd H1 a (exo a C none)) (fun v H2 => v = .non ∧ ∃ (d : Addr) (gs : List (Str × V)), H2 a = some (exo a C (some d)) ∧ H2 d = some (exd d gs) ∧ H1 d = none ∧ Q (.ref C) (some d) (upd (del H2 a) d (.xd gs))) (fun _ _ _ => False) := by
  refine ⟨by omega, fun a na => ⟨a, vs, by rw [List.append_nil], z1, upd_same, fun H' d hd e1 e2 but => ⟨rfl, d, _, e1, e2, ?_, ?_⟩⟩⟩
  · by_cases eda : d = a
    · subst eda
      exact na
    · rw [upd_ne eda] at hd
      exact hd
  · have nda : d ≠ a := by
      rintro rfl
      rw [upd_same] at hd
      cases hd
    have hd1 : H1 d = none := by
      rw [upd_ne nda] at hd
      exact hd
    refine z3 d hd1 _ (fun b o e => ?_) upd_same
    have nb : b ≠ a := ne_of_none e na
    rw [upd_ne (ne_of_none e hd1)]
    show del H' a b = some o
    unfold del
    rw [if_neg nb]
    exact but b o (by rw [upd_ne nb]; exact e) nb
end Tr
namespace K3
open PySem PySem.Spec PyProof.Rows L2 Pen Tr
abbrev FnI (K : PySem.W.Frag) (q : Str) (i : Nat) (f : Addr) (fd : FuncData) : Prop := FunD K "__init__" q (defArgs (inClass (top i) 0)) (defBody (inClass (top i) 0)) (defScope (inClass (top i) 0)) [] [] f fd
section
variable {P : Program} {w : World} {K : PySem.W.Frag} {mg : Str → Option PySem.Value} {base : Heap} {f C : Addr} {fd : FuncData}

theorem sc_BadNumber : FnScope ["self", "what", "number"] ["self", "what", "number"] (defScope (inClass (top 3) 0)) := ⟨rfl, rfl, rfl, by decide +kernel, rfl, by decide +kernel, by decide +kernel⟩
theorem ok_BadNumber (F : FnI K "BadNumber.__init__" 3 f fd) (T : Xc K C) (no : ∀ y ∈ (["what", "number"] : List Str), PySem.W.findIn K (.ref C) y = some none) : FnOk P w K mg base CX0 1 f fd ["self", "what", "number"] (spI C ["what", "number"]) := by
  refine F.ok sc_BadNumber (fun vs H Q E h => spI_len h) (fun cdv A outer s H vs Q E hr h => ?_)
  obtain ⟨a, ws, rfl, hl, ha, k⟩ := h
  obtain ⟨v0, v1, rfl⟩ : ∃ v0 v1, ws = [v0, v1] := by
    match ws, hl with
    | [v0, v1], _ => exact ⟨v0, v1, rfl⟩
  suffices z : ∃ t, PSs (cxOf CX0 P w K mg base ["self", "what", "number"] "BadNumber.__init__" (defScope (inClass (top 3) 0)) f cdv A outer s H E).nox (defBody (inClass (top 3) 0)) t ∧ t { nx := fun _ H' => Q .non H', rt := Q } (start ["self", "what", "number"] [.ref a, v0, v1]) H by
    obtain ⟨t, h1, h2⟩ := z
    exact ⟨t, h1.nox, h2⟩
  refine ⟨_, pss_cons (ps_ost (pv 0) (pv 1)) (pss_one (ps_ost (pv 0) (pv 2))), ?_⟩
  refine ⟨_, rfl, _, rfl, a, C, rfl, T.o, no _ (by simp), .inl ⟨ha, fun d hd hne => ?_⟩⟩
  have X1 := xo_first (C := C) (f := "what") (v := v0) hd hne
  have B1 := but_first (a := a) (C := C) (f := "what") (v := v0) hd
  have e0 := X1
  obtain ⟨_, _, _⟩ := e0
  refine ⟨_, rfl, _, rfl, a, C, rfl, T.o, no _ (by simp), .inr ⟨d, _, (by exact upd_same), (by rw [upd_ne hne, upd_same]), (by show 1 ≤ 900; decide), ?_⟩⟩
  refine k _ d hd (by rw [upd_ne hne.symm]; exact upd_same) (by exact upd_same) (fun b o e nb => ?_)
  rw [upd_ne (ne_of_none e hd)]
  exact B1 b o e nb
theorem sc_BadTile : FnScope ["self", "tile"] ["self", "tile"] (defScope (inClass (top 4) 0)) := ⟨rfl, rfl, rfl, by decide +kernel, rfl, by decide +kernel, by decide +kernel⟩
theorem ok_BadTile (F : FnI K "BadTile.__init__" 4 f fd) (T : Xc K C) (no : ∀ y ∈ (["tile"] : List Str), PySem.W.findIn K (.ref C) y = some none) : FnOk P w K mg base CX0 1 f fd ["self", "tile"] (spI C ["tile"]) := by
  refine F.ok sc_BadTile (fun vs H Q E h => spI_len h) (fun cdv A outer s H vs Q E hr h => ?_)
  obtain ⟨a, ws, rfl, hl, ha, k⟩ := h
  obtain ⟨v0, rfl⟩ : ∃ v0, ws = [v0] := by
    match ws, hl with
    | [v0], _ => exact ⟨v0, rfl⟩
  suffices z : ∃ t, PSs (cxOf CX0 P w K mg base ["self", "tile"] "BadTile.__init__" (defScope (inClass (top 4) 0)) f cdv A outer s H E).nox (defBody (inClass (top 4) 0)) t ∧ t { nx := fun _ H' => Q .non H', rt := Q } (start ["self", "tile"] [.ref a, v0]) H by
    obtain ⟨t, h1, h2⟩ := z
    exact ⟨t, h1.nox, h2⟩
  refine ⟨_, pss_one (ps_ost (pv 0) (pv 1)), ?_⟩
  refine ⟨_, rfl, _, rfl, a, C, rfl, T.o, no _ (by simp), .inl ⟨ha, fun d hd hne => ?_⟩⟩
  have X1 := xo_first (C := C) (f := "tile") (v := v0) hd hne
  have B1 := but_first (a := a) (C := C) (f := "tile") (v := v0) hd
  exact k _ d hd upd_same (by rw [upd_ne hne]; exact upd_same) B1
theorem sc_BadPlace : FnScope ["self", "place"] ["self", "place"] (defScope (inClass (top 5) 0)) := ⟨rfl, rfl, rfl, by decide +kernel, rfl, by decide +kernel, by decide +kernel⟩
theorem ok_BadPlace (F : FnI K "BadPlace.__init__" 5 f fd) (T : Xc K C) (no : ∀ y ∈ (["place"] : List Str), PySem.W.findIn K (.ref C) y = some none) : FnOk P w K mg base CX0 1 f fd ["self", "place"] (spI C ["place"]) := by
  refine F.ok sc_BadPlace (fun vs H Q E h => spI_len h) (fun cdv A outer s H vs Q E hr h => ?_)
  obtain ⟨a, ws, rfl, hl, ha, k⟩ := h
  obtain ⟨v0, rfl⟩ : ∃ v0, ws = [v0] := by
    match ws, hl with
    | [v0], _ => exact ⟨v0, rfl⟩
  suffices z : ∃ t, PSs (cxOf CX0 P w K mg base ["self", "place"] "BadPlace.__init__" (defScope (inClass (top 5) 0)) f cdv A outer s H E).nox (defBody (inClass (top 5) 0)) t ∧ t { nx := fun _ H' => Q .non H', rt := Q } (start ["self", "place"] [.ref a, v0]) H by
    obtain ⟨t, h1, h2⟩ := z
    exact ⟨t, h1.nox, h2⟩
  refine ⟨_, pss_one (ps_ost (pv 0) (pv 1)), ?_⟩
  refine ⟨_, rfl, _, rfl, a, C, rfl, T.o, no _ (by simp), .inl ⟨ha, fun d hd hne => ?_⟩⟩
  have X1 := xo_first (C := C) (f := "place") (v := v0) hd hne
  have B1 := but_first (a := a) (C := C) (f := "place") (v := v0) hd
  exact k _ d hd upd_same (by rw [upd_ne hne]; exact upd_same) B1
theorem sc_NoName : FnScope ["self", "name"] ["self", "name"] (defScope (inClass (top 6) 0)) := ⟨rfl, rfl, rfl, by decide +kernel, rfl, by decide +kernel, by decide +kernel⟩
theorem ok_NoName (F : FnI K "NoName.__init__" 6 f fd) (T : Xc K C) (no : ∀ y ∈ (["name"] : List Str), PySem.W.findIn K (.ref C) y = some none) : FnOk P w K mg base CX0 1 f fd ["self", "name"] (spI C ["name"]) := by
  refine F.ok sc_NoName (fun vs H Q E h => spI_len h) (fun cdv A outer s H vs Q E hr h => ?_)
  obtain ⟨a, ws, rfl, hl, ha, k⟩ := h
  obtain ⟨v0, rfl⟩ : ∃ v0, ws = [v0] := by
    match ws, hl with
    | [v0], _ => exact ⟨v0, rfl⟩
  suffices z : ∃ t, PSs (cxOf CX0 P w K mg base ["self", "name"] "NoName.__init__" (defScope (inClass (top 6) 0)) f cdv A outer s H E).nox (defBody (inClass (top 6) 0)) t ∧ t { nx := fun _ H' => Q .non H', rt := Q } (start ["self", "name"] [.ref a, v0]) H by
    obtain ⟨t, h1, h2⟩ := z
    exact ⟨t, h1.nox, h2⟩
  refine ⟨_, pss_one (ps_ost (pv 0) (pv 1)), ?_⟩
  refine ⟨_, rfl, _, rfl, a, C, rfl, T.o, no _ (by simp), .inl ⟨ha, fun d hd hne => ?_⟩⟩
  have X1 := xo_first (C := C) (f := "name") (v := v0) hd hne
  have B1 := but_first (a := a) (C := C) (f := "name") (v := v0) hd
  exact k _ d hd upd_same (by rw [upd_ne hne]; exact upd_same) B1
theorem sc_TakenName : FnScope ["self", "name"] ["self", "name"] (defScope (inClass (top 7) 0)) := ⟨rfl, rfl, rfl, by decide +kernel, rfl, by decide +kernel, by decide +kernel⟩
theorem ok_TakenName (F : FnI K "TakenName.__init__" 7 f fd) (T : Xc K C) (no : ∀ y ∈ (["name"] : List Str), PySem.W.findIn K (.ref C) y = some none) : FnOk P w K mg base CX0 1 f fd ["self", "name"] (spI C ["name"]) := by
  refine F.ok sc_TakenName (fun vs H Q E h => spI_len h) (fun cdv A outer s H vs Q E hr h => ?_)
  obtain ⟨a, ws, rfl, hl, ha, k⟩ := h
  obtain ⟨v0, rfl⟩ : ∃ v0, ws = [v0] := by
    match ws, hl with
    | [v0], _ => exact ⟨v0, rfl⟩
  suffices z : ∃ t, PSs (cxOf CX0 P w K mg base ["self", "name"] "TakenName.__init__" (defScope (inClass (top 7) 0)) f cdv A outer s H E).nox (defBody (inClass (top 7) 0)) t ∧ t { nx := fun _ H' => Q .non H', rt := Q } (start ["self", "name"] [.ref a, v0]) H by
    obtain ⟨t, h1, h2⟩ := z
    exact ⟨t, h1.nox, h2⟩
  refine ⟨_, pss_one (ps_ost (pv 0) (pv 1)), ?_⟩
  refine ⟨_, rfl, _, rfl, a, C, rfl, T.o, no _ (by simp), .inl ⟨ha, fun d hd hne => ?_⟩⟩
  have X1 := xo_first (C := C) (f := "name") (v := v0) hd hne
  have B1 := but_first (a := a) (C := C) (f := "name") (v := v0) hd
  exact k _ d hd upd_same (by rw [upd_ne hne]; exact upd_same) B1
end
end K3

set_option Elab.async false
set_option linter.all false
set_option maxRecDepth 100000
set_option maxHeartbeats 4000000
namespace Tr
open PySem PySem.Spec PyProof.Rows L2 AK Pen
/-- a value is looked at, else the error C is raised with the fields that are told -/
def spCheck (K : PySem.W.Frag) (f : PyData → Bool) (C : Addr) (fs : V → List (Str × V)) : Sp := fun vs H Q E => ∃ v d, vs = [v] ∧ Dp K H v d ∧ (f d = true → Q .non H) ∧ (f d = false → ∀ dd H2, H dd = none → Same H H2 → H2 dd = some (.xd (fs v)) → E (.ref C) (some dd) H2)
theorem spCheck_len {K : PySem.W.Frag} {f : PyData → Bool} {C : Addr} {fs : V → List (Str × V)} {x : Str} {vs : List V} {H : Hp} {Q : VK} {E : XK} (h : spCheck K f C fs vs H Q E) : vs.length = [x].length := by
  obtain ⟨v, d, rfl, _⟩ := h
  rfl
theorem same_refl {H : Hp} : Same H H := fun _ _ e => e
theorem same_trans {H H1 H2 : Hp} (a : Same H H1) (b : Same H1 H2) : Same H H2 := fun c o e => b c o (a c o e)
theorem same_upd {H : Hp} {a : Addr} {o : HO} (n : H a = none) : Same H (upd H a o) := fun b u e => by
  rw [upd_ne (ne_of_none e n)]
  exact e
theorem same_rd {H H' : Hp} (s : Same H H') {a : Addr} {o : HO} (h : Rd H a o) : Rd H' a o := h.elim (fun h => .inl (s _ _ h)) fun ⟨u, h⟩ => .inr ⟨u, s _ _ h⟩
mutual
theorem dp_same {K : PySem.W.Frag} {H H' : Hp} (s : Same H H') : ∀ (d : PyData) (v : V), Dp K H v d → Dp K H' v d
  | .none, _, h => by cases h; exact .non
  | .bool b, _, h => by cases h; exact .bl b
  | .int i, _, h => by cases h; exact .int i
  | .str x, _, h => by cases h; exact .str x
  | .list ds, _, h => by
    cases h with
    | lst hs ha => exact .lst (hs.elim (fun z => .inl (same_rd s z)) .inr) (dps_same s ds _ ha)
  | .tuple ds, _, h => by
    cases h with
    | tup hs ha => exact .tup (hs.elim (fun z => .inl (same_rd s z)) .inr) (dps_same s ds _ ha)
  | .dict _, _, h => by cases h
theorem dps_same {K : PySem.W.Frag} {H H' : Hp} (s : Same H H') : ∀ (ds : List PyData) (vs : List V), DpAll K H vs ds → DpAll K H' vs ds
  | [], _, h => by cases h; exact .nil
  | d :: ds, _, h => by
    cases h with
    | cons h1 h2 => exact .cons (dp_same s d _ h1) (dps_same s ds _ h2)
end
theorem but_of_same {a : Addr} {H H1 H2 : Hp} (s : Same H H1) (b : But a H1 H2) : But a H H2 := fun c o e n => b c o (s c o e) n
end Tr
namespace K3
open PySem PySem.Spec PyProof.Rows L2 Pen Tr AK
section
variable {P : Program} {w : World} {K : PySem.W.Frag} {mg : Str → Option PySem.Value} {base : Heap} {f C : Addr} {fd : FuncData} {fI fS : Addr} {fdI fdS : FuncData}
theorem scCheckSide : FnScope ["side"] ["side"] (defScope (top 21)) := ⟨rfl, rfl, rfl, by decide +kernel, rfl, by decide +kernel, by decide +kernel⟩
abbrev spSide (K : PySem.W.Frag) (C : Addr) : Sp := spCheck K isSideD C fun v => [("number", v), ("what", .str "side")]
theorem ok_check_side (F : FnT K "check_side" 21 f fd) (T : Txt mg) (EN : Er P w K mg base "BadNumber" C ["what", "number"]) (FS : FnT K "is_side" 13 fS fdS) (gS : mg "is_side" = some (.ref fS)) (FI : FnT K "is_integer" 12 fI fdI) (gI : mg "is_integer" = some (.ref fI)) :
    FnOk P w K mg base (L2.CX P w) 3 f fd ["side"] (spSide K C) := by
  refine F.ok scCheckSide (fun vs H Q E h => spCheck_len h) (fun cdv A outer s H vs Q E hr h => ?_)
  obtain ⟨v, d, rfl, hD, q1, q2⟩ := h
  have GS := ok_is_side (P := P) (w := w) (base := base) FS T FI gI
  have bS : L2.Binds K fdS ["value"] [] := FunD.bindsN FS fun _ _ _ _ _ _ us hl => match us, hl with | [_], _ => rfl
  refine ⟨_, pss_one (ps_if (pt_not (pt_val (pe_call GS hr (by rfl) gS FS.kp bS .nil pass0 (pa_cons (pv 0) pa_nil)))) (pss_one (ps_raise rfl (takes_of rfl rfl rfl rfl) (pmk_er EN hr (by rfl) (pa_cons pe_str (pa_cons (pv 0) pa_nil))))) pss_nil), ?_⟩
  refine ⟨_, rfl, v, d, rfl, hD, _, rfl, ?_⟩
  cases hs : isSideD d with
  | true => exact iteF (q1 hs)
  | false =>
    refine iteT ⟨_, rfl, raise_sp rfl (by decide) fun dd hd H2 s2 e2 => ?_⟩
    exact q2 hs dd H2 hd s2 e2
theorem scCheckPlace : FnScope ["place"] ["place"] (defScope (top 20)) := ⟨rfl, rfl, rfl, by decide +kernel, rfl, by decide +kernel, by decide +kernel⟩
abbrev spPlace (K : PySem.W.Frag) (C : Addr) : Sp := spCheck K isPlaceD C fun v => [("place", v)]
theorem ok_check_place (F : FnT K "check_place" 20 f fd) (T : Txt mg) (EN : Er P w K mg base "BadPlace" C ["place"]) (FS : FnT K "is_place" 14 fS fdS) (gS : mg "is_place" = some (.ref fS)) (FI : FnT K "is_integer" 12 fI fdI) (gI : mg "is_integer" = some (.ref fI)) :
    FnOk P w K mg base (L2.CX P w) 3 f fd ["place"] (spPlace K C) := by
  refine F.ok scCheckPlace (fun vs H Q E h => spCheck_len h) (fun cdv A outer s H vs Q E hr h => ?_)
  obtain ⟨v, d, rfl, hD, q1, q2⟩ := h
  have GS := ok_is_place (P := P) (w := w) (base := base) FS T FI gI
  have bS : L2.Binds K fdS ["value"] [] := FunD.bindsN FS fun _ _ _ _ _ _ us hl => match us, hl with | [_], _ => rfl
  refine ⟨_, pss_one (ps_if (pt_not (pt_val (pe_call GS hr (by rfl) gS FS.kp bS .nil pass0 (pa_cons (pv 0) pa_nil)))) (pss_one (ps_raise rfl (takes_of rfl rfl rfl rfl) (pmk_er EN hr (by rfl) (pa_cons (pv 0) pa_nil)))) pss_nil), ?_⟩
  refine ⟨_, rfl, v, d, rfl, hD, _, rfl, ?_⟩
  cases hs : isPlaceD d with
  | true => exact iteF (q1 hs)
  | false =>
    refine iteT ⟨_, rfl, raise_sp rfl (by decide) fun dd hd H2 s2 e2 => ?_⟩
    exact q2 hs dd H2 hd s2 e2
/-- the four places beside -/
def besideD : PyData → PyData
  | .tuple [.int x, .int y] => .tuple [.tuple [.int (x - 1), .int y], .tuple [.int x, .int (y - 1)], .tuple [.int (x + 1), .int y], .tuple [.int x, .int (y + 1)]]
  | d => d
theorem place_is {d : PyData} (h : isPlaceD d = true) : ∃ x y, d = .tuple [.int x, .int y] := by
  unfold isPlaceD at h
  split at h
  · rename_i a b
    obtain ⟨h1, h2⟩ := Bool.and_eq_true_iff.mp h
    cases a with
    | int x => cases b with
      | int y => exact ⟨x, y, rfl⟩
      | _ => cases h2
    | _ => cases h1
  · cases h
def spAround (K : PySem.W.Frag) : Sp := fun vs H Q _ => ∃ v d, vs = [v] ∧ Dp K H v d ∧ isPlaceD d = true ∧ ∀ t H', Same H H' → Dp K H' t (besideD d) → Q t H'
theorem scAround : FnScope ["place", "across", "up"] ["place"] (defScope (top 18)) := ⟨rfl, rfl, rfl, by decide +kernel, rfl, by decide +kernel, by decide +kernel⟩
theorem ok_around (F : FnT K "places_around" 18 f fd) : FnOk P w K mg base CX0 1 f fd ["place"] (spAround K) := by
  refine F.ok scAround (fun vs H Q E h => by obtain ⟨v, d, rfl, _⟩ := h; rfl) (fun cdv A outer s H vs Q E hr h => ?_)
  obtain ⟨v, d, rfl, hD, hp, q⟩ := h
  have nd := scAround.nd
  suffices z : ∃ t, PSs (cxOf CX0 P w K mg base ["place", "across", "up"] "places_around" (defScope (top 18)) f cdv A outer s H E).nox (defBody (top 18)) t ∧ t { nx := fun _ H' => Q .non H', rt := Q } (start ["place", "across", "up"] [v]) H by
    obtain ⟨t, h1, h2⟩ := z
    exact ⟨t, h1.nox, h2⟩
  refine ⟨_, pss_cons (ps_asg (pv 0) (pg_tup (by rfl) (pgs_cons (pg_name (i := 1) nd rfl (.inl rfl)) (pgs_cons (pg_name (i := 2) nd rfl (.inl rfl)) pgs_nil))))
    (pss_one (ps_ret (pe_tup (pa_cons (pe_tup (pa_cons (pe_op op_sub (pv 1) pe_int) (pa_cons (pv 2) pa_nil))) (pa_cons (pe_tup (pa_cons (pv 1) (pa_cons (pe_op op_sub (pv 2) pe_int) pa_nil)))
      (pa_cons (pe_tup (pa_cons (pe_op op_add (pv 1) pe_int) (pa_cons (pv 2) pa_nil))) (pa_cons (pe_tup (pa_cons (pv 1) (pa_cons (pe_op op_add (pv 2) pe_int) pa_nil))) pa_nil))))))), ?_⟩
  obtain ⟨x, y, rfl⟩ := place_is hp
  cases hD with
  | @tup a xs ds hs ha =>
    obtain ⟨vx, vy, rfl⟩ : ∃ vx vy, xs = [vx, vy] := by
      cases ha with
      | cons _ t => cases t with
        | cons _ t2 => cases t2; exact ⟨_, _, rfl⟩
    cases ha with
    | cons h1 t => cases t with
      | cons h2 _ =>
        cases h1
        cases h2
        refine ⟨_, rfl, a, _, rfl, hs, rfl, ?_⟩
        refine ⟨_, _, rfl, _, _, rfl, rfl, ?_⟩
        refine ⟨_, rfl, x, 1, rfl, rfl, _, rfl, (by show 2 ≤ sizeLine; decide), fun t1 n1 => ?_⟩
        refine ⟨_, rfl, _, rfl, y, 1, rfl, rfl, (by show 2 ≤ sizeLine; decide), fun t2 n2 => ?_⟩
        refine ⟨_, rfl, x, 1, rfl, rfl, _, rfl, (by show 2 ≤ sizeLine; decide), fun t3 n3 => ?_⟩
        refine ⟨_, rfl, _, rfl, y, 1, rfl, rfl, (by show 2 ≤ sizeLine; decide), fun t4 n4 => ?_⟩
        refine ⟨(by show 4 ≤ sizeLine; decide), fun t5 n5 => ?_⟩
        have s1 := same_upd (o := .tup [.int (x - 1), .int y]) n1
        have s2 := same_upd (o := .tup [.int x, .int (y - 1)]) n2
        have s3 := same_upd (o := .tup [.int (x + 1), .int y]) n3
        have s4 := same_upd (o := .tup [.int x, .int (y + 1)]) n4
        have s5 := same_upd (o := .tup [.ref t1, .ref t2, .ref t3, .ref t4]) n5
        refine q _ _ (same_trans s1 (same_trans s2 (same_trans s3 (same_trans s4 s5)))) (.tup (SqT.of upd_same) (.cons ?_ (.cons ?_ (.cons ?_ (.cons ?_ .nil)))))
        · exact .tup (SqT.of (s5 _ _ (s4 _ _ (s3 _ _ (s2 _ _ upd_same))))) (.cons (.int _) (.cons (.int _) .nil))
        · exact .tup (SqT.of (s5 _ _ (s4 _ _ (s3 _ _ upd_same)))) (.cons (.int _) (.cons (.int _) .nil))
        · exact .tup (SqT.of (s5 _ _ (s4 _ _ upd_same))) (.cons (.int _) (.cons (.int _) .nil))
        · exact .tup (SqT.of (s5 _ _ upd_same)) (.cons (.int _) (.cons (.int _) .nil))
def spBeside (K : PySem.W.Frag) (C : Addr) : Sp := fun vs H Q E => ∃ v d, vs = [v] ∧ Dp K H v d ∧ (isPlaceD d = true → ∀ t H', Same H H' → Dp K H' t (besideD d) → Q t H') ∧ (isPlaceD d = false → ∀ dd H2, H dd = none → Same H H2 → H2 dd = some (.xd [("place", v)]) → E (.ref C) (some dd) H2)
theorem scBeside : FnScope ["place"] ["place"] (defScope (top 19)) := ⟨rfl, rfl, rfl, by decide +kernel, rfl, by decide +kernel, by decide +kernel⟩
theorem ok_beside {fA fC : Addr} {fdA fdC : FuncData} (F : FnT K "beside" 19 f fd) (FC : FnT K "check_place" 20 fC fdC) (gC : mg "check_place" = some (.ref fC)) (GC : FnOk P w K mg base (L2.CX P w) 3 fC fdC ["place"] (spPlace K C)) (FA : FnT K "places_around" 18 fA fdA) (gA : mg "places_around" = some (.ref fA)) :
    FnOk P w K mg base (L2.CX P w) 4 f fd ["place"] (spBeside K C) := by
  refine F.ok scBeside (fun vs H Q E h => by obtain ⟨v, d, rfl, _⟩ := h; rfl) (fun cdv A outer s H vs Q E hr h => ?_)
  obtain ⟨v, d, rfl, hD, q1, q2⟩ := h
  have GA := ok_around (P := P) (w := w) (mg := mg) (base := base) FA
  have bC : L2.Binds K fdC ["place"] [] := FunD.bindsN FC fun _ _ _ _ _ _ us hl => match us, hl with | [_], _ => rfl
  have bA : L2.Binds K fdA ["place"] [] := FunD.bindsN FA fun _ _ _ _ _ _ us hl => match us, hl with | [_], _ => rfl
  refine ⟨_, pss_cons (ps_expr (pe_callS (E := fun _ => E) GC hr (by rfl) gC FC.kp bC (fun σ => passAt (takes_of rfl rfl rfl rfl) σ) (pa_cons (pv 0) pa_nil)))
    (pss_one (ps_ret (pe_call GA (hr.mono (by decide)) (by rfl) gA FA.kp bA .nil pass0 (pa_cons (pv 0) pa_nil)))), ?_⟩
  refine ⟨_, rfl, v, d, rfl, hD, fun hp => ?_, q2⟩
  exact ⟨_, rfl, v, d, rfl, hD, hp, q1 hp⟩
end
end K3

set_option Elab.async false
set_option linter.all false
set_option maxRecDepth 100000
set_option maxHeartbeats 4000000
namespace Tr
open PySem PySem.Spec PyProof.Rows L2 AK Pen
theorem yes_if {σ : L2.St} {H : Hp} {A B : Hp → Prop} (h : A H) : tYes σ H (fun b H => if b = true then A H else B H) := by
  show (if true = true then A H else B H)
  rw [if_pos rfl]
  exact h
/-- a tile as an object: its name, its glues -/
structure Tl where
  n : V
  g : List V
/-- a tile's object -/
def tileO (C dx : Addr) (n w s e o : V) : HO := .ins C dx [("name", n), ("west", w), ("south", s), ("east", e), ("north", o)]
structure TileF (K : PySem.W.Frag) (C : Addr) : Prop where
  cl : Cls K C
  nm : NoAttr K C "name"
  we : NoAttr K C "west"
  so : NoAttr K C "south"
  ea : NoAttr K C "east"
  no : NoAttr K C "north"
end Tr
namespace K3
open PySem PySem.Spec PyProof.Rows L2 Pen Tr AK
theorem dps_get {K : PySem.W.Frag} {H : Hp} : ∀ {xs : List V} {ds : List PyData} {i : Nat} {x : V}, DpAll K H xs ds → xs[i]? = some x → ∃ d, ds[i]? = some d ∧ Dp K H x d
  | [], _, _, _, _, h => by simp at h
  | y :: ys, _, 0, x, h, e => by
    cases h with
    | cons h1 _ =>
      obtain rfl : y = x := by simpa using e
      exact ⟨_, rfl, h1⟩
  | y :: ys, _, i + 1, x, h, e => by
    cases h with
    | cons _ h2 =>
      obtain ⟨d, e1, e2⟩ := dps_get (i := i) h2 (by simpa using e)
      exact ⟨d, by simpa using e1, e2⟩
def notNoneD : PyData → Bool
  | .none => false
  | _ => true
def okTile (n w s e o : PyData) : Bool := notNoneD n && (isGlueD w && (isGlueD s && (isGlueD e && isGlueD o)))
def spTile (K : PySem.W.Frag) (C CB : Addr) : Sp := fun vs H Q E => ∃ a dx n w s e o dn dw ds de d_o, vs = [.ref a, n, w, s, e, o] ∧ H a = some (.ins C dx []) ∧ Dp K H n dn ∧ Dp K H w dw ∧ Dp K H s ds ∧ Dp K H e de ∧ Dp K H o d_o ∧
  (okTile dn dw ds de d_o = true → ∀ H', But a H H' → H' a = some (tileO C dx n w s e o) → Q .non H') ∧
  (okTile dn dw ds de d_o = false → ∀ dd H2, Same H H2 → H2 dd = some (.xd [("tile", n)]) → E (.ref CB) (some dd) H2)
abbrev FnM (K : PySem.W.Frag) (m q : Str) (st : PySem.Stmt) (f : Addr) (fd : FuncData) : Prop := FunD K m q (defArgs st) (defBody st) (defScope st) [] [] f fd
section
variable {P : Program} {w : World} {K : PySem.W.Frag} {mg : Str → Option PySem.Value} {base : Heap} {f C CB : Addr} {fd : FuncData} {fI fG : Addr} {fdI fdG : FuncData}
abbrev nTile : List Str := ["self", "name", "west", "south", "east", "north", "glue"]
theorem scTile : FnScope nTile ["self", "name", "west", "south", "east", "north"] (defScope (cTile 0)) := ⟨rfl, rfl, rfl, by decide +kernel, rfl, by decide +kernel, by decide +kernel⟩
theorem ok_tile (F : FnM K "__init__" "Tile.__init__" (cTile 0) f fd) (T : Txt mg) (TF : TileF K C) (EN : Er P w K mg base "BadTile" CB ["tile"]) (FG : FnT K "is_glue" 15 fG fdG) (gG : mg "is_glue" = some (.ref fG)) (FI : FnT K "is_integer" 12 fI fdI) (gI : mg "is_integer" = some (.ref fI)) :
    FnOk P w K mg base (L2.CX P w) 3 f fd ["self", "name", "west", "south", "east", "north"] (spTile K C CB) := by
  refine F.ok scTile (fun vs H Q E h => by obtain ⟨a, dx, n, w, s, e, o, dn, dw, ds, de, d_o, rfl, _⟩ := h; rfl) (fun cdv A outer s0 H vs Q E hr h => ?_)
  obtain ⟨a, dx, n, gw, gs, ge, go, dn, dw, ds, de, d_o, rfl, ha, hn, hw, hs, he, ho, q1, q2⟩ := h
  have nd := scTile.nd
  have GG := ok_is_glue (P := P) (w := w) (base := base) FG T FI gI
  have bG : L2.Binds K fdG ["value"] [] := FunD.bindsN FG fun _ _ _ _ _ _ us hl => match us, hl with | [_], _ => rfl
  refine ⟨_, pss_cons (ps_if (PW.pt (pw_or (pt_cmpR op_isN (pv 1) pe_non (nomark _)) (pw_or1 (pt_not (pt_val (pe_callB (cr_all rfl) (by rfl) T.all (by decide +kernel) (pa_cons
        (pe_lc (own := [("glue", 6)]) (g := gName 6) (tt := tYes) (by rfl) nd (pi_tup (pe_tup (pa_cons (pv 2) (pa_cons (pv 3) (pa_cons (pv 4) (pa_cons (pv 5) pa_nil)))))) (blkOk_by (own := [("glue", 6)]) (N := nTile) (sc := defScope (cTile 0)) (by decide +kernel))
          (fun _ _ _ _ _ => pg_name (i := 6) nd rfl (Or.inl rfl)) (fun _ _ _ _ _ => pts_nil) (fun _ _ _ _ _ => pe_call GG hr (by rfl) gG FG.kp bG .nil pass0 (pa_cons (pv 6) pa_nil))) pa_nil)))))))
      (pss_one (ps_raise rfl (takes_of rfl rfl rfl rfl) (pmk_er EN hr (by rfl) (pa_cons (pv 1) pa_nil)))) pss_nil)
    (pss_cons (ps_fld (pv 0) (pv 1) rfl) (pss_cons (ps_fld (pv 0) (pv 2) rfl) (pss_cons (ps_fld (pv 0) (pv 3) rfl) (pss_cons (ps_fld (pv 0) (pv 4) rfl) (pss_one (ps_fld (pv 0) (pv 5) rfl)))))), ?_⟩
  have stay5 : ∀ {H1 : Hp}, Same H H1 → H1 a = some (.ins C dx []) := fun z => z _ _ ha
  have done : okTile dn dw ds de d_o = true → ∀ H1 : Hp, Same H H1 → (tSeq (sFld K (tVar 0) (tVar 1) "name") (tSeq (sFld K (tVar 0) (tVar 2) "west") (tSeq (sFld K (tVar 0) (tVar 3) "south") (tSeq (sFld K (tVar 0) (tVar 4) "east") (sFld K (tVar 0) (tVar 5) "north")))))
      { nx := fun _ H' => Q .non H', rt := Q } (start nTile [.ref a, n, gw, gs, ge, go]) H1 := by
    intro ok H1 s1
    refine ⟨_, rfl, _, rfl, a, C, dx, _, rfl, s1 _ _ ha, TF.cl, TF.nm, (by show 0 < 1000; decide), ?_⟩
    refine ⟨_, rfl, _, rfl, a, C, dx, _, rfl, upd_same, TF.cl, TF.we, (by show 1 < 1000; decide), ?_⟩
    refine ⟨_, rfl, _, rfl, a, C, dx, _, rfl, upd_same, TF.cl, TF.so, (by show 2 < 1000; decide), ?_⟩
    refine ⟨_, rfl, _, rfl, a, C, dx, _, rfl, upd_same, TF.cl, TF.ea, (by show 3 < 1000; decide), ?_⟩
    refine ⟨_, rfl, _, rfl, a, C, dx, _, rfl, upd_same, TF.cl, TF.no, (by show 4 < 1000; decide), ?_⟩
    refine q1 ok _ (But.upd (But.upd (But.upd (But.upd (But.upd (But.same s1)))))) ?_
    exact upd_same
  refine ⟨_, rfl, rfl, _, rfl, ?_⟩
  by_cases hnon : n = .non
  · subst hnon
    cases hn
    refine iteT (iteT ⟨_, rfl, raise_sp rfl (by decide) fun dd hd H2 s2 e2 => ?_⟩)
    exact q2 rfl dd H2 s2 e2
  · rw [decide_eq_false hnon]
    refine iteF ?_
    have nn : notNoneD dn = true := by
      cases hn <;> first | rfl | exact absurd rfl hnon
    refine ⟨_, rfl, _, rfl, _, rfl, _, rfl, (by show 4 ≤ sizeLine; decide), fun t nt => ?_⟩
    have s1 := same_upd (o := .tup [gw, gs, ge, go]) nt
    refine ⟨t, rfl, ⟨_, SqT.of upd_same⟩, fun D nD => ?_⟩
    have key : DpAll K H [gw, gs, ge, go] [dw, ds, de, d_o] := .cons hw (.cons hs (.cons he (.cons ho .nil)))
    refine lc_tup (K := K) (a := t) (xs := [gw, gs, ge, go]) (fun i H' => Same (upd H t (.tup [gw, gs, ge, go])) H' ∧ H' D = some (.lst ((([dw, ds, de, d_o].map isGlueD).take i).map V.bl))) ⟨same_upd nD, upd_same⟩ (fun i H' hi p => SqT.of (p.1 _ _ upd_same)) ?_ ?_
    · intro i x H' hx p
      obtain ⟨d, hd, hD⟩ := dps_get key hx
      obtain ⟨p1, p2⟩ := p
      refine ⟨rfl, ?_⟩
      refine yes_if ?_
      refine ⟨_, rfl, x, d, rfl, dp_same (same_trans s1 p1) _ _ hD, _, p2, ?_, ?_, ?_⟩
      · have hl : i < 4 := (List.getElem?_eq_some_iff.mp hx).1
        rw [List.length_map, List.length_take, sizeLine_eq]
        omega
      · intro b u eb
        rw [upd_ne (ne_of_none eb nD)]
        exact p1 b u eb
      · rw [upd_same, List.take_add_one, List.getElem?_map, hd, List.map_append]
        rfl
    · intro H' p
      obtain ⟨p1, p2⟩ := p
      refine ⟨D, [dw, ds, de, d_o].map isGlueD, rfl, SqL.of p2, _, rfl, ?_⟩
      have ea : ([dw, ds, de, d_o].map isGlueD).all id = (isGlueD dw && (isGlueD ds && (isGlueD de && isGlueD d_o))) := by
        simp [List.all_cons]
      have eo : okTile dn dw ds de d_o = ([dw, ds, de, d_o].map isGlueD).all id := by
        rw [ea]
        unfold okTile
        rw [nn, Bool.true_and]
      rw [← eo]
      cases ok : okTile dn dw ds de d_o with
      | true => exact iteF (done ok H' (same_trans s1 p1))
      | false =>
        refine iteT ⟨_, rfl, raise_sp rfl (by decide) fun dd hd H2 s2 e2 => ?_⟩
        exact q2 ok dd H2 (same_trans s1 (same_trans p1 s2)) e2
end
end K3

set_option Elab.async false
set_option linter.all false
set_option maxRecDepth 100000
set_option maxHeartbeats 4000000
namespace K3
open PySem PySem.Spec PyProof.Rows L2 Pen Tr AK
section
variable {P : Program} {w : World} {K : PySem.W.Frag} {mg : Str → Option PySem.Value} {base : Heap} {f C CN : Addr} {fd : FuncData} {fC : Addr} {fdC : FuncData}
theorem side_is {d : PyData} (h : isSideD d = true) : ∃ i : Nat, d = .int i ∧ i < 4 := by
  cases d with
  | int i =>
    obtain ⟨h1, h2⟩ := Bool.and_eq_true_iff.mp (show (decide (0 ≤ i) && decide (i ≤ 3)) = true from h)
    have h1 := of_decide_eq_true h1
    have h2 := of_decide_eq_true h2
    exact ⟨i.toNat, by congr 1; omega, by omega⟩
  | _ => cases h
def spGlueAt (K : PySem.W.Frag) (C CN : Addr) : Sp := fun vs H Q E => ∃ a dx n w s e o v d, vs = [.ref a, v] ∧ H a = some (tileO C dx n w s e o) ∧ Dp K H v d ∧
  (∀ i : Nat, d = .int i → ∀ g, [w, s, e, o][i]? = some g → ∀ H', Same H H' → Q g H') ∧
  (isSideD d = false → ∀ dd H2, Same H H2 → H2 dd = some (.xd [("number", v), ("what", .str "side")]) → E (.ref CN) (some dd) H2)
theorem scGlueAt : FnScope ["self", "side"] ["self", "side"] (defScope (cTile 1)) := ⟨rfl, rfl, rfl, by decide +kernel, rfl, by decide +kernel, by decide +kernel⟩
theorem ok_glue_at (F : FnM K "glue_at" "Tile.glue_at" (cTile 1) f fd) (TF : TileF K C) (FC : FnT K "check_side" 21 fC fdC) (gC : mg "check_side" = some (.ref fC)) (GC : FnOk P w K mg base (L2.CX P w) 3 fC fdC ["side"] (spSide K CN)) :
    FnOk P w K mg base (L2.CX P w) 4 f fd ["self", "side"] (spGlueAt K C CN) := by
  refine F.ok scGlueAt (fun vs H Q E h => by obtain ⟨a, dx, n, w, s, e, o, v, d, rfl, _⟩ := h; rfl) (fun cdv A outer s0 H vs Q E hr h => ?_)
  obtain ⟨a, dx, n, gw, gs, ge, go, v, d, rfl, ha, hv, q1, q2⟩ := h
  have bC : L2.Binds K fdC ["side"] [] := FunD.bindsN FC fun _ _ _ _ _ _ us hl => match us, hl with | [_], _ => rfl
  refine ⟨_, pss_cons (ps_expr (pe_callS (E := fun _ => E) GC hr (by rfl) gC FC.kp bC (fun σ => passAt (takes_of rfl rfl rfl rfl) σ) (pa_cons (pv 1) pa_nil)))
    (pss_one (ps_ret (pe_ix ix_tup (pe_tup (pa_cons (pe_fld (pv 0) rfl) (pa_cons (pe_fld (pv 0) rfl) (pa_cons (pe_fld (pv 0) rfl) (pa_cons (pe_fld (pv 0) rfl) pa_nil))))) (pv 1) (fun _ _ => rfl)))), ?_⟩
  refine ⟨_, rfl, v, d, rfl, hv, fun hp => ?_, fun hp dd H2 nd s2 e2 => q2 hp dd H2 s2 e2⟩
  obtain ⟨i, rfl, hi⟩ := side_is hp
  cases hv
  refine ⟨_, rfl, a, C, dx, _, gw, rfl, ha, TF.cl, TF.we, rfl, ?_⟩
  refine ⟨_, rfl, a, C, dx, _, gs, rfl, ha, TF.cl, TF.so, rfl, ?_⟩
  refine ⟨_, rfl, a, C, dx, _, ge, rfl, ha, TF.cl, TF.ea, rfl, ?_⟩
  refine ⟨_, rfl, a, C, dx, _, go, rfl, ha, TF.cl, TF.no, rfl, (by show 4 ≤ sizeLine; decide), fun t nt => ?_⟩
  obtain ⟨g, hg⟩ : ∃ g, [gw, gs, ge, go][i]? = some g := ⟨_, List.getElem?_eq_getElem (by simpa using hi)⟩
  exact ⟨_, rfl, t, _, i, g, rfl, rfl, SqT.of upd_same, atI_nat hg, q1 i rfl g hg _ (same_upd nt)⟩
end
end K3

set_option Elab.async false
set_option linter.all false
set_option maxRecDepth 100000
set_option maxHeartbeats 4000000
namespace Tr
open PySem PySem.Spec PyProof.Rows L2 AK Pen
/-- all but these stay -/
def Stay (S : Addr → Prop) (H H' : Hp) : Prop := ∀ b o, H b = some o → ¬ S b → H' b = some o
theorem Stay.rfl' {S : Addr → Prop} {H : Hp} : Stay S H H := fun _ _ e _ => e
theorem Stay.of {S : Addr → Prop} {H H' : Hp} (s : Same H H') : Stay S H H' := fun b o e _ => s b o e
theorem Stay.trans {S : Addr → Prop} {H H1 H2 : Hp} (a : Stay S H H1) (b : Stay S H1 H2) : Stay S H H2 := fun c o e n => b c o (a c o e n) n
theorem Stay.mono {S S' : Addr → Prop} {H H1 : Hp} (a : Stay S H H1) (h : ∀ b, S b → S' b) : Stay S' H H1 := fun c o e n => a c o e fun z => n (h c z)
theorem Stay.upd {S : Addr → Prop} {H H1 : Hp} {p : Addr} {o : HO} (a : Stay S H H1) (h : S p) : Stay S H (L2.upd H1 p o) := fun c u e n => by
  have ne : c ≠ p := by
    rintro rfl
    exact n h
  rw [upd_ne ne]
  exact a c u e n
theorem Stay.new {S : Addr → Prop} {H H1 : Hp} {p : Addr} {o : HO} (a : Stay S H H1) (h : H p = none) : Stay S H (L2.upd H1 p o) := fun c u e n => by
  rw [upd_ne (ne_of_none e h)]
  exact a c u e n
/-- what changes are no tuples -/
theorem Stay.tups {S : Addr → Prop} {H H' : Hp} (a : Stay S H H') (h : ∀ b, S b → ∀ xs, ¬ Rd H b (.tup xs)) : Tups H H' := fun c xs r => by
  have n : ¬ S c := fun z => h c z xs r
  exact r.elim (fun r => .inl (a c _ r n)) fun ⟨o, r⟩ => .inr ⟨o, a c _ r n⟩
theorem lst_ntup {H : Hp} {l : Addr} {ys : List V} (e : H l = some (.lst ys)) : ∀ xs, ¬ Rd H l (.tup xs) := fun xs h => by
  unfold Rd at h
  rw [e] at h
  rcases h with h | ⟨_, h⟩ <;> cases h
theorem daPut {K : PySem.W.Frag} {w : World} {H : Hp} {d : Addr} {es : List Eh} (D : DA K w H d es) (e : H d = some (DkO w d es)) {k : NestedKey} {v x : V} (n : NK K H k v) (kd : k.depth ≤ 8) : DA K w (upd H d (DkO w d (putE es k v x))) d (putE es k v x) := by
  have t : Tups H (upd H d (DkO w d (putE es k v x))) := Tups.upd (dk_ntup e)
  refine ⟨.inl upd_same, fun f hf => ?_, putE_nd D.nd⟩
  rcases putE_mem hf with ⟨g, hg, e1, e2⟩ | ⟨e1, e2⟩
  · rw [← e1, ← e2]
    exact ⟨(D.nk g hg).1.tups t, (D.nk g hg).2⟩
  · rw [e1, e2]
    exact ⟨n.tups t, kd⟩
theorem daKeep {K : PySem.W.Frag} {w : World} {H H' : Hp} {d : Addr} {es : List Eh} (D : DA K w H d es) (t : Tups H H') (e : Rd H' d (DkO w d es)) : DA K w H' d es := ⟨e, fun x hx => ⟨(D.nk x hx).1.tups t, (D.nk x hx).2⟩, D.nd⟩
/-- the two tables of numbers of glues -/
structure Nums (K : PySem.W.Frag) (w : World) (H : Hp) (dn ls : Addr) (es : List Eh) (ss : List Int) (m : Nat) : Prop where
  dk : H dn = some (DkO w dn es)
  da : DA K w H dn es
  vals : ∀ e ∈ es, ∃ n : Int, e.2.2 = .int n ∧ 0 ≤ n ∧ n < ss.length
  li : H ls = some (.lst (ss.map V.int))
  few : es.length + ss.length ≤ m
theorem Nums.ne {K : PySem.W.Frag} {w : World} {H : Hp} {dn ls : Addr} {es : List Eh} {ss : List Int} {m : Nat} (N : Nums K w H dn ls es ss m) : dn ≠ ls := ne_of N.dk N.li (fun z => nomatch z)
theorem Nums.keep {K : PySem.W.Frag} {w : World} {H H' : Hp} {dn ls : Addr} {es : List Eh} {ss : List Int} {m : Nat} (N : Nums K w H dn ls es ss m) (t : Tups H H') (e1 : H' dn = some (DkO w dn es)) (e2 : H' ls = some (.lst (ss.map V.int))) : Nums K w H' dn ls es ss m :=
  ⟨e1, ⟨.inl e1, fun x hx => ⟨(N.da.nk x hx).1.tups t, (N.da.nk x hx).2⟩, N.da.nd⟩, N.vals, e2, N.few⟩
theorem atK_mem {es : List Eh} {k : NestedKey} {v : V} (h : atK es k = some v) : ∃ e ∈ es, e.2.2 = v := by
  unfold atK at h
  obtain ⟨e, h1, h2⟩ := Option.map_eq_some_iff.mp h
  exact ⟨e, List.mem_of_find?_eq_some h1, h2⟩
theorem putE_vals {es : List Eh} {k : NestedKey} {u v : V} {e : Eh} (h : e ∈ putE es k u v) : e.2.2 = v ∨ ∃ f ∈ es, f.2.2 = e.2.2 := by
  cases q : atK es k with
  | none =>
    rw [putE_new q] at h
    rcases List.mem_append.mp h with h | h
    · exact .inr ⟨e, h, rfl⟩
    · obtain rfl : e = (k, u, v) := by simpa using h
      exact .inl rfl
  | some y =>
    rw [putE_old q] at h
    obtain ⟨f, hf, rfl⟩ := List.mem_map.mp h
    by_cases z : f.1 = k
    · rw [if_pos z]
      exact .inl rfl
    · rw [if_neg z]
      exact .inr ⟨f, hf, rfl⟩
end Tr
namespace K3
open PySem PySem.Spec PyProof.Rows L2 Pen Tr AK
structure FitsF (K : PySem.W.Frag) (C : Addr) : Prop where
  cl : Cls K C
  nu : NoAttr K C "_numbers"
  st : NoAttr K C "_strengths"
  sg : NoAttr K C "_strong"
  wk : NoAttr K C "_weak"
  sd : NoAttr K C "_sides"
section
variable {P : Program} {w : World} {K : PySem.W.Frag} {mg : Str → Option PySem.Value} {base : Heap} {f C : Addr} {fd : FuncData}
def spNum (K : PySem.W.Frag) (w : World) (C : Addr) : Sp := fun vs H Q _ => ∃ a dx fs dn ls es ss m g d k, vs = [.ref a, g] ∧ H a = some (.ins C dx fs) ∧ fs.lookup ("_numbers" : Str) = some (.ref dn) ∧ fs.lookup ("_strengths" : Str) = some (.ref ls) ∧ Nums K w H dn ls es ss m ∧ m ≤ 1000000 ∧
  Dp K H g d ∧ keyD d = some k ∧ k.depth ≤ 8 ∧ isGlueD d = true ∧
  ∀ (n : Int) (H' : Hp) es' ss', 0 ≤ n → n < ss'.length → Nums K w H' dn ls es' ss' (m + 2) → ss.length ≤ ss'.length → Stay (fun b => b = dn ∨ b = ls) H H' → Q (.int n) H'
abbrev nNum : List Str := ["self", "glue", "_", "strength"]
theorem scNum : FnScope nNum ["self", "glue"] (defScope (cFits 1)) := ⟨rfl, rfl, rfl, by decide +kernel, rfl, by decide +kernel, by decide +kernel⟩
theorem ok_num (F : FnM K "_number_of" "Fits._number_of" (cFits 1) f fd) (T : Txt mg) (FF : FitsF K C) : FnOk P w K mg base CX0 1 f fd ["self", "glue"] (spNum K w C) := by
  refine F.ok scNum (fun vs H Q E h => by obtain ⟨a, dx, fs, dn, ls, es, ss, m, g, d, k, rfl, _⟩ := h; rfl) (fun cdv A outer s0 H vs Q E hr h => ?_)
  obtain ⟨a, dx, fs, dn, ls, es, ss, m, g, d, k, rfl, ha, f1, f2, N, hm, hg, hk, kd, ig, q⟩ := h
  have nd := scNum.nd
  suffices z : ∃ t, PSs (cxOf CX0 P w K mg base nNum "Fits._number_of" (defScope (cFits 1)) f cdv A outer s0 H E).nox (defBody (cFits 1)) t ∧ t { nx := fun _ H' => Q .non H', rt := Q } (start nNum [.ref a, g]) H by
    obtain ⟨t, h1, h2⟩ := z
    exact ⟨t, h1.nox, h2⟩
  have hu := hr.units
  refine ⟨_, pss_cons (ps_if (pt_cmpR (op_notInA hu) (pv 1) (pe_fld (pv 0) rfl) (by rfl)) (pss_cons (ps_asg (pv 1) (pg_tup (by rfl) (pgs_cons (pg_name (i := 2) nd rfl (.inl rfl)) (pgs_cons (pg_name (i := 3) nd rfl (.inl rfl)) pgs_nil))))
      (pss_cons (ps_asg (pe_callB call_len_seq (by rfl) T.len PySem.boot_len (pa_cons (pe_fld (pv 0) rfl) pa_nil)) (pg_sub (pe_fld (pv 0) rfl) (pv 1) (set_dictA hu)))
        (pss_one (ps_expr (pe_bm PySem.F.plainAttrs_list PySem.F.slot_list_append PySem.F.type_list_append mt_append (pe_fld (pv 0) rfl) (pa_cons (pv 3) pa_nil)))))) pss_nil)
    (pss_one (ps_ret (pe_ix (ix_dictA hu) (pe_fld (pv 0) rfl) (pv 1) (fun _ _ => rfl)))), ?_⟩
  have nk : NK K H k g := ⟨d, hg, hk⟩
  refine ⟨_, rfl, _, rfl, a, C, dx, fs, .ref dn, rfl, ha, FF.cl, FF.nu, f1, dn, es, k, rfl, N.da, nk, kd, _, rfl, ?_⟩
  cases hat : atK es k with
  | some v =>
    refine iteF ?_
    obtain ⟨e, he, ev⟩ := atK_mem hat
    obtain ⟨n, en, n0, n1⟩ := N.vals e he
    rw [ev] at en
    subst en
    refine ⟨_, rfl, a, C, dx, fs, .ref dn, rfl, ha, FF.cl, FF.nu, f1, _, rfl, dn, es, k, .int n, rfl, N.da, nk, kd, hat, ?_⟩
    exact q n H es ss n0 n1 ⟨N.dk, N.da, N.vals, N.li, by have := N.few; omega⟩ (Nat.le_refl _) Stay.rfl'
  | none =>
    refine iteT ?_
    -- the glue's two items
    cases hg with
    | @tup t xs ds hs hA =>
      obtain ⟨l, s, rfl⟩ : ∃ l s, ds = [l, .int s] := by
        match ds, ig with
        | [l, .int s], _ => exact ⟨l, s, rfl⟩
      obtain ⟨vl, rfl⟩ : ∃ vl, xs = [vl, .int s] := by
        cases hA with
        | cons h1 t1 => cases t1 with
          | cons h2 t2 =>
            cases t2
            cases h2
            exact ⟨_, rfl⟩
      refine ⟨_, rfl, t, _, rfl, hs, rfl, _, _, rfl, _, _, rfl, rfl, ?_⟩
      refine ⟨_, rfl, a, C, dx, fs, .ref ls, rfl, ha, FF.cl, FF.st, f2, ls, _, rfl, .inl (SqL.of N.li), ?_⟩
      have few := N.few
      refine ⟨_, rfl, a, C, dx, fs, .ref dn, rfl, ha, FF.cl, FF.nu, f1, _, rfl, dn, es, k, rfl, N.dk, N.da, nk, kd, (by rw [sizeLine_eq]; omega), ?_⟩
      have el : (ss.map V.int).length = ss.length := List.length_map _
      rw [el]
      have ndl : dn ≠ ls := N.ne
      have nda : a ≠ dn := ne_of ha N.dk (fun z => nomatch z)
      have nla : a ≠ ls := ne_of ha N.li (fun z => nomatch z)
      have D2 := daPut (x := V.int ss.length) N.da N.dk nk kd
      have li2 : upd H dn (DkO w dn (putE es k (.ref t) (.int ss.length))) ls = some (.lst (ss.map V.int)) := by
        rw [upd_ne (Ne.symm ndl)]
        exact N.li
      have ha2 : upd H dn (DkO w dn (putE es k (.ref t) (.int ss.length))) a = some (.ins C dx fs) := by
        rw [upd_ne nda]
        exact ha
      refine ⟨_, rfl, a, C, dx, fs, .ref ls, rfl, ha2, FF.cl, FF.st, f2, .inl ⟨rfl, _, SqL.of li2⟩, _, rfl, ls, _, _, rfl, rfl, li2, ?_, ?_⟩
      · rw [List.length_map, sizeLine_eq]
        omega
      have e3 : (ss.map V.int) ++ [V.int s] = (ss ++ [s]).map V.int := by rw [List.map_append] <;> rfl
      rw [e3]
      have t2 : Tups (upd H dn (DkO w dn (putE es k (.ref t) (.int ss.length)))) (upd (upd H dn (DkO w dn (putE es k (.ref t) (.int ss.length)))) ls (.lst ((ss ++ [s]).map V.int))) := Tups.upd (lst_ntup li2)
      have dk3 : upd (upd H dn (DkO w dn (putE es k (.ref t) (.int ss.length)))) ls (.lst ((ss ++ [s]).map V.int)) dn = some (DkO w dn (putE es k (.ref t) (.int ss.length))) := by
        rw [upd_ne ndl]
        exact upd_same
      have D3 := daKeep D2 t2 (.inl dk3)
      have nk3 : NK K (upd (upd H dn (DkO w dn (putE es k (.ref t) (.int ss.length)))) ls (.lst ((ss ++ [s]).map V.int))) k (.ref t) := (nk.tups (Tups.upd (dk_ntup N.dk))).tups t2
      have at3 : atK (putE es k (.ref t) (.int ss.length)) k = some (V.int ss.length) := by rw [atK_put, if_pos rfl]
      refine ⟨_, rfl, a, C, dx, fs, .ref dn, rfl, ?_, FF.cl, FF.nu, f1, _, rfl, dn, _, k, .int ss.length, rfl, D3, nk3, kd, at3, ?_⟩
      · rw [upd_ne nla]
        exact ha2
      refine q ss.length _ _ (ss ++ [s]) (Int.natCast_nonneg _) ?_ ⟨dk3, D3, fun e he => ?_, upd_same, ?_⟩ ?_ ?_
      · rw [List.length_append, List.length_singleton]
        omega
      · rw [List.length_append, List.length_singleton]
        rcases putE_vals he with z | ⟨e2, h2, z⟩
        · exact ⟨_, z, Int.natCast_nonneg _, by omega⟩
        · obtain ⟨n, n1, n2, n3⟩ := N.vals e2 h2
          exact ⟨n, by rw [← z]; exact n1, n2, by omega⟩
      · have := putE_len es k (V.ref t) (V.int ss.length)
        rw [List.length_append, List.length_singleton]
        omega
      · rw [List.length_append]
        omega
      · exact (Stay.rfl'.upd (.inl rfl)).upd (.inr rfl)
    | _ => cases ig
end
end K3

set_option Elab.async false
set_option linter.all false
set_option maxRecDepth 100000
set_option maxHeartbeats 4000000
namespace Tr
open PySem PySem.Spec PyProof.Rows L2 AK Pen
/-- dicts of lists: whatever they hold, it is lists of these -/
structure Good (K : PySem.W.Frag) (w : World) (Sl Sd : Addr → Prop) (N : Nat) (H : Hp) : Prop where
  ds : ∀ d, Sd d → ∃ es, H d = some (DkO w d es) ∧ DA K w H d es ∧ es.length ≤ N ∧ ∀ e ∈ es, ∃ l, e.2.2 = .ref l ∧ Sl l
  ls : ∀ l, Sl l → ∃ xs, H l = some (.lst xs) ∧ xs.length ≤ N
section
variable {K : PySem.W.Frag} {w : World} {Sl Sd : Addr → Prop} {N : Nat} {H H' : Hp}
theorem Good.mono (G : Good K w Sl Sd N H) {M : Nat} (h : N ≤ M) : Good K w Sl Sd M H :=
  ⟨fun d hd => let ⟨es, a, b, c, e⟩ := G.ds d hd; ⟨es, a, b, Nat.le_trans c h, e⟩, fun l hl => let ⟨xs, a, b⟩ := G.ls l hl; ⟨xs, a, Nat.le_trans b h⟩⟩
theorem Good.same (G : Good K w Sl Sd N H) (s : Same H H') : Good K w Sl Sd N H' :=
  ⟨fun d hd => let ⟨es, a, b, c, e⟩ := G.ds d hd; ⟨es, s _ _ a, daKeep b (fun x xs h => same_rd s h) (.inl (s _ _ a)), c, e⟩, fun l hl => let ⟨xs, a, b⟩ := G.ls l hl; ⟨xs, s _ _ a, b⟩⟩
theorem Good.new (G : Good K w Sl Sd N H) {p : Addr} (n : H p = none) : Good K w (fun l => Sl l ∨ l = p) Sd N (upd H p (.lst [])) := by
  have G2 := G.same (same_upd (o := .lst []) n)
  refine ⟨fun d hd => ?_, fun l hl => ?_⟩
  · obtain ⟨es, a, b, c, e⟩ := G2.ds d hd
    exact ⟨es, a, b, c, fun x hx => let ⟨l, h1, h2⟩ := e x hx; ⟨l, h1, .inl h2⟩⟩
  · rcases hl with hl | rfl
    · exact G2.ls l hl
    · exact ⟨[], upd_same, Nat.zero_le _⟩
theorem Good.put (G : Good K w Sl Sd N H) {d l : Addr} (hd : Sd d) {es : List Eh} (e : H d = some (DkO w d es)) (D : DA K w H d es) (he : es.length ≤ N) (hv : ∀ x ∈ es, ∃ l, x.2.2 = .ref l ∧ Sl l) {k : NestedKey} {y : V} (n : NK K H k y) (kd : k.depth ≤ 8) (hl : Sl l) :
    Good K w Sl Sd (N + 1) (upd H d (DkO w d (putE es k y (.ref l)))) := by
  have t : Tups H (upd H d (DkO w d (putE es k y (.ref l)))) := Tups.upd (dk_ntup e)
  refine ⟨fun d' hd' => ?_, fun l' hl' => ?_⟩
  · by_cases z : d' = d
    · subst z
      refine ⟨_, upd_same, daPut D e n kd, ?_, fun x hx => ?_⟩
      · have := putE_len es k y (V.ref l)
        omega
      · rcases putE_vals hx with z | ⟨f, hf, z⟩
        · exact ⟨l, z, hl⟩
        · obtain ⟨l2, h1, h2⟩ := hv f hf
          exact ⟨l2, by rw [← z]; exact h1, h2⟩
    · obtain ⟨es', a, b, c, g⟩ := G.ds d' hd'
      have a2 : upd H d (DkO w d (putE es k y (.ref l))) d' = some (DkO w d' es') := by
        rw [upd_ne z]
        exact a
      exact ⟨es', a2, daKeep b t (.inl a2), by omega, g⟩
  · obtain ⟨xs, a, b⟩ := G.ls l' hl'
    have z : l' ≠ d := ne_of a e (fun q => nomatch q)
    exact ⟨xs, by rw [upd_ne z]; exact a, by omega⟩
theorem Good.app (G : Good K w Sl Sd N H) {l : Addr} (hl : Sl l) {xs : List V} (e : H l = some (.lst xs)) (hx : xs.length ≤ N) (r : V) : Good K w Sl Sd (N + 1) (upd H l (.lst (xs ++ [r]))) := by
  have t : Tups H (upd H l (.lst (xs ++ [r]))) := Tups.upd (lst_ntup e)
  refine ⟨fun d hd => ?_, fun l' hl' => ?_⟩
  · obtain ⟨es, a, b, c, g⟩ := G.ds d hd
    have z : d ≠ l := ne_of a e (fun q => nomatch q)
    have a2 : upd H l (.lst (xs ++ [r])) d = some (DkO w d es) := by
      rw [upd_ne z]
      exact a
    exact ⟨es, a2, daKeep b t (.inl a2), by omega, g⟩
  · by_cases z : l' = l
    · subst z
      exact ⟨_, upd_same, by rw [List.length_append, List.length_singleton]; omega⟩
    · obtain ⟨ys, a, b⟩ := G.ls l' hl'
      exact ⟨ys, by rw [upd_ne z]; exact a, by omega⟩
/-- no other kind of thing is among them -/
theorem Good.nins (G : Good K w Sl Sd N H) {a C dx : Addr} {fs : List (Str × V)} (e : H a = some (.ins C dx fs)) : ¬ (Sl a ∨ Sd a) := by
  rintro (z | z)
  · obtain ⟨xs, q, _⟩ := G.ls a z
    rw [e] at q
    cases q
  · obtain ⟨es, q, _⟩ := G.ds a z
    rw [e] at q
    cases q
theorem Good.nlst (G : Good K w Sl Sd N H) {a : Addr} {xs : List V} (e : H a = some (.lst xs)) : ¬ Sd a := fun z => by
  obtain ⟨es, q, _⟩ := G.ds a z
  rw [e] at q
  cases q
theorem Good.ntup (G : Good K w Sl Sd N H) : ∀ b, (Sl b ∨ Sd b) → ∀ xs, ¬ Rd H b (.tup xs) := by
  rintro b (z | z)
  · obtain ⟨xs, q, _⟩ := G.ls b z
    exact lst_ntup q
  · obtain ⟨es, q, _⟩ := G.ds b z
    exact dk_ntup q
end
theorem Stay.newNow {S : Addr → Prop} {H H1 : Hp} {p : Addr} {o : HO} (a : Stay S H H1) (h : H1 p = none) : Stay S H (L2.upd H1 p o) := fun c u e n => by
  rw [upd_ne (ne_of_none (a c u e n) h)]
  exact a c u e n
/-- how far such filing has come -/
structure Filed (K : PySem.W.Frag) (w : World) (Sl Sd : Addr → Prop) (H : Hp) (N : Nat) (H' : Hp) (Sl' : Addr → Prop) : Prop where
  sub : ∀ l, Sl l → Sl' l
  new : ∀ l, Sl' l → Sl l ∨ H l = none
  good : Good K w Sl' Sd N H'
  stay : Stay (fun b => Sl b ∨ Sd b) H H'
theorem Filed.grow {K : PySem.W.Frag} {w : World} {Sl Sd Sl' : Addr → Prop} {H H' : Hp} {N : Nat} (F : Filed K w Sl Sd H N H' Sl') {p : Addr} {o : HO} (n : H' p = none) : Filed K w Sl Sd H N (upd H' p o) Sl' := ⟨F.sub, F.new, F.good.same (same_upd n), F.stay.newNow n⟩
theorem rd_nil {σ : L2.St} {H : Hp} {Q : List V → Hp → Prop} (h : Q [] H) : tNil σ H Q := h
/-- d.setdefault(k, []).append(r), d one of the dicts -/
theorem sd_app {K : PySem.W.Frag} {w : World} {Sl Sd Sl' : Addr → Prop} {H H' : Hp} {N : Nat} (F : Filed K w Sl Sd H N H' Sl') {d : Addr} (hd : Sd d) {k : NestedKey} {y : V} (n : NK K H' k y) (kd : k.depth ≤ 8) (hN : N ≤ 1000000) {p : Addr} (np : H' p = none) {R : V → Hp → Prop}
    (h : ∀ l H2 xs, H2 l = some (.lst xs) → xs.length < sizeLine → Stay (fun b => Sl b ∨ Sd b) H H2 → (∀ r, ∃ S2, Filed K w Sl Sd H (N + 2) (upd H2 l (.lst (xs ++ [r]))) S2) → tyV K "list" (.ref l) H2 → R (.ref l) H2) :
    rSdA K w (.ref d) [y, .ref p] (upd H' p (.lst [])) R := by
  obtain ⟨es, e1, D1, h1, v1⟩ := F.good.ds d hd
  have s1 := same_upd (o := .lst []) np
  have e2 := s1 _ _ e1
  have D2 : DA K w (upd H' p (.lst [])) d es := daKeep D1 (fun x xs h => same_rd s1 h) (.inl e2)
  have n2 : NK K (upd H' p (.lst [])) k y := n.tups fun x xs h => same_rd s1 h
  have G2 := F.good.new np
  have st2 : Stay (fun b => Sl b ∨ Sd b) H (upd H' p (.lst [])) := F.stay.newNow np
  have small : ∀ m, m ≤ N → m < sizeLine := fun m hm => by
    rw [sizeLine_eq]
    omega
  refine ⟨d, es, k, y, .ref p, rfl, rfl, e2, D2, n2, kd, small _ h1, fun v hv => ?_, fun hn => ?_⟩
  · obtain ⟨x, hx, ev⟩ := atK_mem hv
    obtain ⟨l, el, hl⟩ := v1 x hx
    rw [ev] at el
    subst el
    obtain ⟨xs, q1, q2⟩ := G2.ls l (.inl hl)
    refine h l _ xs q1 (small _ q2) st2 (fun r => ⟨_, fun b hb => .inl (F.sub b hb), fun b hb => ?_, (G2.app (.inl hl) q1 q2 r).mono (by omega), ?_⟩) (.inl ⟨rfl, xs, SqL.of q1⟩)
    · rcases hb with hb | rfl
      · exact F.new b hb
      · refine (Classical.em (Sl b)).imp id fun nb => ?_
        cases q : H b with
        | none => rfl
        | some o =>
          by_cases sb : Sd b
          · obtain ⟨es', a, _⟩ := F.good.ds b sb
            rw [a] at np
            cases np
          · have := F.stay b o q (fun z => z.elim nb sb)
            rw [this] at np
            cases np
    · rcases F.new l hl with z | z
      · exact st2.upd (.inl z)
      · exact st2.new z
  · have z : p ≠ d := fun z => by
      subst z
      rw [e1] at np
      cases np
    have G3 := G2.put hd e2 D2 h1 (fun x hx => let ⟨l, a, b⟩ := v1 x hx; ⟨l, a, .inl b⟩) n2 kd (.inr rfl : Sl' p ∨ p = p)
    have e3 : upd (upd H' p (.lst [])) d (DkO w d (putE es k y (.ref p))) p = some (.lst []) := by
      rw [upd_ne z]
      exact upd_same
    have st3 : Stay (fun b => Sl b ∨ Sd b) H (upd (upd H' p (.lst [])) d (DkO w d (putE es k y (.ref p)))) := st2.upd (.inr hd)
    have hp : Sl p ∨ H p = none := by
      refine (Classical.em (Sl p)).imp id fun nb => ?_
      cases q : H p with
      | none => rfl
      | some o =>
        by_cases sb : Sd p
        · obtain ⟨es', a, _⟩ := F.good.ds p sb
          rw [a] at np
          cases np
        · have := F.stay p o q (fun z => z.elim nb sb)
          rw [this] at np
          cases np
    refine h p _ [] e3 (by rw [sizeLine_eq]; decide) st3 (fun r => ⟨_, fun b hb => .inl (F.sub b hb), fun b hb => ?_, (G3.app (.inr rfl) e3 (Nat.zero_le _) r).mono (by omega), ?_⟩) (.inl ⟨rfl, [], SqL.of e3⟩)
    · rcases hb with hb | rfl
      · exact F.new b hb
      · exact hp
    · rcases hp with z | z
      · exact st3.upd (.inl z)
      · exact st3.new z
end Tr
namespace K3
open PySem PySem.Spec PyProof.Rows L2 Pen Tr AK
section
variable {P : Program} {w : World} {K : PySem.W.Frag} {mg : Str → Option PySem.Value} {base : Heap} {f C : Addr} {fd : FuncData}
/-- what filing is given: the object's lists, the tile's numbers -/
structure FileIn (K : PySem.W.Frag) (w : World) (C : Addr) (fld : Str) (n : Nat) (H : Hp) (a dx t : Addr) (fs : List (Str × V)) (ls lg : Addr) (ss : List Int) (gs : List Addr) (ns : List Int) (Sl Sd : Addr → Prop) (N : Nat) : Prop where
  at_ : H a = some (.ins C dx fs)
  f1 : fs.lookup ("_strengths" : Str) = some (.ref ls)
  f2 : fs.lookup fld = some (.ref lg)
  li : H ls = some (.lst (ss.map V.int))
  nl : ¬ Sl ls
  ng : ¬ Sl lg
  lgs : H lg = some (.lst (gs.map V.ref))
  len : gs.length = n
  gd : ∀ g ∈ gs, Sd g
  tu : SqT K H t (ns.map V.int)
  nn : ns.length = 4
  ok : ∀ x ∈ ns, 0 ≤ x ∧ x < ss.length
  good : Good K w Sl Sd N H
  few : N ≤ 900000 ∧ ss.length ≤ 1000000
def spFile (K : PySem.W.Frag) (w : World) (C : Addr) (fld : Str) (n : Nat) : Sp := fun vs H Q _ => ∃ a dx t fs ls lg ss gs ns Sl Sd N r, vs = [.ref a, r, .ref t] ∧ FileIn K w C fld n H a dx t fs ls lg ss gs ns Sl Sd N ∧
  ∀ H' Sl', Filed K w Sl Sd H (N + 2 * n) H' Sl' → Q .non H'
abbrev nStrong : List Str := ["self", "rank", "numbers", "side", "number"]
theorem scStrong : FnScope nStrong ["self", "rank", "numbers"] (defScope (cFits 2)) := ⟨rfl, rfl, rfl, by decide +kernel, rfl, by decide +kernel, by decide +kernel⟩
theorem ok_strong (F : FnM K "_file_strong" "Fits._file_strong" (cFits 2) f fd) (T : Txt mg) (FF : FitsF K C) : FnOk P w K mg base CX0 1 f fd ["self", "rank", "numbers"] (spFile K w C "_strong" 4) := by
  refine F.ok scStrong (fun vs H Q E h => by obtain ⟨a, dx, t, fs, ls, lg, ss, gs, ns, Sl, Sd, N, r, rfl, _⟩ := h; rfl) (fun cdv A outer s0 H vs Q E hr h => ?_)
  obtain ⟨a, dx, t, fs, ls, lg, ss, gs, ns, Sl, Sd, N, r, rfl, I, q⟩ := h
  have nd := scStrong.nd
  suffices z : ∃ t', PSs (cxOf CX0 P w K mg base nStrong "Fits._file_strong" (defScope (cFits 2)) f cdv A outer s0 H E).nox (defBody (cFits 2)) t' ∧ t' { nx := fun _ H' => Q .non H', rt := Q } (start nStrong [.ref a, r, .ref t]) H by
    obtain ⟨t', h1, h2⟩ := z
    exact ⟨t', h1.nox, h2⟩
  have hu := hr.units
  refine ⟨_, pss_one (ps_for PassesOwn.never rfl (pi_enumT (by rfl) T.enum (pa_cons (pv 2) pa_nil)) (pg_tup (by rfl) (pgs_cons (pg_name (i := 3) nd rfl (.inl rfl)) (pgs_cons (pg_name (i := 4) nd rfl (.inl rfl)) pgs_nil)))
    (pss_one (ps_if (pt_cmpR op_eq (pe_ix ix_list (pe_fld (pv 0) rfl) (pv 4) (fun _ _ => rfl)) pe_int (nomark _))
      (pss_one (ps_expr (pe_bm PySem.F.plainAttrs_list PySem.F.slot_list_append PySem.F.type_list_append mt_append
        (pe_bmA PySem.F.slot_dict_setdefault PySem.F.type_dict_setdefault (mt_sdA hu) (pe_ix ix_list (pe_fld (pv 0) rfl) (pv 3) (fun _ _ => rfl)) (pa_cons (pv 4) (pa_cons (pe_lst pa_nil) pa_nil))) (pa_cons (pv 1) pa_nil)))) pss_nil))), ?_⟩
  have nS : ¬ (Sl a ∨ Sd a) := I.good.nins I.at_
  have n1 : ¬ (Sl ls ∨ Sd ls) := fun z => z.elim I.nl (I.good.nlst I.li)
  have n2 : ¬ (Sl lg ∨ Sd lg) := fun z => z.elim I.ng (I.good.nlst I.lgs)
  refine ⟨_, rfl, t, _, rfl, I.tu, ?_⟩
  refine for_it (walk_enumT (K := K) (a := t) (xs := ns.map V.int)) (fun i σ H' => (∃ o1 o2, σ = [some (.ref a), some r, some (.ref t), o1, o2]) ∧ ∃ Sl', Filed K w Sl Sd H (N + 2 * i) H' Sl') ?_ ?_ ?_ ?_
  · exact ⟨⟨none, none, rfl⟩, Sl, fun _ h => h, fun _ h => .inl h, I.good, Stay.rfl'⟩
  · rintro i σ H' hi ⟨_, Sl', Fl⟩
    exact SqT.tups (Fl.stay.tups I.good.ntup) I.tu
  · rintro i x σ H1 H2 hi ⟨⟨o1, o2, rfl⟩, Sl', Fl⟩ ⟨T1, x1, y1, rfl, nT, rfl, e1, e2⟩
    have Fg := Fl.grow (o := .tup [x1, y1]) nT
    obtain rfl : x1 = .int i := (Option.some.inj e1).symm
    obtain ⟨n0, hn, rfl⟩ : ∃ n, ns[i]? = some n ∧ V.int n = y1 := by
      have z : (ns.map V.int)[i]? = some y1 := e2
      rw [List.getElem?_map] at z
      exact Option.map_eq_some_iff.mp z
    obtain ⟨n0p, n0l⟩ := I.ok n0 (List.mem_of_getElem? hn)
    obtain ⟨n, rfl⟩ : ∃ n : Nat, n0 = n := ⟨n0.toNat, by omega⟩
    have nl : n < ss.length := by omega
    have hi4 : i < 4 := by
      rw [← I.nn]
      exact (List.getElem?_eq_some_iff.mp hn).1
    have aX := Fg.stay a _ I.at_ nS
    have lX := Fg.stay ls _ I.li n1
    have gX := Fg.stay lg _ I.lgs n2
    have es : (ss.map V.int)[n]? = some (V.int ss[n]) := by
      rw [List.getElem?_map, List.getElem?_eq_getElem nl]
      rfl
    refine ⟨T1, _, rfl, SqT.of upd_same, rfl, _, _, rfl, _, _, rfl, rfl, ?_⟩
    refine ⟨_, rfl, a, C, dx, fs, .ref ls, rfl, aX, FF.cl, FF.st, I.f1, _, rfl, ls, _, n, V.int ss[n], rfl, rfl, SqL.of lX, atI_nat es, rfl, _, rfl, ?_⟩
    by_cases h2 : V.int ss[n] = V.int 2
    · rw [decide_eq_true h2]
      refine iteT ?_
      have hg : i < gs.length := by
        rw [I.len]
        exact hi4
      have eg : (gs.map V.ref)[i]? = some (V.ref gs[i]) := by
        rw [List.getElem?_map, List.getElem?_eq_getElem hg]
        rfl
      refine ⟨_, rfl, a, C, dx, fs, .ref lg, rfl, aX, FF.cl, FF.sg, I.f2, _, rfl, lg, _, i, V.ref gs[i], rfl, rfl, SqL.of gX, atI_nat eg, ?_⟩
      obtain ⟨es2, e3, D3, _⟩ := Fg.good.ds _ (I.gd _ (List.getElem_mem hg))
      refine ⟨⟨_, es2, rfl, .inl e3⟩, _, rfl, (by show 0 ≤ sizeLine; decide), fun p np => ?_⟩
      refine rd_nil ?_
      refine sd_app Fg (I.gd _ (List.getElem_mem hg)) (k := .num n) ⟨.int n, .int _, rfl⟩ (Nat.zero_le _) ?_ np fun l H2 xs el hx st2 next ty => ?_
      · have := I.few.1
        omega
      · refine ⟨ty, _, rfl, l, xs, r, rfl, rfl, el, hx, ?_⟩
        obtain ⟨S2, F2⟩ := next r
        exact ⟨⟨_, _, rfl⟩, S2, F2⟩
    · rw [decide_eq_false h2]
      refine iteF ⟨⟨_, _, rfl⟩, Sl', Fg.sub, Fg.new, Fg.good.mono (by omega), Fg.stay⟩
  · rintro σ H' ⟨⟨o1, o2, rfl⟩, Sl', Fl⟩
    rw [List.length_map, I.nn] at Fl
    exact q H' Sl' Fl
end
end K3

set_option Elab.async false
set_option linter.all false
set_option maxRecDepth 100000
set_option maxHeartbeats 4000000
namespace K3
open PySem PySem.Spec PyProof.Rows L2 Pen Tr AK
section
variable {P : Program} {w : World} {K : PySem.W.Frag} {mg : Str → Option PySem.Value} {base : Heap} {f C sp : Addr} {fd : FuncData}
abbrev nWeak : List Str := ["self", "rank", "numbers", "index", "one", "two", "pair"]
theorem scWeak : FnScope nWeak ["self", "rank", "numbers"] (defScope (cFits 3)) := ⟨rfl, rfl, rfl, by decide +kernel, rfl, by decide +kernel, by decide +kernel⟩
def pairL : List (Nat × Nat) := [(0, 1), (0, 2), (0, 3), (1, 2), (1, 3), (2, 3)]
def pairD (p : Nat × Nat) : PyData := .tuple [.int p.1, .int p.2]
theorem dPairs_is : dPairs = .tuple (pairL.map pairD) := rfl
theorem ok_weak (F : FnM K "_file_weak" "Fits._file_weak" (cFits 3) f fd) (T : Txt mg) (FF : FitsF K C) (gp : mg "SIDE_PAIRS" = some (.ref sp)) (hp : ∀ H, Dp K H (.ref sp) dPairs) : FnOk P w K mg base CX0 1 f fd ["self", "rank", "numbers"] (spFile K w C "_weak" 6) := by
  refine F.ok scWeak (fun vs H Q E h => by obtain ⟨a, dx, t, fs, ls, lg, ss, gs, ns, Sl, Sd, N, r, rfl, _⟩ := h; rfl) (fun cdv A outer s0 H vs Q E hr h => ?_)
  obtain ⟨a, dx, t, fs, ls, lg, ss, gs, ns, Sl, Sd, N, r, rfl, I, q⟩ := h
  have nd := scWeak.nd
  suffices z : ∃ t', PSs (cxOf CX0 P w K mg base nWeak "Fits._file_weak" (defScope (cFits 3)) f cdv A outer s0 H E).nox (defBody (cFits 3)) t' ∧ t' { nx := fun _ H' => Q .non H', rt := Q } (start nWeak [.ref a, r, .ref t]) H by
    obtain ⟨t', h1, h2⟩ := z
    exact ⟨t', h1.nox, h2⟩
  have hu := hr.units
  refine ⟨_, pss_one (ps_for PassesOwn.never rfl (pi_enumT (by rfl) T.enum (pa_cons (pe_glob (by rfl) gp (v := .ref sp) rfl) pa_nil)) (pg_tup (by rfl) (pgs_cons (pg_name (i := 3) nd rfl (.inl rfl)) (pgs_cons (pg_tup (by rfl) (pgs_cons (pg_name (i := 4) nd rfl (.inl rfl)) (pgs_cons (pg_name (i := 5) nd rfl (.inl rfl)) pgs_nil))) pgs_nil)))
    (pss_cons (ps_set (i := 6) nd rfl (.inl rfl) (pe_tup (pa_cons (pe_ix ix_tup (pv 2) (pv 4) (fun _ _ => rfl)) (pa_cons (pe_ix ix_tup (pv 2) (pv 5) (fun _ _ => rfl)) pa_nil))))
    (pss_one (ps_if (PW.pt (pw_and (pt_cmpR op_eq (pe_ix ix_list (pe_fld (pv 0) rfl) (pe_ix ix_tup (pv 6) pe_int (fun _ _ => rfl)) (fun _ _ => rfl)) pe_int (nomark _))
        (pw_and1 (pt_cmpR op_eq (pe_ix ix_list (pe_fld (pv 0) rfl) (pe_ix ix_tup (pv 6) pe_int (fun _ _ => rfl)) (fun _ _ => rfl)) pe_int (nomark _)))))
      (pss_one (ps_expr (pe_bm PySem.F.plainAttrs_list PySem.F.slot_list_append PySem.F.type_list_append mt_append
        (pe_bmA PySem.F.slot_dict_setdefault PySem.F.type_dict_setdefault (mt_sdA hu) (pe_ix ix_list (pe_fld (pv 0) rfl) (pv 3) (fun _ _ => rfl)) (pa_cons (pv 6) (pa_cons (pe_lst pa_nil) pa_nil))) (pa_cons (pv 1) pa_nil)))) pss_nil)))), ?_⟩
  have nS : ¬ (Sl a ∨ Sd a) := I.good.nins I.at_
  have n1 : ¬ (Sl ls ∨ Sd ls) := fun z => z.elim I.nl (I.good.nlst I.li)
  have n2 : ¬ (Sl lg ∨ Sd lg) := fun z => z.elim I.ng (I.good.nlst I.lgs)
  obtain ⟨ps, hps, hpd⟩ : ∃ ps, SqT K H sp ps ∧ DpAll K H ps (pairL.map pairD) := by
    have z := hp H
    rw [dPairs_is] at z
    cases z with
    | tup a b => exact ⟨_, a, b⟩
  have pl : ps.length = 6 := by
    rw [dps_len hpd]
    rfl
  refine ⟨sp, ps, rfl, hps, ?_⟩
  refine for_it (walk_enumT (K := K) (a := sp) (xs := ps)) (fun i σ H' => (∃ o1 o2 o3 o4, σ = [some (.ref a), some r, some (.ref t), o1, o2, o3, o4]) ∧ ∃ Sl', Filed K w Sl Sd H (N + 2 * i) H' Sl') ?_ ?_ ?_ ?_
  · exact ⟨⟨none, none, none, none, rfl⟩, Sl, fun _ h => h, fun _ h => .inl h, I.good, Stay.rfl'⟩
  · rintro i σ H' hi ⟨_, Sl', Fl⟩
    exact SqT.tups (Fl.stay.tups I.good.ntup) hps
  · rintro i x σ H1 H2 hi ⟨⟨o1, o2, o3, o4, rfl⟩, Sl', Fl⟩ ⟨T1, x1, y1, rfl, nT, rfl, e1, e2⟩
    have Fg := Fl.grow (o := .tup [x1, y1]) nT
    have tg := Fg.stay.tups I.good.ntup
    obtain rfl : x1 = .int i := (Option.some.inj e1).symm
    obtain ⟨dp, hdp, hDy⟩ := dps_get hpd (show ps[i]? = some y1 from e2)
    rw [List.getElem?_map] at hdp
    obtain ⟨pr, hpr, rfl⟩ := Option.map_eq_some_iff.mp hdp
    have pb : pr.1 < 4 ∧ pr.2 < 4 := by
      have : ∀ p ∈ pairL, p.1 < 4 ∧ p.2 < 4 := by decide
      exact this pr (List.mem_of_getElem? hpr)
    have hDy2 := dp_tups tg _ _ _ (by rfl) hDy
    cases hDy2 with
    | @tup ya ys ds hys hdd =>
      obtain rfl : ys = [.int pr.1, .int pr.2] := by
        cases hdd with
        | cons h1 t1 => cases t1 with
          | cons h2 t2 =>
            cases t2
            cases h1
            cases h2
            rfl
      refine ⟨T1, _, rfl, SqT.of upd_same, rfl, _, _, rfl, _, _, rfl, ?_⟩
      have tX := SqT.tups tg I.tu
      obtain ⟨na, hna, ea⟩ : ∃ na : Nat, na < ss.length ∧ ns[pr.1]? = some (na : Int) := by
        obtain ⟨z, hz⟩ : ∃ z, ns[pr.1]? = some z := ⟨_, List.getElem?_eq_getElem (by rw [I.nn]; exact pb.1)⟩
        obtain ⟨z0, z1⟩ := I.ok z (List.mem_of_getElem? hz)
        exact ⟨z.toNat, by omega, by rw [hz]; congr 1; omega⟩
      obtain ⟨nb, hnb, eb⟩ : ∃ nb : Nat, nb < ss.length ∧ ns[pr.2]? = some (nb : Int) := by
        obtain ⟨z, hz⟩ : ∃ z, ns[pr.2]? = some z := ⟨_, List.getElem?_eq_getElem (by rw [I.nn]; exact pb.2)⟩
        obtain ⟨z0, z1⟩ := I.ok z (List.mem_of_getElem? hz)
        exact ⟨z.toNat, by omega, by rw [hz]; congr 1; omega⟩
      have ea2 : (ns.map V.int)[pr.1]? = some (V.int na) := by
        rw [List.getElem?_map, ea]
        rfl
      have eb2 : (ns.map V.int)[pr.2]? = some (V.int nb) := by
        rw [List.getElem?_map, eb]
        rfl
      refine ⟨ya, _, rfl, hys, rfl, _, _, rfl, _, _, rfl, rfl, rfl, ?_⟩
      refine ⟨_, rfl, _, rfl, t, _, pr.1, V.int na, rfl, rfl, tX, atI_nat ea2, ?_⟩
      refine ⟨_, rfl, _, rfl, t, _, pr.2, V.int nb, rfl, rfl, tX, atI_nat eb2, (by show 2 ≤ sizeLine; decide), fun pa npa => ?_⟩
      have Fp := Fg.grow (o := .tup [V.int na, V.int nb]) npa
      have aX := Fp.stay a _ I.at_ nS
      have lX := Fp.stay ls _ I.li n1
      have gX := Fp.stay lg _ I.lgs n2
      have sa : (ss.map V.int)[na]? = some (V.int ss[na]) := by
        rw [List.getElem?_map, List.getElem?_eq_getElem hna]
        rfl
      have sb : (ss.map V.int)[nb]? = some (V.int ss[nb]) := by
        rw [List.getElem?_map, List.getElem?_eq_getElem hnb]
        rfl
      refine ⟨_, rfl, a, C, dx, fs, .ref ls, rfl, aX, FF.cl, FF.st, I.f1, _, rfl, pa, _, 0, V.int na, rfl, rfl, SqT.of upd_same, rfl, ls, _, na, V.int ss[na], rfl, rfl, SqL.of lX, atI_nat sa, rfl, _, rfl, ?_⟩
      have skip : (∃ o1 o2 o3 o4, ((((([some (V.ref a), some r, some (V.ref t), o1, o2, o3, o4] : L2.St).set 3 (some (V.int i))).set 4 (some (V.int pr.1))).set 5 (some (V.int pr.2))).set 6 (some (V.ref pa))) = [some (.ref a), some r, some (.ref t), o1, o2, o3, o4]) ∧
          ∃ Sl', Filed K w Sl Sd H (N + 2 * (i + 1)) (upd (upd H1 T1 (.tup [V.int i, V.ref ya])) pa (.tup [V.int na, V.int nb])) Sl' :=
        ⟨⟨_, _, _, _, rfl⟩, Sl', Fp.sub, Fp.new, Fp.good.mono (by omega), Fp.stay⟩
      by_cases h1 : V.int ss[na] = V.int 1
      · rw [decide_eq_true h1]
        refine iteT ?_
        refine ⟨_, rfl, a, C, dx, fs, .ref ls, rfl, aX, FF.cl, FF.st, I.f1, _, rfl, pa, _, 1, V.int nb, rfl, rfl, SqT.of upd_same, rfl, ls, _, nb, V.int ss[nb], rfl, rfl, SqL.of lX, atI_nat sb, rfl, _, rfl, ?_⟩
        by_cases h2 : V.int ss[nb] = V.int 1
        · rw [decide_eq_true h2]
          refine iteT ?_
          have hi6 : i < 6 := by
            rw [← pl]
            exact hi
          have hg : i < gs.length := by
            rw [I.len]
            exact hi6
          have eg : (gs.map V.ref)[i]? = some (V.ref gs[i]) := by
            rw [List.getElem?_map, List.getElem?_eq_getElem hg]
            rfl
          refine ⟨_, rfl, a, C, dx, fs, .ref lg, rfl, aX, FF.cl, FF.wk, I.f2, _, rfl, lg, _, i, V.ref gs[i], rfl, rfl, SqL.of gX, atI_nat eg, ?_⟩
          obtain ⟨es2, e3, D3, _⟩ := Fp.good.ds _ (I.gd _ (List.getElem_mem hg))
          refine ⟨⟨_, es2, rfl, .inl e3⟩, _, rfl, (by show 0 ≤ sizeLine; decide), fun p np => ?_⟩
          refine rd_nil ?_
          refine sd_app Fp (I.gd _ (List.getElem_mem hg)) (k := .tup [.num na, .num nb]) ⟨.tuple [.int na, .int nb], .tup (SqT.of upd_same) (.cons (.int _) (.cons (.int _) .nil)), rfl⟩ (by show 1 ≤ 8; decide) ?_ np fun l H2 xs el hx st2 next ty => ?_
          · have := I.few.1
            omega
          · refine ⟨ty, _, rfl, l, xs, r, rfl, rfl, el, hx, ?_⟩
            obtain ⟨S2, F2⟩ := next r
            exact ⟨⟨_, _, _, _, rfl⟩, S2, F2⟩
        · rw [decide_eq_false h2]
          refine iteF skip
      · rw [decide_eq_false h1]
        refine iteF ?_
        refine iteF skip
  · rintro σ H' ⟨⟨o1, o2, o3, o4, rfl⟩, Sl', Fl⟩
    rw [pl] at Fl
    exact q H' Sl' Fl
end
end K3

set_option Elab.async false
set_option linter.all false
set_option maxRecDepth 100000
set_option maxHeartbeats 8000000
namespace K3
open PySem PySem.Spec PyProof.Rows L2 Pen Tr AK
theorem at_new {T : Hp → Prop} {H1 : Hp} (h : ∀ H2, H2 = H1 → T H2) : T H1 := h H1 rfl
/-- a list of empty dicts, as far as it is made -/
def Dicts (w : World) (Hb : Hp) (D : Addr) (i : Nat) (H' : Hp) : Prop := Same Hb H' ∧ ∃ ds : List Addr, H' D = some (.lst (ds.map V.ref)) ∧ ds.length = i ∧ ∀ d ∈ ds, H' d = some (DkO w d []) ∧ Hb d = none
theorem Dicts.start {w : World} {Hb : Hp} {D : Addr} (n : Hb D = none) : Dicts w Hb D 0 (upd Hb D (.lst [])) := ⟨same_upd n, [], upd_same, rfl, fun _ h => nomatch h⟩
theorem Dicts.turn {w : World} {Hb H' : Hp} {D : Addr} {i : Nat} (nD : Hb D = none) (p : Dicts w Hb D i H') (hi : i < 1000) : tDNewA w ([] : L2.St) H' fun y H4 => ∃ acc, H4 D = some (.lst acc) ∧ acc.length < sizeLine ∧ Dicts w Hb D (i + 1) (upd H4 D (.lst (acc ++ [y]))) := by
  obtain ⟨p1, ds, p2, p3, p4⟩ := p
  intro d nd'
  have s1 := same_upd (o := DkO w d []) nd'
  refine ⟨_, s1 _ _ p2, ?_, ?_⟩
  · rw [List.length_map, p3, sizeLine_eq]
    omega
  · refine ⟨?_, ds ++ [d], ?_, ?_, ?_⟩
    · intro b u eb
      rw [upd_ne (ne_of_none eb nD)]
      exact s1 _ _ (p1 _ _ eb)
    · rw [upd_same, List.map_append]
      rfl
    · rw [List.length_append, p3]
      rfl
    · intro d' hd'
      have nD : d' ≠ D := by
        rintro rfl
        rcases List.mem_append.mp hd' with z | z
        · have := (p4 _ z).1
          rw [p2] at this
          exact nomatch (show HO.lst _ = DkO w _ [] from Option.some.inj this)
        · obtain rfl := List.mem_singleton.mp z
          rw [p2] at nd'
          cases nd'
      rw [upd_ne nD]
      rcases List.mem_append.mp hd' with z | z
      · exact ⟨s1 _ _ (p4 _ z).1, (p4 _ z).2⟩
      · obtain rfl := List.mem_singleton.mp z
        refine ⟨upd_same, ?_⟩
        cases q2 : Hb d' with
        | none => rfl
        | some o =>
          rw [p1 _ _ q2] at nd'
          cases nd'
theorem _root_.Tr.Filed.comp {K : PySem.W.Frag} {w : World} {Sl Sd S1 S2 : Addr → Prop} {H H1 H2 : Hp} {N M : Nat} (F1 : Filed K w Sl Sd H N H1 S1) (F2 : Filed K w S1 Sd H1 M H2 S2) : Filed K w Sl Sd H M H2 S2 := by
  refine ⟨fun l h => F2.sub l (F1.sub l h), fun l h => ?_, F2.good, fun b o e n => ?_⟩
  · rcases F2.new l h with z | z
    · exact F1.new l z
    · by_cases s1 : Sl l
      · exact .inl s1
      · refine .inr ?_
        cases q : H l with
        | none => rfl
        | some o =>
          by_cases s2 : Sd l
          · obtain ⟨es, a, _⟩ := F1.good.ds l s2
            rw [a] at z
            cases z
          · rw [F1.stay l o q (fun y => y.elim s1 s2)] at z
            cases z
  · refine F2.stay b o (F1.stay b o e n) fun z => ?_
    rcases z with z | z
    · rcases F1.new b z with y | y
      · exact n (.inl y)
      · rw [e] at y
        cases y
    · exact n (.inr z)
/-- a row of numbers that have strengths -/
def NumRow (K : PySem.W.Frag) (H : Hp) (m : Nat) (v : V) : Prop := ∃ p ns, v = .ref p ∧ SqT K H p (List.map V.int ns) ∧ ns.length = 4 ∧ ∀ n ∈ ns, 0 ≤ n ∧ n < (m : Int)
theorem NumRow.keep {K : PySem.W.Frag} {H H' : Hp} {m m' : Nat} {v : V} (r : NumRow K H m v) (t : Tups H H') (h : m ≤ m') : NumRow K H' m' v := by
  obtain ⟨p, ns, e, s, l, n⟩ := r
  exact ⟨p, ns, e, SqT.tups t s, l, fun x hx => ⟨(n x hx).1, by have := (n x hx).2; omega⟩⟩
theorem _root_.Tr.Nums.mono {K : PySem.W.Frag} {w : World} {H : Hp} {dn ls : Addr} {es : List Eh} {ss : List Int} {m m' : Nat} (N : Nums K w H dn ls es ss m) (h : m ≤ m') : Nums K w H dn ls es ss m' := ⟨N.dk, N.da, N.vals, N.li, Nat.le_trans N.few h⟩
theorem _root_.Tr.Nums.grow {K : PySem.W.Frag} {w : World} {H : Hp} {dn ls : Addr} {es : List Eh} {ss : List Int} {m : Nat} (N : Nums K w H dn ls es ss m) {p : Addr} {o : HO} (h1 : dn ≠ p) (h2 : ls ≠ p) (t : ∀ xs, ¬ Rd H p (.tup xs)) : Nums K w (upd H p o) dn ls es ss m :=
  N.keep (Tups.upd t) (by rw [upd_ne h1]; exact N.dk) (by rw [upd_ne h2]; exact N.li)
theorem none_ntup {H : Hp} {p : Addr} (n : H p = none) : ∀ xs, ¬ Rd H p (.tup xs) := fun xs h => by
  unfold Rd at h
  rw [n] at h
  rcases h with h | ⟨_, h⟩ <;> cases h
theorem _root_.Tr.Nums.ntup {K : PySem.W.Frag} {w : World} {H : Hp} {dn ls : Addr} {es : List Eh} {ss : List Int} {m : Nat} (N : Nums K w H dn ls es ss m) : ∀ b, (b = dn ∨ b = ls) → ∀ xs, ¬ Rd H b (.tup xs) := by
  rintro b (rfl | rfl)
  · exact dk_ntup N.dk
  · exact lst_ntup N.li
/-- a glue as a value, a datum, a key -/
structure GlueOk (K : PySem.W.Frag) (H : Hp) (g : V) : Prop where
  is : ∃ d k, Dp K H g d ∧ keyD d = some k ∧ k.depth ≤ 8 ∧ isGlueD d = true
theorem GlueOk.tups {K : PySem.W.Frag} {H H' : Hp} {g : V} (o : GlueOk K H g) (t : Tups H H') : GlueOk K H' g := by
  obtain ⟨d, k, a, b, c, e⟩ := o.is
  exact ⟨d, k, dp_tups t d g k b a, b, c, e⟩
/-- a row: the four glues of a tile -/
structure RowOk (K : PySem.W.Frag) (H : Hp) (v : V) : Prop where
  is : ∃ t gs, v = .ref t ∧ SqT K H t gs ∧ gs.length = 4 ∧ ∀ g ∈ gs, GlueOk K H g
theorem RowOk.tups {K : PySem.W.Frag} {H H' : Hp} {v : V} (o : RowOk K H v) (t : Tups H H') : RowOk K H' v := by
  obtain ⟨a, gs, e, s, l, g⟩ := o.is
  exact ⟨a, gs, e, SqT.tups t s, l, fun x hx => (g x hx).tups t⟩
section
variable {P : Program} {w : World} {K : PySem.W.Frag} {mg : Str → Option PySem.Value} {base : Heap} {f C sp fN fS fW : Addr} {fd fdN fdS fdW : FuncData}
def spFits (K : PySem.W.Frag) (C : Addr) : Sp := fun vs H Q _ => ∃ a dx lr rows, vs = [.ref a, .ref lr] ∧ H a = some (.ins C dx []) ∧ SqL K H lr rows ∧ rows.length ≤ 1000 ∧ (∀ r ∈ rows, RowOk K H r) ∧ ∀ H', But a H H' → (∃ fs, H' a = some (.ins C dx fs)) → Q .non H'
/-- the reading of a row's tuple of numbers -/
def tSides (K : PySem.W.Frag) (w : World) (C : Addr) : TE := tCB (fun xs H Q => ∃ p ys, xs = [.ref p] ∧ ((SqL K H p ys ∧ ∀ l, H l = none → Q (.ref l) (upd H l (.tup ys))) ∨ (SqT K H p ys ∧ Q (.ref p) H)))
  (tCons (tLc (iTup K (tVar 5)) (gName 6) tYes (tMeth C "_number_of" (spNum K w C) [] E0 (tVar 0) (tCons (tVar 6) tNil)) [6]) tNil)
abbrev nFits : List Str := ["self", "rows", "rank", "numbers", "_", "glues", "glue"]
theorem scFits : FnScope nFits ["self", "rows"] (defScope (cFits 0)) := ⟨rfl, rfl, rfl, by decide +kernel, rfl, by decide +kernel, by decide +kernel⟩
theorem ok_fits (F : FnM K "__init__" "Fits.__init__" (cFits 0) f fd) (T : Txt mg) (FF : FitsF K C) (gp : mg "SIDE_PAIRS" = some (.ref sp)) (hp : ∀ H, Dp K H (.ref sp) dPairs)
    (FN : FnM K "_number_of" "Fits._number_of" (cFits 1) fN fdN) (MN : Meth K C "_number_of" fN) (FS : FnM K "_file_strong" "Fits._file_strong" (cFits 2) fS fdS) (MS : Meth K C "_file_strong" fS) (FW : FnM K "_file_weak" "Fits._file_weak" (cFits 3) fW fdW) (MW : Meth K C "_file_weak" fW) :
    FnOk P w K mg base CX0 2 f fd ["self", "rows"] (spFits K C) := by
  refine F.ok scFits (fun vs H Q E h => by obtain ⟨a, dx, lr, rows, rfl, _⟩ := h; rfl) (fun cdv A outer s0 H vs Q E hr h => ?_)
  obtain ⟨a, dx, lr, rows, rfl, ha, hrows, hl, hro, q⟩ := h
  have nd := scFits.nd
  suffices z : ∃ t', PSs (cxOf CX0 P w K mg base nFits "Fits.__init__" (defScope (cFits 0)) f cdv A outer s0 H E).nox (defBody (cFits 0)) t' ∧ t' { nx := fun _ H' => Q .non H', rt := Q } (start nFits [.ref a, .ref lr]) H by
    obtain ⟨t', h1, h2⟩ := z
    exact ⟨t', h1.nox, h2⟩
  have hu := hr.units
  have GN := ok_num (P := P) (w := w) (mg := mg) (base := base) FN T FF
  have GS := ok_strong (P := P) (w := w) (mg := mg) (base := base) FS T FF
  have GW := ok_weak (P := P) (w := w) (mg := mg) (base := base) FW T FF gp hp
  have bN : L2.Binds K fdN ["self", "glue"] [] := FunD.bindsN FN fun _ _ _ _ _ _ us hl => match us, hl with | [_, _], _ => rfl
  have bS : L2.Binds K fdS ["self", "rank", "numbers"] [] := FunD.bindsN FS fun _ _ _ _ _ _ us hl => match us, hl with | [_, _, _], _ => rfl
  have bW : L2.Binds K fdW ["self", "rank", "numbers"] [] := FunD.bindsN FW fun _ _ _ _ _ _ us hl => match us, hl with | [_, _, _], _ => rfl
  refine ⟨_, pss_cons (ps_fld (pv 0) pe_dnewA rfl) (pss_cons (ps_fld (pv 0) (pe_lst (pa_cons pe_int pa_nil)) rfl)
    (pss_cons (ps_fld (pv 0) (pe_lc (own := [("_", 4)]) (g := gName 4) (tt := tYes) (te := tDNewA w) (by rfl) nd (pi_range1 (by rfl) T.range (pa_cons pe_int pa_nil)) (blkOk_by (own := [("_", 4)]) (N := nFits) (sc := defScope (cFits 0)) (by decide +kernel))
        (fun _ _ _ _ _ => pg_name (i := 4) nd rfl (Or.inl rfl)) (fun _ _ _ _ _ => pts_nil) (fun _ _ _ _ _ => pe_dnewA)) rfl)
    (pss_cons (ps_fld (pv 0) (pe_lc (own := [("_", 4)]) (g := gName 4) (tt := tYes) (te := tDNewA w) (by rfl) nd (pi_tup (pe_glob (by rfl) gp (v := .ref sp) rfl)) (blkOk_by (own := [("_", 4)]) (N := nFits) (sc := defScope (cFits 0)) (by decide +kernel))
        (fun _ _ _ _ _ => pg_name (i := 4) nd rfl (Or.inl rfl)) (fun _ _ _ _ _ => pts_nil) (fun _ _ _ _ _ => pe_dnewA)) rfl)
    (pss_cons (ps_fld (pv 0) (pe_lc (own := [("glues", 5)]) (g := gName 5) (tt := tYes) (te := tSides K w C) (by rfl) nd (pi_list (pv 1)) (blkOk_by (own := [("glues", 5)]) (N := nFits) (sc := defScope (cFits 0)) (by decide +kernel))
        (fun _ _ _ _ _ => pg_name (i := 5) nd rfl (Or.inl rfl)) (fun _ _ _ _ _ => pts_nil) (fun s1 H1 C1 cl1 fp1 => pe_callTy call_tuple_of (by rfl) T.tuple (by decide +kernel) (pa_cons
          (pe_lc (own := [("glue", 6)]) (g := gName 6) (tt := tYes) (by rfl) nd (pi_tup (pv 5)) (blkOk_by (own := [("glue", 6)]) (N := nFits) (by rfl))
            (fun _ _ _ _ _ => pg_name (i := 6) nd rfl (Or.inl rfl)) (fun _ _ _ _ _ => pts_nil) (fun _ _ _ _ _ => pe_meth (pv 0) FF.cl MN GN hr bN .nil pass0 (pa_cons (pv 6) pa_nil))) pa_nil))) rfl)
    (pss_one (ps_for PassesOwn.never rfl (pi_enum (by rfl) T.enum (pa_cons (pe_fld (pv 0) rfl) pa_nil)) (pg_tup (by rfl) (pgs_cons (pg_name (i := 2) nd rfl (.inl rfl)) (pgs_cons (pg_name (i := 3) nd rfl (.inl rfl)) pgs_nil)))
      (pss_cons (ps_expr (pe_meth (pv 0) FF.cl MS GS hr bS .nil pass0 (pa_cons (pv 2) (pa_cons (pv 3) pa_nil)))) (pss_one (ps_expr (pe_meth (pv 0) FF.cl MW GW hr bW .nil pass0 (pa_cons (pv 2) (pa_cons (pv 3) pa_nil)))))))))))), ?_⟩
  -- the empty tables
  intro dn ndn
  refine ⟨_, rfl, a, C, dx, [], rfl, (by rw [upd_ne (ne_of_none ha ndn)]; exact ha), FF.cl, FF.nu, (by show 0 < 1000; decide), ?_⟩
  have nda : dn ≠ a := Ne.symm (ne_of_none ha ndn)
  refine at_new fun H1 e1 => ?_
  have a1 : H1 a = some (.ins C dx [("_numbers", .ref dn)]) := by
    rw [e1]
    exact upd_same
  have d1 : H1 dn = some (DkO w dn []) := by
    rw [e1, upd_ne nda]
    exact upd_same
  have b1 : But a H H1 := by
    rw [e1]
    exact But.upd (But.same (same_upd ndn))
  clear e1
  -- the list of strengths
  refine ⟨(by show 1 ≤ sizeLine; decide), fun ls nls => ?_⟩
  have nla : ls ≠ a := Ne.symm (ne_of_none a1 nls)
  refine ⟨_, rfl, a, C, dx, _, rfl, (by rw [upd_ne (Ne.symm nla)]; exact a1), FF.cl, FF.st, (by show 1 < 1000; decide), ?_⟩
  refine at_new fun H2 e2 => ?_
  have a2 : H2 a = some (.ins C dx [("_numbers", .ref dn), ("_strengths", .ref ls)]) := by
    rw [e2]
    exact upd_same
  have l2 : H2 ls = some (.lst ([0].map V.int)) := by
    rw [e2, upd_ne nla]
    exact upd_same
  have d2 : H2 dn = some (DkO w dn []) := by
    rw [e2, upd_ne nda, upd_ne (ne_of_none d1 nls)]
    exact d1
  have b2 : But a H H2 := by
    rw [e2]
    exact But.trans b1 (But.upd (But.same (same_upd nls)))
  clear e2
  have N2 : Nums K w H2 dn ls [] [0] 1 := ⟨d2, ⟨.inl d2, (fun _ h => nomatch h), List.nodup_nil⟩, (fun _ h => nomatch h), l2, by decide⟩
  -- four empty dicts
  refine ⟨4, rfl, by decide, by decide, fun D3 nD3 => ?_⟩
  refine lc_range (lo := 0) (n := 4) (fun i H' => Dicts w H2 D3 i H') (Dicts.start nD3) (fun i H' hi p => ⟨rfl, yes_if (Dicts.turn nD3 p (by omega))⟩) fun H3 p => ?_
  obtain ⟨s3, ds3, l3, n3, e3⟩ := p
  refine ⟨_, rfl, a, C, dx, _, rfl, s3 _ _ a2, FF.cl, FF.sg, (by show 2 < 1000; decide), ?_⟩
  refine at_new fun H4 e4 => ?_
  have nd3 : D3 ≠ a := ne_of l3 (s3 _ _ a2) (fun z => nomatch z)
  have a4 : H4 a = some (.ins C dx [("_numbers", .ref dn), ("_strengths", .ref ls), ("_strong", .ref D3)]) := by
    rw [e4]
    exact upd_same
  have t4 : ∀ b o, H3 b = some o → b ≠ a → H4 b = some o := fun b o e n => by
    rw [e4, upd_ne n]
    exact e
  have b4 : But a H H4 := But.trans b2 (But.trans (But.same s3) t4)
  clear e4
  -- six empty dicts
  obtain ⟨ps, hps, hpd⟩ : ∃ ps, SqT K H4 sp ps ∧ DpAll K H4 ps (pairL.map pairD) := by
    have z := hp H4
    rw [dPairs_is] at z
    cases z with
    | tup a b => exact ⟨_, a, b⟩
  have pl : ps.length = 6 := by
    rw [dps_len hpd]
    rfl
  refine ⟨sp, rfl, ⟨_, hps⟩, fun D5 nD5 => ?_⟩
  refine lc_tup (K := K) (a := sp) (xs := ps) (fun i H' => Dicts w H4 D5 i H') (Dicts.start nD5) (fun i H' hi p => SqT.tups (fun x xs h => same_rd p.1 h) hps) (fun i x H' hx p => ⟨rfl, yes_if (Dicts.turn nD5 p (by have := (List.getElem?_eq_some_iff.mp hx).1; omega))⟩) fun H5 p => ?_
  obtain ⟨s5, ds5, l5, n5, e5⟩ := p
  refine ⟨_, rfl, a, C, dx, _, rfl, s5 _ _ a4, FF.cl, FF.wk, (by show 3 < 1000; decide), ?_⟩
  refine at_new fun H6 e6 => ?_
  have a6 : H6 a = some (.ins C dx [("_numbers", .ref dn), ("_strengths", .ref ls), ("_strong", .ref D3), ("_weak", .ref D5)]) := by
    rw [e6]
    exact upd_same
  have t6 : ∀ b o, H5 b = some o → b ≠ a → H6 b = some o := fun b o e n => by
    rw [e6, upd_ne n]
    exact e
  have b6 : But a H H6 := But.trans b4 (But.trans (But.same s5) t6)
  clear e6
  have nd5 : D5 ≠ a := ne_of l5 (s5 _ _ a4) (fun z => nomatch z)
  have k36 : ∀ b o, H3 b = some o → b ≠ a → H6 b = some o := fun b o e n => t6 b o (s5 _ _ (t4 b o e n)) n
  have k26 : ∀ b o, H2 b = some o → b ≠ a → H6 b = some o := fun b o e n => k36 b o (s3 _ _ e) n
  have N6 : Nums K w H6 dn ls [] [0] 1 := ⟨k26 _ _ d2 nda, ⟨.inl (k26 _ _ d2 nda), (fun _ h => nomatch h), List.nodup_nil⟩, (fun _ h => nomatch h), k26 _ _ l2 nla, by decide⟩
  have l36 : H6 D3 = some (.lst (ds3.map V.ref)) := k36 _ _ l3 nd3
  have l56 : H6 D5 = some (.lst (ds5.map V.ref)) := t6 _ _ l5 nd5
  have g3 : ∀ d ∈ ds3, H6 d = some (DkO w d []) ∧ d ≠ dn := fun d hd => by
    obtain ⟨z1, z2⟩ := e3 d hd
    refine ⟨k36 _ _ z1 (ne_of z1 (s3 _ _ a2) (fun z => nomatch z)), ?_⟩
    rintro rfl
    rw [d2] at z2
    cases z2
  have g5 : ∀ d ∈ ds5, H6 d = some (DkO w d []) ∧ d ≠ dn := fun d hd => by
    obtain ⟨z1, z2⟩ := e5 d hd
    refine ⟨t6 _ _ z1 (ne_of z1 (s5 _ _ a4) (fun z => nomatch z)), ?_⟩
    rintro rfl
    rw [t4 _ _ (s3 _ _ d2) nda] at z2
    cases z2
  have r6 : SqL K H6 lr rows := by
    refine hrows.elim (fun z => .inl ?_) .inr
    rcases z with z | ⟨o, z⟩
    · exact .inl (b6 _ _ z (ne_of z ha (fun z => nomatch z)))
    · exact .inr ⟨o, b6 _ _ z (ne_of z ha (fun z => nomatch z))⟩
  have tu6 : Tups H H6 := fun b xs z => z.elim (fun z => .inl (b6 _ _ z (ne_of z ha (fun z => nomatch z)))) fun ⟨o, z⟩ => .inr ⟨o, b6 _ _ z (ne_of z ha (fun z => nomatch z))⟩
  have ro6 : ∀ r ∈ rows, RowOk K H6 r := fun r hr => (hro r hr).tups tu6
  have rk6 : ∀ H', Stay (fun b => b = dn ∨ b = ls) H6 H' → SqL K H' lr rows := fun H' st => by
    rcases hrows with z | z
    · have nn : lr ≠ dn ∧ lr ≠ ls ∧ lr ≠ a := by
        have there : ∃ u, H lr = some u := z.elim (fun z => ⟨_, z⟩) fun ⟨o, z⟩ => ⟨_, z⟩
        obtain ⟨u, hu⟩ := there
        have na : lr ≠ a := by
          rintro rfl
          rw [ha] at hu
          cases hu
          rcases z with z | ⟨_, z⟩ <;> rw [ha] at z <;> cases z
        exact ⟨ne_of_none hu ndn, ne_of_none (b1 _ _ hu na) nls, na⟩
      refine .inl ?_
      rcases z with z | ⟨o, z⟩
      · exact .inl (st _ _ (b6 _ _ z nn.2.2) (by rintro (q | q); exact nn.1 q; exact nn.2.1 q))
      · exact .inr ⟨o, st _ _ (b6 _ _ z nn.2.2) (by rintro (q | q); exact nn.1 q; exact nn.2.1 q)⟩
    · exact .inr z
  have q35 : D3 ≠ ls ∧ D3 ≠ dn ∧ D5 ≠ ls ∧ D5 ≠ dn :=
    ⟨(ne_of_none l2 nD3).symm, (ne_of_none d2 nD3).symm, (ne_of_none (t4 _ _ (s3 _ _ l2) nla) nD5).symm, (ne_of_none (t4 _ _ (s3 _ _ d2) nda) nD5).symm⟩
  have fresh : ∀ d, (d ∈ ds3 ∨ d ∈ ds5) → ∀ o, H d = some o → d ≠ a → False := fun d hd o e n => by
    rcases hd with hd | hd
    · have z := (e3 d hd).2
      rw [b2 _ _ e n] at z
      cases z
    · have z := (e5 d hd).2
      rw [b4 _ _ e n] at z
      cases z
  clear e3 e5 t4 t6 k36 k26 hps hpd
  have nS6 : ¬ (a = dn ∨ a = ls) := by
    rintro (z | z)
    · exact nda z.symm
    · exact nla z.symm
  refine ⟨_, rfl, lr, rfl, ⟨_, r6⟩, fun D7 nD7 => ?_⟩
  have d7n : dn ≠ D7 := ne_of_none N6.dk nD7
  have d7l : ls ≠ D7 := ne_of_none N6.li nD7
  refine lc_list (K := K) (a := lr) (xs := rows) (fun i H' => ∃ es ss ts, Nums K w H' dn ls es ss (1 + 8 * i) ∧ H' D7 = some (.lst ts) ∧ ts.length = i ∧ (∀ t ∈ ts, NumRow K H' ss.length t) ∧ Stay (fun b => b = dn ∨ b = ls) H6 H')
    ⟨[], [0], [], N6.grow d7n d7l (none_ntup nD7), upd_same, rfl, (fun _ h => nomatch h), Stay.of (same_upd nD7)⟩ (fun i H' hi p => by
      obtain ⟨es, ss, ts, _, _, _, _, st⟩ := p
      exact rk6 H' st) ?_ ?_
  · intro i x H' hx p
    obtain ⟨es, ss, ts, N7, l7, n7, r7, st7⟩ := p
    have few : i < 1000 := by
      have := (List.getElem?_eq_some_iff.mp hx).1
      omega
    have tu7 := st7.tups N6.ntup
    obtain ⟨t, gs, rfl, sq, gl, gk⟩ := ((ro6 x (List.mem_of_getElem? hx)).tups tu7).is
    refine ⟨rfl, yes_if ?_⟩
    refine ⟨_, rfl, t, rfl, ⟨_, sq⟩, fun D8 nD8 => ?_⟩
    have d8n : dn ≠ D8 := ne_of_none N7.dk nD8
    have d8l : ls ≠ D8 := ne_of_none N7.li nD8
    have d78 : D7 ≠ D8 := ne_of_none l7 nD8
    refine lc_tup (K := K) (a := t) (xs := gs) (fun j H'' => ∃ es2 ss2 ns, Nums K w H'' dn ls es2 ss2 (1 + 8 * i + 2 * j) ∧ H'' D8 = some (.lst (List.map V.int ns)) ∧ ns.length = j ∧ (∀ n ∈ ns, 0 ≤ n ∧ n < (ss2.length : Int)) ∧ ss.length ≤ ss2.length ∧ Stay (fun b => b = dn ∨ b = ls) H' H'')
      ⟨es, ss, [], N7.grow d8n d8l (none_ntup nD8), upd_same, rfl, (fun _ h => nomatch h), Nat.le_refl _, Stay.of (same_upd nD8)⟩ (fun j H'' hj p => by
        obtain ⟨es2, ss2, ns, _, _, _, _, _, st⟩ := p
        exact SqT.tups (st.tups N7.ntup) sq) ?_ ?_
    · intro j g H'' hg p
      obtain ⟨es2, ss2, ns, N8, l8, n8, r8, le8, st8⟩ := p
      have j4 : j < 4 := by
        rw [← gl]
        exact (List.getElem?_eq_some_iff.mp hg).1
      obtain ⟨d, k, hd, hk, kd, ig⟩ := ((gk g (List.mem_of_getElem? hg)).tups (st8.tups N7.ntup)).is
      have a8 := (st7.trans st8) _ _ a6 nS6
      refine ⟨rfl, yes_if ?_⟩
      refine ⟨_, rfl, a, dx, _, rfl, a8, rfl, _, rfl, a, dx, _, dn, ls, es2, ss2, _, g, d, k, rfl, a8, rfl, rfl, N8, by omega, hd, hk, kd, ig, fun n H9 es9 ss9 n0 n1 N9 le9 st9 => ?_⟩
      have l9 : H9 D8 = some (.lst (List.map V.int ns)) := st9 _ _ l8 (by rintro (z | z); exact d8n z.symm; exact d8l z.symm)
      refine ⟨_, l9, ?_, es9, ss9, ns ++ [n], (N9.grow d8n d8l (lst_ntup l9)).mono (by omega), ?_, ?_, ?_, by omega, ?_⟩
      · rw [List.length_map, n8, sizeLine_eq]
        omega
      · rw [upd_same, List.map_append]
        rfl
      · rw [List.length_append, n8]
        rfl
      · intro m hm
        rcases List.mem_append.mp hm with z | z
        · exact ⟨(r8 m z).1, by have := (r8 m z).2; omega⟩
        · obtain rfl := List.mem_singleton.mp z
          exact ⟨n0, n1⟩
      · exact (st8.trans st9).new nD8
    · intro H'' p
      obtain ⟨es2, ss2, ns, N8, l8, n8, r8, le8, st8⟩ := p
      refine ⟨D8, _, rfl, .inl ⟨SqL.of l8, fun tp ntp => ?_⟩⟩
      have l7' : H'' D7 = some (.lst ts) := st8 _ _ l7 (by rintro (z | z); exact d7n z.symm; exact d7l z.symm)
      have n1 : dn ≠ tp := ne_of_none N8.dk ntp
      have n2 : ls ≠ tp := ne_of_none N8.li ntp
      have n3' : D7 ≠ tp := ne_of_none l7' ntp
      have N9 := N8.grow (o := .tup (List.map V.int ns)) n1 n2 (none_ntup ntp)
      have l9 : upd H'' tp (.tup (List.map V.int ns)) D7 = some (.lst ts) := by
        rw [upd_ne n3']
        exact l7'
      refine ⟨ts, l9, ?_, es2, ss2, ts ++ [.ref tp], (N9.grow d7n d7l (lst_ntup l9)).mono (by omega), upd_same, ?_, ?_, ?_⟩
      · rw [n7, sizeLine_eq]
        omega
      · rw [List.length_append, n7]
        rfl
      · have tt : Tups H'' (upd (upd H'' tp (.tup (List.map V.int ns))) D7 (.lst (ts ++ [.ref tp]))) := (Tups.new ntp).trans (Tups.upd (lst_ntup l9))
        intro v hv
        rcases List.mem_append.mp hv with z | z
        · exact (r7 v z).keep ((st8.tups N7.ntup).trans tt) le8
        · obtain rfl := List.mem_singleton.mp z
          refine ⟨tp, ns, rfl, SqT.of ?_, by rw [n8, gl], r8⟩
          rw [upd_ne (Ne.symm n3')]
          exact upd_same
      · exact ((st7.trans st8).newNow ntp).new nD7
  · intro H7 p
    obtain ⟨es, ss, ts, N7, l7, n7, r7, st7⟩ := p
    have a7 := st7 _ _ a6 nS6
    refine ⟨_, rfl, a, C, dx, _, rfl, a7, FF.cl, FF.sd, (by show 4 < 1000; decide), ?_⟩
    refine at_new fun H8 e8 => ?_
    have nd7 : D7 ≠ a := ne_of l7 a7 (fun z => nomatch z)
    have a8 : H8 a = some (.ins C dx [("_numbers", .ref dn), ("_strengths", .ref ls), ("_strong", .ref D3), ("_weak", .ref D5), ("_sides", .ref D7)]) := by
      rw [e8]
      exact upd_same
    have t8 : ∀ b o, H7 b = some o → b ≠ a → H8 b = some o := fun b o e n => by
      rw [e8, upd_ne n]
      exact e
    have b8 : But a H H8 := fun b o e n => by
      have nn : ¬ (b = dn ∨ b = ls) := by
        rintro (rfl | rfl)
        · rw [ndn] at e
          cases e
        · rw [b1 _ _ e n] at nls
          cases nls
      exact t8 _ _ (st7 _ _ (b6 _ _ e n) nn) n
    have tu8 : Tups H7 H8 := fun b xs z => z.elim (fun z => .inl (t8 _ _ z (ne_of z a7 (fun z => nomatch z)))) fun ⟨o, z⟩ => .inr ⟨o, t8 _ _ z (ne_of z a7 (fun z => nomatch z))⟩
    clear e8
    have li8 : H8 ls = some (.lst (ss.map V.int)) := t8 _ _ N7.li nla
    have l38 : H8 D3 = some (.lst (ds3.map V.ref)) := t8 _ _ (st7 _ _ l36 (by rintro (z | z); exact q35.2.1 z; exact q35.1 z)) nd3
    have l58 : H8 D5 = some (.lst (ds5.map V.ref)) := t8 _ _ (st7 _ _ l56 (by rintro (z | z); exact q35.2.2.2 z; exact q35.2.2.1 z)) nd5
    have l78 : H8 D7 = some (.lst ts) := t8 _ _ l7 nd7
    have r8 : ∀ t ∈ ts, NumRow K H8 ss.length t := fun t ht => (r7 t ht).keep tu8 (Nat.le_refl _)
    have dd : ∀ d, (d ∈ ds3 ∨ d ∈ ds5) → H8 d = some (DkO w d []) := fun d hd => by
      obtain ⟨z1, z2⟩ : H6 d = some (DkO w d []) ∧ d ≠ dn := hd.elim (g3 d) (g5 d)
      have z3 : d ≠ ls := ne_of z1 N6.li (fun z => nomatch z)
      have z4 := st7 _ _ z1 (by rintro (z | z); exact z2 z; exact z3 z)
      exact t8 _ _ z4 (ne_of z4 a7 (fun z => nomatch z))
    have G8 : Good K w (fun _ => False) (fun d => d ∈ ds3 ∨ d ∈ ds5) 0 H8 :=
      ⟨fun d hd => ⟨[], dd d hd, ⟨.inl (dd d hd), (fun _ h => nomatch h), List.nodup_nil⟩, Nat.le_refl _, fun _ h => nomatch h⟩, fun _ h => h.elim⟩
    have out : ∀ {b : Addr} {xs : List V}, H8 b = some (.lst xs) → ¬ (False ∨ (b ∈ ds3 ∨ b ∈ ds5)) := fun e z => z.elim id fun z => by
      rw [dd _ z] at e
      exact nomatch (show DkO w _ [] = HO.lst _ from Option.some.inj e)
    have outA : ¬ (False ∨ (a ∈ ds3 ∨ a ∈ ds5)) := fun z => z.elim id fun z => by
      have e := a8
      rw [dd _ z] at e
      exact nomatch (show DkO w _ [] = HO.ins _ _ _ from Option.some.inj e)
    have few8 : ss.length ≤ 1000000 := by
      have := N7.few
      omega
    refine ⟨_, rfl, a, C, dx, _, .ref D7, rfl, a8, FF.cl, FF.sd, rfl, D7, ts, rfl, SqL.of l78, ?_⟩
    refine for_it (walk_enum (K := K) (a := D7) (xs := ts)) (fun i σ H' => (∃ o1 o2 o3 o4 o5, σ = [some (.ref a), some (.ref lr), o1, o2, o3, o4, o5]) ∧ ∃ Sl', Filed K w (fun _ => False) (fun d => d ∈ ds3 ∨ d ∈ ds5) H8 (20 * i) H' Sl') ?_ ?_ ?_ ?_
    · exact ⟨⟨none, none, none, none, none, rfl⟩, _, fun _ h => h, fun _ h => .inl h, G8, Stay.rfl'⟩
    · rintro i σ H' hi ⟨_, Sl', Fl⟩
      exact SqL.of (Fl.stay _ _ l78 (out l78))
    · rintro i x σ Ha Hb hi ⟨⟨o1, o2, o3, o4, o5, rfl⟩, Sl', Fl⟩ ⟨T1, x1, y1, rfl, nT, rfl, e1, e2⟩
      obtain rfl : x1 = .int i := (Option.some.inj e1).symm
      obtain ⟨p, ns, rfl, sq, nn, nk⟩ := r8 y1 (List.mem_of_getElem? (show ts[i]? = some y1 from e2))
      have hi2 : i < 1000 := by omega
      have Fg := Fl.grow (o := .tup [V.int i, V.ref p]) nT
      -- what is filed stands apart from what is read
      have apart : ∀ {S : Addr → Prop} {N : Nat} {Hc : Hp}, Filed K w (fun _ => False) (fun d => d ∈ ds3 ∨ d ∈ ds5) H8 N Hc S → ∀ {b : Addr} {xs : List V}, H8 b = some (.lst xs) → ¬ S b := fun F b xs e z => by
        rcases F.new b z with y | y
        · exact y
        · rw [e] at y
          cases y
      have give : ∀ {S : Addr → Prop} {N : Nat} {Hc : Hp} (fld : Str) (lg : Addr) (gs : List Addr), Filed K w (fun _ => False) (fun d => d ∈ ds3 ∨ d ∈ ds5) H8 N Hc S → N ≤ 900000 →
          ([("_numbers", V.ref dn), ("_strengths", .ref ls), ("_strong", .ref D3), ("_weak", .ref D5), ("_sides", .ref D7)] : List (Str × V)).lookup fld = some (.ref lg) → H8 lg = some (.lst (gs.map V.ref)) → (∀ g ∈ gs, g ∈ ds3 ∨ g ∈ ds5) →
          FileIn K w C fld gs.length Hc a dx p [("_numbers", V.ref dn), ("_strengths", .ref ls), ("_strong", .ref D3), ("_weak", .ref D5), ("_sides", .ref D7)] ls lg ss gs ns S (fun d => d ∈ ds3 ∨ d ∈ ds5) N := by
        intro S N Hc fld lg gs F small f2 lgs gd
        exact ⟨F.stay _ _ a8 outA, rfl, f2, F.stay _ _ li8 (out li8), apart F li8, apart F lgs, F.stay _ _ lgs (out lgs), rfl, gd, SqT.tups (F.stay.tups G8.ntup) sq, nn, nk, F.good, small, few8⟩
      refine ⟨T1, _, rfl, SqT.of upd_same, rfl, _, _, rfl, _, _, rfl, rfl, ?_⟩
      have I1 := give "_strong" D3 ds3 Fg (by omega) rfl l38 (fun g hg => .inl hg)
      rw [n3] at I1
      refine ⟨_, rfl, a, dx, _, rfl, I1.at_, rfl, _, rfl, _, rfl, a, dx, p, _, ls, D3, ss, ds3, ns, Sl', _, _, .int i, rfl, I1, fun H9 S9 F9 => ?_⟩
      have F9c := Fg.comp F9
      have I2 := give "_weak" D5 ds5 F9c (by omega) rfl l58 (fun g hg => .inr hg)
      rw [n5, pl] at I2
      refine ⟨_, rfl, a, dx, _, rfl, I2.at_, rfl, _, rfl, _, rfl, a, dx, p, _, ls, D5, ss, ds5, ns, S9, _, _, .int i, rfl, I2, fun H10 S10 F10 => ?_⟩
      exact ⟨⟨_, _, _, _, _, rfl⟩, S10, (F9c.comp F10).sub, (F9c.comp F10).new, (F9c.comp F10).good.mono (by omega), (F9c.comp F10).stay⟩
    · rintro σ H' ⟨_, Sl', Fl⟩
      refine q H' (fun b o e n => ?_) ⟨_, Fl.stay _ _ a8 outA⟩
      refine Fl.stay _ _ (b8 _ _ e n) fun z => z.elim id fun z => fresh _ z _ e n
end
end K3

set_option Elab.async false
set_option linter.all false
set_option maxRecDepth 100000
set_option maxHeartbeats 4000000
namespace Tr
open PySem PySem.Spec PyProof.Rows L2 AK Pen
structure SetF (K : PySem.W.Frag) (C : Addr) : Prop where
  cl : Cls K C
  ti : NoAttr K C "tiles"
  tn : NoAttr K C "_tile_by_name"
  na : NoAttr K C "_names"
  ra : NoAttr K C "_ranks"
  ng : NoAttr K C "_names_by_glue"
  fi : NoAttr K C "fits"
end Tr
namespace K3
open PySem PySem.Spec PyProof.Rows L2 Pen Tr AK
section
variable {P : Program} {w : World} {K : PySem.W.Frag} {mg : Str → Option PySem.Value} {base : Heap} {f C CN CB fC : Addr} {fd fdC : FuncData}
def spHas (K : PySem.W.Frag) (w : World) (C : Addr) : Sp := fun vs H Q _ => ∃ a dx fs dn es v k, vs = [.ref a, v] ∧ H a = some (.ins C dx fs) ∧ fs.lookup ("_tile_by_name" : Str) = some (.ref dn) ∧ DA K w H dn es ∧ NK K H k v ∧ k.depth ≤ 8 ∧ Q (.bl (atK es k).isSome) H
theorem scHas : FnScope ["self", "name"] ["self", "name"] (defScope (cSet 3)) := ⟨rfl, rfl, rfl, by decide +kernel, rfl, by decide +kernel, by decide +kernel⟩
theorem ok_has (F : FnM K "has" "TileSet.has" (cSet 3) f fd) (SF : SetF K C) : FnOk P w K mg base CX0 1 f fd ["self", "name"] (spHas K w C) := by
  refine F.ok scHas (fun vs H Q E h => by obtain ⟨a, dx, fs, dn, es, v, k, rfl, _⟩ := h; rfl) (fun cdv A outer s0 H vs Q E hr h => ?_)
  obtain ⟨a, dx, fs, dn, es, v, k, rfl, ha, hf, hd, hk, kd, q⟩ := h
  have hu := hr.units
  suffices z : ∃ t, PSs (cxOf CX0 P w K mg base ["self", "name"] "TileSet.has" (defScope (cSet 3)) f cdv A outer s0 H E).nox (defBody (cSet 3)) t ∧ t { nx := fun _ H' => Q .non H', rt := Q } (start ["self", "name"] [.ref a, v]) H by
    obtain ⟨t, h1, h2⟩ := z
    exact ⟨t, h1.nox, h2⟩
  refine ⟨_, pss_one (ps_ret (pe_cmpR (op_inA hu) (pv 1) (pe_fld (pv 0) rfl) (by rfl))), ?_⟩
  exact ⟨_, rfl, _, rfl, a, C, dx, fs, .ref dn, rfl, ha, SF.cl, SF.tn, hf, dn, es, k, rfl, hd, hk, kd, q⟩
def spTileOf (K : PySem.W.Frag) (w : World) (C CN : Addr) : Sp := fun vs H Q E => ∃ a dx fs dn es v k, vs = [.ref a, v] ∧ H a = some (.ins C dx fs) ∧ fs.lookup ("_tile_by_name" : Str) = some (.ref dn) ∧ DA K w H dn es ∧ NK K H k v ∧ k.depth ≤ 8 ∧
  (∀ t, atK es k = some t → Q t H) ∧ (atK es k = none → ∀ dd H2, Same H H2 → H2 dd = some (.xd [("name", v)]) → E (.ref CN) (some dd) H2)
theorem scTileOf : FnScope ["self", "name"] ["self", "name"] (defScope (cSet 2)) := ⟨rfl, rfl, rfl, by decide +kernel, rfl, by decide +kernel, by decide +kernel⟩
theorem ok_tile_of (F : FnM K "tile_of" "TileSet.tile_of" (cSet 2) f fd) (SF : SetF K C) (EN : Er P w K mg base "NoName" CN ["name"]) : FnOk P w K mg base (L2.CX P w) 3 f fd ["self", "name"] (spTileOf K w C CN) := by
  refine F.ok scTileOf (fun vs H Q E h => by obtain ⟨a, dx, fs, dn, es, v, k, rfl, _⟩ := h; rfl) (fun cdv A outer s0 H vs Q E hr h => ?_)
  obtain ⟨a, dx, fs, dn, es, v, k, rfl, ha, hf, hd, hk, kd, q1, q2⟩ := h
  have hu := hr.units
  refine ⟨_, pss_cons (ps_if (pt_cmpR (op_notInA hu) (pv 1) (pe_fld (pv 0) rfl) (by rfl)) (pss_one (ps_raise rfl (takes_of rfl rfl rfl rfl) (pmk_er EN hr (by rfl) (pa_cons (pv 1) pa_nil)))) pss_nil)
    (pss_one (ps_ret (pe_ix (ix_dictA hu) (pe_fld (pv 0) rfl) (pv 1) (fun _ _ => rfl)))), ?_⟩
  refine ⟨_, rfl, _, rfl, a, C, dx, fs, .ref dn, rfl, ha, SF.cl, SF.tn, hf, dn, es, k, rfl, hd, hk, kd, _, rfl, ?_⟩
  cases hat : atK es k with
  | some t => exact iteF ⟨_, rfl, a, C, dx, fs, .ref dn, rfl, ha, SF.cl, SF.tn, hf, _, rfl, dn, es, k, t, rfl, hd, hk, kd, hat, q1 t hat⟩
  | none =>
    refine iteT ⟨_, rfl, raise_sp rfl (by decide) fun dd hd H2 s2 e2 => ?_⟩
    exact q2 hat dd H2 s2 e2
def spNames (K : PySem.W.Frag) (C : Addr) : Sp := fun vs H Q _ => ∃ a dx fs p, vs = [.ref a] ∧ H a = some (.ins C dx fs) ∧ fs.lookup ("_names" : Str) = some p ∧ Q p H
theorem scNames : FnScope ["self"] ["self"] (defScope (cSet 4)) := ⟨rfl, rfl, rfl, by decide +kernel, rfl, by decide +kernel, by decide +kernel⟩
theorem ok_names (F : FnM K "names" "TileSet.names" (cSet 4) f fd) (SF : SetF K C) : FnOk P w K mg base CX0 1 f fd ["self"] (spNames K C) := by
  refine F.ok scNames (fun vs H Q E h => by obtain ⟨a, dx, fs, p, rfl, _⟩ := h; rfl) (fun cdv A outer s0 H vs Q E hr h => ?_)
  obtain ⟨a, dx, fs, p, rfl, ha, hf, q⟩ := h
  suffices z : ∃ t, PSs (cxOf CX0 P w K mg base ["self"] "TileSet.names" (defScope (cSet 4)) f cdv A outer s0 H E).nox (defBody (cSet 4)) t ∧ t { nx := fun _ H' => Q .non H', rt := Q } (start ["self"] [.ref a]) H by
    obtain ⟨t, h1, h2⟩ := z
    exact ⟨t, h1.nox, h2⟩
  refine ⟨_, pss_one (ps_ret (pe_fld (pv 0) rfl)), ?_⟩
  exact ⟨_, rfl, a, C, dx, fs, p, rfl, ha, SF.cl, SF.na, hf, q⟩
def spWith (K : PySem.W.Frag) (w : World) (C CB : Addr) : Sp := fun vs H Q E => ∃ a dx fs lg, ∃ ds : List Addr, ∃ v d g k, vs = [.ref a, v, g] ∧ H a = some (.ins C dx fs) ∧ fs.lookup ("_names_by_glue" : Str) = some (.ref lg) ∧ SqL K H lg (ds.map V.ref) ∧ Dp K H v d ∧ NK K H k g ∧ k.depth ≤ 8 ∧
  (∀ i : Nat, d = .int i → ∀ di, ds[i]? = some di → ∃ es : List Eh, DA K w H di es ∧ (∀ l, atK es k = some l → ∃ b xs, l = .ref b ∧ SqL K H b xs ∧ ∀ p H', Same H H' → SqT K H' p xs → Q (.ref p) H') ∧ (atK es k = none → ∀ p H', Same H H' → SqT K H' p [] → Q (.ref p) H')) ∧ ds.length = 4 ∧
  (isSideD d = false → ∀ dd H2, Same H H2 → H2 dd = some (.xd [("number", v), ("what", .str "side")]) → E (.ref CB) (some dd) H2)
theorem scWith : FnScope ["self", "side", "glue"] ["self", "side", "glue"] (defScope (cSet 5)) := ⟨rfl, rfl, rfl, by decide +kernel, rfl, by decide +kernel, by decide +kernel⟩
theorem ok_with (F : FnM K "with_glue" "TileSet.with_glue" (cSet 5) f fd) (T : Txt mg) (SF : SetF K C) (FC : FnT K "check_side" 21 fC fdC) (gC : mg "check_side" = some (.ref fC)) (GC : FnOk P w K mg base (L2.CX P w) 3 fC fdC ["side"] (spSide K CB)) :
    FnOk P w K mg base (L2.CX P w) 4 f fd ["self", "side", "glue"] (spWith K w C CB) := by
  refine F.ok scWith (fun vs H Q E h => by obtain ⟨a, dx, fs, lg, ds, v, d, g, k, rfl, _⟩ := h; rfl) (fun cdv A outer s0 H vs Q E hr h => ?_)
  obtain ⟨a, dx, fs, lg, ds, v, d, g, k, rfl, ha, hf, hl, hv, hg, kd, q1, dl, q2⟩ := h
  have hu := hr.units
  have bC : L2.Binds K fdC ["side"] [] := FunD.bindsN FC fun _ _ _ _ _ _ us hl => match us, hl with | [_], _ => rfl
  refine ⟨_, pss_cons (ps_expr (pe_callS (E := fun _ => E) GC hr (by rfl) gC FC.kp bC (fun σ => passAt (takes_of rfl rfl rfl rfl) σ) (pa_cons (pv 1) pa_nil)))
    (pss_one (ps_ret (pe_callTy call_tuple_of (by rfl) T.tuple (by decide +kernel) (pa_cons (pe_bmA PySem.F.slot_dict_get PySem.F.type_dict_get (mt_getA2 hu) (pe_ix ix_list (pe_fld (pv 0) rfl) (pv 1) (fun _ _ => rfl)) (pa_cons (pv 2) (pa_cons (pe_tup pa_nil) pa_nil))) pa_nil)))), ?_⟩
  refine ⟨_, rfl, v, d, rfl, hv, fun hp => ?_, fun hp dd H2 nd s2 e2 => q2 hp dd H2 s2 e2⟩
  obtain ⟨i, rfl, hi⟩ := side_is hp
  cases hv
  obtain ⟨di, hdi⟩ : ∃ di, ds[i]? = some di := ⟨_, List.getElem?_eq_getElem (by omega)⟩
  obtain ⟨es, hD, y1, y2⟩ := q1 i rfl di hdi
  have hdi2 : (ds.map V.ref)[i]? = some (V.ref di) := by
    rw [List.getElem?_map, hdi]
    rfl
  refine ⟨_, rfl, a, C, dx, fs, .ref lg, rfl, ha, SF.cl, SF.ng, hf, _, rfl, lg, _, i, V.ref di, rfl, rfl, hl, atI_nat hdi2, ?_⟩
  refine ⟨⟨di, es, rfl, hD.at_⟩, _, rfl, (by show 0 ≤ sizeLine; decide), fun t nt => ?_⟩
  have st := same_upd (o := .tup []) nt
  refine rd_nil ?_
  refine ⟨di, es, k, g, .ref t, rfl, rfl, hD.keep (fun b xs h => same_rd st h) (same_rd st hD.at_), hg.tups (fun b xs h => same_rd st h), kd, ?_⟩
  cases hat : atK es k with
  | some l =>
    obtain ⟨b, xs, rfl, hb, y3⟩ := y1 l hat
    refine ⟨b, xs, rfl, .inl ⟨hb.elim (fun z => .inl (same_rd st z)) .inr, fun p np => ?_⟩⟩
    exact y3 p _ (same_trans st (same_upd np)) (SqT.of upd_same)
  | none =>
    exact ⟨t, [], rfl, .inr ⟨SqT.of upd_same, y2 hat t _ st (SqT.of upd_same)⟩⟩
end
end K3

set_option Elab.async false
set_option linter.all false
set_option maxRecDepth 100000
set_option maxHeartbeats 4000000
namespace Tr
open PySem PySem.Spec PyProof.Rows L2 AK Pen
/-- the values that stand under a key, in order -/
def under (ts : List (V × NestedKey)) (k : NestedKey) : List V := (ts.filter fun t => decide (t.2 = k)).map (·.1)
theorem under_eq {ts : List (V × NestedKey)} {k : NestedKey} {r : V} : under (ts ++ [(r, k)]) k = under ts k ++ [r] := by simp [under, List.filter_append]
theorem under_ne {ts : List (V × NestedKey)} {k j : NestedKey} {r : V} (h : k ≠ j) : under (ts ++ [(r, k)]) j = under ts j := by simp [under, List.filter_append, h]
theorem under_len (ts : List (V × NestedKey)) (k : NestedKey) : (under ts k).length ≤ ts.length := by
  rw [under, List.length_map]
  exact List.length_filter_le _ _
/-- d: under each key a list of its own with what stands under it -/
structure Grp (K : PySem.W.Frag) (w : World) (H0 H : Hp) (d : Addr) (ts : List (V × NestedKey)) : Prop where
  same : Same H0 H
  fresh : H0 d = none
  ex : ∃ es : List Eh, H d = some (DkO w d es) ∧ DA K w H d es ∧ es.length ≤ ts.length ∧ (∀ k l, atK es k = some l → ∃ b, l = .ref b ∧ H0 b = none ∧ H b = some (.lst (under ts k)) ∧ under ts k ≠ []) ∧
    (∀ k, atK es k = none → under ts k = []) ∧ ∀ k j b, atK es k = some (.ref b) → atK es j = some (.ref b) → k = j
theorem dk_lst {w : World} {d : Addr} {es : List Eh} {xs : List V} : DkO w d es ≠ .lst xs := fun z => nomatch z
theorem dk_tup {w : World} {d : Addr} {es : List Eh} {xs : List V} : DkO w d es ≠ .tup xs := fun z => nomatch z
theorem Grp.start {K : PySem.W.Frag} {w : World} {H0 : Hp} {d : Addr} (n : H0 d = none) : Grp K w H0 (upd H0 d (DkO w d [])) d [] :=
  ⟨same_upd n, n, [], upd_same, da_new, Nat.le_refl _, (fun _ _ e => nomatch e), (fun _ _ => rfl), fun _ _ _ e => nomatch e⟩
theorem Grp.stay {K : PySem.W.Frag} {w : World} {H0 H H' : Hp} {d : Addr} {ts : List (V × NestedKey)} (G : Grp K w H0 H d ts) (s : Same H H') : Grp K w H0 H' d ts := by
  obtain ⟨es, e1, e2, e3, e4, e5, e6⟩ := G.ex
  refine ⟨same_trans G.same s, G.fresh, es, s _ _ e1, daKeep e2 (fun x xs h => same_rd s h) (.inl (s _ _ e1)), e3, fun k l h => ?_, e5, e6⟩
  obtain ⟨b, b1, b2, b3, b4⟩ := e4 k l h
  exact ⟨b, b1, b2, s _ _ b3, b4⟩
theorem grp_app {K : PySem.W.Frag} {w : World} {H0 H' : Hp} {d p : Addr} {ts : List (V × NestedKey)} (G : Grp K w H0 H' d ts) {k : NestedKey} {y : V} (n : NK K H' k y) (kd : k.depth ≤ 8) (few : ts.length < 1000000) (np : H' p = none) {R : V → Hp → Prop}
    (h : ∀ l H2 xs, H2 l = some (.lst xs) → xs.length < sizeLine → (∀ r, Grp K w H0 (upd H2 l (.lst (xs ++ [r]))) d (ts ++ [(r, k)])) → R (.ref l) H2) : rSdA K w (.ref d) [y, .ref p] (upd H' p (.lst [])) R := by
  obtain ⟨es, e1, e2, e3, e4, e5, e6⟩ := G.ex
  have s1 := same_upd (o := .lst []) np
  have f1 := s1 _ _ e1
  have D2 : DA K w (upd H' p (.lst [])) d es := daKeep e2 (fun x xs h => same_rd s1 h) (.inl f1)
  have n2 : NK K (upd H' p (.lst [])) k y := n.tups fun x xs h => same_rd s1 h
  have pd : d ≠ p := ne_of_none e1 np
  have p0 : H0 p = none := by
    cases q : H0 p with
    | none => rfl
    | some o =>
      rw [G.same _ _ q] at np
      cases np
  refine ⟨d, es, k, y, .ref p, rfl, rfl, f1, D2, n2, kd, by rw [sizeLine_eq]; omega, fun v hv => ?_, fun hn => ?_⟩
  · obtain ⟨b, rfl, b0, b1, b2⟩ := e4 k v hv
    have bd : d ≠ b := ne_of e1 b1 dk_lst
    have c1 := s1 _ _ b1
    have := under_len ts k
    refine h b _ _ c1 (by rw [sizeLine_eq]; omega) fun r => ⟨?_, G.fresh, es, ?_, ?_, ?_, ?_, ?_, e6⟩
    · intro c o e
      rw [upd_ne (ne_of_none e b0)]
      exact s1 _ _ (G.same _ _ e)
    · rw [upd_ne bd]
      exact f1
    · refine daKeep D2 (Tups.upd (lst_ntup c1)) (.inl ?_)
      rw [upd_ne bd]
      exact f1
    · rw [List.length_append]
      omega
    · intro j l hj
      obtain ⟨c, rfl, c0, c2, c3⟩ := e4 j l hj
      refine ⟨c, rfl, c0, ?_⟩
      by_cases hjk : k = j
      · subst hjk
        obtain rfl : b = c := by
          rw [hv] at hj
          cases hj
          rfl
        rw [upd_same, under_eq]
        exact ⟨rfl, by simp⟩
      · have cb : c ≠ b := by
          rintro rfl
          exact hjk (e6 _ _ _ hv hj)
        rw [upd_ne cb, under_ne hjk]
        exact ⟨s1 _ _ c2, c3⟩
    · intro j hj
      have hjk : k ≠ j := by
        rintro rfl
        rw [hv] at hj
        cases hj
      rw [under_ne hjk]
      exact e5 j hj
  · have e0 := e5 k hn
    have H2p : upd (upd H' p (.lst [])) d (DkO w d (putE es k y (.ref p))) p = some (.lst []) := by
      rw [upd_ne (Ne.symm pd)]
      exact upd_same
    have D3 : DA K w (upd (upd H' p (.lst [])) d (DkO w d (putE es k y (.ref p)))) d (putE es k y (.ref p)) := daPut D2 f1 n2 kd
    refine h p _ [] H2p (by rw [sizeLine_eq]; decide) fun r => ⟨?_, G.fresh, putE es k y (.ref p), ?_, ?_, ?_, ?_, ?_, ?_⟩
    · intro c o e
      rw [upd_ne (ne_of_none e p0), upd_ne (ne_of_none e G.fresh)]
      exact s1 _ _ (G.same _ _ e)
    · rw [upd_ne pd]
      exact upd_same
    · refine daKeep D3 (Tups.upd (lst_ntup H2p)) (.inl ?_)
      rw [upd_ne pd]
      exact upd_same
    · have := putE_len es k y (V.ref p)
      rw [List.length_append, List.length_singleton]
      omega
    · intro j l hj
      rw [atK_put] at hj
      by_cases hjk : j = k
      · subst hjk
        rw [if_pos rfl] at hj
        cases hj
        refine ⟨p, rfl, p0, ?_⟩
        rw [upd_same, under_eq, e0]
        exact ⟨rfl, by simp⟩
      · rw [if_neg hjk] at hj
        obtain ⟨c, rfl, c0, c2, c3⟩ := e4 j l hj
        have cp : c ≠ p := ne_of_none c2 np
        have cd : c ≠ d := Ne.symm (ne_of e1 c2 dk_lst)
        refine ⟨c, rfl, c0, ?_⟩
        rw [upd_ne cp, upd_ne cd, under_ne (Ne.symm hjk)]
        exact ⟨s1 _ _ c2, c3⟩
    · intro j hj
      rw [atK_put] at hj
      by_cases hjk : j = k
      · rw [if_pos hjk] at hj
        cases hj
      · rw [if_neg hjk] at hj
        rw [under_ne (Ne.symm hjk)]
        exact e5 j hj
    · intro j1 j2 b h1 h2
      rw [atK_put] at h1 h2
      have no : ∀ j, atK es j = some (.ref p) → False := fun j hj => by
        obtain ⟨c, ec, _, c2, _⟩ := e4 j _ hj
        cases ec
        rw [np] at c2
        cases c2
      by_cases q1 : j1 = k <;> by_cases q2 : j2 = k
      · rw [q1, q2]
      · rw [if_pos q1] at h1
        rw [if_neg q2] at h2
        cases h1
        exact (no _ h2).elim
      · rw [if_neg q1] at h1
        rw [if_pos q2] at h2
        cases h2
        exact (no _ h1).elim
      · rw [if_neg q1] at h1
        rw [if_neg q2] at h2
        exact e6 _ _ _ h1 h2
theorem passE {P : Program} {w : World} {X : Cx} : Passes (L2.CX P w) X E0 := fun _ _ _ _ _ _ _ h => by
  obtain ⟨_, _, _, _, _, _, _, _, _, _, _, _, h⟩ := h
  exact h.elim
end Tr
namespace K3
open PySem PySem.Spec PyProof.Rows L2 Pen Tr AK
section
variable {P : Program} {w : World} {K : PySem.W.Frag} {mg : Str → Option PySem.Value} {base : Heap} {f C CT CN CB fG : Addr} {fd fdG : FuncData}
/-- a tile of the set: its name among the names, its glue on a side -/
structure TileAt (K : PySem.W.Frag) (CT : Addr) (H : Hp) (es : List Eh) (i : Nat) (t : V × NestedKey) : Prop where
  ex : ∃ k ta dx n w s e o g, NK K H k t.1 ∧ k.depth ≤ 8 ∧ atK es k = some (.ref ta) ∧ H ta = some (tileO CT dx n w s e o) ∧ [w, s, e, o][i]? = some g ∧ NK K H t.2 g ∧ t.2.depth ≤ 8
theorem TileAt.same {CT : Addr} {H H' : Hp} {es : List Eh} {i : Nat} {t : V × NestedKey} (T : TileAt K CT H es i t) (s : Same H H') : TileAt K CT H' es i t := by
  obtain ⟨k, ta, dx, n, w, so, e, o, g, h1, h2, h3, h4, h5, h6, h7⟩ := T.ex
  exact ⟨k, ta, dx, n, w, so, e, o, g, h1.tups fun b xs h => same_rd s h, h2, h3, s _ _ h4, h5, h6.tups fun b xs h => same_rd s h, h7⟩
def spNamed (K : PySem.W.Frag) (w : World) (C CT : Addr) : Sp := fun vs H Q _ => ∃ a dx fs dn pn, ∃ es : List Eh, ∃ ts : List (V × NestedKey), ∃ i : Nat, vs = [.ref a, .int i] ∧ i < 4 ∧ H a = some (.ins C dx fs) ∧ fs.lookup ("_tile_by_name" : Str) = some (.ref dn) ∧ fs.lookup ("_names" : Str) = some (.ref pn) ∧
  DA K w H dn es ∧ SqT K H pn (ts.map (·.1)) ∧ ts.length ≤ 1000 ∧ (∀ t ∈ ts, TileAt K CT H es i t) ∧ ∀ d H', Grp K w H H' d ts → Q (.ref d) H'
abbrev nNamed : List Str := ["self", "side", "found", "name"]
theorem scNamed : FnScope nNamed ["self", "side"] (defScope (cSet 1)) := ⟨rfl, rfl, rfl, by decide +kernel, rfl, by decide +kernel, by decide +kernel⟩
theorem ok_named (F : FnM K "_named_by" "TileSet._named_by" (cSet 1) f fd) (SF : SetF K C) (TF : TileF K CT) (FG : FnM K "glue_at" "Tile.glue_at" (cTile 1) fG fdG) (MG : Meth K CT "glue_at" fG) (GG : FnOk P w K mg base (L2.CX P w) 4 fG fdG ["self", "side"] (spGlueAt K CT CB)) :
    FnOk P w K mg base CX0 5 f fd ["self", "side"] (spNamed K w C CT) := by
  refine F.ok scNamed (fun vs H Q E h => by obtain ⟨a, dx, fs, dn, pn, es, ts, i, rfl, _⟩ := h; rfl) (fun cdv A outer s0 H vs Q E hr h => ?_)
  obtain ⟨a, dx, fs, dn, pn, es, ts, i, rfl, hi, ha, hf, hn, hd, hs, few, hts, q⟩ := h
  have nd := scNamed.nd
  have hu := hr.units
  suffices z : ∃ t, PSs (cxOf CX0 P w K mg base nNamed "TileSet._named_by" (defScope (cSet 1)) f cdv A outer s0 H E).nox (defBody (cSet 1)) t ∧ t { nx := fun _ H' => Q .non H', rt := Q } (start nNamed [.ref a, .int i]) H by
    obtain ⟨t, h1, h2⟩ := z
    exact ⟨t, h1.nox, h2⟩
  have bG : L2.Binds K fdG ["self", "side"] [] := FunD.bindsN FG fun _ _ _ _ _ _ us hl => match us, hl with | [_, _], _ => rfl
  refine ⟨_, pss_cons (ps_asg pe_dnewA (pg_name (i := 2) nd rfl (.inl rfl))) (pss_cons (ps_for PassesOwn.never rfl (pi_tup (pe_fld (pv 0) rfl)) (pg_name (i := 3) nd rfl (.inl rfl))
      (pss_one (ps_expr (pe_bm PySem.F.plainAttrs_list PySem.F.slot_list_append PySem.F.type_list_append mt_append
        (pe_bmA PySem.F.slot_dict_setdefault PySem.F.type_dict_setdefault (mt_sdA hu) (pv 2) (pa_cons (pe_meth (pe_ix (ix_dictA hu) (pe_fld (pv 0) rfl) (pv 3) (fun _ _ => rfl)) TF.cl MG GG hr bG .nil passE (pa_cons (pv 1) pa_nil)) (pa_cons (pe_lst pa_nil) pa_nil)))
        (pa_cons (pv 3) pa_nil)))))
    (pss_one (ps_ret (pv 2)))), ?_⟩
  intro d nd0
  have G0 := Grp.start (K := K) (w := w) nd0
  refine ⟨_, rfl, a, C, dx, fs, .ref pn, rfl, G0.same _ _ ha, SF.cl, SF.na, hn, pn, rfl, ⟨_, hs.elim (fun z => .inl (same_rd G0.same z)) .inr⟩, ?_⟩
  refine for_it (walk_tup (K := K) (a := pn) (xs := ts.map (·.1))) (fun j σ H' => (∃ o, σ = [some (.ref a), some (.int i), some (.ref d), o]) ∧ Grp K w H H' d (ts.take j)) ?_ ?_ ?_ ?_
  · exact ⟨⟨none, rfl⟩, G0⟩
  · rintro j σ H' hj ⟨_, G⟩
    exact hs.elim (fun z => .inl (same_rd G.same z)) .inr
  · rintro j x σ H1 H2 hj ⟨⟨o, rfl⟩, G⟩ ⟨rfl, hx⟩
    obtain ⟨t, ht, rfl⟩ : ∃ t, ts[j]? = some t ∧ t.1 = x := by
      rw [List.getElem?_map] at hx
      exact Option.map_eq_some_iff.mp hx
    have T := (hts t (List.mem_of_getElem? ht)).same G.same
    obtain ⟨k, ta, tdx, n, gw, gs, ge, go, g, k1, k2, k3, k4, k5, k6, k7⟩ := T.ex
    have D1 : DA K w H2 dn es := daKeep hd (fun x xs h => same_rd G.same h) (same_rd G.same hd.at_)
    have k12 := under_len ts k
    obtain ⟨es2, f1, f2, f3, f4, f5, f6⟩ := G.ex
    refine ⟨_, rfl, ⟨d, es2, rfl, .inl f1⟩, ?_⟩
    refine ⟨_, rfl, a, C, dx, fs, .ref dn, rfl, G.same _ _ ha, SF.cl, SF.tn, hf, _, rfl, dn, es, k, .ref ta, rfl, D1, k1, k2, k3, ta, tdx, _, rfl, k4, rfl, ?_⟩
    refine ⟨_, rfl, ta, tdx, n, gw, gs, ge, go, .int i, .int i, rfl, k4, .int _, fun i2 e2 g2 hg2 H3 s3 => ?_, fun hb => ?_⟩
    · obtain rfl : i2 = i := by
        have := PyData.int.inj e2
        omega
      obtain rfl : g2 = g := Option.some.inj (hg2.symm.trans k5)
      have G3 := G.stay s3
      refine ⟨(by show 0 ≤ sizeLine; decide), fun p np => ?_⟩
      refine rd_nil ?_
      have tl : (ts.take j).length < 1000000 := by
        rw [List.length_take]
        omega
      refine grp_app G3 (k6.tups fun b xs h => same_rd s3 h) k7 tl np fun l H4 xs el hx next => ?_
      refine ⟨.inl ⟨rfl, xs, SqL.of el⟩, _, rfl, l, xs, t.1, rfl, rfl, el, hx, ?_⟩
      refine ⟨⟨_, rfl⟩, ?_⟩
      have z := next t.1
      rw [List.take_add_one, ht]
      exact z
    · have : isSideD (.int i) = true := by
        show (decide (0 ≤ (i : Int)) && decide ((i : Int) ≤ 3)) = true
        rw [decide_eq_true (by omega), decide_eq_true (by omega)]
        rfl
      rw [this] at hb
      cases hb
  · rintro σ H' ⟨⟨o, rfl⟩, G⟩
    rw [List.length_map, List.take_length] at G
    exact ⟨_, rfl, q d H' G⟩
end
end K3

set_option Elab.async false
set_option linter.all false
set_option maxRecDepth 100000
set_option maxHeartbeats 4000000
namespace Tr
open PySem PySem.Spec PyProof.Rows L2 AK Pen LamX
/-- a tile of a set: where it lies, its name, its glues -/
structure Til where
  a : Addr
  n : V
  d : PyData
  k : NestedKey
  gw : V
  gs : V
  ge : V
  go : V
  kw : NestedKey
  ks : NestedKey
  ke : NestedKey
  ko : NestedKey
namespace Til
def vd (t : Til) : Vd := (t.n, t.d)
def glues (t : Til) : List (V × NestedKey) := [(t.gw, t.kw), (t.gs, t.ks), (t.ge, t.ke), (t.go, t.ko)]
end Til
def GlueK (K : PySem.W.Frag) (H : Hp) (g : V) (k : NestedKey) : Prop := ∃ d, Dp K H g d ∧ keyD d = some k ∧ k.depth ≤ 8 ∧ K3.isGlueD d = true
/-- what is known of a tile -/
structure TilOk (K : PySem.W.Frag) (CT : Addr) (H : Hp) (t : Til) : Prop where
  at_ : ∃ dx, H t.a = some (tileO CT dx t.n t.gw t.gs t.ge t.go)
  sh : ShowOk K H t.vd
  key : keyD t.d = some t.k
  deep : t.k.depth ≤ 8
  gl : ∀ p ∈ t.glues, GlueK K H p.1 p.2
def srtT (ts : List Til) : List Til := ts.mergeSort fun x y => PySem.W.dataLe false (fun x : Vd => PyData.str x.2.shown) x.vd y.vd
theorem srtT_map (ts : List Til) : (srtT ts).map Til.vd = srt (ts.map Til.vd) := by
  unfold srtT srt
  exact List.map_mergeSort fun a _ b _ => rfl
theorem srtT_perm (ts : List Til) : (srtT ts).Perm ts := List.mergeSort_perm _ _
theorem srtT_len (ts : List Til) : (srtT ts).length = ts.length := (srtT_perm ts).length_eq
theorem srtT_mem {ts : List Til} {t : Til} : t ∈ srtT ts ↔ t ∈ ts := (srtT_perm ts).mem_iff
/-- all but a and the tables stay -/
def ButN (a : Addr) (H H' : Hp) : Prop := ∀ b o, H b = some o → (∀ ps, o ≠ .tbl ps) → b ≠ a → H' b = some o
/-- the table of the names -/
structure ByName (K : PySem.W.Frag) (w : World) (H : Hp) (dn : Addr) (ts : List Til) : Prop where
  ex : H dn = some (DkO w dn (ts.map fun t => (t.k, t.n, V.ref t.a))) ∧ DA K w H dn (ts.map fun t => (t.k, t.n, V.ref t.a))
/-- the names and the glues of one side -/
def onSide (ts : List Til) (i : Nat) : List (V × NestedKey) := ts.map fun t => (t.n, ((t.glues.map (·.2))[i]?).getD .none)
/-- tuple(x): one that holds what x holds -/
def rTupOf (K : PySem.W.Frag) : List V → Hp → VK → Prop := fun xs H Q => ∃ x ys, xs = [.ref x] ∧ (SqL K H x ys ∨ SqT K H x ys) ∧ ∀ l H1, Same H H1 → SqT K H1 l ys → Q (.ref l) H1
theorem call_tupR {X : Cx} : CallR X (.type "tuple") (rTupOf X.K) := by
  intro pins s σ H xs us Q I r h
  obtain ⟨x, ys, rfl, hx, q⟩ := h
  exact call_tuple_of pins s σ H _ us Q I r ⟨x, ys, rfl, hx.imp (fun z => ⟨z, fun l nl => q l _ (same_upd nl) (SqT.of upd_same)⟩) fun z => ⟨z, q x H same_refl z⟩⟩
theorem TilOk.tups {K : PySem.W.Frag} {CT : Addr} {H H' : Hp} {t : Til} (T : TilOk K CT H t) (tu : Tups H H') (at_ : ∀ dx, H t.a = some (tileO CT dx t.n t.gw t.gs t.ge t.go) → H' t.a = some (tileO CT dx t.n t.gw t.gs t.ge t.go)) : TilOk K CT H' t :=
  ⟨T.at_.imp fun dx h => at_ dx h, T.sh.tups tu, T.key, T.deep, fun p hp => by
    obtain ⟨d, h1, h2, h3, h4⟩ := T.gl p hp
    exact ⟨d, dp_tups tu _ _ _ h2 h1, h2, h3, h4⟩⟩
theorem TilOk.ext {K : PySem.W.Frag} {CT : Addr} {H H' : Hp} {t : Til} (T : TilOk K CT H t) (e : ExtN H H') : TilOk K CT H' t :=
  T.tups (ExtN.tups e) fun dx h => e _ _ h fun ps z => nomatch z
theorem ins_ntup {H : Hp} {a C dx : Addr} {fs : List (Str × V)} (e : H a = some (.ins C dx fs)) : ∀ xs, ¬ Rd H a (.tup xs) := fun xs h => by
  rcases h with h | ⟨u, h⟩ <;> rw [e] at h <;> cases h
theorem ins_ne {H : Hp} {a b C C2 dx dx2 : Addr} {n w s e o : V} (h1 : H a = some (.ins C dx [])) (h2 : H b = some (tileO C2 dx2 n w s e o)) : b ≠ a := by
  rintro rfl
  rw [h1] at h2
  have z := Option.some.inj h2
  unfold tileO at z
  injection z with _ _ z
  cases z
theorem ins_ne2 {H : Hp} {a b C C2 dx dx2 : Addr} {v1 v2 : V} {n w s e o : V} (h1 : H a = some (.ins C dx [("tiles", v1), ("_tile_by_name", v2)])) (h2 : H b = some (tileO C2 dx2 n w s e o)) : b ≠ a := by
  rintro rfl
  rw [h1] at h2
  have z := Option.some.inj h2
  unfold tileO at z
  injection z with _ _ z
  cases z
theorem ins_ne3 {H : Hp} {a b C C2 dx dx2 : Addr} {v1 v2 : V} {r : List (Str × V)} {n w s e o : V} (h1 : H a = some (.ins C dx (("tiles", v1) :: ("_tile_by_name", v2) :: r))) (h2 : H b = some (tileO C2 dx2 n w s e o)) : b ≠ a := by
  rintro rfl
  rw [h1] at h2
  have z := Option.some.inj h2
  unfold tileO at z
  injection z with _ _ z
  injection z with z _
  have y : ("tiles" : Str) = "name" := congrArg Prod.fst z
  exact absurd y (by decide)
/-- not there, or a table -/
def NewB (H : Hp) (b : Addr) : Prop := ∀ o, H b = some o → ∃ ps, o = .tbl ps
theorem ButN.of {a : Addr} {H H' : Hp} (b : But a H H') : ButN a H H' := fun c o e _ n => b c o e n
theorem ButN.trans {a : Addr} {H H1 H2 : Hp} (x : ButN a H H1) (y : ButN a H1 H2) : ButN a H H2 := fun c o e t n => y c o (x c o e t n) t n
theorem ButN.tups {a C dx : Addr} {fs : List (Str × V)} {H H' : Hp} (x : ButN a H H') (ha : H a = some (.ins C dx fs)) : Tups H H' := fun c xs r => by
  have n : c ≠ a := by
    rintro rfl
    exact ins_ntup ha xs r
  rcases r with r | ⟨o, r⟩
  · exact .inl (x _ _ r (fun ps z => nomatch z) n)
  · exact .inr ⟨o, x _ _ r (fun ps z => nomatch z) n⟩
theorem NewB.of {a C dx b : Addr} {fs : List (Str × V)} {H H' : Hp} (x : ButN a H H') (ha : H' a = some (.ins C dx fs)) (n : H' b = none) : NewB H b := fun o e => by
  by_cases t : ∃ ps, o = .tbl ps
  · exact t
  · have nb : b ≠ a := by
      rintro rfl
      rw [ha] at n
      cases n
    rw [x _ _ e (fun ps z => t ⟨ps, z⟩) nb] at n
    cases n
theorem Tabs.but {T : List (Addr × Str)} {a C dx : Addr} {fs : List (Str × V)} {H H' : Hp} (t : Tabs T H) (ha : H a = some (.ins C dx fs)) (b : But a H H') : Tabs T H' := fun p hp => by
  obtain ⟨ps, h1, h2, h3⟩ := t p hp
  refine ⟨ps, b _ _ h1 (ne_of h1 ha fun z => nomatch z), h2, fun pos cv hc => ?_⟩
  obtain ⟨c, e1, e2⟩ := h3 pos cv hc
  exact ⟨c, e1, b _ _ e2 (ne_of e2 ha fun z => nomatch z)⟩
/-- what stands under the glues of a side -/
structure GrpO (K : PySem.W.Frag) (w : World) (H0 H : Hp) (d : Addr) (ts : List (V × NestedKey)) : Prop where
  ex : ∃ es : List Eh, H d = some (DkO w d es) ∧ NewB H0 d ∧ DA K w H d es ∧ (∀ k l, atK es k = some l → ∃ b, l = .ref b ∧ NewB H0 b ∧ H b = some (.lst (under ts k)) ∧ under ts k ≠ []) ∧ (∀ k, atK es k = none → under ts k = [])
theorem Grp.out {K : PySem.W.Frag} {w : World} {H0 Hi Hj H' : Hp} {d : Addr} {ts : List (V × NestedKey)} (G : Grp K w Hi Hj d ts) (fr : ∀ b, Hi b = none → NewB H0 b) (st : ∀ b o, Hj b = some o → Hi b = none → H' b = some o) (tu : Tups Hj H') : GrpO K w H0 H' d ts := by
  obtain ⟨es, e1, e2, e3, e4, e5, e6⟩ := G.ex
  have h1 := st _ _ e1 G.fresh
  refine ⟨es, h1, fr _ G.fresh, daKeep e2 tu (.inl h1), fun k l h => ?_, e5⟩
  obtain ⟨b, b1, b2, b3, b4⟩ := e4 k l h
  exact ⟨b, b1, fr _ b2, st _ _ b3 b2, b4⟩
theorem GrpO.but {K : PySem.W.Frag} {w : World} {H0 H H' : Hp} {d a C dx : Addr} {fs : List (Str × V)} {ts : List (V × NestedKey)} (G : GrpO K w H0 H d ts) (b : But a H H') (ha : H a = some (.ins C dx fs)) : GrpO K w H0 H' d ts := by
  obtain ⟨es, e1, e2, e3, e4, e5⟩ := G.ex
  have d1 := b _ _ e1 (ne_of e1 ha fun z => nomatch z)
  refine ⟨es, d1, e2, daKeep e3 ((ButN.of b).tups ha) (.inl d1), fun k l h => ?_, e5⟩
  obtain ⟨c, c1, c2, c3, c4⟩ := e4 k l h
  exact ⟨c, c1, c2, b _ _ c3 (ne_of c3 ha fun z => nomatch z), c4⟩
/-- what stands in a set -/
structure SetO (K : PySem.W.Frag) (w : World) (C : Addr) (H0 H : Hp) (a : Addr) (ts : List Til) : Prop where
  ex : ∃ dx pt dn pn dr lg ft, ∃ ds : List Addr, H a = some (.ins C dx [("tiles", .ref pt), ("_tile_by_name", .ref dn), ("_names", .ref pn), ("_ranks", .ref dr), ("_names_by_glue", .ref lg), ("fits", .ref ft)]) ∧
    SqT K H pt (ts.map fun t => V.ref t.a) ∧ ByName K w H dn ts ∧ NewB H0 dn ∧ SqT K H pn ((srtT ts).map (·.n)) ∧ H lg = some (.lst (ds.map V.ref)) ∧ NewB H0 lg ∧ ds.length = 4 ∧
    ∀ (i : Nat) d, ds[i]? = some d → GrpO K w H0 H d (onSide (srtT ts) i)
end Tr
namespace K3
open PySem PySem.Spec PyProof.Rows L2 Pen Tr AK LamX
section
variable {P : Program} {w : World} {K : PySem.W.Frag} {mg : Str → Option PySem.Value} {base : Heap} {f C CT CN CF Pt fG fB fF : Addr} {fd fdG fdB fdF : FuncData} {T : List (Addr × Str)}
def spSet (K : PySem.W.Frag) (w : World) (C CT CN : Addr) (T : List (Addr × Str)) : Sp := fun vs H Q E => ∃ a dx x ts, vs = [.ref a, .ref x] ∧ H a = some (.ins C dx []) ∧ (SqL K H x ((ts : List Til).map fun t => V.ref t.a) ∨ SqT K H x (ts.map fun t => V.ref t.a)) ∧ ts.length ≤ 900 ∧ (∀ t ∈ ts, TilOk K CT H t) ∧ Tabs T H ∧
  ((ts.map (·.k)).Nodup → ∀ H', ButN a H H' → Tabs T H' → SetO K w C H H' a ts → Q .non H') ∧
  (∀ j t, ts[j]? = some t → ((ts.take j).map (·.k)).Nodup → t.k ∈ (ts.take j).map (·.k) → ∀ dd H2, But a H H2 → H2 dd = some (.xd [("name", t.n)]) → E (.ref CN) (some dd) H2)
abbrev nInit : List Str := ["self", "tiles", "tile", "ordered", "name", "rank", "side"]
theorem scInit : FnScope nInit ["self", "tiles"] (defScope (cSet 0)) := ⟨rfl, rfl, rfl, by decide +kernel, rfl, by decide +kernel, by decide +kernel⟩
def fitsPart (K : PySem.W.Frag) (CF : Addr) : Sp := spFits K CF
theorem ok_init (F : FnM K "__init__" "TileSet.__init__" (cSet 0) f fd) (TX : Txt mg) (SF : SetF K C) (TF : TileF K CT) (ET : Er P w K mg base "TakenName" CN ["name"])
    (FB : FnM K "_named_by" "TileSet._named_by" (cSet 1) fB fdB) (MB : Meth K C "_named_by" fB) (GB : FnOk P w K mg base CX0 5 fB fdB ["self", "side"] (spNamed K w C CT))
    (FF : FnM K "__init__" "Fits.__init__" (cFits 0) fF fdF) (MF : Mk K CF fF) (GF : FnOk P w K mg base CX0 2 fF fdF ["self", "rows"] (spFits K CF)) (gF : mg "Fits" = some (.ref CF))
    (hf : He.fAd K ("TileSet", some "__init__") = f) (TB : TabB base mg (He.codeOf K ("TileSet", some "__init__")) Pt) (hT : (Pt, ("TileSet.__init__" ++ ".<locals>." ++ "<lambda>" : Str)) ∈ T) (uT : ∀ p ∈ T, p.1 = Pt → p.2 = ("TileSet.__init__" ++ ".<locals>." ++ "<lambda>" : Str)) :
    GFn P w K mg base (L2.CX P w) 7 f fd ["self", "tiles"] (spSet K w C CT CN T) := by
  refine GFn.of F scInit (fun vs H Q E h => by obtain ⟨a, dx, x, ts, rfl, _⟩ := h; rfl) (fun c A outer s0 H vs Q E hc hr free h => ?_)
  obtain ⟨a, dx, x, ts, rfl, ha, hx, few, hts, tabs, q1, q2⟩ := h
  have nd := scInit.nd
  have hu := hr.units
  have bB : L2.Binds K fdB ["self", "side"] [] := FunD.bindsN FB fun _ _ _ _ _ _ us hl => match us, hl with | [_, _], _ => rfl
  have bF : L2.Binds K fdF ["self", "rows"] [] := FunD.bindsN FF fun _ _ _ _ _ _ us hl => match us, hl with | [_, _], _ => rfl
  refine ⟨_, pss_cons (ps_fld (pv 0) (pe_callTy call_tupR (by rfl) TX.tuple (by decide +kernel) (pa_cons (pv 1) pa_nil)) rfl) (pss_cons (ps_fld (pv 0) pe_dnewA rfl)
    (pss_cons (ps_for (passes_of rfl) rfl (pi_tup (pe_fld (pv 0) rfl)) (pg_name (i := 2) nd rfl (.inl rfl))
        (pss_cons (ps_if (pt_cmpR (op_inA hu) (pe_fld (pv 2) rfl) (pe_fld (pv 0) rfl) (by rfl)) (pss_one (ps_raise rfl (takes_of rfl rfl rfl rfl) (pmk_er ET hr (by rfl) (pa_cons (pe_fld (pv 2) rfl) pa_nil)))) pss_nil)
          (pss_one (ps_asg (pv 2) (pg_sub (pe_fld (pv 0) rfl) (pe_fld (pv 2) rfl) (set_dictA hu))))))
    (pss_cons (ps_fld (pv 0) (pe_callTy call_tupR (by rfl) TX.tuple (by decide +kernel) (pa_cons
        (pe_sortR (T := T) (pe_fld (pv 0) rfl) TB ?_ hT uT ⟨rfl, rfl, rfl, rfl, rfl, by decide +kernel, by decide +kernel⟩ hr free TX.repr TX.sorted (by rfl) (by decide +kernel) (by rfl) (by intros; rfl)) pa_nil)) rfl)
    (pss_cons (ps_fld (pv 0) (pe_dcA (own := [("rank", 5), ("name", 4)]) (g := gTup K 2 (gCons (gName 5) (gCons (gName 4) gNil))) hu (by rfl) nd (pi_enumT (by rfl) TX.enum (pa_cons (pe_fld (pv 0) rfl) pa_nil)) (blkOk_by (own := [("rank", 5), ("name", 4)]) (N := nInit) (sc := defScope (cSet 0)) (by decide +kernel))
        (fun _ _ _ _ _ => pg_tup (by rfl) (pgs_cons (pg_name (i := 5) nd rfl (.inl rfl)) (pgs_cons (pg_name (i := 4) nd rfl (.inl rfl)) pgs_nil))) (fun _ _ _ _ _ => pv 4) (fun _ _ _ _ _ => pv 5)) rfl)
    (pss_cons (ps_fld (pv 0) (pe_lc (own := [("side", 6)]) (g := gName 6) (tt := tYes) (te := tMeth C "_named_by" (spNamed K w C CT) [] E0 (tVar 0) (tCons (tVar 6) tNil)) (by rfl) nd (pi_range1 (by rfl) TX.range (pa_cons pe_int pa_nil)) (blkOk_by (own := [("side", 6)]) (N := nInit) (sc := defScope (cSet 0)) (by decide +kernel))
        (fun _ _ _ _ _ => pg_name (i := 6) nd rfl (Or.inl rfl)) (fun _ _ _ _ _ => pts_nil) (fun _ _ _ _ _ => pe_meth (pv 0) SF.cl MB GB (hr.mono (by decide)) bB .nil pass0 (pa_cons (pv 6) pa_nil))) rfl)
    (pss_cons (ps_setLc (i := 3) (own := [("name", 4)]) (g := gName 4) (tt := tYes) (te := tOp (rIxA K w) (tFld K (tVar 0) "_tile_by_name") (tVar 4)) (by rfl) nd rfl (by rfl) (by rfl) (pi_tup (pe_fld (pv 0) rfl)) (blkOk_by (own := [("name", 4)]) (N := nInit) (sc := defScope (cSet 0)) (by decide +kernel))
        (fun _ _ _ _ _ => pg_name (i := 4) nd rfl (Or.inl rfl)) (fun _ _ _ _ _ => pts_nil) (fun _ _ _ _ _ => pe_ix (ix_dictA hu) (pe_fld (pv 0) rfl) (pv 4) (fun _ _ => rfl)))
    (pss_one (ps_fld (pv 0) (pe_make MF GF (hr.mono (by decide)) (by rfl) gF bF .nil pass0 (pa_cons
        (pe_lc (own := [("tile", 2)]) (g := gName 2) (tt := tYes) (te := tTup (tCons (tFld K (tVar 2) "west") (tCons (tFld K (tVar 2) "south") (tCons (tFld K (tVar 2) "east") (tCons (tFld K (tVar 2) "north") tNil))))) (by rfl) nd (pi_list (pv 3)) (blkOk_by (own := [("tile", 2)]) (N := nInit) (sc := defScope (cSet 0)) (by decide +kernel))
          (fun _ _ _ _ _ => pg_name (i := 2) nd rfl (Or.inl rfl)) (fun _ _ _ _ _ => pts_nil) (fun _ _ _ _ _ => pe_tup (pa_cons (pe_fld (pv 2) rfl) (pa_cons (pe_fld (pv 2) rfl) (pa_cons (pe_fld (pv 2) rfl) (pa_cons (pe_fld (pv 2) rfl) pa_nil)))))) pa_nil)) rfl)))))))), ?_⟩
  · rw [hc _ hf]
    rfl
  -- the tuple of the tiles
  refine ⟨_, rfl, x, _, rfl, hx, fun pt H1 s1 hp1 => ?_⟩
  refine ⟨_, rfl, a, C, dx, [], rfl, s1 _ _ ha, SF.cl, SF.ti, (by show 0 < 1000; decide), ?_⟩
  refine at_new fun H2 e2 => ?_
  have a2 : H2 a = some (.ins C dx [("tiles", .ref pt)]) := by
    rw [e2]
    exact upd_same
  have b2 : But a H H2 := by
    rw [e2]
    exact But.upd (But.same s1)
  have nota : ∀ xs, ¬ Rd H1 a (.tup xs) := ins_ntup (s1 _ _ ha)
  have p2 : SqT K H2 pt (ts.map fun t => V.ref t.a) := by
    rw [e2]
    exact SqT.tups (Tups.upd nota) hp1
  have tu2 : Tups H H2 := by
    rw [e2]
    exact Tups.trans (fun b xs h => same_rd s1 h) (Tups.upd nota)
  clear e2
  -- the empty table
  intro dn ndn
  have nda : dn ≠ a := Ne.symm (ne_of_none a2 ndn)
  have s3' := same_upd (o := DkO w dn []) ndn
  refine ⟨_, rfl, a, C, dx, _, rfl, s3' _ _ a2, SF.cl, SF.tn, (by show 1 < 1000; decide), ?_⟩
  refine at_new fun H3 e3 => ?_
  have a3 : H3 a = some (.ins C dx [("tiles", .ref pt), ("_tile_by_name", .ref dn)]) := by
    rw [e3]
    exact upd_same
  have d3 : H3 dn = some (DkO w dn []) := by
    rw [e3, upd_ne nda]
    exact upd_same
  have b3 : But a H H3 := by
    rw [e3]
    exact But.trans b2 (But.upd (But.same s3'))
  have tu23 : Tups H2 H3 := by
    rw [e3]
    exact Tups.trans (fun b xs h => same_rd s3' h) (Tups.upd (ins_ntup (s3' _ _ a2)))
  have p3 : SqT K H3 pt (ts.map fun t => V.ref t.a) := SqT.tups tu23 p2
  have n3 : H dn = none := by
    cases q : H dn with
    | none => rfl
    | some o =>
      rw [b2 _ _ q nda] at ndn
      cases ndn
  have tu3 := Tups.trans tu2 tu23
  clear e3
  have B3 : ByName K w H3 dn [] := ⟨d3, .inl d3, (fun _ h => nomatch h), List.nodup_nil⟩
  -- the tiles by their names
  have key : ∀ t ∈ ts, TilOk K CT H3 t := fun t ht => (hts t ht).tups tu3 fun dx2 h2 => b3 _ _ h2 (ins_ne ha h2)
  refine ⟨_, rfl, a, C, dx, _, .ref pt, rfl, a3, SF.cl, SF.ti, rfl, pt, rfl, ⟨_, p3⟩, ?_⟩
  refine for_it (walk_tup (K := K) (a := pt) (xs := ts.map fun t => V.ref t.a)) (fun j σ H' => (∃ o, σ = [some (.ref a), some (.ref x), o, none, none, none, none]) ∧ Stay (fun b => b = dn) H3 H' ∧ ByName K w H' dn (ts.take j) ∧ ((ts.take j).map (·.k)).Nodup) ?_ ?_ ?_ ?_
  · exact ⟨⟨none, rfl⟩, Stay.rfl', B3, List.nodup_nil⟩
  · rintro j σ H' hj ⟨_, st, _⟩
    exact SqT.tups (st.tups fun b hb => hb ▸ dk_ntup d3) p3
  · rintro j y σ H5 H4 hj ⟨⟨o, rfl⟩, st, B, nu⟩ ⟨rfl, hx⟩
    obtain ⟨t, ht, rfl⟩ : ∃ t, ts[j]? = some t ∧ V.ref t.a = y := by
      rw [List.getElem?_map] at hx
      exact Option.map_eq_some_iff.mp hx
    have tu4 : Tups H3 H4 := st.tups fun b hb => hb ▸ dk_ntup d3
    have T4 : TilOk K CT H4 t := (key t (List.mem_of_getElem? ht)).tups tu4 fun dx2 h2 => st _ _ h2 (ne_of h2 d3 (fun z => nomatch z))
    obtain ⟨dxt, at4⟩ := T4.at_
    have a4 := st _ _ a3 (Ne.symm nda)
    have nk : NK K H4 t.k t.n := ⟨t.d, T4.sh.1, T4.key⟩
    obtain ⟨dk4, da4⟩ := B.ex
    have tl : (ts.take j).length ≤ 900 := by
      rw [List.length_take]
      omega
    refine ⟨_, rfl, t.a, CT, dxt, _, t.n, rfl, at4, TF.cl, TF.nm, rfl, _, rfl, a, C, dx, _, .ref dn, rfl, a4, SF.cl, SF.tn, rfl, dn, _, t.k, rfl, da4, nk, T4.deep, _, rfl, ?_⟩
    by_cases hm : t.k ∈ (ts.take j).map (·.k)
    · have hs : (atK ((ts.take j).map fun t => (t.k, t.n, V.ref t.a)) t.k).isSome = true := by
        cases q : atK ((ts.take j).map fun t => (t.k, t.n, V.ref t.a)) t.k with
        | some _ => rfl
        | none =>
          obtain ⟨t2, m2, e2⟩ := List.mem_map.mp hm
          exact absurd e2 (atK_none.mp q _ (List.mem_map.mpr ⟨t2, m2, rfl⟩))
      rw [hs]
      refine iteT ⟨_, rfl, t.a, CT, dxt, _, t.n, rfl, at4, TF.cl, TF.nm, rfl, raise_sp rfl (by decide) fun dd hd H6 s6 e6 => ?_⟩
      refine q2 j t ht nu hm dd H6 (fun b o e n => ?_) e6
      refine s6 _ _ (st _ _ (b3 _ _ e n) ?_)
      rintro rfl
      rw [n3] at e
      cases e
    · have hn : atK ((ts.take j).map fun t => (t.k, t.n, V.ref t.a)) t.k = none := atK_none.mpr fun e he => by
        obtain ⟨t2, m2, rfl⟩ := List.mem_map.mp he
        exact fun z => hm (List.mem_map.mpr ⟨t2, m2, z⟩)
      rw [hn]
      refine iteF ⟨_, rfl, _, rfl, a, C, dx, _, .ref dn, rfl, a4, SF.cl, SF.tn, rfl, _, rfl, t.a, CT, dxt, _, t.n, rfl, at4, TF.cl, TF.nm, rfl, dn, _, t.k, rfl, dk4, da4, nk, T4.deep, ?_, ?_⟩
      · rw [List.length_map, sizeLine_eq]
        omega
      · have pe : putE ((ts.take j).map fun t => (t.k, t.n, V.ref t.a)) t.k t.n (.ref t.a) = (ts.take (j + 1)).map fun t => (t.k, t.n, V.ref t.a) := by
          rw [putE_new hn, List.take_add_one, ht, List.map_append]
          rfl
        have D5 := daPut da4 dk4 nk T4.deep (x := V.ref t.a)
        rw [pe] at D5 ⊢
        refine ⟨⟨_, rfl⟩, st.upd rfl, ⟨upd_same, D5⟩, ?_⟩
        rw [List.take_add_one, ht, List.map_append]
        exact List.nodup_append.mpr ⟨nu, (by simp), by rintro u hu v hv rfl; simp at hv; exact hm (hv ▸ hu)⟩
  · rintro σ H5 ⟨⟨o, rfl⟩, st, B, nu⟩
    rw [List.length_map, List.take_length] at B nu
    obtain ⟨dk5, da5⟩ := B.ex
    have b5 : But a H H5 := fun b o e n => st _ _ (b3 _ _ e n) fun z => by
      have z : b = dn := z
      subst z
      rw [n3] at e
      cases e
    have a5 := st _ _ a3 (Ne.symm nda)
    have tu35 : Tups H3 H5 := st.tups fun b hb => hb ▸ dk_ntup d3
    have p5 := SqT.tups tu35 p3
    have key5 : ∀ t ∈ ts, TilOk K CT H5 t := fun t ht => (key t ht).tups tu35 fun dx2 h2 => st _ _ h2 (ne_of h2 d3 (fun z => nomatch z))
    have tabs5 : Tabs T H5 := Tabs.but tabs ha b5
    -- the names in order
    refine ⟨_, rfl, a, C, dx, _, .ref dn, rfl, a5, SF.cl, SF.tn, rfl, tabs5, ts.map Til.vd, ⟨dn, rfl, .inr ⟨_, da5, ?_⟩⟩, ?_, ?_, fun H6 p e6 tabs6 np => ?_⟩
    · rw [List.map_map, List.map_map]
      rfl
    · intro v hv
      obtain ⟨t, ht, rfl⟩ := List.mem_map.mp hv
      exact (key5 t ht).sh
    · rw [List.length_map, sizeLine_eq]
      omega
    refine ⟨p, _, rfl, .inl (SqL.of upd_same), fun pn H7 s7 hp7 => ?_⟩
    have s67 := same_trans (same_upd (o := .lst ((srt (ts.map Til.vd)).map (·.1))) np) s7
    have nm : (srt (ts.map Til.vd)).map (·.1) = (srtT ts).map (·.n) := by
      rw [← srtT_map, List.map_map]
      rfl
    rw [nm] at hp7
    have a6 := e6 _ _ a5 fun ps z => nomatch z
    have a7 := s67 _ _ a6
    refine ⟨_, rfl, a, C, dx, _, rfl, a7, SF.cl, SF.na, (by show 2 < 1000; decide), ?_⟩
    refine at_new fun H8 e8 => ?_
    have a8 : H8 a = some (.ins C dx [("tiles", .ref pt), ("_tile_by_name", .ref dn), ("_names", .ref pn)]) := by
      rw [e8]
      exact upd_same
    have b78 : But a H7 H8 := by
      rw [e8]
      exact But.upd (But.same same_refl)
    clear e8
    have x58 : ButN a H5 H8 := fun b o e t n => b78 _ _ (s67 _ _ (e6 _ _ e t)) n
    have tabs8 : Tabs T H8 := Tabs.but (tabs6.ext s67) a7 b78
    have tu78 : Tups H7 H8 := (ButN.of b78).tups a7
    have pn8 := SqT.tups tu78 hp7
    have x8 : ButN a H H8 := (ButN.of b5).trans x58
    have tu58 : Tups H5 H8 := x58.tups a5
    have p8 := SqT.tups tu58 p5
    have dk8 := x58 _ _ dk5 (fun ps z => nomatch z) (Ne.symm (ne_of a5 dk5 fun z => nomatch z))
    have da8 : DA K w H8 dn _ := daKeep da5 tu58 (.inl dk8)
    have key8 : ∀ t ∈ ts, TilOk K CT H8 t := fun t ht => (key5 t ht).tups tu58 fun dx2 h2 => x58 _ _ h2 (fun ps z => nomatch z) (ins_ne2 a5 h2)
    have nf : NewB H dn := fun o e => by
      rw [n3] at e
      cases e
    clear b78 x58 tu58 e6 s67 s7 np
    -- the ranks
    refine ⟨_, rfl, a, C, dx, _, .ref pn, rfl, a8, SF.cl, SF.na, rfl, pn, _, rfl, pn8, fun dr ndr => ?_⟩
    have key8s : ∀ {i : Nat} {y : V}, ((srtT ts).map (·.n))[i]? = some y → ∃ t, (srtT ts)[i]? = some t ∧ t ∈ ts ∧ t.n = y ∧ i < 900 := fun {i y} h => by
      rw [List.getElem?_map] at h
      obtain ⟨t, h1, h2⟩ := Option.map_eq_some_iff.mp h
      refine ⟨t, h1, srtT_mem.mp (List.mem_of_getElem? h1), h2, ?_⟩
      have := (List.getElem?_eq_some_iff.mp h1).1
      rw [srtT_len] at this
      omega
    refine dcA_it (walk_enumT (K := K) (a := pn) (xs := (srtT ts).map fun t : Til => t.n)) (fun i H' => Same H8 H' ∧ ∃ es : List Eh, H' dr = some (DkO w dr es) ∧ DA K w H' dr es ∧ es.length ≤ i) ⟨same_upd ndr, [], upd_same, da_new, Nat.le_refl _⟩ (fun i H' hi p => SqT.tups (fun x xs h => same_rd p.1 h) pn8) ?_ ?_
    · rintro i y Ha Hb hi ⟨s9, es, e9, D9, le9⟩ ⟨T1, x1, y1, rfl, nT, rfl, z1, z2⟩
      obtain ⟨t, t1, t2, rfl, t3⟩ := key8s z2
      have sT := same_upd (o := .tup [x1, t.n]) nT
      have nk : NK K (upd Ha T1 (.tup [x1, t.n])) t.k t.n := NK.tups (fun x xs h => same_rd (same_trans s9 sT) h) ⟨t.d, (key8 t t2).sh.1, (key8 t t2).key⟩
      have e9' := sT _ _ e9
      have D9' := daKeep D9 (fun x xs h => same_rd sT h) (.inl e9')
      refine ⟨T1, _, rfl, SqT.of upd_same, rfl, _, _, rfl, _, _, rfl, rfl, rfl, ?_⟩
      refine ⟨_, rfl, _, rfl, es, t.k, e9', D9', nk, (key8 t t2).deep, (by rw [sizeLine_eq]; omega), ?_, _, upd_same, daPut D9' e9' nk (key8 t t2).deep, ?_⟩
      · intro b o e
        rw [upd_ne (ne_of_none e ndr)]
        exact sT _ _ (s9 _ _ e)
      · have := putE_len es t.k t.n x1
        omega
    · rintro H9 ⟨s9, _, e9, _⟩
      refine ⟨_, rfl, a, C, dx, _, rfl, s9 _ _ a8, SF.cl, SF.ra, (by show 3 < 1000; decide), ?_⟩
      refine at_new fun H10 e10 => ?_
      have a10 : H10 a = some (.ins C dx [("tiles", .ref pt), ("_tile_by_name", .ref dn), ("_names", .ref pn), ("_ranks", .ref dr)]) := by
        rw [e10]
        exact upd_same
      have b10 : But a H8 H10 := by
        rw [e10]
        exact But.upd (But.same s9)
      clear e10 e9 s9
      have x10 : ButN a H H10 := x8.trans (ButN.of b10)
      have tu810 := (ButN.of b10).tups a8
      have tabs10 : Tabs T H10 := Tabs.but tabs8 a8 b10
      have pn10 := SqT.tups tu810 pn8
      have p10 := SqT.tups tu810 p8
      have dna : dn ≠ a := nda
      have dk10 := b10 _ _ dk8 dna
      have da10 : DA K w H10 dn _ := daKeep da8 tu810 (.inl dk10)
      have key10 : ∀ t ∈ ts, TilOk K CT H10 t := fun t ht => (key8 t ht).tups tu810 fun dx2 h2 => b10 _ _ h2 (ins_ne3 a8 h2)
      have inDn : ∀ t ∈ ts, atK (ts.map fun t => (t.k, t.n, V.ref t.a)) t.k = some (.ref t.a) := fun t ht => by
        obtain ⟨j, hj⟩ := List.getElem?_of_mem ht
        refine atK_get (j := j) (e := (t.k, t.n, V.ref t.a)) ?_ ?_ rfl
        · rw [List.map_map]
          exact nu
        · rw [List.getElem?_map, hj]
          rfl
      clear b10 tu810
      -- the names by the glues
      refine ⟨4, rfl, by decide, by decide, fun lg nlg => ?_⟩
      have lga : lg ≠ a := Ne.symm (ne_of_none a10 nlg)
      refine lc_range (lo := 0) (n := 4) (fun i H' => ∃ ds : List Addr, H' lg = some (.lst (ds.map V.ref)) ∧ ds.length = i ∧ Same H10 H' ∧ ∀ (j : Nat) d, ds[j]? = some d → ∃ Hi Hj, Grp K w Hi Hj d (onSide (srtT ts) j) ∧ Same H10 Hi ∧ (∃ xs, Hi lg = some (.lst xs)) ∧ Stay (fun b => b = lg) Hj H')
        ⟨[], upd_same, rfl, same_upd nlg, fun _ _ h => nomatch h⟩ (fun i H' hi p => ⟨rfl, yes_if ?_⟩) fun H11 p => ?_
      · obtain ⟨ds, l1, l2, s1', g1⟩ := p
        have aX := s1' _ _ a10
        refine ⟨_, rfl, a, dx, _, rfl, aX, rfl, _, rfl, a, dx, _, dn, pn, _, onSide (srtT ts) i, i, (by simp), hi, aX, rfl, rfl, daKeep da10 (fun x xs h => same_rd s1' h) (.inl (s1' _ _ dk10)), ?_, ?_, ?_, fun d H'' G => ?_⟩
        · have e : (onSide (srtT ts) i).map (·.1) = (srtT ts).map fun t : Til => t.n := by
            unfold onSide
            rw [List.map_map]
            rfl
          rw [e]
          exact SqT.tups (fun x xs h => same_rd s1' h) pn10
        · rw [onSide, List.length_map, srtT_len]
          omega
        · intro t ht
          obtain ⟨tl, htl, rfl⟩ := List.mem_map.mp ht
          have mt := srtT_mem.mp htl
          have T4 := (key10 tl mt).tups (fun x xs h => same_rd s1' h) fun dx2 h2 => s1' _ _ h2
          obtain ⟨dxt, at4⟩ := T4.at_
          have glu : ∃ g kg, [tl.gw, tl.gs, tl.ge, tl.go][i]? = some g ∧ ((tl.glues.map (·.2))[i]?).getD .none = kg ∧ (g, kg) ∈ tl.glues := by
            match i, hi with
            | 0, _ => exact ⟨_, _, rfl, rfl, by simp [Til.glues]⟩
            | 1, _ => exact ⟨_, _, rfl, rfl, by simp [Til.glues]⟩
            | 2, _ => exact ⟨_, _, rfl, rfl, by simp [Til.glues]⟩
            | 3, _ => exact ⟨_, _, rfl, rfl, by simp [Til.glues]⟩
          obtain ⟨g, kg, g1', g2', g3'⟩ := glu
          obtain ⟨gd, q1', q2', q3', q4'⟩ := T4.gl _ g3'
          refine ⟨tl.k, tl.a, dxt, tl.n, tl.gw, tl.gs, tl.ge, tl.go, g, ⟨tl.d, T4.sh.1, T4.key⟩, T4.deep, inDn tl mt, at4, g1', ?_, ?_⟩
          · rw [g2']
            exact ⟨gd, q1', q2'⟩
          · rw [g2']
            exact q3'
        · have l3 := G.same _ _ l1
          refine ⟨_, l3, ?_, ds ++ [d], ?_, ?_, ?_, ?_⟩
          · rw [List.length_map, sizeLine_eq]
            omega
          · rw [upd_same, List.map_append]
            rfl
          · rw [List.length_append, l2]
            rfl
          · intro b o e
            rw [upd_ne (ne_of_none e nlg)]
            exact G.same _ _ (s1' _ _ e)
          · intro j d' hd'
            by_cases hj : j < ds.length
            · rw [List.getElem?_append_left hj] at hd'
              obtain ⟨Hi, Hj, G', f1, f2, f3⟩ := g1 j d' hd'
              exact ⟨Hi, Hj, G', f1, f2, (f3.trans (Stay.of G.same)).upd rfl⟩
            · rw [List.getElem?_append_right (by omega)] at hd'
              have hj2 : j = i := by
                have := (List.getElem?_eq_some_iff.mp hd').1
                simp at this
                omega
              subst hj2
              rw [l2, Nat.sub_self] at hd'
              cases hd'
              exact ⟨H', H'', G, s1', ⟨_, l1⟩, Stay.rfl'.upd rfl⟩
      · obtain ⟨ds, l11, dl, s11, g11⟩ := p
        have a11 := s11 _ _ a10
        refine ⟨_, rfl, a, C, dx, _, rfl, a11, SF.cl, SF.ng, (by show 4 < 1000; decide), ?_⟩
        refine at_new fun H12 e12 => ?_
        have a12 : H12 a = some (.ins C dx [("tiles", .ref pt), ("_tile_by_name", .ref dn), ("_names", .ref pn), ("_ranks", .ref dr), ("_names_by_glue", .ref lg)]) := by
          rw [e12]
          exact upd_same
        have b1112 : But a H11 H12 := by
          rw [e12]
          exact But.upd (But.same same_refl)
        have tu1112 := (ButN.of b1112).tups a11
        have b12 : But a H10 H12 := fun b o e n => b1112 _ _ (s11 _ _ e) n
        have l12 := b1112 _ _ l11 lga
        have gr12 : ∀ (j : Nat) d, ds[j]? = some d → GrpO K w H H12 d (onSide (srtT ts) j) := fun j d hd => by
          obtain ⟨Hi, Hj, G, f1, ⟨xs, f2⟩, f3⟩ := g11 j d hd
          refine G.out (fun b hb => NewB.of (x10.trans (ButN.of (But.same f1))) (f1 _ _ a10) hb) (fun b o e n => ?_) (Tups.trans (f3.tups fun b hb => hb ▸ lst_ntup (G.same _ _ f2)) tu1112)
          refine b1112 _ _ (f3 _ _ e ?_) ?_
          · rintro rfl
            rw [f2] at n
            cases n
          · rintro rfl
            rw [f1 _ _ a10] at n
            cases n
        have lgn : NewB H lg := NewB.of x10 a10 nlg
        clear e12 b1112 tu1112 g11 l11 s11
        have x12 : ButN a H H12 := x10.trans (ButN.of b12)
        have tu12 := (ButN.of b12).tups a10
        have pn12 := SqT.tups tu12 pn10
        have p12 := SqT.tups tu12 p10
        have tabs12 : Tabs T H12 := Tabs.but tabs10 a10 b12
        have dk12 := b12 _ _ dk10 dna
        have da12 : DA K w H12 dn _ := daKeep da10 tu12 (.inl dk12)
        have key12 : ∀ t ∈ ts, TilOk K CT H12 t := fun t ht => (key10 t ht).tups tu12 fun dx2 h2 => b12 _ _ h2 (ins_ne3 a10 h2)
        clear key10 key8 key5 key a10 a8 a5 a3 a2
        -- the tiles in the names' order
        refine ⟨_, rfl, a, C, dx, _, .ref pn, rfl, a12, SF.cl, SF.na, rfl, pn, rfl, ⟨_, pn12⟩, fun D nD => ?_⟩
        refine lc_tup (K := K) (a := pn) (xs := (srtT ts).map fun t : Til => t.n) (fun i H' => Same H12 H' ∧ H' D = some (.lst (((srtT ts).take i).map fun t => V.ref t.a))) ⟨same_upd nD, upd_same⟩ (fun i H' hi p => SqT.tups (fun x xs h => same_rd p.1 h) pn12) ?_ ?_
        · rintro i y H' hx ⟨s', l'⟩
          obtain ⟨t, t1, t2, rfl, t3⟩ := key8s hx
          refine ⟨rfl, yes_if ?_⟩
          refine ⟨_, rfl, a, C, dx, _, .ref dn, rfl, s' _ _ a12, SF.cl, SF.tn, rfl, _, rfl, dn, _, t.k, .ref t.a, rfl, daKeep da12 (fun x xs h => same_rd s' h) (.inl (s' _ _ dk12)), NK.tups (fun x xs h => same_rd s' h) ⟨t.d, (key12 t t2).sh.1, (key12 t t2).key⟩, (key12 t t2).deep, inDn t t2, _, l', ?_, ?_, ?_⟩
          · rw [List.length_map, List.length_take, sizeLine_eq]
            omega
          · intro b o e
            rw [upd_ne (ne_of_none e nD)]
            exact s' _ _ e
          · rw [upd_same, List.take_add_one, t1, List.map_append]
            rfl
        · rintro H13 ⟨s13, l13⟩
          rw [List.length_map, List.take_length] at l13
          -- the rows
          refine ⟨_, rfl, D, rfl, ⟨_, SqL.of l13⟩, fun D2 nD2 => ?_⟩
          refine lc_list (K := K) (a := D) (xs := (srtT ts).map fun t : Til => V.ref t.a) (fun i H' => Same H13 H' ∧ ∃ rows, H' D2 = some (.lst rows) ∧ rows.length = i ∧ ∀ r ∈ rows, RowOk K H' r) ⟨same_upd nD2, [], upd_same, rfl, fun _ h => nomatch h⟩ (fun i H' hi p => SqL.of (p.1 _ _ l13)) ?_ ?_
          · rintro i y H' hx ⟨s', rows, l', r1, r2⟩
            obtain ⟨t, t1, rfl⟩ : ∃ t, (srtT ts)[i]? = some t ∧ V.ref t.a = y := by
              rw [List.getElem?_map] at hx
              exact Option.map_eq_some_iff.mp hx
            have t2 := srtT_mem.mp (List.mem_of_getElem? t1)
            have t3 : i < 900 := by
              have := (List.getElem?_eq_some_iff.mp t1).1
              rw [srtT_len] at this
              omega
            have T4 := (key12 t t2).tups (fun x xs h => same_rd (same_trans s13 s') h) fun dx2 h2 => s' _ _ (s13 _ _ h2)
            obtain ⟨dxt, at4⟩ := T4.at_
            refine ⟨rfl, yes_if ?_⟩
            refine ⟨_, rfl, t.a, CT, dxt, _, t.gw, rfl, at4, TF.cl, TF.we, rfl, ?_⟩
            refine ⟨_, rfl, t.a, CT, dxt, _, t.gs, rfl, at4, TF.cl, TF.so, rfl, ?_⟩
            refine ⟨_, rfl, t.a, CT, dxt, _, t.ge, rfl, at4, TF.cl, TF.ea, rfl, ?_⟩
            refine ⟨_, rfl, t.a, CT, dxt, _, t.go, rfl, at4, TF.cl, TF.no, rfl, (by show 4 ≤ sizeLine; decide), fun t4 n4 => ?_⟩
            have s4 := same_upd (o := .tup [t.gw, t.gs, t.ge, t.go]) n4
            have l4 := s4 _ _ l'
            have tuD := Tups.trans (fun x xs h => same_rd s4 h) (Tups.upd (o := .lst (rows ++ [.ref t4])) (lst_ntup l4))
            refine ⟨_, l4, by rw [sizeLine_eq]; omega, ?_, rows ++ [.ref t4], upd_same, by rw [List.length_append, r1]; rfl, ?_⟩
            · intro b o e
              rw [upd_ne (ne_of_none e nD2)]
              exact s4 _ _ (s' _ _ e)
            · intro r hr
              rcases List.mem_append.mp hr with hr | hr
              · exact (r2 r hr).tups tuD
              · obtain rfl := List.mem_singleton.mp hr
                have one : ∀ p ∈ t.glues, GlueOk K (upd (upd H' t4 (.tup [t.gw, t.gs, t.ge, t.go])) D2 (.lst (rows ++ [.ref t4]))) p.1 := fun p hp => by
                  obtain ⟨d, h1, h2, h3, h4⟩ := T4.gl p hp
                  exact (GlueOk.mk ⟨d, _, h1, h2, h3, h4⟩).tups tuD
                refine ⟨t4, _, rfl, SqT.tups (Tups.upd (lst_ntup l4)) (SqT.of upd_same), rfl, ?_⟩
                intro g hg
                simp only [List.mem_cons, List.not_mem_nil, or_false] at hg
                rcases hg with rfl | rfl | rfl | rfl
                · exact one (t.gw, t.kw) (by simp [Til.glues])
                · exact one (t.gs, t.ks) (by simp [Til.glues])
                · exact one (t.ge, t.ke) (by simp [Til.glues])
                · exact one (t.go, t.ko) (by simp [Til.glues])
          · rintro H14 ⟨s14, rows, l14, r14, ro14⟩
            intro ft fx nft nfx hne
            obtain ⟨H15, e15⟩ : ∃ H15, H15 = upd (upd H14 fx (.own ft)) ft (.ins CF fx []) := ⟨_, rfl⟩
            rw [← e15]
            have s15 : Same H14 H15 := fun b o e => by
              rw [e15, upd_ne (ne_of_none e nft), upd_ne (ne_of_none e nfx)]
              exact e
            have f15 : H15 ft = some (.ins CF fx []) := by
              rw [e15]
              exact upd_same
            clear e15
            rw [List.length_map, srtT_len] at r14
            refine ⟨ft, fx, D2, rows, rfl, f15, SqL.of (s15 _ _ l14), by omega, fun r hr => (ro14 r hr).tups fun x xs h => same_rd s15 h, fun H16 b16 _ => ⟨rfl, ?_⟩⟩
            have s16 : ∀ b o, H12 b = some o → H16 b = some o := fun b o e => by
              have e14 := s14 _ _ (s13 _ _ e)
              exact b16 _ _ (s15 _ _ e14) (ne_of_none e14 nft)
            have a16 := s16 _ _ a12
            refine ⟨_, rfl, a, C, dx, _, rfl, a16, SF.cl, SF.fi, (by show 5 < 1000; decide), ?_⟩
            refine at_new fun H17 e17 => ?_
            have a17 : H17 a = some (.ins C dx [("tiles", .ref pt), ("_tile_by_name", .ref dn), ("_names", .ref pn), ("_ranks", .ref dr), ("_names_by_glue", .ref lg), ("fits", .ref ft)]) := by
              rw [e17]
              exact upd_same
            have b17 : But a H12 H17 := fun b o e n => by
              rw [e17, upd_ne n]
              exact s16 _ _ e
            clear e17
            have tu17 := (ButN.of b17).tups a12
            have dk17 := b17 _ _ dk12 dna
            exact q1 nu H17 (x12.trans (ButN.of b17)) (Tabs.but tabs12 a12 b17) ⟨dx, pt, dn, pn, dr, lg, ft, ds, a17, SqT.tups tu17 p12, ⟨dk17, daKeep da12 tu17 (.inl dk17)⟩, nf, SqT.tups tu17 pn12, b17 _ _ l12 lga, lgn, dl, fun i d hd => (gr12 i d hd).but b17 a12⟩
end
end K3

set_option Elab.async false
set_option linter.all false
set_option maxRecDepth 100000
set_option maxHeartbeats 4000000
namespace Tr
open PySem PySem.Spec PyProof.Rows L2 AK Pen LamX
/-- a datum of the law: none of its tuples lies deeper than m -/
structure DatOk (m : Nat) (d : PyData) : Prop where
  key : ∃ k, keyD d = some k ∧ k.depth ≤ m
  sh : d.showable = true
  nd : d.hasDict = false
  dp : d.depth ≤ m + 1
  ls : d.leavesShort 40 = true
  bu : d.bulk ≤ 20 + 3 * m
  nn : K3.notNoneD d = true
  ly : d.canLay0 = true
theorem DatOk.mono {m m' : Nat} {d : PyData} (D : DatOk m d) (h : m ≤ m') : DatOk m' d := by
  obtain ⟨⟨k, k1, k2⟩, h1, h2, h3, h4, h5, h6, h7⟩ := D
  exact ⟨⟨k, k1, by omega⟩, h1, h2, by omega, h4, by omega, h6, h7⟩
theorem DatOk.short {m : Nat} {d : PyData} (D : DatOk m d) (h : m ≤ 20) : d.shown.length ≤ sizeLine := by
  have e := PyData.shown_le_bulk 40 (by decide) d D.ls
  have b := D.bu
  have z : (40 + 2) * d.bulk ≤ (40 + 2) * 100 := Nat.mul_le_mul_left _ (by omega)
  rw [sizeLine_eq]
  omega
theorem DatOk.show_ {K : PySem.W.Frag} {H : Hp} {m : Nat} {v : V} {d : PyData} (D : DatOk m d) (h : m ≤ 20) (dp : Dp K H v d) : ShowOk K H (v, d) := by
  obtain ⟨k, k1, k2⟩ := D.key
  exact ⟨dp, D.sh, D.nd, by have := D.dp; show d.depth ≤ 60; omega, D.short h, k, k1⟩
theorem datInt (i : Nat) (h : i < 200) : DatOk 0 (.int i) := by
  have a : ∀ i : Nat, i < 200 → (PyData.int i).showable = true ∧ (PyData.int i).leavesShort 40 = true := by decide +kernel
  obtain ⟨a1, a2⟩ := a i h
  exact ⟨⟨.num i, rfl, Nat.le_refl _⟩, a1, rfl, by simp [PyData.depth], a2, by simp [PyData.bulk], rfl, by simp [PyData.canLay0]⟩
theorem datStr (i : Nat) (h : i < 200) : DatOk 0 (.str (("g" : Str) ++ (toString (i : Int) : Str))) := by
  have a : ∀ i : Nat, i < 200 → (PyData.str (("g" : Str) ++ (toString (i : Int) : Str))).leavesShort 40 = true ∧ (PyData.str (("g" : Str) ++ (toString (i : Int) : Str))).bulk ≤ 20 ∧ (PyData.str (("g" : Str) ++ (toString (i : Int) : Str))).canLay0 = true := by decide +kernel
  obtain ⟨a1, a2, a3⟩ := a i h
  exact ⟨⟨.text _, rfl, Nat.le_refl _⟩, rfl, rfl, by simp [PyData.depth], a1, a2, rfl, a3⟩
theorem DatOk.one {m : Nat} {d : PyData} (D : DatOk m d) : DatOk (m + 1) (.tuple [d]) := by
  obtain ⟨⟨k, k1, k2⟩, h1, h2, h3, h4, h5, h6, h7⟩ := D
  refine ⟨⟨.tup [k], ?_, ?_⟩, ?_, ?_, ?_, ?_, ?_, rfl, by simp [PyData.canLay0, PyData.canLayAll0, h7]⟩
  · simp [keyD, keyDs, k1]
  · simp [NestedKey.depth, NestedKey.depthAll]; omega
  · simp [PyData.showable, PyData.showableAll, h1]
  · simp [PyData.hasDict, PyData.hasDictAll, h2]
  · simp [PyData.depth, PyData.depthAll]; omega
  · simp [PyData.leavesShort, PyData.leavesShortAll, h4]
  · simp [PyData.bulk, PyData.bulkAll]; omega
theorem DatOk.two {m : Nat} {d : PyData} (D : DatOk m d) : DatOk (m + 1) (.tuple [d, .none]) := by
  obtain ⟨⟨k, k1, k2⟩, h1, h2, h3, h4, h5, h6, h7⟩ := D
  refine ⟨⟨.tup [k, .none], ?_, ?_⟩, ?_, ?_, ?_, ?_, ?_, rfl, by simp [PyData.canLay0, PyData.canLayAll0, h7]⟩
  · simp [keyD, keyDs, k1]
  · simp [NestedKey.depth, NestedKey.depthAll]; omega
  · simp [PyData.showable, PyData.showableAll, h1]
  · simp [PyData.hasDict, PyData.hasDictAll, h2]
  · simp [PyData.depth, PyData.depthAll]; omega
  · simp [PyData.leavesShort, PyData.leavesShortAll, h4]
  · simp [PyData.bulk, PyData.bulkAll]; omega
end Tr
namespace K3
open PySem PySem.Spec PyProof.Rows L2 Pen Tr AK LamX
section
variable {P : Program} {w : World} {K : PySem.W.Frag} {mg : Str → Option PySem.Value} {base : Heap} {f fD fP : Addr} {fd fdD fdP : FuncData}
theorem scWhole : FnScope ["_law_value"] ["_law_value"] (defScope (top 28)) := ⟨rfl, rfl, rfl, by decide +kernel, rfl, by decide +kernel, by decide +kernel⟩
theorem ok_whole (F : FnT K "_law_is_whole" 28 f fd) (T : Txt mg) : FnOk P w K mg base CX0 1 f fd ["_law_value"] (spAsk isIntD K) := by
  refine F.ok scWhole (fun vs H Q E h => spAsk_len h) (fun cdv A outer s H vs Q E hr h => ?_)
  obtain ⟨v, d, rfl, hD, q⟩ := h
  suffices z : ∃ t, PSs (cxOf CX0 P w K mg base ["_law_value"] "_law_is_whole" (defScope (top 28)) f cdv A outer s H E).nox (defBody (top 28)) t ∧ t { nx := fun _ H' => Q .non H', rt := Q } (start ["_law_value"] [v]) H by
    obtain ⟨t, h1, h2⟩ := z
    exact ⟨t, h1.nox, h2⟩
  refine ⟨_, pss_one (ps_ret (pe_and (pe_callB call_isD (by rfl) T.isi (by decide +kernel) (pa_cons (pv 0) (pa_cons (pe_bltn (by rfl) T.int (by decide +kernel) (v := .ty "int") rfl) pa_nil)))
    (pe_one (pe_not (pe_callB call_isD (by rfl) T.isi (by decide +kernel) (pa_cons (pv 0) (pa_cons (pe_bltn (by rfl) T.bool (by decide +kernel) (v := .ty "bool") rfl) pa_nil))))))), ?_⟩
  obtain ⟨b, h1, h2, h3⟩ := kit_int d (dp_nodict hD)
  refine ⟨_, rfl, _, "int", d, b, rfl, hD, h1, b, rfl, ?_⟩
  by_cases hb : b = true
  · rw [if_pos hb]
    obtain ⟨c, c1, c2⟩ := h2 hb
    refine ⟨_, rfl, _, "bool", d, c, rfl, hD, c1, c, rfl, ?_⟩
    rw [c2]
    exact q
  · rw [if_neg hb]
    rw [h3 (by simpa using hb)] at q
    exact q
/-- _law_t2_datum -/
def spDatum (K : PySem.W.Frag) : Sp := fun vs H Q _ => ∃ (p pl : Addr) (n sn : Nat), vs = [.ref p, .int sn] ∧ PenAt H p pl n ∧ n ≤ 900000 ∧ sn < 200 ∧ ∀ v d H', DatOk 6 d → Dp K H' v d → PenAt H' p pl (n + 10) → But p H H' → Q v H'
abbrev nDatum : List Str := ["_law_pen_here", "_law_serial", "_law_found", "_law_lap"]
theorem scDatum : FnScope nDatum ["_law_pen_here", "_law_serial"] (defScope (top 30)) := ⟨rfl, rfl, rfl, by decide +kernel, rfl, by decide +kernel, by decide +kernel⟩
theorem ok_datum (F : FnT K "_law_t2_datum" 30 f fd) (T : Txt mg) (FP : FnP K "_law_pick" sPick fP fdP) (gP : mg "_law_pick" = some (.ref fP)) (FD : FnP K "_law_draw" sDraw fD fdD) (gD : mg "_law_draw" = some (.ref fD)) : FnOk P w K mg base CX0 3 f fd ["_law_pen_here", "_law_serial"] (spDatum K) := by
  refine F.ok scDatum (fun vs H Q E h => by obtain ⟨p, pl, n, sn, rfl, _⟩ := h; rfl) (fun cdv A outer s H vs Q E hr h => ?_)
  obtain ⟨p, pl, n, sn, rfl, PA, hn, hsn, q⟩ := h
  have nd := scDatum.nd
  have hu := hr.units
  suffices z : ∃ t, PSs (cxOf CX0 P w K mg base nDatum "_law_t2_datum" (defScope (top 30)) f cdv A outer s H E).nox (defBody (top 30)) t ∧ t { nx := fun _ H' => Q .non H', rt := Q } (start nDatum [.ref p, .int sn]) H by
    obtain ⟨t, h1, h2⟩ := z
    exact ⟨t, h1.nox, h2⟩
  have GP := ok_pick (P := P) (w := w) (mg := mg) (base := base) FP T FD gD
  have GD := ok_draw (P := P) (w := w) (mg := mg) (base := base) FD T
  have bP : L2.Binds K fdP ["_law_pen_here", "_law_some"] [] := FunD.bindsN FP fun _ _ _ _ _ _ us hl => match us, hl with | [_, _], _ => rfl
  have bD : L2.Binds K fdD ["_law_pen_here", "_law_many"] [] := FunD.bindsN FD fun _ _ _ _ _ _ us hl => match us, hl with | [_, _], _ => rfl
  refine ⟨_, pss_cons (ps_asg (pe_call GP hr (by rfl) gP FP.kp bP .nil pass0 (pa_cons (pv 0) (pa_cons (pe_lst (pa_cons (pv 1) (pa_cons (pe_op op_add_str pe_str (pe_callTy call_str_int (by rfl) T.str (by decide +kernel) (pa_cons (pv 1) pa_nil)))
        (pa_cons (pe_op op_add_str pe_str (pe_callTy call_str_int (by rfl) T.str (by decide +kernel) (pa_cons (pv 1) pa_nil))) pa_nil)))) pa_nil))) (pg_name (i := 2) nd rfl (.inl rfl)))
    (pss_cons (ps_for PassesOwn.never rfl (pi_range1 (by rfl) T.range (pa_cons (pe_call GP hr (by rfl) gP FP.kp bP .nil pass0 (pa_cons (pv 0) (pa_cons (pe_lst (pa_cons pe_int (pa_cons pe_int (pa_cons pe_int (pa_cons pe_int (pa_cons pe_int
          (pa_cons (pe_call GD (hr.mono (by decide)) (by rfl) gD FD.kp bD .nil pass0 (pa_cons (pv 0) (pa_cons pe_int pa_nil))) pa_nil))))))) pa_nil))) pa_nil)) (pg_name (i := 3) nd rfl (.inl rfl))
        (pss_one (ps_asg (pe_ifExp (PW.pt (pw_or (pt_cmp (pc_eqI (pe_call GD (hr.mono (by decide)) (by rfl) gD FD.kp bD .nil pass0 (pa_cons (pv 0) (pa_cons pe_int pa_nil))) pe_int)) (pw_or1 (pt_cmp (pc_gt (pv 3) pe_int)))))
          (pe_tup (pa_cons (pv 2) pa_nil)) (pe_tup (pa_cons (pv 2) (pa_cons pe_non pa_nil)))) (pg_name (i := 2) nd rfl (.inl rfl)))))
      (pss_one (ps_ret (pv 2)))), ?_⟩
  have tx : ((sn : Int).natAbs.log2 < 1920) ∧ ("g" : Str).length + (toString (sn : Int) : Str).length ≤ sizeLine := by
    have a : ∀ i : Nat, i < 200 → (i : Int).natAbs.log2 < 1920 ∧ ("g" : Str).length + (toString (i : Int) : Str).length ≤ 1000 := by decide +kernel
    obtain ⟨a1, a2⟩ := a sn hsn
    exact ⟨a1, by rw [sizeLine_eq]; omega⟩
  obtain ⟨kvs, hp⟩ := PA.is
  refine ⟨_, rfl, _, rfl, _, rfl, sn, rfl, tx.1, _, _, rfl, rfl, tx.2, _, rfl, sn, rfl, tx.1, _, _, rfl, rfl, tx.2, (by show 3 ≤ sizeLine; decide), fun l nl => ?_⟩
  refine ⟨p, pl, l, n, _, rfl, PA.keep (same_upd nl), by omega, SqL.of upd_same, (fun h => nomatch h), (by show 3 < 1073741824; decide), Ne.symm (ne_of_none hp nl), fun i v H1 hv PA1 but1 => ?_⟩
  obtain ⟨d1, D1, dp1⟩ : ∃ d, DatOk 0 d ∧ Dp K H1 v d := by
    match i, hv with
    | 0, hv => cases hv; exact ⟨_, datInt sn hsn, .int _⟩
    | 1, hv => cases hv; exact ⟨_, datStr sn hsn, .str _⟩
    | 2, hv => cases hv; exact ⟨_, datStr sn hsn, .str _⟩
  have but01 : But p H H1 := but_of_same (same_upd nl) but1
  refine ⟨_, rfl, _, rfl, p, pl, n + 1, 7, rfl, PA1, by omega, by omega, by omega, fun r H2 r0 r1 PA2 but2 => ?_⟩
  refine ⟨(by show 6 ≤ sizeLine; decide), fun l2 nl2 => ?_⟩
  obtain ⟨kvs2, hp2⟩ := PA2.is
  refine ⟨p, pl, l2, n + 2, _, rfl, PA2.keep (same_upd nl2), by omega, SqL.of upd_same, (fun h => nomatch h), (by show 6 < 1073741824; decide), Ne.symm (ne_of_none hp2 nl2), fun i2 v2 H3 hv2 PA3 but3 => ?_⟩
  obtain ⟨c, rfl, hc⟩ : ∃ c : Nat, v2 = .int c ∧ c ≤ 6 := by
    match i2, hv2 with
    | 0, hv => cases hv; exact ⟨0, rfl, by decide⟩
    | 1, hv => cases hv; exact ⟨0, rfl, by decide⟩
    | 2, hv => cases hv; exact ⟨0, rfl, by decide⟩
    | 3, hv => cases hv; exact ⟨1, rfl, by decide⟩
    | 4, hv => cases hv; exact ⟨2, rfl, by decide⟩
    | 5, hv => cases hv; exact ⟨r.toNat, by congr 1; omega, by omega⟩
  have but03 : But p H H3 := But.trans but01 (But.trans but2 (but_of_same (same_upd nl2) but3))
  have ptu : ∀ {Ha Hb : Hp} {m : Nat}, PenAt Ha p pl m → But p Ha Hb → Tups Ha Hb := fun {Ha Hb m} PA b c xs h => by
    obtain ⟨kvs, hp⟩ := PA.is
    have n : c ≠ p := by
      rintro rfl
      rcases h with h | ⟨u, h⟩ <;> rw [hp] at h <;> cases h
    exact h.imp (fun h => b _ _ h n) fun ⟨u, h⟩ => ⟨u, b _ _ h n⟩
  have t13 : Tups H1 H3 := ptu PA1 (But.trans but2 (but_of_same (same_upd nl2) but3))
  obtain ⟨k1, hk1, _⟩ := D1.key
  refine ⟨c, rfl, by omega, by omega, ?_⟩
  refine for_it (walk_range (lo := 0) (n := c)) (fun i σ H' => ∃ v d o, σ = [some (.ref p), some (.int sn), some v, o] ∧ DatOk i d ∧ Dp K H' v d ∧ PenAt H' p pl (n + 3 + i) ∧ But p H H') ?_ ?_ ?_ ?_
  · exact ⟨v, d1, none, rfl, D1, dp_tups t13 _ _ k1 hk1 dp1, PA3, but03⟩
  · exact fun _ _ _ _ _ => trivial
  · rintro i x σ H4 H5 hi ⟨v, d, o, rfl, D, dp, PA4, but4⟩ ⟨rfl, rfl⟩
    refine ⟨_, rfl, p, pl, n + 3 + i, 2, rfl, PA4, by omega, by omega, by omega, fun r H6 r0 r1 PA6 but6 => ?_⟩
    have t46 := ptu PA4 but6
    obtain ⟨k, hk, _⟩ := D.key
    have dp6 := dp_tups t46 _ _ k hk dp
    have new : ∀ {xs ds t}, DpAll K H6 xs ds → DatOk (i + 1) (.tuple ds) → H6 t = none → ∃ v' d' o', [some (V.ref p), some (.int sn), some (V.ref t), some (V.int (0 + (i : Int)))] = [some (.ref p), some (.int sn), some v', o'] ∧ DatOk (i + 1) d' ∧ Dp K (upd H6 t (.tup xs)) v' d' ∧ PenAt (upd H6 t (.tup xs)) p pl (n + 3 + (i + 1)) ∧ But p H (upd H6 t (.tup xs)) := fun {xs ds t} hx D' nt => by
      have st := same_upd (o := .tup xs) nt
      exact ⟨.ref t, .tuple ds, _, rfl, D', .tup (SqT.of upd_same) (dps_same st _ _ hx), PA6.keep st, But.trans but4 (But.trans but6 (But.same st))⟩
    refine ⟨r, 0, rfl, rfl, decide (r = 0), rfl, ?_⟩
    have one : (tTup (tCons (tVar 2) tNil)) ([some (V.ref p), some (V.int ↑sn), some v, some (V.int (0 + (i : Int)))] : L2.St) H6 (fun y H' => gName 2 y ([some (V.ref p), some (V.int ↑sn), some v, some (V.int (0 + (i : Int)))] : L2.St) H' fun σ H' => ∃ v d o, σ = [some (V.ref p), some (V.int ↑sn), some v, o] ∧ DatOk (i + 1) d ∧ Dp K H' v d ∧ PenAt H' p pl (n + 3 + (i + 1)) ∧ But p H H') :=
      ⟨_, rfl, (by show 1 ≤ sizeLine; decide), fun t nt => new (.cons dp6 .nil) D.one nt⟩
    have two : (tTup (tCons (tVar 2) (tCons (tC V.non) tNil))) ([some (V.ref p), some (V.int ↑sn), some v, some (V.int (0 + (i : Int)))] : L2.St) H6 (fun y H' => gName 2 y ([some (V.ref p), some (V.int ↑sn), some v, some (V.int (0 + (i : Int)))] : L2.St) H' fun σ H' => ∃ v d o, σ = [some (V.ref p), some (V.int ↑sn), some v, o] ∧ DatOk (i + 1) d ∧ Dp K H' v d ∧ PenAt H' p pl (n + 3 + (i + 1)) ∧ But p H H') :=
      ⟨_, rfl, (by show 2 ≤ sizeLine; decide), fun t nt => new (.cons dp6 (.cons .non .nil)) D.two nt⟩
    by_cases hr : r = 0
    · rw [decide_eq_true hr]
      exact iteT (iteT one)
    · rw [decide_eq_false hr]
      refine iteF ⟨_, rfl, (0 + (i : Int)), 0, rfl, rfl, decide ((0 + (i : Int)) > 0), rfl, ?_⟩
      by_cases hi2 : (0 + (i : Int)) > 0
      · rw [decide_eq_true hi2]
        exact iteT one
      · rw [decide_eq_false hi2]
        exact iteF two
  · rintro σ H' ⟨v, d, o, rfl, D, dp, PA', but'⟩
    exact ⟨_, rfl, q v d H' (D.mono hc) dp (PA'.mono (by omega)) but'⟩
end
end K3

set_option Elab.async false
set_option linter.all false
set_option maxRecDepth 100000
set_option maxHeartbeats 4000000
namespace Tr
open PySem PySem.Spec PyProof.Rows L2 AK Pen LamX
/-- a glue of the law -/
structure GluOk (d : PyData) : Prop where
  key : ∃ k, keyD d = some k ∧ k.depth ≤ 8
  dp : d.depth ≤ 9
  is : K3.isGlueD d = true
  ly : d.canLay0 = true
theorem pen_tups {p pl : Addr} {Ha Hb : Hp} {m : Nat} (PA : PenAt Ha p pl m) (b : But p Ha Hb) : Tups Ha Hb := fun c xs h => by
  obtain ⟨kvs, hp⟩ := PA.is
  have n : c ≠ p := by
    rintro rfl
    rcases h with h | ⟨u, h⟩ <;> rw [hp] at h <;> cases h
  exact h.imp (fun h => b _ _ h n) fun ⟨u, h⟩ => ⟨u, b _ _ h n⟩
theorem gluOk {d : PyData} {r : Int} (h : ∃ k, keyD d = some k ∧ k.depth ≤ 6) (dp : d.depth ≤ 7) (ly : d.canLay0 = true) (r0 : 0 ≤ r) (r1 : r < 3) : GluOk (.tuple [d, .int r]) := by
  obtain ⟨k, k1, k2⟩ := h
  refine ⟨⟨.tup [k, .num r], ?_, ?_⟩, ?_, ?_, by simp [PyData.canLay0, PyData.canLayAll0, ly]⟩
  · simp [keyD, keyDs, k1]
  · simp [NestedKey.depth, NestedKey.depthAll]; omega
  · simp [PyData.depth, PyData.depthAll]; omega
  · show (decide (0 ≤ r) && decide (r ≤ 2)) = true
    rw [decide_eq_true r0, decide_eq_true (by omega)]
    rfl
end Tr
namespace K3
open PySem PySem.Spec PyProof.Rows L2 Pen Tr AK LamX
section
variable {P : Program} {w : World} {K : PySem.W.Frag} {mg : Str → Option PySem.Value} {base : Heap} {f fD fP fT : Addr} {fd fdD fdP fdT : FuncData}
def spAny (K : PySem.W.Frag) : Sp := fun vs H Q _ => ∃ (p pl : Addr) (n : Nat), vs = [.ref p] ∧ PenAt H p pl n ∧ n ≤ 800000 ∧ ∀ v d H', GluOk d → Dp K H' v d → PenAt H' p pl (n + 15) → But p H H' → Q v H'
abbrev nAny : List Str := ["_law_pen_here", "_law_label"]
theorem scAny : FnScope nAny ["_law_pen_here"] (defScope (top 31)) := ⟨rfl, rfl, rfl, by decide +kernel, rfl, by decide +kernel, by decide +kernel⟩
theorem ok_any (F : FnT K "_law_t2_any_glue" 31 f fd) (T : Txt mg) (FP : FnP K "_law_pick" sPick fP fdP) (gP : mg "_law_pick" = some (.ref fP)) (FD : FnP K "_law_draw" sDraw fD fdD) (gD : mg "_law_draw" = some (.ref fD)) (FT : FnT K "_law_t2_datum" 30 fT fdT) (gT : mg "_law_t2_datum" = some (.ref fT)) :
    FnOk P w K mg base CX0 4 f fd ["_law_pen_here"] (spAny K) := by
  refine F.ok scAny (fun vs H Q E h => by obtain ⟨p, pl, n, rfl, _⟩ := h; rfl) (fun cdv A outer s H vs Q E hr h => ?_)
  obtain ⟨p, pl, n, rfl, PA, hn, q⟩ := h
  have nd := scAny.nd
  have hu := hr.units
  suffices z : ∃ t, PSs (cxOf CX0 P w K mg base nAny "_law_t2_any_glue" (defScope (top 31)) f cdv A outer s H E).nox (defBody (top 31)) t ∧ t { nx := fun _ H' => Q .non H', rt := Q } (start nAny [.ref p]) H by
    obtain ⟨t, h1, h2⟩ := z
    exact ⟨t, h1.nox, h2⟩
  have GP := ok_pick (P := P) (w := w) (mg := mg) (base := base) FP T FD gD
  have GD := ok_draw (P := P) (w := w) (mg := mg) (base := base) FD T
  have GT := ok_datum (P := P) (w := w) (mg := mg) (base := base) FT T FP gP FD gD
  have bP : L2.Binds K fdP ["_law_pen_here", "_law_some"] [] := FunD.bindsN FP fun _ _ _ _ _ _ us hl => match us, hl with | [_, _], _ => rfl
  have bD : L2.Binds K fdD ["_law_pen_here", "_law_many"] [] := FunD.bindsN FD fun _ _ _ _ _ _ us hl => match us, hl with | [_, _], _ => rfl
  have bT : L2.Binds K fdT ["_law_pen_here", "_law_serial"] [] := FunD.bindsN FT fun _ _ _ _ _ _ us hl => match us, hl with | [_, _], _ => rfl
  refine ⟨_, pss_cons (ps_asg (pe_call GP (hr.mono (by decide)) (by rfl) gP FP.kp bP .nil pass0 (pa_cons (pv 0) (pa_cons (pe_lst (pa_cons pe_non (pa_cons pe_int (pa_cons pe_str (pa_cons (pe_tup (pa_cons pe_str (pa_cons pe_int pa_nil)))
        (pa_cons (pe_call GT hr (by rfl) gT FT.kp bT .nil pass0 (pa_cons (pv 0) (pa_cons pe_int pa_nil))) pa_nil)))))) pa_nil))) (pg_name (i := 1) nd rfl (.inl rfl)))
    (pss_one (ps_ret (pe_tup (pa_cons (pv 1) (pa_cons (pe_call GD (hr.mono (by decide)) (by rfl) gD FD.kp bD .nil pass0 (pa_cons (pv 0) (pa_cons pe_int pa_nil))) pa_nil))))), ?_⟩
  refine ⟨_, rfl, (by show 2 ≤ sizeLine; decide), fun t nt => ?_⟩
  have st := same_upd (o := .tup [V.str "x", V.int 0]) nt
  refine ⟨_, rfl, p, pl, n, 5, rfl, PA.keep st, by omega, by decide, fun v5 d5 H1 D5 dp5 PA1 but1 => ?_⟩
  refine ⟨(by show 5 ≤ sizeLine; decide), fun l nl => ?_⟩
  obtain ⟨kvs, hp⟩ := PA1.is
  refine ⟨p, pl, l, n + 10, _, rfl, PA1.keep (same_upd nl), by omega, SqL.of upd_same, (fun h => nomatch h), (by show 5 < 1073741824; decide), Ne.symm (ne_of_none hp nl), fun i v H2 hv PA2 but2 => ?_⟩
  have but12 : But p H1 H2 := but_of_same (same_upd nl) but2
  have tu12 := pen_tups PA1 but12
  have tu02 : Tups (upd H t (.tup [V.str "x", V.int 0])) H2 := Tups.trans (pen_tups (PA.keep st) but1) tu12
  obtain ⟨k5, hk5, kd5⟩ := D5.key
  obtain ⟨d, hk, hdd, hly, hdp⟩ : ∃ d, (∃ k, keyD d = some k ∧ k.depth ≤ 6) ∧ d.depth ≤ 7 ∧ d.canLay0 = true ∧ Dp K H2 v d := by
    match i, hv with
    | 0, hv => cases hv; exact ⟨.none, ⟨_, rfl, Nat.zero_le _⟩, by simp [PyData.depth], by simp [PyData.canLay0], .non⟩
    | 1, hv => cases hv; exact ⟨.int 0, ⟨_, rfl, Nat.zero_le _⟩, by simp [PyData.depth], by simp [PyData.canLay0], .int _⟩
    | 2, hv => cases hv; exact ⟨.str "x", ⟨_, rfl, Nat.zero_le _⟩, by simp [PyData.depth], by decide +kernel, .str _⟩
    | 3, hv => cases hv; exact ⟨.tuple [.str "x", .int 0], ⟨_, rfl, by decide⟩, by simp [PyData.depth, PyData.depthAll], by decide +kernel, .tup (SqT.tups tu02 (SqT.of upd_same)) (.cons (.str _) (.cons (.int _) .nil))⟩
    | 4, hv => cases hv; exact ⟨d5, ⟨k5, hk5, kd5⟩, D5.dp, D5.ly, dp_tups tu12 _ _ k5 hk5 dp5⟩
  have but02 : But p H H2 := but_of_same st (But.trans but1 but12)
  refine ⟨_, rfl, _, rfl, p, pl, n + 11, 3, rfl, PA2, by omega, by decide, by decide, fun r H3 r0 r1 PA3 but3 => ?_⟩
  refine ⟨(by show 2 ≤ sizeLine; decide), fun t2 nt2 => ?_⟩
  obtain ⟨k, k1, k2⟩ := hk
  have s3 := same_upd (o := .tup [v, V.int r]) nt2
  have dp3 := dps_same s3 _ _ (.cons (dp_tups (pen_tups PA2 but3) _ _ k k1 hdp) (.cons (.int r) .nil))
  exact q (.ref t2) _ _ (gluOk ⟨k, k1, k2⟩ hdd hly r0 r1) (.tup (SqT.of upd_same) dp3) ((PA3.keep s3).mono (by omega)) (But.trans but02 (But.trans but3 (But.same s3)))
end
end K3

set_option Elab.async false
set_option linter.all false
set_option maxRecDepth 100000
set_option maxHeartbeats 4000000
namespace K3
open PySem PySem.Spec PyProof.Rows L2 Pen Tr AK LamX
section
variable {P : Program} {w : World} {K : PySem.W.Frag} {mg : Str → Option PySem.Value} {base : Heap} {f fB fW CP : Addr} {fd fdB fdW : FuncData}
/-- a class of errors that is caught: what the clause and the fields ask -/
structure Ct (K : PySem.W.Frag) (mg : Str → Option PySem.Value) (x : Str) (C : Addr) (fs : List Str) : Prop where
  mgx : mg x = some (.ref C)
  xf : XfC K C
  no : ∀ f ∈ fs, PySem.W.findIn K (.ref C) f = some none
  ex : PySem.W.exmOne K (.ref C) (.ref C) = some true
def spBR (K : PySem.W.Frag) : Sp := fun vs H Q _ => ∃ v d, vs = [v] ∧ Dp K H v d ∧ d.canLay0 = true ∧ d.depth ≤ 60 ∧ ∀ H', Same H H' → Q (.bl true) H'
abbrev nBR : List Str := ["_law_place", "_law_told", "e", "_law_is_place", "_law_across", "_law_up"]
theorem scBR : FnScope nBR ["_law_place"] (defScope (top 37)) := ⟨rfl, rfl, rfl, by decide +kernel, rfl, by decide +kernel, by decide +kernel⟩
theorem ok_br (F : FnT K "_law_t2_beside_right" 37 f fd) (T : Txt mg) (CT : Ct K mg "BadPlace" CP ["place"]) (FB : FnT K "beside" 19 fB fdB) (gB : mg "beside" = some (.ref fB)) (GB : FnOk P w K mg base (L2.CX P w) 4 fB fdB ["place"] (spBeside K CP))
    (FW : FnT K "_law_is_whole" 28 fW fdW) (gW : mg "_law_is_whole" = some (.ref fW)) : FnOk P w K mg base CX0 5 f fd ["_law_place"] (spBR K) := by
  refine F.ok scBR (fun vs H Q E h => by obtain ⟨v, d, rfl, _⟩ := h; rfl) (fun cdv A outer s H vs Q E hr h => ?_)
  obtain ⟨v, d, rfl, hD, sd, ed, q⟩ := h
  have nd := scBR.nd
  have hu := hr.units
  suffices z : ∃ t, PSs (cxOf CX0 P w K mg base nBR "_law_t2_beside_right" (defScope (top 37)) f cdv A outer s H E).nox (defBody (top 37)) t ∧ t { nx := fun _ H' => Q .non H', rt := Q } (start nBR [v]) H by
    obtain ⟨t, h1, h2⟩ := z
    exact ⟨t, h1.nox, h2⟩
  have GW := ok_whole (P := P) (w := w) (base := base) FW T
  have bW : L2.Binds K fdW ["_law_value"] [] := FunD.bindsN FW fun _ _ _ _ _ _ us hl => match us, hl with | [_], _ => rfl
  have bB : L2.Binds K fdB ["place"] [] := FunD.bindsN FB fun _ _ _ _ _ _ us hl => match us, hl with | [_], _ => rfl
  have hno := CT.no "place" (by simp)
  refine ⟨_, pss_cons (ps_asg pe_non (pg_name (i := 1) nd rfl (.inl rfl)))
    (pss_cons (ps_try_as (i := 2) (tb := fun W => tAsg (tCallS (spBeside K CP) (WE W) (tCons (tVar 0) tNil)) (gName 1)) (ts := fun a cls d => tAsg (tTup (tCons (tC (.str "bad")) (tCons (tXf a cls d CP "place" (tVar 2)) tNil))) (gName 1)) (Wout := fun _ _ _ _ => False)
        rfl rfl nd rfl rfl ⟨rfl, by decide, .inl CT.mgx⟩ L2.takes0
        (fun W pn xe tk _ => pss_one (ps_asg (pe_callS GB hr (by rfl) gB FB.kp bB (fun σ => passAt tk σ) (pa_cons (pv 0) pa_nil)) (pg_name (i := 1) nd rfl (.inl rfl))))
        (fun a oe cls d pn hz hf => pss_one (ps_asg (pe_tup (pa_cons pe_str (pa_cons (pe_xf CT.xf hno hz hf (pv 2)) pa_nil))) (pg_name (i := 1) nd rfl (.inl rfl)))))
    (pss_cons (ps_asg (pe_and (pe_callB call_isD (by rfl) T.isi (by decide +kernel) (pa_cons (pv 0) (pa_cons (pe_bltn (by rfl) T.tuple (by decide +kernel) (v := .ty "tuple") rfl) pa_nil)))
        (pe_one (pe_cmp (pc_eqI (pe_callB call_len_seq (by rfl) T.len PySem.boot_len (pa_cons (pv 0) pa_nil)) pe_int) rfl))) (pg_name (i := 3) nd rfl (.inl rfl)))
    (pss_cons (ps_if (PW.pt (pw_or (pt_not (pt_val (pv 3))) (pw_or (pt_not (pt_val (pe_call GW (hr.mono (by decide)) (by rfl) gW FW.kp bW .nil pass0 (pa_cons (pe_ix ix_tup (pv 0) pe_int (fun _ _ => rfl)) pa_nil))))
          (pw_or1 (pt_not (pt_val (pe_call GW (hr.mono (by decide)) (by rfl) gW FW.kp bW .nil pass0 (pa_cons (pe_ix ix_tup (pv 0) pe_int (fun _ _ => rfl)) pa_nil))))))))
        (pss_one (ps_ret (pe_cmpR (op_eqD hu) (pv 1) (pe_tup (pa_cons pe_str (pa_cons (pv 0) pa_nil))) (by rfl)))) pss_nil)
    (pss_cons (ps_asg (pv 0) (pg_tup (by rfl) (pgs_cons (pg_name (i := 4) nd rfl (.inl rfl)) (pgs_cons (pg_name (i := 5) nd rfl (.inl rfl)) pgs_nil))))
    (pss_one (ps_ret (pe_cmpR (op_eqD hu) (pv 1) (pe_tup (pa_cons (pe_tup (pa_cons (pe_op op_sub (pv 4) pe_int) (pa_cons (pv 5) pa_nil))) (pa_cons (pe_tup (pa_cons (pv 4) (pa_cons (pe_op op_sub (pv 5) pe_int) pa_nil)))
      (pa_cons (pe_tup (pa_cons (pe_op op_add (pv 4) pe_int) (pa_cons (pv 5) pa_nil))) (pa_cons (pe_tup (pa_cons (pv 4) (pa_cons (pe_op op_add (pv 5) pe_int) pa_nil))) pa_nil))))) (by rfl)))))))), ?_⟩
  have sh : SeqAt.shaped (.tuple [.str "bad", d]) = true := by
    have c : PyData.canLay0 (.tuple [.str "bad", d]) = true := by
      simp only [PyData.canLay0, PyData.canLayAll0, sd, Bool.and_true]
      decide +kernel
    have e : PyData.depth (.tuple [.str "bad", d]) ≤ 64 := by
      simp only [PyData.depth, PyData.depthAll]
      omega
    unfold SeqAt.shaped
    rw [c, decide_eq_true e]
    rfl
  refine ⟨_, rfl, v, d, rfl, hD, fun hp t H1 s1 ht => ?_, fun hp dd H2 nd2 s2 e2 => ?_⟩
  · -- a place
    obtain ⟨x, y, rfl⟩ := place_is hp
    have hD1 := dp_same s1 _ _ hD
    cases hD1 with
    | @tup a xs ds hs ha =>
      obtain ⟨vx, vy, rfl⟩ : ∃ vx vy, xs = [vx, vy] := by
        cases ha with
        | cons _ t => cases t with
          | cons _ t2 => cases t2; exact ⟨_, _, rfl⟩
      cases ha with
      | cons h1 t2 => cases t2 with
        | cons h2 _ =>
          cases h1
          cases h2
          refine ⟨_, rfl, _, "tuple", _, _, rfl, dp_same s1 _ _ hD, kit_tup _ (dp_nodict hD), _, rfl, ?_⟩
          rw [show isTupD (PyData.tuple [PyData.int x, PyData.int y]) = true from rfl, if_pos rfl]
          refine ⟨_, rfl, a, _, rfl, .inr hs, _, _, rfl, rfl, ?_⟩
          refine ⟨_, rfl, true, rfl, ?_⟩
          refine iteF ⟨_, rfl, a, _, 0, _, rfl, rfl, hs, rfl, _, _, rfl, .int x, true, rfl, ?_⟩
          refine iteF ⟨_, rfl, a, _, 1, _, rfl, rfl, hs, rfl, _, _, rfl, .int y, true, rfl, ?_⟩
          refine iteF ?_
          refine ⟨_, rfl, a, _, rfl, hs, rfl, _, _, rfl, _, _, rfl, rfl, ?_⟩
          refine ⟨_, rfl, _, rfl, x, 1, rfl, rfl, _, rfl, (by show 2 ≤ sizeLine; decide), fun t1 n1 => ?_⟩
          refine ⟨_, rfl, _, rfl, y, 1, rfl, rfl, (by show 2 ≤ sizeLine; decide), fun t2 n2 => ?_⟩
          refine ⟨_, rfl, x, 1, rfl, rfl, _, rfl, (by show 2 ≤ sizeLine; decide), fun t3 n3 => ?_⟩
          refine ⟨_, rfl, _, rfl, y, 1, rfl, rfl, (by show 2 ≤ sizeLine; decide), fun t4 n4 => ?_⟩
          refine ⟨(by show 4 ≤ sizeLine; decide), fun t5 n5 => ?_⟩
          have u1 := same_upd (o := .tup [.int (x - 1), .int y]) n1
          have u2 := same_upd (o := .tup [.int x, .int (y - 1)]) n2
          have u3 := same_upd (o := .tup [.int (x + 1), .int y]) n3
          have u4 := same_upd (o := .tup [.int x, .int (y + 1)]) n4
          have u5 := same_upd (o := .tup [.ref t1, .ref t2, .ref t3, .ref t4]) n5
          have sB : SeqAt.shaped (besideD (.tuple [.int x, .int y])) = true := by
            simp only [besideD, SeqAt.shaped, PyData.canLay0, PyData.canLayAll0, PyData.depth, PyData.depthAll]
            rfl
          have uu := same_trans u1 (same_trans u2 (same_trans u3 (same_trans u4 u5)))
          refine ⟨_, besideD (.tuple [.int x, .int y]), dp_same uu _ _ ht, .tup (SqT.of upd_same) (.cons ?_ (.cons ?_ (.cons ?_ (.cons ?_ .nil)))), sB, sB, ?_⟩
          · exact .tup (SqT.of (u5 _ _ (u4 _ _ (u3 _ _ (u2 _ _ upd_same))))) (.cons (.int _) (.cons (.int _) .nil))
          · exact .tup (SqT.of (u5 _ _ (u4 _ _ (u3 _ _ upd_same)))) (.cons (.int _) (.cons (.int _) .nil))
          · exact .tup (SqT.of (u5 _ _ (u4 _ _ upd_same))) (.cons (.int _) (.cons (.int _) .nil))
          · exact .tup (SqT.of (u5 _ _ upd_same)) (.cons (.int _) (.cons (.int _) .nil))
          · rw [SeqAt.eqv_refl _ (SeqAt.canLay_of_shaped sB)]
            exact q _ (same_trans s1 uu)
  · -- no place
    refine ⟨true, CT.ex, fun _ ea na => ?_, fun h => nomatch h⟩
    refine ⟨_, rfl, rfl, rfl, dd, _, _, rfl, e2, rfl, (by show 2 ≤ sizeLine; decide), fun t nt => ?_⟩
    have u1 := same_upd (o := .tup [.str "bad", v]) nt
    have s3 := same_trans s2 u1
    have told : Dp K (upd H2 t (.tup [.str "bad", v])) (.ref t) (.tuple [.str "bad", d]) := .tup (SqT.of upd_same) (.cons (.str _) (.cons (dp_same s3 _ _ hD) .nil))
    have hD3 := dp_same s3 _ _ hD
    clear nd2 e2
    have fin : ∀ σ : L2.St, σ[0]? = some (some v) → σ[1]? = some (some (.ref t)) → ∀ D : Ends, (∀ H', Same (upd H2 t (.tup [.str "bad", v])) H' → D.rt (.bl true) H') → tRet (tOp (rEqD K) (tVar 1) (tTup (tCons (tC (.str "bad")) (tCons (tVar 0) tNil)))) D σ (upd H2 t (.tup [.str "bad", v])) := fun σ z0 z1 D qq => by
      refine ⟨_, z1, _, z0, (by show 2 ≤ sizeLine; decide), fun t2 n2 => ?_⟩
      have u2 := same_upd (o := .tup [.str "bad", v]) n2
      refine ⟨_, .tuple [.str "bad", d], dp_same u2 _ _ told, .tup (SqT.of upd_same) (.cons (.str _) (.cons (dp_same u2 _ _ hD3) .nil)), sh, sh, ?_⟩
      rw [SeqAt.eqv_refl _ (SeqAt.canLay_of_shaped sh)]
      exact qq _ u2
    refine ⟨_, rfl, _, "tuple", d, isTupD d, rfl, hD3, kit_tup d (dp_nodict hD3), isTupD d, rfl, ?_⟩
    by_cases hb : isTupD d = true
    · rw [if_pos hb]
      cases hD3 with
      | @tup a xs ds hs ha =>
        refine ⟨_, rfl, a, xs, rfl, .inr hs, _, _, rfl, rfl, ?_⟩
        refine ⟨_, rfl, decide ((xs.length : Int) = 2), rfl, ?_⟩
        by_cases h2 : xs.length = 2
        · obtain ⟨x, y, dx, dy, rfl, rfl, hx, hy⟩ := two_of ha h2
          refine iteF ⟨_, rfl, a, _, 0, _, rfl, rfl, hs, rfl, x, dx, rfl, hx, isIntD dx, rfl, ?_⟩
          cases h3 : isIntD dx with
          | false => exact iteT (iteT (fin _ rfl rfl _ fun H' s' => q H' (same_trans s3 s')))
          | true =>
            refine iteF ⟨_, rfl, a, _, 1, _, rfl, rfl, hs, rfl, y, dy, rfl, hy, isIntD dy, rfl, ?_⟩
            cases h4 : isIntD dy with
            | false => exact iteT (fin _ rfl rfl _ fun H' s' => q H' (same_trans s3 s'))
            | true =>
              have : isPlaceD (.tuple [dx, dy]) = true := by
                show (isIntD dx && isIntD dy) = true
                rw [h3, h4]
                rfl
              rw [this] at hp
              cases hp
        · rw [decide_eq_false (show ¬ ((xs.length : Int) = 2) by omega)]
          exact iteT (iteT (fin _ rfl rfl _ fun H' s' => q H' (same_trans s3 s')))
      | _ => cases hb
    · rw [if_neg hb]
      refine ⟨_, rfl, false, rfl, ?_⟩
      exact iteT (iteT (fin _ rfl rfl _ fun H' s' => q H' (same_trans s3 s')))
end
end K3

set_option Elab.async false
set_option linter.all false
set_option maxRecDepth 100000
set_option maxHeartbeats 4000000
namespace Tr
open PySem PySem.Spec PyProof.Rows L2
/-- o.m(..) where what the method lets out is told at the slots -/
def tMethW (C : Addr) (m : Str) (sp : Sp) (E : L2.St → XK) (ta : TE) (t : TA) : TE := fun σ H Q => ta σ H fun x H1 => ∃ a dx fs, x = .ref a ∧ H1 a = some (.ins C dx fs) ∧ fs.lookup m = none ∧ t σ H1 fun vs H2 => sp (x :: vs) H2 Q (E σ)
theorem pe_methW {X : Cx} {CX : CXT} {k : Nat} {C f : Addr} {m : Str} {fd : FuncData} {ps : List Str} {sp : Sp} {E : L2.St → XK} {o e : PySem.Expr} {es : List PySem.Expr} {ta : TE} {t : TA} {apos pos : Pos} {pl : Sem Bool} (he : PE X o ta) (c : Cls X.K C) (hm : Meth X.K C m f)
    (F : FnOk X.prog X.w X.K X.mg X.base CX k f fd ps sp) (hr : Room k X.A) (hb : L2.Binds X.K fd ps []) (hx : ∀ σ, PassesAt CX X σ (E σ)) (ha : PA X (e :: es) t)
    (hst : starEach (e :: es) X.env = (false, eval e X.env) :: starEach es X.env := by rfl) (hpl : (backTo pos (starEach es X.env)).any (·.1) = false := by rfl)
    (ht : eval (.Call (.Attribute o m apos) (e :: es) [] pos) X.env = (do
      let ov ← eval o X.env
      standAt apos.atName
      let (f, first) ← holding [ov] (getMethod ov m pl)
      callWith pos f first (backTo pos (starEach (e :: es) X.env)) (backToKw pos (keywordEach [] X.env))) := by rfl) :
    PE X (.Call (.Attribute o m apos) (e :: es) [] pos) (tMethW C m sp E ta t) := by
  refine ⟨fun pins s σ H Q I h => ?_⟩
  refine PySem.W.methodCall_KW (pl := pl) (thn (he.run pins s σ H _ I h) fun u s1 ⟨x, H1, I1, rx, a, dx, fs, ex, ea, l, q⟩ => ?_) ht
  subst ex
  obtain rfl : u = PySem.Value.ref a := rx
  refine getmeth_ok I1 ea c hm l ?_
  refine PySem.W.callWith_K (first := [.ref a]) (h₀ := X.base) I.ok.mod.kin hm.kp (thn (ha.run pos pins s1 σ H1 _ I1 q) fun us s2 ⟨vs, H2, I2, r, q2⟩ => ⟨I2.kIn, ?_⟩) hst hpl
  exact run_fnS (us := .ref a :: us) (vs := .ref a :: vs) F hr hb (hx σ) I2 (.cons rfl r) q2
end Tr
namespace K3
open PySem PySem.Spec PyProof.Rows L2 Pen Tr AK LamX
section
variable {P : Program} {w : World} {K : PySem.W.Frag} {mg : Str → Option PySem.Value} {base : Heap} {f fG fW C CB : Addr} {fd fdG fdW : FuncData}
/-- _law_t2_side_right: a tile, the list of its glues, a side that is data -/
def spSR (K : PySem.W.Frag) (C : Addr) : Sp := fun vs H Q _ => ∃ a dx n w s e o kl v d, vs = [.ref a, .ref kl, v] ∧ H a = some (tileO C dx n w s e o) ∧ SqL K H kl [w, s, e, o] ∧ Dp K H v d ∧ d.canLay0 = true ∧ d.depth ≤ 60 ∧
  (∀ g ∈ [w, s, e, o], ∃ gd k, Dp K H g gd ∧ keyD gd = some k ∧ gd.canLay0 = true ∧ gd.depth ≤ 60) ∧ ∀ H', Same H H' → Q (.bl true) H'
abbrev nSR : List Str := ["_law_tile", "_law_kind", "_law_side", "_law_told", "e"]
theorem scSR : FnScope nSR ["_law_tile", "_law_kind", "_law_side"] (defScope (top 33)) := ⟨rfl, rfl, rfl, by decide +kernel, rfl, by decide +kernel, by decide +kernel⟩
theorem ok_sr (F : FnT K "_law_t2_side_right" 33 f fd) (T : Txt mg) (CT : Ct K mg "BadNumber" CB ["what", "number"]) (TF : TileF K C) (FG : FnM K "glue_at" "Tile.glue_at" (cTile 1) fG fdG) (MG : Meth K C "glue_at" fG) (GG : FnOk P w K mg base (L2.CX P w) 4 fG fdG ["self", "side"] (spGlueAt K C CB))
    (FW : FnT K "_law_is_whole" 28 fW fdW) (gW : mg "_law_is_whole" = some (.ref fW)) : FnOk P w K mg base CX0 5 f fd ["_law_tile", "_law_kind", "_law_side"] (spSR K C) := by
  refine F.ok scSR (fun vs H Q E h => by obtain ⟨a, dx, n, w, s, e, o, kl, v, d, rfl, _⟩ := h; rfl) (fun cdv A outer s0 H vs Q E hr h => ?_)
  obtain ⟨a, dx, n, gw, gs, ge, go, kl, v, d, rfl, ha, hk, hD, cd, dd0, hg, q⟩ := h
  have nd := scSR.nd
  have hu := hr.units
  suffices z : ∃ t, PSs (cxOf CX0 P w K mg base nSR "_law_t2_side_right" (defScope (top 33)) f cdv A outer s0 H E).nox (defBody (top 33)) t ∧ t { nx := fun _ H' => Q .non H', rt := Q } (start nSR [.ref a, .ref kl, v]) H by
    obtain ⟨t, h1, h2⟩ := z
    exact ⟨t, h1.nox, h2⟩
  have GW := ok_whole (P := P) (w := w) (base := base) FW T
  have bW : L2.Binds K fdW ["_law_value"] [] := FunD.bindsN FW fun _ _ _ _ _ _ us hl => match us, hl with | [_], _ => rfl
  have bG : L2.Binds K fdG ["self", "side"] [] := FunD.bindsN FG fun _ _ _ _ _ _ us hl => match us, hl with | [_, _], _ => rfl
  have no1 := CT.no "what" (by simp)
  have no2 := CT.no "number" (by simp)
  refine ⟨_, pss_cons (ps_asg pe_non (pg_name (i := 3) nd rfl (.inl rfl)))
    (pss_cons (ps_try_as (i := 4) (tb := fun W => tAsg (tTup (tCons (tC (.str "glue")) (tCons (tMethW C "glue_at" (spGlueAt K C CB) (WE W) (tVar 0) (tCons (tVar 2) tNil)) tNil))) (gName 3))
        (ts := fun a cls d => tAsg (tTup (tCons (tC (.str "bad")) (tCons (tXf a cls d CB "what" (tVar 4)) (tCons (tXf a cls d CB "number" (tVar 4)) tNil)))) (gName 3)) (Wout := fun _ _ _ _ => False)
        rfl rfl nd rfl rfl ⟨rfl, by decide, .inl CT.mgx⟩ L2.takes0
        (fun W pn xe tk _ => pss_one (ps_asg (pe_tup (pa_cons pe_str (pa_cons (pe_methW (pv 0) TF.cl MG GG hr bG (fun σ => passAt tk σ) (pa_cons (pv 2) pa_nil)) pa_nil))) (pg_name (i := 3) nd rfl (.inl rfl))))
        (fun a oe cls d pn hz hf => pss_one (ps_asg (pe_tup (pa_cons pe_str (pa_cons (pe_xf CT.xf no1 hz hf (pv 4)) (pa_cons (pe_xf CT.xf no2 hz hf (pv 4)) pa_nil)))) (pg_name (i := 3) nd rfl (.inl rfl)))))
    (pss_cons (ps_if (PW.pt (pw_and (pt_val (pe_call GW (hr.mono (by decide)) (by rfl) gW FW.kp bW .nil pass0 (pa_cons (pv 2) pa_nil))) (pw_and1 (pt_chain op_le op_le pe_int (pv 2) pe_int))))
        (pss_one (ps_ret (pe_cmpR (op_eqD hu) (pv 3) (pe_tup (pa_cons pe_str (pa_cons (pe_ix ix_list (pv 1) (pv 2) (fun _ _ => rfl)) pa_nil))) (by rfl)))) pss_nil)
    (pss_one (ps_ret (pe_cmpR (op_eqD hu) (pv 3) (pe_tup (pa_cons pe_str (pa_cons pe_str (pa_cons (pv 2) pa_nil)))) (by rfl)))))), ?_⟩
  have shT : ∀ (x : PyData), x.canLay0 = true → x.depth ≤ 60 → SeqAt.shaped (.tuple [.str "glue", x]) = true ∧ SeqAt.shaped (.tuple [.str "bad", .str "side", x]) = true := fun x c0 dx0 => by
    have c1 : PyData.canLay0 (.tuple [.str "glue", x]) = true := by
      simp only [PyData.canLay0, PyData.canLayAll0, c0, Bool.and_true]
      decide +kernel
    have c2 : PyData.canLay0 (.tuple [.str "bad", .str "side", x]) = true := by
      simp only [PyData.canLay0, PyData.canLayAll0, c0, Bool.and_true]
      decide +kernel
    have e1 : PyData.depth (.tuple [.str "glue", x]) ≤ 64 := by
      simp only [PyData.depth, PyData.depthAll]
      omega
    have e2 : PyData.depth (.tuple [.str "bad", .str "side", x]) ≤ 64 := by
      simp only [PyData.depth, PyData.depthAll]
      omega
    unfold SeqAt.shaped
    rw [c1, c2, decide_eq_true e1, decide_eq_true e2]
    exact ⟨rfl, rfl⟩
  refine ⟨_, rfl, a, dx, _, rfl, ha, rfl, _, rfl, a, dx, n, gw, gs, ge, go, v, d, rfl, ha, hD, fun i e g hgi H' s' => ?_, fun hb dd H2 s2 e2 => ?_⟩
  · subst e
    cases hD
    have hi : i < 4 := (List.getElem?_eq_some_iff.mp hgi).1
    obtain ⟨gd, gk, g1, g2, g3, g4⟩ := hg g (List.mem_of_getElem? hgi)
    refine ⟨(by show 2 ≤ sizeLine; decide), fun t nt => ?_⟩
    have u1 := same_upd (o := .tup [.str "glue", g]) nt
    have s1 := same_trans s' u1
    refine ⟨_, rfl, _, _, rfl, .int i, true, rfl, ?_⟩
    refine iteT ⟨_, rfl, 0, i, rfl, rfl, decide ((0 : Int) ≤ i), rfl, ?_⟩
    rw [decide_eq_true (show (0 : Int) ≤ i by omega)]
    refine iteT ⟨i, 3, rfl, rfl, decide ((i : Int) ≤ 3), rfl, ?_⟩
    rw [decide_eq_true (show (i : Int) ≤ 3 by omega)]
    refine iteT ?_
    refine ⟨_, rfl, _, rfl, _, rfl, kl, _, i, g, rfl, rfl, hk.elim (fun z => .inl (same_rd s1 z)) .inr, atI_nat hgi, (by show 2 ≤ sizeLine; decide), fun t2 nt2 => ?_⟩
    have u2 := same_upd (o := .tup [.str "glue", g]) nt2
    have sh := (shT gd g3 g4).1
    refine ⟨_, .tuple [.str "glue", gd], .tup (SqT.of (u2 _ _ upd_same)) (.cons (.str _) (.cons (dp_same (same_trans s1 u2) _ _ g1) .nil)), .tup (SqT.of upd_same) (.cons (.str _) (.cons (dp_same (same_trans s1 u2) _ _ g1) .nil)), sh, sh, ?_⟩
    rw [SeqAt.eqv_refl _ (SeqAt.canLay_of_shaped sh)]
    exact q _ (same_trans s1 u2)
  · refine ⟨true, CT.ex, fun _ ea na => ?_, fun h => nomatch h⟩
    refine ⟨_, rfl, rfl, rfl, dd, _, _, rfl, e2, rfl, _, rfl, rfl, rfl, dd, _, _, rfl, e2, rfl, (by show 3 ≤ sizeLine; decide), fun t nt => ?_⟩
    have u1 := same_upd (o := .tup [.str "bad", .str "side", v]) nt
    have s3 := same_trans s2 u1
    have hD3 := dp_same s3 _ _ hD
    have sh := (shT d cd dd0).2
    have fin : ∀ σ : L2.St, σ[2]? = some (some v) → σ[3]? = some (some (.ref t)) → ∀ D : Ends, (∀ H', Same (upd H2 t (.tup [.str "bad", .str "side", v])) H' → D.rt (.bl true) H') → tRet (tOp (rEqD K) (tVar 3) (tTup (tCons (tC (.str "bad")) (tCons (tC (.str "side")) (tCons (tVar 2) tNil))))) D σ (upd H2 t (.tup [.str "bad", .str "side", v])) := fun σ z0 z1 D qq => by
      refine ⟨_, z1, _, z0, (by show 3 ≤ sizeLine; decide), fun t2 n2 => ?_⟩
      have u2 := same_upd (o := .tup [.str "bad", .str "side", v]) n2
      refine ⟨_, .tuple [.str "bad", .str "side", d], .tup (SqT.of (u2 _ _ upd_same)) (.cons (.str _) (.cons (.str _) (.cons (dp_same u2 _ _ hD3) .nil))), .tup (SqT.of upd_same) (.cons (.str _) (.cons (.str _) (.cons (dp_same u2 _ _ hD3) .nil))), sh, sh, ?_⟩
      rw [SeqAt.eqv_refl _ (SeqAt.canLay_of_shaped sh)]
      exact qq _ u2
    have fin' := fun H' s' => q H' (same_trans s3 s')
    refine ⟨_, rfl, v, d, rfl, hD3, isIntD d, rfl, ?_⟩
    cases hi : isIntD d with
    | false => exact iteF (fin _ rfl rfl _ fin')
    | true =>
      cases hD3 with
      | int i =>
        refine iteT ⟨_, rfl, 0, i, rfl, rfl, decide ((0 : Int) ≤ i), rfl, ?_⟩
        by_cases h0 : (0 : Int) ≤ i
        · rw [decide_eq_true h0]
          refine iteT ⟨i, 3, rfl, rfl, decide (i ≤ 3), rfl, ?_⟩
          by_cases h3 : i ≤ 3
          · have z : isSideD (.int i) = true := by
              show (decide (0 ≤ i) && decide (i ≤ 3)) = true
              rw [decide_eq_true h0, decide_eq_true h3]
              rfl
            rw [z] at hb
            cases hb
          · rw [decide_eq_false h3]
            exact iteF (fin _ rfl rfl _ fin')
        · rw [decide_eq_false h0]
          exact iteF ⟨false, rfl, iteF (fin _ rfl rfl _ fin')⟩
      | _ => cases hi
end
end K3

set_option Elab.async false
set_option linter.all false
set_option maxRecDepth 100000
set_option maxHeartbeats 4000000
namespace K3
open PySem PySem.Spec PyProof.Rows L2 Pen Tr AK LamX
section
variable {P : Program} {w : World} {K : PySem.W.Frag} {mg : Str → Option PySem.Value} {base : Heap} {f fT fG C CT CN CB : Addr} {fd fdT fdG : FuncData}
def spNd (K : PySem.W.Frag) (w : World) (C CT : Addr) : Sp := fun vs H Q _ => ∃ a dx fs dn es v k, vs = [.ref a, v] ∧ H a = some (.ins C dx fs) ∧ fs.lookup ("tile_of" : Str) = none ∧ fs.lookup ("_tile_by_name" : Str) = some (.ref dn) ∧ DA K w H dn es ∧ NK K H k v ∧ k.depth ≤ 8 ∧
  (∀ x, atK es k = some x → ∃ ta dxt n w s e o, x = .ref ta ∧ H ta = some (tileO CT dxt n w s e o) ∧ ∀ t H', Same H H' → SqT K H' t [.str "tile", n] → Q (.ref t) H') ∧ (atK es k = none → ∀ t H', Same H H' → SqT K H' t [.str "no", v] → Q (.ref t) H')
abbrev nNd : List Str := ["_law_made", "_law_name", "_law_told", "e"]
theorem scNd : FnScope nNd ["_law_made", "_law_name"] (defScope (top 34)) := ⟨rfl, rfl, rfl, by decide +kernel, rfl, by decide +kernel, by decide +kernel⟩
theorem ok_nd (F : FnT K "_law_t2_named" 34 f fd) (XT : Ct K mg "NoName" CN ["name"]) (SF : SetF K C) (TF : TileF K CT) (FT : FnM K "tile_of" "TileSet.tile_of" (cSet 2) fT fdT) (MT : Meth K C "tile_of" fT) (GT : FnOk P w K mg base (L2.CX P w) 3 fT fdT ["self", "name"] (spTileOf K w C CN)) :
    FnOk P w K mg base CX0 4 f fd ["_law_made", "_law_name"] (spNd K w C CT) := by
  refine F.ok scNd (fun vs H Q E h => by obtain ⟨a, dx, fs, dn, es, v, k, rfl, _⟩ := h; rfl) (fun cdv A outer s0 H vs Q E hr h => ?_)
  obtain ⟨a, dx, fs, dn, es, v, k, rfl, ha, hm, hf, hd, hk, kd, q1, q2⟩ := h
  have nd := scNd.nd
  suffices z : ∃ t, PSs (cxOf CX0 P w K mg base nNd "_law_t2_named" (defScope (top 34)) f cdv A outer s0 H E).nox (defBody (top 34)) t ∧ t { nx := fun _ H' => Q .non H', rt := Q } (start nNd [.ref a, v]) H by
    obtain ⟨t, h1, h2⟩ := z
    exact ⟨t, h1.nox, h2⟩
  have bT : L2.Binds K fdT ["self", "name"] [] := FunD.bindsN FT fun _ _ _ _ _ _ us hl => match us, hl with | [_, _], _ => rfl
  have no1 := XT.no "name" (by simp)
  refine ⟨_, pss_cons (ps_asg pe_non (pg_name (i := 2) nd rfl (.inl rfl)))
    (pss_cons (ps_try_as (i := 3) (tb := fun W => tAsg (tTup (tCons (tC (.str "tile")) (tCons (tFld K (tMethW C "tile_of" (spTileOf K w C CN) (WE W) (tVar 0) (tCons (tVar 1) tNil)) "name") tNil))) (gName 2))
        (ts := fun a cls d => tAsg (tTup (tCons (tC (.str "no")) (tCons (tXf a cls d CN "name" (tVar 3)) tNil))) (gName 2)) (Wout := fun _ _ _ _ => False)
        rfl rfl nd rfl rfl ⟨rfl, by decide, .inl XT.mgx⟩ L2.takes0
        (fun W pn xe tk _ => pss_one (ps_asg (pe_tup (pa_cons pe_str (pa_cons (pe_fld (pe_methW (pv 0) SF.cl MT GT hr bT (fun σ => passAt tk σ) (pa_cons (pv 1) pa_nil)) rfl) pa_nil))) (pg_name (i := 2) nd rfl (.inl rfl))))
        (fun a oe cls d pn hz hf => pss_one (ps_asg (pe_tup (pa_cons pe_str (pa_cons (pe_xf XT.xf no1 hz hf (pv 3)) pa_nil))) (pg_name (i := 2) nd rfl (.inl rfl)))))
    (pss_one (ps_ret (pv 2)))), ?_⟩
  refine ⟨_, rfl, a, dx, fs, rfl, ha, hm, _, rfl, a, dx, fs, dn, es, v, k, rfl, ha, hf, hd, hk, kd, fun x hx => ?_, fun hn dd H2 s2 e2 => ?_⟩
  · obtain ⟨ta, dxt, n, gw, gs, ge, go, rfl, ht, q⟩ := q1 x hx
    refine ⟨ta, CT, dxt, _, n, rfl, ht, TF.cl, TF.nm, rfl, (by show 2 ≤ sizeLine; decide), fun t nt => ?_⟩
    exact ⟨_, rfl, q t _ (same_upd nt) (SqT.of upd_same)⟩
  · refine ⟨true, XT.ex, fun _ ea na => ?_, fun h => nomatch h⟩
    refine ⟨_, rfl, rfl, rfl, dd, _, _, rfl, e2, rfl, (by show 2 ≤ sizeLine; decide), fun t nt => ?_⟩
    exact ⟨_, rfl, q2 hn t _ (same_trans s2 (same_upd nt)) (SqT.of upd_same)⟩
/-- _law_t2_with_glue -/
def spWg (K : PySem.W.Frag) (w : World) (C : Addr) : Sp := fun vs H Q _ => ∃ a dx fs lg, ∃ ds : List Addr, ∃ v d g k, vs = [.ref a, v, g] ∧ H a = some (.ins C dx fs) ∧ fs.lookup ("with_glue" : Str) = none ∧ fs.lookup ("_names_by_glue" : Str) = some (.ref lg) ∧ SqL K H lg (ds.map V.ref) ∧ Dp K H v d ∧ NK K H k g ∧ k.depth ≤ 8 ∧
  (∀ i : Nat, d = .int i → ∀ di, ds[i]? = some di → ∃ es : List Eh, DA K w H di es ∧ (∀ l, atK es k = some l → ∃ b xs, l = .ref b ∧ SqL K H b xs ∧ ∀ p t H', Same H H' → SqT K H' p xs → SqT K H' t [.str "names", .ref p] → Q (.ref t) H') ∧ (atK es k = none → ∀ p t H', Same H H' → SqT K H' p [] → SqT K H' t [.str "names", .ref p] → Q (.ref t) H')) ∧ ds.length = 4 ∧
  (isSideD d = false → ∀ t H', Same H H' → SqT K H' t [.str "bad", .str "side", v] → Q (.ref t) H')
abbrev nWg : List Str := ["_law_made", "_law_side", "_law_glue", "_law_told", "e"]
theorem scWg : FnScope nWg ["_law_made", "_law_side", "_law_glue"] (defScope (top 35)) := ⟨rfl, rfl, rfl, by decide +kernel, rfl, by decide +kernel, by decide +kernel⟩
theorem ok_wg (F : FnT K "_law_t2_with_glue" 35 f fd) (XB : Ct K mg "BadNumber" CB ["what", "number"]) (SF : SetF K C) (FG : FnM K "with_glue" "TileSet.with_glue" (cSet 5) fG fdG) (MG : Meth K C "with_glue" fG) (GG : FnOk P w K mg base (L2.CX P w) 4 fG fdG ["self", "side", "glue"] (spWith K w C CB)) :
    FnOk P w K mg base CX0 5 f fd ["_law_made", "_law_side", "_law_glue"] (spWg K w C) := by
  refine F.ok scWg (fun vs H Q E h => by obtain ⟨a, dx, fs, lg, ds, v, d, g, k, rfl, _⟩ := h; rfl) (fun cdv A outer s0 H vs Q E hr h => ?_)
  obtain ⟨a, dx, fs, lg, ds, v, d, g, k, rfl, ha, hm, hf, hl, hv, hg, kd, q1, dl, q2⟩ := h
  have nd := scWg.nd
  suffices z : ∃ t, PSs (cxOf CX0 P w K mg base nWg "_law_t2_with_glue" (defScope (top 35)) f cdv A outer s0 H E).nox (defBody (top 35)) t ∧ t { nx := fun _ H' => Q .non H', rt := Q } (start nWg [.ref a, v, g]) H by
    obtain ⟨t, h1, h2⟩ := z
    exact ⟨t, h1.nox, h2⟩
  have bG : L2.Binds K fdG ["self", "side", "glue"] [] := FunD.bindsN FG fun _ _ _ _ _ _ us hl => match us, hl with | [_, _, _], _ => rfl
  have no1 := XB.no "what" (by simp)
  have no2 := XB.no "number" (by simp)
  refine ⟨_, pss_cons (ps_asg pe_non (pg_name (i := 3) nd rfl (.inl rfl)))
    (pss_cons (ps_try_as (i := 4) (tb := fun W => tAsg (tTup (tCons (tC (.str "names")) (tCons (tMethW C "with_glue" (spWith K w C CB) (WE W) (tVar 0) (tCons (tVar 1) (tCons (tVar 2) tNil))) tNil))) (gName 3))
        (ts := fun a cls d => tAsg (tTup (tCons (tC (.str "bad")) (tCons (tXf a cls d CB "what" (tVar 4)) (tCons (tXf a cls d CB "number" (tVar 4)) tNil)))) (gName 3)) (Wout := fun _ _ _ _ => False)
        rfl rfl nd rfl rfl ⟨rfl, by decide, .inl XB.mgx⟩ L2.takes0
        (fun W pn xe tk _ => pss_one (ps_asg (pe_tup (pa_cons pe_str (pa_cons (pe_methW (pv 0) SF.cl MG GG hr bG (fun σ => passAt tk σ) (pa_cons (pv 1) (pa_cons (pv 2) pa_nil))) pa_nil))) (pg_name (i := 3) nd rfl (.inl rfl))))
        (fun a oe cls d pn hz hf => pss_one (ps_asg (pe_tup (pa_cons pe_str (pa_cons (pe_xf XB.xf no1 hz hf (pv 4)) (pa_cons (pe_xf XB.xf no2 hz hf (pv 4)) pa_nil)))) (pg_name (i := 3) nd rfl (.inl rfl)))))
    (pss_one (ps_ret (pv 3)))), ?_⟩
  refine ⟨_, rfl, a, dx, fs, rfl, ha, hm, _, rfl, _, rfl, a, dx, fs, lg, ds, v, d, g, k, rfl, ha, hf, hl, hv, hg, kd, fun i hi di hdi => ?_, dl, fun hb dd H2 s2 e2 => ?_⟩
  · obtain ⟨es, hD, y1, y2⟩ := q1 i hi di hdi
    refine ⟨es, hD, fun l hl => ?_, fun hn p H1 s1 hp => ?_⟩
    · obtain ⟨b, xs, rfl, hb, y⟩ := y1 l hl
      refine ⟨b, xs, rfl, hb, fun p H1 s1 hp => ?_⟩
      refine ⟨(by show 2 ≤ sizeLine; decide), fun t nt => ?_⟩
      have u := same_upd (o := .tup [.str "names", .ref p]) nt
      exact ⟨_, rfl, y p t _ (same_trans s1 u) (SqT.tups (fun x xs h => same_rd u h) hp) (SqT.of upd_same)⟩
    · refine ⟨(by show 2 ≤ sizeLine; decide), fun t nt => ?_⟩
      have u := same_upd (o := .tup [.str "names", .ref p]) nt
      exact ⟨_, rfl, y2 hn p t _ (same_trans s1 u) (SqT.tups (fun x xs h => same_rd u h) hp) (SqT.of upd_same)⟩
  · refine ⟨true, XB.ex, fun _ ea na => ?_, fun h => nomatch h⟩
    refine ⟨_, rfl, rfl, rfl, dd, _, _, rfl, e2, rfl, _, rfl, rfl, rfl, dd, _, _, rfl, e2, rfl, (by show 3 ≤ sizeLine; decide), fun t nt => ?_⟩
    exact ⟨_, rfl, q2 hb t _ (same_trans s2 (same_upd nt)) (SqT.of upd_same)⟩
end
end K3

set_option Elab.async false
set_option linter.all false
set_option maxRecDepth 100000
set_option maxHeartbeats 4000000
namespace Tr
open PySem PySem.Spec PyProof.Rows L2
/-! ### C(..) within try: what __init__ lets out is told at the slots -/
def tMakeW (C : Addr) (sp : Sp) (E : L2.St → XK) (t : TA) : TE := fun σ H Q => t σ H fun vs H1 => ∀ x dx, H1 x = none → H1 dx = none → dx ≠ x →
  sp (.ref x :: vs) (upd (upd H1 dx (.own x)) x (.ins C dx [])) (fun v H2 => v = .non ∧ Q (.ref x) H2) (E σ)
section
variable {X : Cx} {CX : CXT} {k : Nat} {f C : Addr} {fd : FuncData} {ps : List Str} {sp : Sp} {E : L2.St → XK} {x : Str} {p pos : Pos} {e : PySem.Expr} {es : List PySem.Expr} {t : TA}
theorem run_makeGW {pins : List (Addr × Obj)} {σ : L2.St} {H : Hp} {s : Shared} {Q : VK} {us : List PySem.Value} {vs : List V} (M : Mk X.K C f) (F : GFn X.prog X.w X.K X.mg X.base CX k f fd ps sp) (hG : X.A.guards = some []) (hr : Room (k + 1) X.A) (hb : L2.Binds X.K fd ps [])
    (hx : PassesAt CX X σ (E σ)) (I : L2.Inv X pins σ H s) (r : Vals vs us)
    (h : ∀ x dx, H x = none → H dx = none → dx ≠ x → sp (.ref x :: vs) (upd (upd H dx (.own x)) x (.ins C dx [])) (fun v H2 => v = .non ∧ Q (.ref x) H2) (E σ)) :
    wpAny (model X.prog X.w) X.A (call (.ref C) us) (EP X pins σ Q) X.xe s := by
  have hq := h (s.heap.objs.size + 1) s.heap.objs.size (I.hok.fresh (Nat.le_succ _)) (I.hok.fresh (Nat.le_refl _)) (Nat.ne_of_lt (Nat.lt_succ_self _))
  have I2 := Inv.made (C := C) I
  have r2 : Vals (V.ref (s.heap.objs.size + 1) :: vs) (PySem.Value.ref (s.heap.objs.size + 1) :: us) := .cons rfl r
  have hl : (PySem.Value.ref (s.heap.objs.size + 1) :: us ++ []).length = ps.length := by
    have e := r2.length
    rw [F.len _ _ _ _ hq] at e
    rw [List.append_nil]
    exact e.symm
  have b := hb { s with heap := _ } (PySem.Value.ref (s.heap.objs.size + 1) :: us) I2.kIn hl
  rw [List.append_nil] at b
  have hG2 : (X.A.under (.builtin "type.__call__" ⟨.ref C :: us, []⟩)).guards = some [] := by
    have e1 : (Code.builtin "type.__call__" ⟨.ref C :: us, []⟩).guards = [] := by
      have e2 : (Code.builtin "type.__call__" ⟨.ref C :: us, []⟩).isGuard = false := by
        show guardIds.contains "type.__call__" = false
        decide +kernel
      unfold Code.guards
      rw [e2]
      rfl
    show pushGuards (Code.builtin "type.__call__" ⟨.ref C :: us, []⟩).guards X.A.guards = some []
    rw [e1, hG]
    first | rfl | (rw [pushGuards_eq]; rfl)
  refine wpAny_call (make_map (f := f) I.kIn M.makes M.init (beq_iff_eq.mp M.fn) (codeAny_mono (F.run _ X.stack _ _ ⟨PySem.Value.ref (s.heap.objs.size + 1) :: us, []⟩ (PySem.Value.ref (s.heap.objs.size + 1) :: us) _ _ (E σ) (hr.make C us []) hG2
    (I2.env0.make C us []) b r2 hq) fun r s' hq' => ?_))
  cases r with
  | error e => exact hx pins _ _ e s' I2 hq'
  | ok fl =>
    cases fl with
    | ret u =>
      obtain ⟨v, H', I3, rv, ev, q3⟩ := I2.after hq'
      subst ev
      exact ⟨rv, ⟨V.ref (s.heap.objs.size + 1), H', I3, rfl, q3⟩⟩
    | next => exact False.elim hq'
    | brk => exact False.elim hq'
    | cont => exact False.elim hq'
theorem pe_makeGW (M : Mk X.K C f) (F : GFn X.prog X.w X.K X.mg X.base CX k f fd ps sp) (hG : X.A.guards = some []) (hr : Room (k + 1) X.A) (hg : Gl X x) (hm : X.mg x = some (.ref C)) (hb : L2.Binds X.K fd ps []) (hx : ∀ σ, PassesAt CX X σ (E σ))
    (ha : PA X (e :: es) t) (hdb : (x == ("__debug__" : Str)) = false := by decide) (he : starEach (e :: es) X.env = (false, eval e X.env) :: starEach es X.env := by rfl) (hpl : (backTo pos (starEach es X.env)).any (·.1) = false := by rfl) :
    PE X (.Call (.Name x p) (e :: es) [] pos) (tMakeW C sp E t) := by
  refine ⟨fun pins s σ H Q I h => ?_⟩
  refine wpAny_Call_Name_kw (ld_glob I hg hm ?_ hdb)
  refine PySem.W.callWith_K (h₀ := X.base) I.ok.mod.kin M.kp (thn (ha.run pos pins s σ H _ I h) fun us s1 ⟨vs, H1, I1, r, q⟩ => ⟨I1.kIn, ?_⟩) he hpl
  exact run_makeGW M F hG hr hb (hx σ) I1 r q
/-- a def that needs no free guards, where they are free -/
theorem FnOk.gfn {P : Program} {w : World} {K : PySem.W.Frag} {mg : Str → Option PySem.Value} {base : Heap} (F : FnOk P w K mg base CX k f fd ps sp) : GFn P w K mg base CX k f fd ps sp :=
  ⟨F.len, fun A outer s H args us vs Q E hr _ e0 b r h => F.run A outer s H args us vs Q E hr e0 b r h⟩
end
end Tr
namespace K3
open PySem PySem.Spec PyProof.Rows L2 Pen Tr AK LamX
section
variable {P : Program} {w : World} {K : PySem.W.Frag} {mg : Str → Option PySem.Value} {base : Heap} {f : Addr} {fd : FuncData}
def spIs (_ : PySem.W.Frag) : Sp := fun vs H Q _ => ∃ a b, vs = [.bl a, .bl b] ∧ Q (.bl (decide (a = b))) H
abbrev nIs : List Str := ["_law_told", "_law_due"]
theorem scIs : FnScope nIs ["_law_told", "_law_due"] (defScope (top 29)) := ⟨rfl, rfl, rfl, by decide +kernel, rfl, by decide +kernel, by decide +kernel⟩
theorem ok_is (F : FnT K "_law_t2_is" 29 f fd) (T : Txt mg) : FnOk P w K mg base CX0 1 f fd ["_law_told", "_law_due"] (spIs K) := by
  refine F.ok scIs (fun vs H Q E h => by obtain ⟨a, b, rfl, _⟩ := h; rfl) (fun cdv A outer s H vs Q E hr h => ?_)
  obtain ⟨a, b, rfl, q⟩ := h
  suffices z : ∃ t, PSs (cxOf CX0 P w K mg base nIs "_law_t2_is" (defScope (top 29)) f cdv A outer s H E).nox (defBody (top 29)) t ∧ t { nx := fun _ H' => Q .non H', rt := Q } (start nIs [.bl a, .bl b]) H by
    obtain ⟨t, h1, h2⟩ := z
    exact ⟨t, h1.nox, h2⟩
  refine ⟨_, pss_one (ps_ret (pe_and (pe_callB call_isD (by rfl) T.isi (by decide +kernel) (pa_cons (pv 0) (pa_cons (pe_bltn (by rfl) T.bool (by decide +kernel) (v := .ty "bool") rfl) pa_nil)))
    (pe_one (pe_cmpR op_eq (pv 0) (pv 1) (by rfl))))), ?_⟩
  refine ⟨_, rfl, _, "bool", .bool a, true, rfl, .bl a, (show kitB "bool" "bool" = some true by decide +kernel), true, rfl, ?_⟩
  rw [if_pos rfl]
  refine ⟨_, rfl, _, rfl, rfl, ?_⟩
  have e : decide (V.bl a = V.bl b) = decide (a = b) := by cases a <;> cases b <;> rfl
  rw [e]
  exact q
end
end K3

set_option Elab.async false
set_option linter.all false
set_option maxRecDepth 100000
set_option maxHeartbeats 4000000
namespace K3
open PySem PySem.Spec PyProof.Rows L2 Pen Tr AK LamX
section
variable {P : Program} {w : World} {K : PySem.W.Frag} {mg : Str → Option PySem.Value} {base : Heap} {f fD fP fA fT CT CB : Addr} {fd fdD fdP fdA fdT : FuncData}
theorem dpall_tups {K : PySem.W.Frag} {H H' : Hp} (t : Tups H H') : ∀ {vs : List V} {ds : List PyData}, (∀ d ∈ ds, ∃ k, keyD d = some k) → DpAll K H vs ds → DpAll K H' vs ds
  | _, _, _, .nil => .nil
  | _, _, h, .cons h1 h2 => by
    obtain ⟨k, hk⟩ := h _ (List.mem_cons_self ..)
    exact .cons (dp_tups t _ _ _ hk h1) (dpall_tups t (fun d hd => h d (List.mem_cons_of_mem _ hd)) h2)
theorem dpall_app {K : PySem.W.Frag} {H : Hp} {v : V} {d : PyData} : ∀ {vs : List V} {ds : List PyData}, DpAll K H vs ds → Dp K H v d → DpAll K H (vs ++ [v]) (ds ++ [d])
  | _, _, .nil, h => .cons h .nil
  | _, _, .cons h1 h2, h => .cons h1 (dpall_app h2 h)
theorem dpall_set {K : PySem.W.Frag} {H : Hp} {v : V} {d : PyData} : ∀ {vs : List V} {ds : List PyData} {j : Nat}, Dp K H v d → DpAll K H vs ds → DpAll K H (vs.set j v) (ds.set j d)
  | _, _, _, _, .nil => .nil
  | _, _, 0, h, .cons h1 h2 => .cons h h2
  | _, _, j + 1, h, .cons h1 h2 => .cons h1 (dpall_set h h2)
/-- _law_t2_bad_tile: it tells true, whatever is drawn -/
def spBad (K : PySem.W.Frag) : Sp := fun vs H Q _ => ∃ (p pl : Addr) (n : Nat), ∃ v d k, vs = [.ref p, v] ∧ PenAt H p pl n ∧ n ≤ 700000 ∧ Dp K H v d ∧ keyD d = some k ∧ d.canLay0 = true ∧ d.depth ≤ 60 ∧ ∀ H', PenAt H' p pl (n + 70) → But p H H' → Q (.bl true) H'
abbrev nBad : List Str := ["_law_pen_here", "_law_name", "_law_glues", "_law_side", "_law_strength", "_law_odd", "_law_told", "e", "_law_k"]
theorem scBad : FnScope nBad ["_law_pen_here", "_law_name"] (defScope (top 32)) := ⟨rfl, rfl, rfl, by decide +kernel, rfl, by decide +kernel, by decide +kernel⟩
theorem ok_bad (F : FnT K "_law_t2_bad_tile" 32 f fd) (T : Txt mg) (XT : Ct K mg "BadTile" CB ["tile"]) (FP : FnP K "_law_pick" sPick fP fdP) (gP : mg "_law_pick" = some (.ref fP)) (FD : FnP K "_law_draw" sDraw fD fdD) (gD : mg "_law_draw" = some (.ref fD))
    (FA : FnT K "_law_t2_any_glue" 31 fA fdA) (gA : mg "_law_t2_any_glue" = some (.ref fA)) (GA : FnOk P w K mg base CX0 4 fA fdA ["_law_pen_here"] (spAny K))
    (FT : FnM K "__init__" "Tile.__init__" (cTile 0) fT fdT) (MT : Mk K CT fT) (gT : mg "Tile" = some (.ref CT)) (GT : FnOk P w K mg base (L2.CX P w) 3 fT fdT ["self", "name", "west", "south", "east", "north"] (spTile K CT CB)) :
    GFn P w K mg base CX0 6 f fd ["_law_pen_here", "_law_name"] (spBad K) := by
  refine GFn.of F scBad (fun vs H Q E h => by obtain ⟨p, pl, n, v, d, k, rfl, _⟩ := h; rfl) (fun c A outer s0 H vs Q E hc hr free h => ?_)
  obtain ⟨p, pl, n, v, d, k, rfl, PA, hn, hD, hk, cd, dd0, q⟩ := h
  have nd := scBad.nd
  have hu := hr.units
  suffices z : ∃ t, PSs (cxOf CX0 P w K mg base nBad "_law_t2_bad_tile" (defScope (top 32)) f (.ref c) A outer s0 H E).nox (defBody (top 32)) t ∧ t { nx := fun _ H' => Q .non H', rt := Q } (start nBad [.ref p, v]) H by
    obtain ⟨t, h1, h2⟩ := z
    exact ⟨t, h1.nox, h2⟩
  have GP := ok_pick (P := P) (w := w) (mg := mg) (base := base) FP T FD gD
  have GD := ok_draw (P := P) (w := w) (mg := mg) (base := base) FD T
  have bP : L2.Binds K fdP ["_law_pen_here", "_law_some"] [] := FunD.bindsN FP fun _ _ _ _ _ _ us hl => match us, hl with | [_, _], _ => rfl
  have bD : L2.Binds K fdD ["_law_pen_here", "_law_many"] [] := FunD.bindsN FD fun _ _ _ _ _ _ us hl => match us, hl with | [_, _], _ => rfl
  have bA : L2.Binds K fdA ["_law_pen_here"] [] := FunD.bindsN FA fun _ _ _ _ _ _ us hl => match us, hl with | [_], _ => rfl
  have bT : L2.Binds K fdT ["self", "name", "west", "south", "east", "north"] [] := FunD.bindsN FT fun _ _ _ _ _ _ us hl => match us, hl with | [_, _, _, _, _, _], _ => rfl
  have no1 := XT.no "tile" (by simp)
  refine ⟨_, pss_cons (ps_par (i := 2) (j := 3) (by rfl) nd rfl rfl (by decide) (by rfl) (by rfl) (pa_cons
        (pe_lc (own := [("_law_k", 8)]) (g := gName 8) (tt := tYes) (te := tCall (spAny K) [] E0 (tCons (tVar 0) tNil)) (by rfl) nd (pi_range1 (by rfl) T.range (pa_cons pe_int pa_nil)) (blkOk_by (own := [("_law_k", 8)]) (N := nBad) (sc := defScope (top 32)) (by decide +kernel))
          (fun _ _ _ _ _ => pg_name (i := 8) nd rfl (Or.inl rfl)) (fun _ _ _ _ _ => pts_nil) (fun _ _ _ _ _ => pe_call GA (hr.mono (by decide)) (by rfl) gA FA.kp bA .nil pass0 (pa_cons (pv 0) pa_nil)))
        (pa_cons (pe_call GD (hr.mono (by decide)) (by rfl) gD FD.kp bD .nil pass0 (pa_cons (pv 0) (pa_cons pe_int pa_nil))) pa_nil)) (by rfl))
    (C8.pss_cut (ps_if (pt_cmpR op_eq (pv 3) pe_int (nomark _)) (pss_one (ps_asg pe_non (pg_name (i := 1) nd rfl (.inl rfl))))
        (pss_cons (ps_asg (pe_call GP (hr.mono (by decide)) (by rfl) gP FP.kp bP .nil pass0 (pa_cons (pv 0) (pa_cons (pe_lst (pa_cons pe_int (pa_cons (pe_un un_neg pe_int) (pa_cons pe_bl (pa_cons pe_non (pa_cons pe_str (pa_cons (pe_tup (pa_cons pe_int pa_nil)) (pa_cons (pe_op op_pow pe_int pe_int) pa_nil)))))))) pa_nil))) (pg_name (i := 4) nd rfl (.inl rfl)))
        (pss_cons (ps_asg (pe_lst (pa_cons (pe_tup (pa_cons pe_str (pa_cons (pv 4) pa_nil))) (pa_cons (pe_tup (pa_cons pe_str (pa_cons (pv 4) pa_nil))) (pa_cons (pe_tup (pa_cons pe_str pa_nil)) (pa_cons (pe_tup (pa_cons pe_str (pa_cons pe_int (pa_cons pe_int pa_nil))))
            (pa_cons pe_non (pa_cons pe_str (pa_cons pe_int (pa_cons (pe_lst (pa_cons pe_str (pa_cons pe_int pa_nil))) (pa_cons (pe_tup pa_nil) pa_nil)))))))))) (pg_name (i := 5) nd rfl (.inl rfl)))
        (pss_one (ps_asg (pe_call GP (hr.mono (by decide)) (by rfl) gP FP.kp bP .nil pass0 (pa_cons (pv 0) (pa_cons (pv 5) pa_nil))) (pg_sub (pv 2) (pv 3) set_list))))))
    (pss_cons (ps_asg (pe_tup (pa_cons pe_str pa_nil)) (pg_name (i := 6) nd rfl (.inl rfl)))
    (pss_cons (ps_try_as (i := 7) (tb := fun W => tDrop (tMakeW CT (spTile K CT CB) (WE W) (tCons (tVar 1) (tCons (tOp (rIxL K) (tVar 2) (tC (.int 0))) (tCons (tOp (rIxL K) (tVar 2) (tC (.int 1))) (tCons (tOp (rIxL K) (tVar 2) (tC (.int 2))) (tCons (tOp (rIxL K) (tVar 2) (tC (.int 3))) tNil)))))))
        (ts := fun a cls d => tAsg (tTup (tCons (tC (.str "bad")) (tCons (tXf a cls d CB "tile" (tVar 7)) tNil))) (gName 6)) (Wout := fun _ _ _ _ => False)
        rfl rfl nd rfl rfl ⟨rfl, by decide, .inl XT.mgx⟩ L2.takes0
        (fun W pn xe tk _ => pss_one (ps_expr (pe_makeGW MT (FnOk.gfn GT) free (hr.mono (by decide)) (by rfl) gT bT (fun σ => passAt tk σ) (pa_cons (pv 1) (pa_cons (pe_ix ix_list (pv 2) pe_int (fun _ _ => rfl)) (pa_cons (pe_ix ix_list (pv 2) pe_int (fun _ _ => rfl)) (pa_cons (pe_ix ix_list (pv 2) pe_int (fun _ _ => rfl)) (pa_cons (pe_ix ix_list (pv 2) pe_int (fun _ _ => rfl)) pa_nil))))))))
        (fun a oe cls d pn hz hf => pss_one (ps_asg (pe_tup (pa_cons pe_str (pa_cons (pe_xf XT.xf no1 hz hf (pv 7)) pa_nil))) (pg_name (i := 6) nd rfl (.inl rfl)))))
    (pss_one (ps_ret (pe_cmpR (op_eqD hu) (pv 6) (pe_tup (pa_cons pe_str (pa_cons (pv 1) pa_nil))) (by rfl))))))), ?_⟩
  -- the glues
  refine ⟨4, rfl, (by decide), (by decide), fun D nD => ?_⟩
  obtain ⟨kvs, hp⟩ := PA.is
  obtain ⟨cl, hpl⟩ := PA.lis
  have Dp1 : D ≠ p := Ne.symm (ne_of_none hp nD)
  have Dp2 : D ≠ pl := Ne.symm (ne_of_none hpl nD)
  refine lc_range (fun i H' => ∃ gs ds, H' D = some (.lst gs) ∧ gs.length = i ∧ DpAll K H' gs ds ∧ (∀ d ∈ ds, GluOk d) ∧ PenAt H' p pl (n + 15 * i) ∧ But p H H') ?_ ?_ ?_
  · exact ⟨[], [], upd_same, rfl, .nil, (fun _ h => nomatch h), PA.keep (same_upd nD), But.same (same_upd nD)⟩
  · rintro i H1 hi ⟨gs, ds, l1, gl, gd, gk, PA1, but1⟩
    have hi : i < 4 := hi
    refine ⟨rfl, yes_if ⟨_, rfl, p, pl, n + 15 * i, rfl, PA1, by omega, fun g d H2 G dp PA2 but2 => ?_⟩⟩
    have tu := pen_tups PA1 but2
    have gd2 := dpall_tups tu (fun d hd => (gk d hd).key.imp fun _ z => z.1) gd
    have l2 := but2 _ _ l1 Dp1
    refine ⟨gs, l2, (by rw [sizeLine_eq]; omega), gs ++ [g], ds ++ [d], upd_same, (by simp [gl]), ?_, ?_, ?_, ?_⟩
    · have t2 : Tups H2 (upd H2 D (.lst (gs ++ [g]))) := Tups.upd (lst_ntup l2)
      refine dpall_tups t2 (fun e he => ?_) (dpall_app gd2 dp)
      rcases List.mem_append.mp he with h | h
      · exact (gk e h).key.imp fun _ z => z.1
      · obtain rfl : e = d := by simpa using h
        exact G.key.imp fun _ z => z.1
    · intro e he
      rcases List.mem_append.mp he with h | h
      · exact gk e h
      · obtain rfl : e = d := by simpa using h
        exact G
    · exact (PA2.mono (by omega)).other Dp1 Dp2
    · exact fun b o e n => by
        rw [upd_ne (ne_of_none e nD)]
        exact but2 _ _ (but1 _ _ e n) n
  rintro H1 ⟨gs, ds, l1, gl, gd, gk, PA1, but1⟩
  have gl : gs.length = 4 := gl
  have PA1 : PenAt H1 p pl (n + 60) := PA1
  refine ⟨_, rfl, p, pl, n + 60, 5, rfl, PA1, by omega, by omega, by omega, fun r H2 r0 r1 PA2 but2 => ⟨_, _, rfl, ?_⟩⟩
  have tu2 := pen_tups PA1 but2
  have gd2 := dpall_tups tu2 (fun d hd => (gk d hd).key.imp fun _ z => z.1) gd
  have l2 := but2 _ _ l1 Dp1
  have but02 : But p H H2 := But.trans but1 but2
  have dl := (dps_len gd2).symm.trans gl
  have tu02 : Tups H H2 := pen_tups PA but02
  have hD2 := dp_tups tu02 _ _ _ hk hD
  obtain ⟨g0, g1, g2, g3, rfl⟩ : ∃ g0 g1 g2 g3, gs = [g0, g1, g2, g3] := by
    match gs, gl with
    | [a, b, c, d], _ => exact ⟨a, b, c, d, rfl⟩
  obtain ⟨e0, e1, e2, e3, rfl⟩ : ∃ g0 g1 g2 g3, ds = [g0, g1, g2, g3] := by
    match ds, dl with
    | [a, b, c, d], _ => exact ⟨a, b, c, d, rfl⟩
  -- behind the choice of what is wrong
  refine ⟨fun σ H3 => ∃ nv nd gs ds s3 s4 s5, σ = [some (.ref p), some nv, some (.ref D), s3, s4, s5, none, none, none] ∧ PenAt H3 p pl (n + 65) ∧ But p H H3 ∧ H3 D = some (.lst gs) ∧ gs.length = 4 ∧ DpAll K H3 gs ds ∧ Dp K H3 nv nd ∧ nd.canLay0 = true ∧ nd.depth ≤ 60 ∧
    (∀ a b c d, ds = [a, b, c, d] → okTile nd a b c d = false), ?_, ?_⟩
  · refine ⟨_, rfl, rfl, _, rfl, ?_⟩
    by_cases hr4 : V.int r = V.int 4
    · rw [decide_eq_true hr4]
      refine iteT ⟨.non, .none, _, _, _, _, _, rfl, PA2.mono (by omega), but02, l2, rfl, gd2, .non, (by decide +kernel), (by simp [PyData.depth]), ?_⟩
      intro a b c d _
      rfl
    · rw [decide_eq_false hr4]
      refine iteF ?_
      obtain ⟨j, rfl, hj⟩ : ∃ j : Nat, r = (j : Int) ∧ j < 4 := ⟨r.toNat, by omega, by
        have : r ≠ 4 := fun z => hr4 (by rw [z])
        omega⟩
      -- the strength
      refine ⟨_, rfl, _, rfl, (by show 1 ≤ sizeLine; decide), fun t1 nt1 => ?_⟩
      have u1 := same_upd (o := .tup [V.int 1]) nt1
      refine ⟨10, 20, rfl, rfl, ⟨by decide, by decide, by decide⟩, (by show 7 ≤ sizeLine; decide), fun l1 nl1 => ?_⟩
      have u2 := same_trans u1 (same_upd (o := .lst [V.int 3, V.int (-1), V.bl true, V.non, V.str "1", V.ref t1, V.int (10 ^ 20)]) nl1)
      obtain ⟨kv2, hp2⟩ := PA2.is
      refine ⟨p, pl, l1, n + 61, _, rfl, PA2.keep u2, by omega, SqL.of upd_same, (fun h => nomatch h), (by show 7 < 1073741824; decide), Ne.symm (ne_of_none (u1 _ _ hp2) nl1), fun i s H4 hs PA4 but4 => ?_⟩
      have but24 : But p H2 H4 := But.trans (But.same u2) but4
      obtain ⟨sd, sg, sdp, skey⟩ : ∃ sd, isGlueD (.tuple [.str "x", sd]) = false ∧ Dp K H4 s sd ∧ ∃ k, keyD sd = some k := by
        match i, hs with
        | 0, hs => cases hs; exact ⟨.int 3, rfl, .int _, _, rfl⟩
        | 1, hs => cases hs; exact ⟨.int (-1), rfl, .int _, _, rfl⟩
        | 2, hs => cases hs; exact ⟨.bool true, rfl, .bl _, _, rfl⟩
        | 3, hs => cases hs; exact ⟨.none, rfl, .non, _, rfl⟩
        | 4, hs => cases hs; exact ⟨.str "1", rfl, .str _, _, rfl⟩
        | 5, hs => cases hs; exact ⟨.tuple [.int 1], rfl, .tup (SqT.of (but4 _ _ (same_upd nl1 _ _ upd_same) (Ne.symm (ne_of_none hp2 nt1)))) (.cons (.int _) .nil), _, rfl⟩
        | 6, hs => cases hs; exact ⟨.int (10 ^ 20), by decide, .int _, _, rfl⟩
      have l4 := but24 _ _ l2 Dp1
      -- the odd ones
      refine ⟨_, rfl, (by show 2 ≤ sizeLine; decide), fun t2 nt2 => ?_⟩
      have v2 := same_upd (o := .tup [V.str "x", s]) nt2
      refine ⟨_, rfl, (by show 2 ≤ sizeLine; decide), fun t3 nt3 => ?_⟩
      have v3 := same_upd (o := .tup [V.str "x", s]) nt3
      refine ⟨(by show 1 ≤ sizeLine; decide), fun t4 nt4 => ?_⟩
      have v4 := same_upd (o := .tup [V.str "x"]) nt4
      refine ⟨(by show 3 ≤ sizeLine; decide), fun t5 nt5 => ?_⟩
      have v5 := same_upd (o := .tup [V.str "x", V.int 1, V.int 1]) nt5
      refine ⟨(by show 2 ≤ sizeLine; decide), fun a2 na2 => ?_⟩
      have v6 := same_upd (o := .lst [V.str "x", V.int 1]) na2
      refine ⟨(by show 0 ≤ sizeLine; decide), fun t6 nt6 => ?_⟩
      have v7 := same_upd (o := .tup []) nt6
      refine ⟨(by show 9 ≤ sizeLine; decide), fun l5 nl5 => ?_⟩
      have v8 := same_upd (o := .lst [V.ref t2, V.ref t3, V.ref t4, V.ref t5, V.non, V.str "x", V.int 2, V.ref a2, V.ref t6]) nl5
      have w78 := same_trans v7 v8
      have w68 := same_trans v6 w78
      have w58 := same_trans v5 w68
      have w48 := same_trans v4 w58
      have w38 := same_trans v3 w48
      have w28 := same_trans v2 w38
      obtain ⟨kv4, hp4⟩ := PA4.is
      have pa2 : a2 ≠ p := Ne.symm (ne_of_none (v5 _ _ (v4 _ _ (v3 _ _ (v2 _ _ hp4)))) na2)
      have Da2 : a2 ≠ D := Ne.symm (ne_of_none (v5 _ _ (v4 _ _ (v3 _ _ (v2 _ _ l4)))) na2)
      have PA8 := PA4.keep w28
      refine ⟨_, rfl, _, rfl, p, pl, l5, n + 62, _, rfl, PA8, by omega, SqL.of upd_same, (fun h => nomatch h), (by show 9 < 1073741824; decide), Ne.symm (ne_of_none (v7 _ _ (v6 _ _ (v5 _ _ (v4 _ _ (v3 _ _ (v2 _ _ hp4)))))) nl5), fun i2 o H5 ho PA5 but5 => ?_⟩
      have l5' := but5 _ _ (w28 _ _ l4) Dp1
      have ix : ixN 4 (j : Int) = some j := by
        match j, hj with
        | 0, _ => rfl
        | 1, _ => rfl
        | 2, _ => rfl
        | 3, _ => rfl
      refine ⟨_, rfl, _, rfl, D, _, j, j, rfl, rfl, l5', ix, ?_⟩
      have tu8 : Tups (upd (upd (upd (upd (upd (upd (upd H4 t2 (.tup [V.str "x", s])) t3 (.tup [V.str "x", s])) t4 (.tup [V.str "x"])) t5 (.tup [V.str "x", V.int 1, V.int 1])) a2 (.lst [V.str "x", V.int 1])) t6 (.tup [])) l5 (.lst [V.ref t2, V.ref t3, V.ref t4, V.ref t5, V.non, V.str "x", V.int 2, V.ref a2, V.ref t6])) (upd H5 D (.lst (([g0, g1, g2, g3] : List V).set j o))) :=
        Tups.trans (pen_tups PA8 but5) (Tups.upd (lst_ntup l5'))
      have tuS : ∀ {Ha : Hp}, Same Ha _ → Tups Ha _ := fun {Ha} z => Tups.trans (fun b xs h => same_rd z h) tu8
      obtain ⟨od, og, odp⟩ : ∃ od, isGlueD od = false ∧ Dp K (upd H5 D (.lst (([g0, g1, g2, g3] : List V).set j o))) o od := by
        match i2, ho with
        | 0, ho => cases ho; exact ⟨_, sg, .tup (SqT.tups (tuS w38) (SqT.of upd_same)) (.cons (.str _) (.cons (skey.elim fun k hk => dp_tups (tuS w28) _ _ k hk sdp) .nil))⟩
        | 1, ho => cases ho; exact ⟨_, sg, .tup (SqT.tups (tuS w48) (SqT.of upd_same)) (.cons (.str _) (.cons (skey.elim fun k hk => dp_tups (tuS w28) _ _ k hk sdp) .nil))⟩
        | 2, ho => cases ho; exact ⟨.tuple [.str "x"], rfl, .tup (SqT.tups (tuS w58) (SqT.of upd_same)) (.cons (.str _) .nil)⟩
        | 3, ho => cases ho; exact ⟨.tuple [.str "x", .int 1, .int 1], rfl, .tup (SqT.tups (tuS w68) (SqT.of upd_same)) (.cons (.str _) (.cons (.int _) (.cons (.int _) .nil)))⟩
        | 4, ho => cases ho; exact ⟨.none, rfl, .non⟩
        | 5, ho => cases ho; exact ⟨.str "x", rfl, .str _⟩
        | 6, ho => cases ho; exact ⟨.int 2, rfl, .int _⟩
        | 7, ho => cases ho; exact ⟨.list [.str "x", .int 1], rfl, .lst (SqL.of (by rw [upd_ne Da2]; exact but5 _ _ (w78 _ _ upd_same) pa2)) (.cons (.str _) (.cons (.int _) .nil))⟩
        | 8, ho => cases ho; exact ⟨.tuple [], rfl, .tup (SqT.tups (tuS v8) (SqT.of upd_same)) .nil⟩
      have tu2 : Tups H2 (upd H5 D (.lst (([g0, g1, g2, g3] : List V).set j o))) := Tups.trans (pen_tups PA2 but24) (tuS w28)
      have gdE := dpall_tups tu2 (fun d hd => (gk d hd).key.imp fun _ z => z.1) gd2
      refine ⟨v, d, _, ([e0, e1, e2, e3] : List PyData).set j od, _, _, _, rfl, (PA5.mono (by omega)).other Dp1 Dp2, ?_, upd_same, (by rw [List.length_set]; rfl), dpall_set odp gdE, dp_tups tu2 _ _ _ hk hD2, cd, dd0, ?_⟩
      · intro b u e nb
        rw [upd_ne (ne_of_none e nD)]
        exact but5 _ _ (w28 _ _ (but24 _ _ (but02 _ _ e nb) nb)) nb
      · intro a b c d' e
        have z : ∀ m, m = j → isGlueD (([e0, e1, e2, e3] : List PyData).set j od |>.getD m .none) = false := by
          rintro m rfl
          rw [List.getD_eq_getElem?_getD, List.getElem?_set_self (by show m < 4; exact hj)]
          exact og
        rw [e] at z
        unfold okTile
        match j, hj with
        | 0, _ => rw [show isGlueD a = false from z 0 rfl]; simp
        | 1, _ => rw [show isGlueD b = false from z 1 rfl]; simp
        | 2, _ => rw [show isGlueD c = false from z 2 rfl]; simp
        | 3, _ => rw [show isGlueD d' = false from z 3 rfl]; simp
  · rintro σ H3 ⟨nv, ndt, gs, ds, s3, s4, s5, rfl, PA3, but3, l3, gl3, gd3, hn3, cn, dn, bad⟩
    obtain ⟨g0, g1, g2, g3, rfl⟩ : ∃ g0 g1 g2 g3, gs = [g0, g1, g2, g3] := by
      match gs, gl3 with
      | [a, b, c, d], _ => exact ⟨a, b, c, d, rfl⟩
    have dl3 := (dps_len gd3).symm.trans gl3
    obtain ⟨e0, e1, e2, e3, rfl⟩ : ∃ g0 g1 g2 g3, ds = [g0, g1, g2, g3] := by
      match ds, dl3 with
      | [a, b, c, d], _ => exact ⟨a, b, c, d, rfl⟩
    have bad := bad _ _ _ _ rfl
    refine ⟨(by show 1 ≤ sizeLine; decide), fun t nt => ?_⟩
    have u1 := same_upd (o := .tup [V.str "made"]) nt
    have l4 := u1 _ _ l3
    refine ⟨_, rfl, _, rfl, D, _, 0, g0, rfl, rfl, SqL.of l4, rfl, _, rfl, D, _, 1, g1, rfl, rfl, SqL.of l4, rfl, _, rfl, D, _, 2, g2, rfl, rfl, SqL.of l4, rfl, _, rfl, D, _, 3, g3, rfl, rfl, SqL.of l4, rfl, fun x dx nx ndx nxd => ?_⟩
    have u2 : Same H3 (upd (upd (upd H3 t (.tup [V.str "made"])) dx (.own x)) x (.ins CT dx [])) := same_trans u1 (fun b o e => by
      rw [upd_ne (ne_of_none e nx), upd_ne (ne_of_none e ndx)]
      exact e)
    cases gd3 with
    | cons h0 z => cases z with
      | cons h1 z => cases z with
        | cons h2 z => cases z with
          | cons h3 _ =>
            refine ⟨x, dx, nv, g0, g1, g2, g3, ndt, e0, e1, e2, e3, rfl, upd_same, dp_same u2 _ _ hn3, dp_same u2 _ _ h0, dp_same u2 _ _ h1, dp_same u2 _ _ h2, dp_same u2 _ _ h3, (fun ok => by rw [bad] at ok; cases ok), fun _ dd H9 s9 e9 => ⟨true, XT.ex, fun _ ea na => ?_, fun h => nomatch h⟩⟩
            refine ⟨_, rfl, rfl, rfl, dd, _, _, rfl, e9, rfl, (by show 2 ≤ sizeLine; decide), fun t2 nt2 => ?_⟩
            have u3 := same_upd (o := .tup [.str "bad", nv]) nt2
            refine ⟨_, rfl, _, rfl, (by show 2 ≤ sizeLine; decide), fun t3 nt3 => ?_⟩
            have u4 := same_upd (o := .tup [.str "bad", nv]) nt3
            have s := same_trans u2 (same_trans s9 (same_trans u3 u4))
            have sh : SeqAt.shaped (.tuple [.str "bad", ndt]) = true := by
              have c : PyData.canLay0 (.tuple [.str "bad", ndt]) = true := by
                simp only [PyData.canLay0, PyData.canLayAll0, cn, Bool.and_true]
                decide +kernel
              have e : PyData.depth (.tuple [.str "bad", ndt]) ≤ 64 := by
                simp only [PyData.depth, PyData.depthAll]
                omega
              unfold SeqAt.shaped
              rw [c, decide_eq_true e]
              rfl
            refine ⟨_, .tuple [.str "bad", ndt], .tup (SqT.of (u4 _ _ upd_same)) (.cons (.str _) (.cons (dp_same s _ _ hn3) .nil)), .tup (SqT.of upd_same) (.cons (.str _) (.cons (dp_same s _ _ hn3) .nil)), sh, sh, ?_⟩
            rw [SeqAt.eqv_refl _ (SeqAt.canLay_of_shaped sh)]
            exact q _ ((PA3.keep s).mono (by omega)) (But.trans but3 (But.same s))
end
end K3

set_option Elab.async false
set_option linter.all false
set_option maxRecDepth 100000
set_option maxHeartbeats 4000000
namespace Tr
open PySem PySem.Spec PyProof.Rows L2 AK Pen LamX
/-! ### l != [] -/
def rNeE (K : PySem.W.Frag) : R2 := fun x y H Q => ∃ a b xs, x = .ref a ∧ y = .ref b ∧ SqL K H a xs ∧ SqL K H b [] ∧ Q (.bl (decide (xs ≠ []))) H
theorem op_neE {X : Cx} (hu : X.A.units < cLine) : OpR X (compareOp .NotEq) (rNeE X.K) := by
  intro pins s σ H x y v u Q I rx ry h
  obtain ⟨a, b, xs, rfl, rfl, ha, hb, q⟩ := h
  cases rx
  cases ry
  obtain ⟨its, r1, p1, _⟩ := I.list ha
  obtain ⟨its2, r2, p2, _⟩ := I.list hb
  cases r2
  cases r1 with
  | nil => exact SeqAt.RcNeAt.lists (e := fun _ => true) p1.isList p2.isList rfl hu (fun j h => nomatch h) _ _ _ _ ⟨.bl false, H, I, rfl, q⟩
  | cons h t => exact SeqAt.RcNeAt.lists_lengths p1.isList p2.isList (by simp) hu _ _ _ _ ⟨.bl true, H, I, rfl, q⟩
/-- isinstance(x, tuple) of a tuple of anything -/
def rIsTu (K : PySem.W.Frag) : List V → Hp → VK → Prop := fun xs H Q => ∃ a ys, xs = [.ref a, .ty "tuple"] ∧ SqT K H a ys ∧ Q (.bl true) H
theorem call_isTu {X : Cx} : CallR X (.builtin "isinstance") (rIsTu X.K) := by
  intro pins s σ H xs us Q I r h
  obtain ⟨a, ys, rfl, hs, q⟩ := h
  obtain ⟨u1, u2, rfl, r1, r2⟩ := vals2 r
  obtain rfl : u2 = PySem.Value.type "tuple" := r2
  cases r1
  obtain ⟨its, rv, ⟨o, ho, hc, _⟩, _⟩ := I.tuple hs
  exact PySem.W.kia_one PySem.W.kitx_tuple I.kIn ⟨o, ho, hc⟩ (kit_ty (show kitB "tuple" "tuple" = some true by decide +kernel)) (fun z => nomatch z) fun tk => ⟨.bl true, H, I.tok tk, rfl, q⟩
/-! ### what stays while the pen draws, tables change, new things come -/
def Kp (H H' : Hp) : Prop := ∀ b o, H b = some o → (∀ ps, o ≠ .tbl ps) → (∀ kvs, o ≠ .dK kvs) → H' b = some o
theorem Kp.rfl' {H : Hp} : Kp H H := fun _ _ e _ _ => e
theorem Kp.trans {H H1 H2 : Hp} (x : Kp H H1) (y : Kp H1 H2) : Kp H H2 := fun b o e t k => y b o (x b o e t k) t k
theorem Kp.same {H H' : Hp} (s : Same H H') : Kp H H' := fun b o e _ _ => s b o e
theorem Kp.ext {H H' : Hp} (s : ExtN H H') : Kp H H' := fun b o e t _ => s b o e t
theorem Kp.pen {H H' : Hp} {p pl : Addr} {n : Nat} (PA : PenAt H p pl n) (s : But p H H') : Kp H H' := fun b o e _ k => s b o e (by
  rintro rfl
  obtain ⟨kvs, hp⟩ := PA.is
  rw [hp] at e
  cases e
  exact k _ rfl)
theorem Kp.tups {H H' : Hp} (k : Kp H H') : Tups H H' := fun c xs r => r.elim (fun r => .inl (k _ _ r (fun _ z => nomatch z) fun _ z => nomatch z)) fun ⟨u, r⟩ => .inr ⟨u, k _ _ r (fun _ z => nomatch z) fun _ z => nomatch z⟩
theorem Kp.lst {H H' : Hp} (k : Kp H H') {a : Addr} {xs : List V} (e : H a = some (.lst xs)) : H' a = some (.lst xs) := k _ _ e (fun _ z => nomatch z) fun _ z => nomatch z
theorem Kp.tup {H H' : Hp} (k : Kp H H') {a : Addr} {xs : List V} (e : H a = some (.tup xs)) : H' a = some (.tup xs) := k _ _ e (fun _ z => nomatch z) fun _ z => nomatch z
theorem Kp.ins {H H' : Hp} (k : Kp H H') {a C dx : Addr} {fs : List (Str × V)} (e : H a = some (.ins C dx fs)) : H' a = some (.ins C dx fs) := k _ _ e (fun _ z => nomatch z) fun _ z => nomatch z
theorem Kp.dko {w : World} {H H' : Hp} (k : Kp H H') {a : Addr} {es : List Eh} (e : H a = some (DkO w a es)) : H' a = some (DkO w a es) := k _ _ e (fun _ z => nomatch z) fun _ z => nomatch z
theorem Kp.da {K : PySem.W.Frag} {w : World} {H H' : Hp} (k : Kp H H') {a : Addr} {es : List Eh} (D : DA K w H a es) : DA K w H' a es :=
  daKeep D k.tups (D.at_.elim (fun h => .inl (k.dko h)) fun ⟨u, h⟩ => .inr ⟨u, k _ _ h (fun _ z => nomatch z) fun _ z => nomatch z⟩)
theorem Kp.sql {K : PySem.W.Frag} {H H' : Hp} (k : Kp H H') {a : Addr} {xs : List V} (h : SqL K H a xs) : SqL K H' a xs :=
  h.elim (fun h => .inl (h.elim (fun h => .inl (k.lst h)) fun ⟨u, h⟩ => .inr ⟨u, k _ _ h (fun _ z => nomatch z) fun _ z => nomatch z⟩)) .inr
theorem Kp.sqt {K : PySem.W.Frag} {H H' : Hp} (k : Kp H H') {a : Addr} {xs : List V} (h : SqT K H a xs) : SqT K H' a xs := SqT.tups k.tups h
/-- all but the lists that H0 had -/
def Kl (H0 H H' : Hp) : Prop := ∀ b o, H b = some o → (∀ ps, o ≠ .tbl ps) → (∀ kvs, o ≠ .dK kvs) → (NewB H0 b ∨ ∀ xs, o ≠ .lst xs) → H' b = some o
theorem Kp.kl {H0 H H' : Hp} (k : Kp H H') : Kl H0 H H' := fun b o e t d _ => k b o e t d
theorem Kl.upd {H0 H : Hp} {x : Addr} {xs ys zs : List V} (h0 : H0 x = some (.lst xs)) (h1 : H x = some (.lst ys)) : Kl H0 H (L2.upd H x (.lst zs)) := fun b o e _ _ c => by
  have n : b ≠ x := by
    rintro rfl
    rcases c with c | c
    · obtain ⟨ps, z⟩ := c _ h0
      cases z
    · rw [h1] at e
      cases e
      exact c _ rfl
  rw [upd_ne n]
  exact e
theorem Kl.tups {H0 H H' : Hp} (k : Kl H0 H H') : Tups H H' := fun c xs r => r.elim (fun r => .inl (k _ _ r (fun _ z => nomatch z) (fun _ z => nomatch z) (.inr fun _ z => nomatch z))) fun ⟨u, r⟩ => .inr ⟨u, k _ _ r (fun _ z => nomatch z) (fun _ z => nomatch z) (.inr fun _ z => nomatch z)⟩
theorem Kl.da {K : PySem.W.Frag} {w : World} {H0 H H' : Hp} (k : Kl H0 H H') {a : Addr} {es : List Eh} (D : DA K w H a es) : DA K w H' a es :=
  daKeep D k.tups (D.at_.elim (fun h => .inl (k _ _ h (fun _ z => nomatch z) (fun _ z => nomatch z) (.inr fun _ z => nomatch z))) fun ⟨u, h⟩ => .inr ⟨u, k _ _ h (fun _ z => nomatch z) (fun _ z => nomatch z) (.inr fun _ z => nomatch z)⟩)
theorem SetO.kl {K : PySem.W.Frag} {w : World} {C : Addr} {H0 H H' : Hp} {a : Addr} {ts : List Til} (S : SetO K w C H0 H a ts) (k : Kl H0 H H') : SetO K w C H0 H' a ts := by
  obtain ⟨dx, pt, dn, pn, dr, lg, ft, ds, h1, h2, ⟨h3, h3'⟩, h4, h5, h6, h7, h8, h9⟩ := S.ex
  refine ⟨dx, pt, dn, pn, dr, lg, ft, ds, k _ _ h1 (fun _ z => nomatch z) (fun _ z => nomatch z) (.inr fun _ z => nomatch z), SqT.tups k.tups h2, ⟨k _ _ h3 (fun _ z => nomatch z) (fun _ z => nomatch z) (.inr fun _ z => nomatch z), k.da h3'⟩, h4, SqT.tups k.tups h5,
    k _ _ h6 (fun _ z => nomatch z) (fun _ z => nomatch z) (.inl h7), h7, h8, fun i d hd => ?_⟩
  obtain ⟨es, e1, e2, e3, e4, e5⟩ := (h9 i d hd).ex
  refine ⟨es, k _ _ e1 (fun _ z => nomatch z) (fun _ z => nomatch z) (.inr fun _ z => nomatch z), e2, k.da e3, fun q l hl => ?_, e5⟩
  obtain ⟨b, b1, b2, b3, b4⟩ := e4 q l hl
  exact ⟨b, b1, b2, k _ _ b3 (fun _ z => nomatch z) (fun _ z => nomatch z) (.inl b2), b4⟩
/-- the pen across all but a and the tables -/
theorem PenAt.butN {H H' : Hp} {a p pl : Addr} {n : Nat} (PA : PenAt H p pl n) (b : ButN a H H') (h1 : p ≠ a) (h2 : pl ≠ a) : PenAt H' p pl n := by
  obtain ⟨cells, x, d, c, f, P, h⟩ := PA
  exact ⟨cells, x, d, c, f, ⟨b _ _ P.di (fun _ z => nomatch z) h1, b _ _ P.li (fun _ z => nomatch z) h2, P.a0, P.d0, P.c0, P.f0, P.f1⟩, h⟩
theorem PenAt.extN {H H' : Hp} {p pl : Addr} {n : Nat} (PA : PenAt H p pl n) (b : ExtN H H') : PenAt H' p pl n := by
  obtain ⟨cells, x, d, c, f, P, h⟩ := PA
  exact ⟨cells, x, d, c, f, ⟨b _ _ P.di (fun _ z => nomatch z), b _ _ P.li (fun _ z => nomatch z), P.a0, P.d0, P.c0, P.f0, P.f1⟩, h⟩
/-! ### the law's tiles -/
structure TilL (K : PySem.W.Frag) (CT : Addr) (H : Hp) (t : Til) : Prop where
  at_ : ∃ dx, H t.a = some (tileO CT dx t.n t.gw t.gs t.ge t.go)
  dp : Dp K H t.n t.d
  dat : DatOk 6 t.d
  key : keyD t.d = some t.k
  gl : ∀ p ∈ t.glues, ∃ gd, Dp K H p.1 gd ∧ keyD gd = some p.2 ∧ GluOk gd
theorem TilL.deep {K : PySem.W.Frag} {CT : Addr} {H : Hp} {t : Til} (T : TilL K CT H t) : t.k.depth ≤ 6 := by
  obtain ⟨k, h1, h2⟩ := T.dat.key
  rw [T.key] at h1
  cases h1
  exact h2
theorem TilL.tups {K : PySem.W.Frag} {CT : Addr} {H H' : Hp} {t : Til} (T : TilL K CT H t) (k : Tups H H') (ka : ∀ dx, H t.a = some (tileO CT dx t.n t.gw t.gs t.ge t.go) → H' t.a = some (tileO CT dx t.n t.gw t.gs t.ge t.go)) : TilL K CT H' t :=
  ⟨T.at_.imp fun dx h => ka dx h, dp_tups k _ _ _ T.key T.dp, T.dat, T.key, fun p hp => by
    obtain ⟨gd, h1, h2, h3⟩ := T.gl p hp
    exact ⟨gd, dp_tups k _ _ _ h2 h1, h2, h3⟩⟩
theorem TilL.kp {K : PySem.W.Frag} {CT : Addr} {H H' : Hp} {t : Til} (T : TilL K CT H t) (k : Kp H H') : TilL K CT H' t := T.tups k.tups fun dx h => k.ins h
theorem TilL.nk {K : PySem.W.Frag} {CT : Addr} {H : Hp} {t : Til} (T : TilL K CT H t) : NK K H t.k t.n := ⟨t.d, T.dp, T.key⟩
theorem TilL.ok {K : PySem.W.Frag} {CT : Addr} {H : Hp} {t : Til} (T : TilL K CT H t) : TilOk K CT H t :=
  ⟨T.at_, T.dat.show_ (by decide) T.dp, T.key, Nat.le_trans T.deep (by decide), fun p hp => by
    obtain ⟨gd, h1, h2, h3⟩ := T.gl p hp
    obtain ⟨k, k1, k2⟩ := h3.key
    rw [h2] at k1
    cases k1
    exact ⟨gd, h1, h2, k2, h3.is⟩⟩
/-- the law's table of the glues by names -/
structure Knd (K : PySem.W.Frag) (w : World) (H : Hp) (dk : Addr) (ks : List (Til × Addr)) : Prop where
  da : DA K w H dk (ks.map fun x => (x.1.k, x.1.n, V.ref x.2))
  ls : ∀ x ∈ ks, H x.2 = some (.lst [x.1.gw, x.1.gs, x.1.ge, x.1.go])
theorem Knd.kp {K : PySem.W.Frag} {w : World} {H H' : Hp} {dk : Addr} {ks : List (Til × Addr)} (N : Knd K w H dk ks) (k : Kp H H') : Knd K w H' dk ks := ⟨k.da N.da, fun x hx => k.lst (N.ls x hx)⟩
/-! ### tables by key -/
theorem atK_find {α : Type} {kf : α → NestedKey} {nf vf : α → V} {k : NestedKey} : ∀ l : List α, (∃ x ∈ l, kf x = k ∧ atK (l.map fun x => (kf x, nf x, vf x)) k = some (vf x)) ∨ ((∀ x ∈ l, kf x ≠ k) ∧ atK (l.map fun x => (kf x, nf x, vf x)) k = none)
  | [] => .inr ⟨(fun _ h => nomatch h), rfl⟩
  | x :: l => by
    by_cases h : kf x = k
    · exact .inl ⟨x, List.mem_cons_self .., h, atK_pos (e := (kf x, nf x, vf x)) h⟩
    · have e : atK ((x :: l).map fun x => (kf x, nf x, vf x)) k = atK (l.map fun x => (kf x, nf x, vf x)) k := atK_neg (e := (kf x, nf x, vf x)) h
      rcases atK_find (kf := kf) (nf := nf) (vf := vf) (k := k) l with ⟨y, h1, h2, h3⟩ | ⟨h1, h2⟩
      · exact .inl ⟨y, List.mem_cons_of_mem _ h1, h2, e.trans h3⟩
      · exact .inr ⟨fun y hy => (List.mem_cons.mp hy).elim (fun z => z ▸ h) (h1 y), e.trans h2⟩
theorem nodup_inj {α β : Type} {f : α → β} : ∀ {l : List α}, (l.map f).Nodup → ∀ {x y}, x ∈ l → y ∈ l → f x = f y → x = y
  | [], _, _, _, h, _, _ => nomatch h
  | a :: l, nd, x, y, hx, hy, e => by
    have nd2 : f a ∉ l.map f ∧ (l.map f).Nodup := List.nodup_cons.mp (by simpa using nd)
    rcases List.mem_cons.mp hx with e1 | hx2 <;> rcases List.mem_cons.mp hy with e2 | hy2
    · rw [e1, e2]
    · subst e1
      exact (nd2.1 (List.mem_map.mpr ⟨y, hy2, e.symm⟩)).elim
    · subst e2
      exact (nd2.1 (List.mem_map.mpr ⟨x, hx2, e⟩)).elim
    · exact nodup_inj nd2.2 hx2 hy2 e
/-! ### lists of names as data -/
theorem dpn {K : PySem.W.Frag} {H : Hp} : ∀ {us : List Til}, (∀ t ∈ us, Dp K H t.n t.d) → DpAll K H (us.map (·.n)) (us.map (·.d))
  | [], _ => .nil
  | t :: us, h => .cons (h t (List.mem_cons_self ..)) (dpn fun t ht => h t (List.mem_cons_of_mem _ ht))
theorem lay_all {ds : List PyData} {m : Nat} (h : ∀ d ∈ ds, d.canLay0 = true ∧ d.depth ≤ m) : PyData.canLayAll0 ds = true ∧ PyData.depthAll ds ≤ m := by
  induction ds with
  | nil => exact ⟨by simp [PyData.canLayAll0], by simp [PyData.depthAll]⟩
  | cons d ds ih =>
    obtain ⟨h1, h2⟩ := h d (List.mem_cons_self ..)
    obtain ⟨h3, h4⟩ := ih fun d hd => h d (List.mem_cons_of_mem _ hd)
    refine ⟨by simp [PyData.canLayAll0, h1, h3], ?_⟩
    simp only [PyData.depthAll]
    omega
theorem shaped_list {ds : List PyData} (h : ∀ d ∈ ds, d.canLay0 = true ∧ d.depth ≤ 40) : SeqAt.shaped (.list ds) = true := by
  obtain ⟨h1, h2⟩ := lay_all h
  unfold SeqAt.shaped
  rw [show PyData.canLay0 (.list ds) = true by simpa [PyData.canLay0] using h1, show decide (PyData.depth (.list ds) ≤ 64) = true from decide_eq_true (by simp only [PyData.depth]; omega)]
  rfl
theorem shaped_tuple {ds : List PyData} (h : ∀ d ∈ ds, d.canLay0 = true ∧ d.depth ≤ 40) : SeqAt.shaped (.tuple ds) = true := by
  obtain ⟨h1, h2⟩ := lay_all h
  unfold SeqAt.shaped
  rw [show PyData.canLay0 (.tuple ds) = true by simpa [PyData.canLay0] using h1, show decide (PyData.depth (.tuple ds) ≤ 64) = true from decide_eq_true (by simp only [PyData.depth]; omega)]
  rfl
theorem shaped_flat {d : PyData} (h1 : d.canLay0 = true) (h2 : d.depth ≤ 40) : SeqAt.shaped d = true := by
  unfold SeqAt.shaped
  rw [h1, decide_eq_true (show d.depth ≤ 64 by omega)]
  rfl
/-- whether a name is there -/
def inK (ts : List Til) (k : NestedKey) : Bool := ts.any fun t => decide (t.k = k)
theorem inK_iff {ts : List Til} {k : NestedKey} : inK ts k = true ↔ ∃ t ∈ ts, t.k = k := by simp [inK]
theorem inK_srt {ts : List Til} {k : NestedKey} : inK (srtT ts) k = inK ts k := by
  have e : inK (srtT ts) k = true ↔ inK ts k = true := by
    rw [inK_iff, inK_iff]
    exact ⟨fun ⟨t, h1, h2⟩ => ⟨t, srtT_mem.mp h1, h2⟩, fun ⟨t, h1, h2⟩ => ⟨t, srtT_mem.mpr h1, h2⟩⟩
  cases h1 : inK (srtT ts) k <;> cases h2 : inK ts k <;> simp_all
theorem any_inK {us : List Til} {d : PyData} {k : NestedKey} (hk : keyD d = some k) (h : ∀ t ∈ us, keyD t.d = some t.k) : ((us.map (·.d)).any fun z => PyData.eqv z d) = inK us k := by
  induction us with
  | nil => rfl
  | cons t us ih =>
    have e1 := eqv_dec (h t (List.mem_cons_self ..)) hk
    simp only [List.map_cons, List.any_cons, inK, e1]
    rw [ih fun t ht => h t (List.mem_cons_of_mem _ ht)]
    rfl
end Tr

set_option Elab.async false
set_option linter.all false
set_option maxRecDepth 100000
set_option maxHeartbeats 8000000
namespace Tr
open PySem PySem.Spec PyProof.Rows L2 AK Pen LamX
theorem Tabs.pen {T : List (Addr × Str)} {p pl : Addr} {n : Nat} {H H' : Hp} (t : Tabs T H) (PA : PenAt H p pl n) (b : But p H H') : Tabs T H' := fun x hx => by
  obtain ⟨ps, h1, h2, h3⟩ := t x hx
  obtain ⟨kvs, hp⟩ := PA.is
  refine ⟨ps, b _ _ h1 (ne_of h1 hp fun z => nomatch z), h2, fun pos cv hc => ?_⟩
  obtain ⟨c, e1, e2⟩ := h3 pos cv hc
  exact ⟨c, e1, b _ _ e2 (ne_of e2 hp fun z => nomatch z)⟩
/-- from H to H': what stays, the pen, the tables -/
structure Go (T : List (Addr × Str)) (p pl : Addr) (H H' : Hp) (m : Nat) : Prop where
  kp : Kp H H'
  pen : PenAt H' p pl m
  tabs : Tabs T H'
theorem under_side {j : Nat} {kg : NestedKey} (l : List Til) : Tr.under (onSide l j) kg = (l.filter fun t => decide (((t.glues.map (·.2))[j]?).getD .none = kg)).map (·.n) := by
  unfold Tr.under onSide
  rw [List.filter_map, List.map_map]
  rfl
section
variable {T : List (Addr × Str)} {p pl : Addr} {H H1 H2 : Hp} {m k : Nat}
theorem Go.same (g : Go T p pl H H1 m) (s : Same H1 H2) : Go T p pl H H2 m := ⟨g.kp.trans (.same s), g.pen.keep s, g.tabs.ext s⟩
theorem Go.draw (g : Go T p pl H H1 m) (PA : PenAt H2 p pl k) (b : But p H1 H2) : Go T p pl H H2 k := ⟨g.kp.trans (.pen g.pen b), PA, Tabs.pen g.tabs g.pen b⟩
theorem Go.mono (g : Go T p pl H H1 m) (h : m ≤ k) : Go T p pl H H1 k := ⟨g.kp, g.pen.mono h, g.tabs⟩
end
end Tr
namespace K3
open PySem PySem.Spec PyProof.Rows L2 Pen Tr AK LamX
section
variable {P : Program} {w : World} {K : PySem.W.Frag} {mg : Str → Option PySem.Value} {base : Heap} {f fD fP fA fN fI fW fG fH fM C CT CB CN Pt : Addr} {fd fdD fdP fdA fdN fdI fdW fdG fdH fdM : FuncData} {T : List (Addr × Str)}
/-- _law_t2_set_right: the pen, a set, the list of its tiles, the table of their glues -/
def spRt (K : PySem.W.Frag) (w : World) (C CT : Addr) (T : List (Addr × Str)) : Sp := fun vs H Q _ => ∃ (p pl : Addr) (n : Nat) (a lt dk : Addr) (H0 : Hp) (ks : List (Til × Addr)), vs = [.ref p, .ref a, .ref lt, .ref dk] ∧ PenAt H p pl n ∧ n ≤ 600000 ∧
  SetO K w C H0 H a (ks.map (·.1)) ∧ SqL K H lt (ks.map fun x => V.ref x.1.a) ∧ Knd K w H dk ks ∧ (∀ x ∈ ks, TilL K CT H x.1) ∧ (ks.map (·.1.k)).Nodup ∧ ks.length ≤ 12 ∧ Tabs T H ∧ ∀ H', PenAt H' p pl (n + 200) → Kp H H' → Tabs T H' → Q (.bl true) H'
abbrev nRt : List Str := ["_law_pen_here", "_law_made", "_law_tiles", "_law_kinds", "_law_names", "_law_lap", "_law_name", "_law_due", "_law_glue", "_law_side", "_law_tile", "_law_one"]
theorem scRt : FnScope nRt ["_law_pen_here", "_law_made", "_law_tiles", "_law_kinds"] (defScope (top 36)) := ⟨rfl, rfl, rfl, by decide +kernel, rfl, by decide +kernel, by decide +kernel⟩
theorem ok_rt (F : FnT K "_law_t2_set_right" 36 f fd) (TX : Txt mg) (SF : SetF K C) (TF : TileF K CT) (FP : FnP K "_law_pick" sPick fP fdP) (gP : mg "_law_pick" = some (.ref fP)) (FD : FnP K "_law_draw" sDraw fD fdD) (gD : mg "_law_draw" = some (.ref fD))
    (FA : FnT K "_law_t2_any_glue" 31 fA fdA) (gA : mg "_law_t2_any_glue" = some (.ref fA)) (GA : FnOk P w K mg base CX0 4 fA fdA ["_law_pen_here"] (spAny K))
    (FN : FnT K "_law_t2_named" 34 fN fdN) (gN : mg "_law_t2_named" = some (.ref fN)) (GN : FnOk P w K mg base CX0 4 fN fdN ["_law_made", "_law_name"] (spNd K w C CT))
    (FI : FnT K "_law_t2_is" 29 fI fdI) (gI : mg "_law_t2_is" = some (.ref fI)) (FW : FnT K "_law_is_whole" 28 fW fdW) (gW : mg "_law_is_whole" = some (.ref fW))
    (FG : FnT K "_law_t2_with_glue" 35 fG fdG) (gG : mg "_law_t2_with_glue" = some (.ref fG)) (GG : FnOk P w K mg base CX0 5 fG fdG ["_law_made", "_law_side", "_law_glue"] (spWg K w C))
    (FH : FnM K "has" "TileSet.has" (cSet 3) fH fdH) (MH : Meth K C "has" fH) (FM : FnM K "names" "TileSet.names" (cSet 4) fM fdM) (MM : Meth K C "names" fM)
    (hf : He.fAd K ("_law_t2_set_right", none) = f) (TB : TabB base mg (He.codeOf K ("_law_t2_set_right", none)) Pt) (hT : (Pt, ("_law_t2_set_right" ++ ".<locals>." ++ "<lambda>" : Str)) ∈ T) (uT : ∀ p ∈ T, p.1 = Pt → p.2 = ("_law_t2_set_right" ++ ".<locals>." ++ "<lambda>" : Str)) :
    GFn P w K mg base CX0 7 f fd ["_law_pen_here", "_law_made", "_law_tiles", "_law_kinds"] (spRt K w C CT T) := by
  refine GFn.of F scRt (fun vs H Q E h => by obtain ⟨p, pl, n, a, lt, dk, H0, ks, rfl, _⟩ := h; rfl) (fun c A outer s0 H vs Q E hc hr free h => ?_)
  obtain ⟨p, pl, n, a, lt, dk, H0, ks, rfl, PA, hn, SO, hlt, KN, hts, nu, few, tabs, q⟩ := h
  have nd := scRt.nd
  have hu := hr.units
  have hu0 := hr.units0
  have hu65 : (A.deeper (envOfC "_law_t2_set_right" (defScope (top 36)) s0.heap.objs.size f (.ref c))).units + 65 < cLine := by
    have := hr.un
    omega
  suffices z : ∃ t, PSs (cxOf CX0 P w K mg base nRt "_law_t2_set_right" (defScope (top 36)) f (.ref c) A outer s0 H E).nox (defBody (top 36)) t ∧ t { nx := fun _ H' => Q .non H', rt := Q } (start nRt [.ref p, .ref a, .ref lt, .ref dk]) H by
    obtain ⟨t, h1, h2⟩ := z
    exact ⟨t, h1.nox, h2⟩
  have GP := ok_pick (P := P) (w := w) (mg := mg) (base := base) FP TX FD gD
  have GD := ok_draw (P := P) (w := w) (mg := mg) (base := base) FD TX
  have GI := ok_is (P := P) (w := w) (mg := mg) (base := base) FI TX
  have GW := ok_whole (P := P) (w := w) (mg := mg) (base := base) FW TX
  have GH := ok_has (P := P) (w := w) (mg := mg) (base := base) FH SF
  have GM := ok_names (P := P) (w := w) (mg := mg) (base := base) FM SF
  have bP : L2.Binds K fdP ["_law_pen_here", "_law_some"] [] := FunD.bindsN FP fun _ _ _ _ _ _ us hl => match us, hl with | [_, _], _ => rfl
  have bD : L2.Binds K fdD ["_law_pen_here", "_law_many"] [] := FunD.bindsN FD fun _ _ _ _ _ _ us hl => match us, hl with | [_, _], _ => rfl
  have bA : L2.Binds K fdA ["_law_pen_here"] [] := FunD.bindsN FA fun _ _ _ _ _ _ us hl => match us, hl with | [_], _ => rfl
  have bN : L2.Binds K fdN ["_law_made", "_law_name"] [] := FunD.bindsN FN fun _ _ _ _ _ _ us hl => match us, hl with | [_, _], _ => rfl
  have bI : L2.Binds K fdI ["_law_told", "_law_due"] [] := FunD.bindsN FI fun _ _ _ _ _ _ us hl => match us, hl with | [_, _], _ => rfl
  have bW : L2.Binds K fdW ["_law_value"] [] := FunD.bindsN FW fun _ _ _ _ _ _ us hl => match us, hl with | [_], _ => rfl
  have bG : L2.Binds K fdG ["_law_made", "_law_side", "_law_glue"] [] := FunD.bindsN FG fun _ _ _ _ _ _ us hl => match us, hl with | [_, _, _], _ => rfl
  have bH : L2.Binds K fdH ["self", "name"] [] := FunD.bindsN FH fun _ _ _ _ _ _ us hl => match us, hl with | [_, _], _ => rfl
  have bM : L2.Binds K fdM ["self"] [] := FunD.bindsN FM fun _ _ _ _ _ _ us hl => match us, hl with | [_], _ => rfl
  refine ⟨_, pss_cons (ps_asg (pe_sortR (T := T) (pe_lc (own := [("_law_tile", 10)]) (g := gName 10) (tt := tYes) (te := tFld K (tVar 10) "name") (by rfl) nd (pi_list (pv 2)) (blkOk_by (own := [("_law_tile", 10)]) (N := nRt) (sc := defScope (top 36)) (by decide +kernel))
          (fun _ _ _ _ _ => pg_name (i := 10) nd rfl (Or.inl rfl)) (fun _ _ _ _ _ => pts_nil) (fun _ _ _ _ _ => pe_fld (pv 10) rfl)) TB ?_ hT uT ⟨rfl, rfl, rfl, rfl, rfl, by decide +kernel, by decide +kernel⟩ hr free TX.repr TX.sorted (by rfl) (by decide +kernel) (by rfl) (by intros; rfl)) (pg_name (i := 4) nd rfl (.inl rfl)))
    (pss_cons (ps_if (PW.pt (pw_or (pt_not (pt_val (pe_callB call_isTu (by rfl) TX.isi (by decide +kernel) (pa_cons (pe_fld (pv 1) rfl) (pa_cons (pe_bltn (by rfl) TX.tuple (by decide +kernel) (v := .ty "tuple") rfl) pa_nil)))))
        (pw_or1 (pt_cmpR (op_neD hu) (pe_lc (own := [("_law_tile", 10)]) (g := gName 10) (tt := tYes) (te := tFld K (tVar 10) "name") (by rfl) nd (pi_tup (pe_fld (pv 1) rfl)) (blkOk_by (own := [("_law_tile", 10)]) (N := nRt) (sc := defScope (top 36)) (by decide +kernel))
              (fun _ _ _ _ _ => pg_name (i := 10) nd rfl (Or.inl rfl)) (fun _ _ _ _ _ => pts_nil) (fun _ _ _ _ _ => pe_fld (pv 10) rfl))
            (pe_lc (own := [("_law_tile", 10)]) (g := gName 10) (tt := tYes) (te := tFld K (tVar 10) "name") (by rfl) nd (pi_list (pv 2)) (blkOk_by (own := [("_law_tile", 10)]) (N := nRt) (sc := defScope (top 36)) (by decide +kernel))
              (fun _ _ _ _ _ => pg_name (i := 10) nd rfl (Or.inl rfl)) (fun _ _ _ _ _ => pts_nil) (fun _ _ _ _ _ => pe_fld (pv 10) rfl)) (nomark _))))) (pss_one (ps_ret pe_bl)) pss_nil)
    (pss_cons (ps_if (pt_cmpR (op_neD hu) (pe_meth0 (pv 1) SF.cl MM GM (hr.mono (by decide)) bM .nil pass0) (pe_callTy call_tupR (by rfl) TX.tuple (by decide +kernel) (pa_cons (pv 4) pa_nil)) (nomark _)) (pss_one (ps_ret pe_bl)) pss_nil)
    (pss_cons (ps_for PassesOwn.never rfl (pi_range1 (by rfl) TX.range (pa_cons pe_int pa_nil)) (pg_name (i := 5) nd rfl (.inl rfl))
        (pss_cons (ps_asg (pe_call GP (hr.mono (by decide)) (by rfl) gP FP.kp bP .nil pass0 (pa_cons (pv 0) (pa_cons (pe_op op_cat (pv 4) (pe_lst (pa_cons pe_str (pa_cons (pe_op op_pow pe_int pe_int) (pa_cons (pe_tup (pa_cons (pe_tup pa_nil) (pa_cons pe_str pa_nil))) pa_nil))))) pa_nil))) (pg_name (i := 6) nd rfl (.inl rfl)))
        (C8.pss_cut (ps_asg (pe_ifExp (pt_cmpR (op_inD hu65) (pv 6) (pv 4) (by rfl)) (pe_tup (pa_cons pe_str (pa_cons (pv 6) pa_nil))) (pe_tup (pa_cons pe_str (pa_cons (pv 6) pa_nil)))) (pg_name (i := 7) nd rfl (.inl rfl)))
        (C8.pss_cut (ps_if (PW.pt (pw_or (pt_cmpR (op_neD hu) (pe_call GN (hr.mono (by decide)) (by rfl) gN FN.kp bN .nil pass0 (pa_cons (pv 1) (pa_cons (pv 6) pa_nil))) (pv 7) (nomark _))
            (pw_or1 (pt_not (pt_val (pe_call GI (hr.mono (by decide)) (by rfl) gI FI.kp bI .nil pass0 (pa_cons (pe_meth (pv 1) SF.cl MH GH (hr.mono (by decide)) bH .nil pass0 (pa_cons (pv 6) pa_nil)) (pa_cons (pe_cmpR (op_inD hu65) (pv 6) (pv 4) (by rfl)) pa_nil))))))))
            (pss_one (ps_ret pe_bl)) pss_nil)
        (pss_cons (ps_asg (pe_tup (pa_cons (pe_call GA (hr.mono (by decide)) (by rfl) gA FA.kp bA .nil pass0 (pa_cons (pv 0) pa_nil))
              (pa_cons (pe_call GP (hr.mono (by decide)) (by rfl) gP FP.kp bP .nil pass0 (pa_cons (pv 0) (pa_cons (pe_lst (pa_cons pe_int (pa_cons pe_int (pa_cons pe_int (pa_cons pe_int (pa_cons pe_int (pa_cons pe_int (pa_cons pe_int (pa_cons pe_int (pa_cons pe_int (pa_cons (pe_un un_neg pe_int) (pa_cons pe_bl (pa_cons pe_non (pa_cons pe_str pa_nil)))))))))))))) pa_nil))) pa_nil)))
            (pg_tup (by rfl) (pgs_cons (pg_name (i := 8) nd rfl (.inr rfl)) (pgs_cons (pg_name (i := 9) nd rfl (.inr rfl)) pgs_nil))))
        (C8.pss_cut (ps_if (PW.pt (pw_and (pt_cmpR (op_neE hu0) (pv 4) (pe_lst pa_nil) (nomark _)) (pw_and1 (pt_cmp (pc_eqI (pe_call GD (hr.mono (by decide)) (by rfl) gD FD.kp bD .nil pass0 (pa_cons (pv 0) (pa_cons pe_int pa_nil))) pe_int)))))
            (pss_one (ps_asg (pe_ix ix_list (pe_ix (ix_dictA hu) (pv 3) (pe_call GP (hr.mono (by decide)) (by rfl) gP FP.kp bP .nil pass0 (pa_cons (pv 0) (pa_cons (pv 4) pa_nil))) (fun _ _ => rfl)) (pe_call GD (hr.mono (by decide)) (by rfl) gD FD.kp bD .nil pass0 (pa_cons (pv 0) (pa_cons pe_int pa_nil))) (fun _ _ => rfl)) (pg_name (i := 8) nd rfl (.inr rfl)))) pss_nil)
        (pss_cons (ps_asg (pe_tup (pa_cons pe_str (pa_cons pe_str (pa_cons (pv 9) pa_nil)))) (pg_name (i := 7) nd rfl (.inl rfl)))
        (C8.pss_cut (ps_if (PW.pt (pw_and (pt_val (pe_call GW (hr.mono (by decide)) (by rfl) gW FW.kp bW .nil pass0 (pa_cons (pv 9) pa_nil))) (pw_and1 (pt_chain op_le op_le pe_int (pv 9) pe_int))))
            (pss_one (ps_asg (pe_tup (pa_cons pe_str (pa_cons (pe_callTy call_tupR (by rfl) TX.tuple (by decide +kernel) (pa_cons
                (pe_lc (own := [("_law_one", 11)]) (g := gName 11) (tt := tTest (tOp (rEqD K) (tOp (rIxL K) (tOp (rIxA K w) (tVar 3) (tVar 11)) (tVar 9)) (tVar 8))) (te := tVar 11) (by rfl) nd (pi_list (pv 4)) (blkOk_by (own := [("_law_one", 11)]) (N := nRt) (sc := defScope (top 36)) (by decide +kernel))
                  (fun _ _ _ _ _ => pg_name (i := 11) nd rfl (Or.inl rfl)) (fun _ _ _ _ _ => pts_one (pt_cmpR (op_eqD hu) (pe_ix ix_list (pe_ix (ix_dictA hu) (pv 3) (pv 11) (fun _ _ => rfl)) (pv 9) (fun _ _ => rfl)) (pv 8) (nomark _))) (fun _ _ _ _ _ => pv 11)) pa_nil)) pa_nil))) (pg_name (i := 7) nd rfl (.inl rfl)))) pss_nil)
        (pss_one (ps_if (pt_cmpR (op_neD hu) (pe_call GG (hr.mono (by decide)) (by rfl) gG FG.kp bG .nil pass0 (pa_cons (pv 1) (pa_cons (pv 9) (pa_cons (pv 8) pa_nil)))) (pv 7) (nomark _)) (pss_one (ps_ret pe_bl)) pss_nil))))))))))
    (pss_one (ps_ret pe_bl))))), ?_⟩
  · rw [hc _ hf]
    rfl
  obtain ⟨ts, ets⟩ : ∃ ts, ts = ks.map (·.1) := ⟨_, rfl⟩
  rw [← ets] at SO
  have hlt : SqL K H lt (ts.map fun t => V.ref t.a) := by
    rw [ets, List.map_map]
    exact hlt
  have hin : ∀ x ∈ ks, x.1 ∈ ts := fun x hx => by
    rw [ets]
    exact List.mem_map.mpr ⟨x, hx, rfl⟩
  have hl : ∀ t ∈ ts, ∃ l, (t, l) ∈ ks := fun t ht => by
    rw [ets] at ht
    obtain ⟨x, hx, rfl⟩ := List.mem_map.mp ht
    exact ⟨x.2, hx⟩
  have hts : ∀ t ∈ ts, TilL K CT H t := fun t ht => by
    obtain ⟨l, hx⟩ := hl t ht
    exact hts _ hx
  have nuK := nu
  have nu : (ts.map (·.k)).Nodup := by
    rw [ets, List.map_map]
    exact nu
  have few : ts.length ≤ 12 := by
    rw [ets, List.length_map]
    exact few
  clear ets
  -- the names sorted
  refine ⟨_, rfl, lt, rfl, ⟨_, hlt⟩, fun D nD => ?_⟩
  refine lc_list (K := K) (a := lt) (xs := ts.map fun t => V.ref t.a) (fun i H' => Same H H' ∧ H' D = some (.lst ((ts.take i).map (·.n)))) ⟨same_upd nD, upd_same⟩ (fun i H' hi p => hlt.elim (fun z => .inl (same_rd p.1 z)) .inr) ?_ ?_
  · rintro i y H' hx ⟨s', l'⟩
    obtain ⟨t, t1, rfl⟩ : ∃ t, ts[i]? = some t ∧ V.ref t.a = y := by
      rw [List.getElem?_map] at hx
      exact Option.map_eq_some_iff.mp hx
    have t2 := List.mem_of_getElem? t1
    obtain ⟨dxt, at4⟩ := (hts t t2).at_
    refine ⟨rfl, yes_if ⟨_, rfl, t.a, CT, dxt, _, t.n, rfl, s' _ _ at4, TF.cl, TF.nm, rfl, _, l', ?_, ?_, ?_⟩⟩
    · rw [List.length_map, List.length_take, sizeLine_eq]
      omega
    · intro b o e
      rw [upd_ne (ne_of_none e nD)]
      exact s' _ _ e
    · rw [upd_same, List.take_add_one, t1, List.map_append]
      rfl
  rintro H1 ⟨s1, l1⟩
  rw [List.length_map, List.take_length] at l1
  refine ⟨tabs.ext s1, ts.map Til.vd, ⟨D, rfl, .inl (SqL.of ?_)⟩, ?_, ?_, fun H2 np ext2 tabs2 nnp => ?_⟩
  · rw [List.map_map]
    exact l1
  · intro q hq
    obtain ⟨t, ht, rfl⟩ := List.mem_map.mp hq
    exact ((hts t ht).kp (.same s1)).ok.sh
  · rw [List.length_map, sizeLine_eq]
    omega
  have e2 : (srt (ts.map Til.vd)).map (·.1) = (srtT ts).map (·.n) := by
    rw [← srtT_map, List.map_map]
    rfl
  rw [e2]
  obtain ⟨us, eus⟩ : ∃ us, us = srtT ts := ⟨_, rfl⟩
  rw [← eus]
  obtain ⟨Hs, es⟩ : ∃ Hs, Hs = upd H2 np (.lst (us.map (·.n))) := ⟨_, rfl⟩
  have hnp : Hs np = some (.lst (us.map (·.n))) := by
    rw [es]
    exact upd_same
  have s2 : Same H2 Hs := by
    rw [es]
    exact same_upd nnp
  have kHs : Kp H Hs := (Kp.same s1).trans ((Kp.ext ext2).trans (.same s2))
  have G0 : Go T p pl Hs Hs n := ⟨.rfl', (PenAt.extN (PA.keep s1) ext2).keep s2, tabs2.ext s2⟩
  have uin : ∀ t ∈ us, t ∈ ts := fun t ht => srtT_mem.mp (eus ▸ ht)
  have ulen : us.length ≤ 12 := by
    rw [eus, srtT_len]
    exact few
  have ush : ∀ d ∈ us.map (·.d), d.canLay0 = true ∧ d.depth ≤ 40 := fun d hd => by
    obtain ⟨t, ht, rfl⟩ := List.mem_map.mp hd
    have D := (hts t (uin t ht)).dat
    exact ⟨D.ly, Nat.le_trans D.dp (by decide)⟩
  have tsh : ∀ d ∈ ts.map (·.d), d.canLay0 = true ∧ d.depth ≤ 40 := fun d hd => by
    obtain ⟨t, ht, rfl⟩ := List.mem_map.mp hd
    have D := (hts t ht).dat
    exact ⟨D.ly, Nat.le_trans D.dp (by decide)⟩
  rw [← es]
  clear es s2 tabs2 ext2 nnp e2 l1 s1 nD
  -- its tiles, as a tuple
  have SH := SO.kl kHs.kl
  obtain ⟨dx, pt, dn, pn, dr, lg, ft, ds, h1, h2, ⟨h3, h3'⟩, h4, h5, h6, h7, h8, h9⟩ := SH.ex
  refine ⟨_, rfl, a, C, dx, _, .ref pt, rfl, h1, SF.cl, SF.ti, rfl, pt, _, rfl, h2, _, rfl, ?_⟩
  refine iteF ?_
  refine ⟨_, rfl, a, C, dx, _, .ref pt, rfl, h1, SF.cl, SF.ti, rfl, pt, rfl, ⟨_, h2⟩, fun D1 nD1 => ?_⟩
  have hts2 : ∀ t ∈ ts, TilL K CT Hs t := fun t ht => (hts t ht).kp kHs
  refine lc_tup (K := K) (a := pt) (xs := ts.map fun t => V.ref t.a) (fun i H' => Same Hs H' ∧ H' D1 = some (.lst ((ts.take i).map (·.n)))) ⟨same_upd nD1, upd_same⟩ (fun i H' hi p => SqT.tups (fun b xs h => same_rd p.1 h) h2) ?_ ?_
  · rintro i y H' hx ⟨s', l'⟩
    obtain ⟨t, t1, rfl⟩ : ∃ t, ts[i]? = some t ∧ V.ref t.a = y := by
      rw [List.getElem?_map] at hx
      exact Option.map_eq_some_iff.mp hx
    have t2 := List.mem_of_getElem? t1
    obtain ⟨dxt, at4⟩ := (hts2 t t2).at_
    refine ⟨rfl, yes_if ⟨_, rfl, t.a, CT, dxt, _, t.n, rfl, s' _ _ at4, TF.cl, TF.nm, rfl, _, l', ?_, ?_, ?_⟩⟩
    · rw [List.length_map, List.length_take, sizeLine_eq]
      omega
    · intro b o e
      rw [upd_ne (ne_of_none e nD1)]
      exact s' _ _ e
    · rw [upd_same, List.take_add_one, t1, List.map_append]
      rfl
  rintro H3 ⟨s3, l3⟩
  rw [List.length_map, List.take_length] at l3
  refine ⟨_, rfl, lt, rfl, ⟨_, (Kp.same s3).sql (kHs.sql hlt)⟩, fun D2 nD2 => ?_⟩
  refine lc_list (K := K) (a := lt) (xs := ts.map fun t => V.ref t.a) (fun i H' => Same H3 H' ∧ H' D2 = some (.lst ((ts.take i).map (·.n)))) ⟨same_upd nD2, upd_same⟩ (fun i H' hi p => (Kp.same p.1).sql ((Kp.same s3).sql (kHs.sql hlt))) ?_ ?_
  · rintro i y H' hx ⟨s', l'⟩
    obtain ⟨t, t1, rfl⟩ : ∃ t, ts[i]? = some t ∧ V.ref t.a = y := by
      rw [List.getElem?_map] at hx
      exact Option.map_eq_some_iff.mp hx
    have t2 := List.mem_of_getElem? t1
    obtain ⟨dxt, at4⟩ := (hts2 t t2).at_
    refine ⟨rfl, yes_if ⟨_, rfl, t.a, CT, dxt, _, t.n, rfl, s' _ _ (s3 _ _ at4), TF.cl, TF.nm, rfl, _, l', ?_, ?_, ?_⟩⟩
    · rw [List.length_map, List.length_take, sizeLine_eq]
      omega
    · intro b o e
      rw [upd_ne (ne_of_none e nD2)]
      exact s' _ _ e
    · rw [upd_same, List.take_add_one, t1, List.map_append]
      rfl
  rintro H4 ⟨s4, l4⟩
  rw [List.length_map, List.take_length] at l4
  have s24 := same_trans s3 s4
  have sh1 := shaped_list tsh
  have dpt : DpAll K H4 (ts.map (·.n)) (ts.map (·.d)) := dpn fun t ht => ((hts2 t ht).kp (.same s24)).dp
  refine ⟨_, _, .lst (SqL.of (s4 _ _ l3)) dpt, .lst (SqL.of l4) dpt, sh1, sh1, _, rfl, ?_⟩
  rw [SeqAt.eqv_refl _ (SeqAt.canLay_of_shaped sh1)]
  refine iteF ?_
  -- the names
  have G4 := G0.same s24
  have SH4 := SH.kl (Kp.same s24).kl
  clear h1 h2 h3 h3' h4 h5 h6 h7 h8 h9 l3 l4 nD1 nD2
  obtain ⟨dx, pt, dn, pn, dr, lg, ft, ds, h1, h2, ⟨h3, h3'⟩, h4, h5, h6, h7, h8, h9⟩ := SH4.ex
  rw [← eus] at h5
  refine ⟨_, rfl, a, dx, _, rfl, h1, rfl, a, dx, _, .ref pn, rfl, h1, rfl, _, rfl, np, _, rfl, .inl (SqL.of (s24 _ _ hnp)), fun q1 H5 s5 hq1 => ?_⟩
  have sh2 := shaped_tuple ush
  have dpu : DpAll K H5 (us.map (·.n)) (us.map (·.d)) := dpn fun t ht => ((hts2 t (uin t ht)).kp (.same (same_trans s24 s5))).dp
  refine ⟨_, _, .tup ((Kp.same s5).sqt h5) dpu, .tup hq1 dpu, sh2, sh2, _, rfl, ?_⟩
  rw [SeqAt.eqv_refl _ (SeqAt.canLay_of_shaped sh2)]
  refine iteF ?_
  have G5 := G4.same s5
  clear h1 h2 h3 h3' h4 h5 h6 h7 h8 h9 dpu dpt sh1 hq1 SH4
  refine ⟨4, rfl, by decide, by decide, ?_⟩
  refine for_it (walk_range (lo := 0) (n := 4)) (fun i σ H' => (∃ o5 o6 o7 o8 o9, σ = [some (.ref p), some (.ref a), some (.ref lt), some (.ref dk), some (.ref np), o5, o6, o7, o8, o9, none, none]) ∧ Go T p pl Hs H' (n + 20 * i)) ⟨⟨_, _, _, _, _, rfl⟩, G5⟩ (fun _ _ _ _ _ => trivial) ?_ ?_
  case refine_2 =>
    rintro σ H' ⟨⟨o5, o6, o7, o8, o9, rfl⟩, G⟩
    exact q _ (G.pen.mono (by omega)) (kHs.trans G.kp) G.tabs
  rintro i x σ H6 H7 hi ⟨⟨o5, o6, o7, o8, o9, rfl⟩, G6⟩ ⟨rfl, rfl⟩
  -- a name is drawn
  refine ⟨_, rfl, _, rfl, 10, 9, rfl, rfl, ⟨by decide, by decide, by decide⟩, (by show 0 ≤ sizeLine; decide), fun t0 nt0 => ?_⟩
  have u0 := same_upd (o := .tup []) nt0
  refine ⟨(by show 2 ≤ sizeLine; decide), fun t1 nt1 => ?_⟩
  have u1 := same_upd (o := .tup [.ref t0, .str "q"]) nt1
  refine ⟨(by show 3 ≤ sizeLine; decide), fun l1 nl1 => ?_⟩
  have u2 := same_upd (o := .lst [.str "none of them", .int (10 ^ 9), .ref t1]) nl1
  have u02 := same_trans u0 (same_trans u1 u2)
  have G6b := G6.same u02
  refine ⟨np, l1, _, _, rfl, rfl, G6b.kp.lst hnp, upd_same, (by rw [List.length_map, sizeLine_eq]; show us.length + 3 ≤ _; omega), fun l2 nl2 => ?_⟩
  have u3 := same_upd (o := .lst (us.map (·.n) ++ [.str "none of them", .int (10 ^ 9), .ref t1])) nl2
  have G6c := G6b.same u3
  obtain ⟨kvs6, hp6⟩ := G6b.pen.is
  refine ⟨p, pl, l2, n + 20 * i, _, rfl, G6c.pen, by omega, SqL.of upd_same, (fun z => by simp at z), (by rw [List.length_append, List.length_map]; show us.length + 3 < 1073741824; omega), Ne.symm (ne_of_none hp6 nl2), fun i8 v H8 hv PA8 but8 => ?_⟩
  have G8 := G6c.draw PA8 but8
  have tu8 := pen_tups G6c.pen but8
  obtain ⟨d, k, hDv, hk, kd, ly, dd⟩ : ∃ d k, Dp K H8 v d ∧ keyD d = some k ∧ k.depth ≤ 8 ∧ d.canLay0 = true ∧ d.depth ≤ 30 := by
    rcases List.mem_append.mp (List.mem_of_getElem? hv) with hv | hv
    · obtain ⟨t, ht, rfl⟩ := List.mem_map.mp hv
      have T := (hts2 t (uin t ht)).kp G8.kp
      exact ⟨t.d, t.k, T.dp, T.key, Nat.le_trans T.deep (by decide), T.dat.ly, Nat.le_trans T.dat.dp (by decide)⟩
    · simp only [List.mem_cons, List.not_mem_nil, or_false] at hv
      rcases hv with rfl | rfl | rfl
      · exact ⟨.str "none of them", _, .str _, rfl, by decide, by decide +kernel, by decide⟩
      · exact ⟨.int (10 ^ 9), _, .int _, rfl, by decide, rfl, by decide⟩
      · refine ⟨.tuple [.tuple [], .str "q"], _, .tup (SqT.tups (Tups.trans (fun x xs h => same_rd (same_trans u2 u3) h) tu8) (SqT.of upd_same)) (.cons (.tup (SqT.tups (Tups.trans (fun x xs h => same_rd (same_trans u1 (same_trans u2 u3)) h) tu8) (SqT.of upd_same)) .nil) (.cons (.str _) .nil)), rfl, by decide, by decide +kernel, by decide⟩
  clear hv tu8 G6c G6b u0 u1 u2 u02 u3 nt0 nt1 nl1 nl2 hp6 kvs6 G6
  have shd := shaped_flat ly (Nat.le_trans dd (by decide))
  have shl := shaped_list ush
  have dpk : ∀ {H' m}, Go T p pl Hs H' m → Dp K H' (.ref np) (.list (us.map (·.d))) := fun {H' m} G => .lst (SqL.of (G.kp.lst hnp)) (dpn fun t ht => ((hts2 t (uin t ht)).kp G.kp).dp)
  have hky : ∀ t ∈ us, keyD t.d = some t.k := fun t ht => (hts2 t (uin t ht)).key
  have wd : ∀ s : Str, PyData.canLay0 (.str s) = true → SeqAt.shaped (.tuple [.str s, d]) = true := fun s hs => shaped_tuple fun e he => by
    simp only [List.mem_cons, List.not_mem_nil, or_false] at he
    rcases he with rfl | rfl
    · exact ⟨hs, Nat.zero_le _⟩
    · exact ⟨ly, Nat.le_trans dd (by decide)⟩
  -- what is due
  refine ⟨fun σ H' => ∃ td, σ = [some (.ref p), some (.ref a), some (.ref lt), some (.ref dk), some (.ref np), some (.int (0 + (i : Int))), some v, some (.ref td), o8, o9, none, none] ∧ Go T p pl Hs H' (n + 20 * i + 1) ∧ Dp K H' v d ∧
    H' td = some (.tup [.str (if inK us k = true then "tile" else "no"), v]), ?_, ?_⟩
  · refine ⟨_, rfl, _, rfl, d, us.map (fun t : Til => t.d), hDv, dpk G8, shd, shl, _, rfl, ?_⟩
    rw [any_inK hk hky]
    cases hin : inK us k with
    | true =>
      refine iteT ⟨_, rfl, (by show 2 ≤ sizeLine; decide), fun td ntd => ?_⟩
      have s := same_upd (o := .tup [.str "tile", v]) ntd
      exact ⟨td, rfl, G8.same s, dp_same s _ _ hDv, upd_same⟩
    | false =>
      refine iteF ⟨_, rfl, (by show 2 ≤ sizeLine; decide), fun td ntd => ?_⟩
      have s := same_upd (o := .tup [.str "no", v]) ntd
      exact ⟨td, rfl, G8.same s, dp_same s _ _ hDv, upd_same⟩
  clear G8 hDv
  rintro σ H9 ⟨td, rfl, G9, hDv, htd⟩
  -- the name asked
  refine ⟨fun σ H' => (∃ o7, σ = [some (.ref p), some (.ref a), some (.ref lt), some (.ref dk), some (.ref np), some (.int (0 + (i : Int))), some v, o7, o8, o9, none, none]) ∧ Go T p pl Hs H' (n + 20 * i + 1), ?_, ?_⟩
  · obtain ⟨dx, pt, dn, pn, dr, lg, ft, ds, h1, h2, ⟨h3, h3'⟩, h4, h5, h6, h7, h8, h9⟩ := (SH.kl G9.kp.kl).ex
    have fnd := atK_find (kf := Til.k) (nf := Til.n) (vf := fun t => V.ref t.a) (k := k) ts
    have ink : (atK (ts.map fun t => (t.k, t.n, V.ref t.a)) k).isSome = inK us k := by
      rw [eus, inK_srt]
      rcases fnd with ⟨t, ht, e1, e2⟩ | ⟨e1, e2⟩
      · rw [e2, show inK ts k = true from inK_iff.mpr ⟨t, ht, e1⟩]
        rfl
      · rw [e2]
        cases hi : inK ts k with
        | false => rfl
        | true =>
          obtain ⟨t, ht, e3⟩ := inK_iff.mp hi
          exact absurd e3 (e1 t ht)
    have nkv : NK K H9 k v := ⟨d, hDv, hk⟩
    -- the second test, from any heap behind
    have second : ∀ {H'}, Same H9 H' → ∀ {R : Bool → Hp → Prop}, R false H' →
        tTest (tCall (spIs K) [] E0 (tCons (tMeth C "has" (spHas K w C) [] E0 (tVar 1) (tCons (tVar 6) tNil)) (tCons (tOp (rInD K) (tVar 6) (tVar 4)) tNil))) [some (.ref p), some (.ref a), some (.ref lt), some (.ref dk), some (.ref np), some (.int (0 + (i : Int))), some v, some (.ref td), o8, o9, none, none] H' (fun b H' => R (!b) H') := fun {H'} s {R} hR => by
      refine ⟨_, rfl, a, dx, _, rfl, s _ _ h1, rfl, _, rfl, a, dx, _, dn, _, v, k, rfl, s _ _ h1, rfl, (Kp.same s).da h3', nkv.tups fun x xs h => same_rd s h, kd, ?_⟩
      refine ⟨_, rfl, _, rfl, d, us.map (fun t : Til => t.d), dp_same s _ _ hDv, dpk (G9.same s), shd, shl, ?_⟩
      refine ⟨_, _, rfl, _, rfl, ?_⟩
      rw [any_inK hk hky, ink, decide_eq_true rfl]
      exact hR
    refine ⟨_, rfl, _, rfl, a, dx, _, dn, _, v, k, rfl, h1, rfl, rfl, h3', nkv, kd, fun x hx => ?_, fun hx t H' s' ht => ?_⟩
    · rcases fnd with ⟨t, ht, e1, e2⟩ | ⟨e1, e2⟩
      · rw [hx] at e2
        cases e2
        obtain ⟨dxt, at4⟩ := ((hts2 t ht).kp G9.kp).at_
        refine ⟨t.a, dxt, t.n, t.gw, t.gs, t.ge, t.go, rfl, at4, fun q1 H' s' hq1 => ?_⟩
        have hin : inK us k = true := by
          rw [← ink, hx]
          rfl
        rw [hin, if_pos rfl] at htd
        have T := (hts2 t ht).kp (G9.kp.trans (.same s'))
        have z1 : SeqAt.shaped (.tuple [.str "tile", t.d]) = true := shaped_tuple fun e he => by
          simp only [List.mem_cons, List.not_mem_nil, or_false] at he
          rcases he with rfl | rfl
          · exact ⟨by decide +kernel, Nat.zero_le _⟩
          · exact ⟨T.dat.ly, Nat.le_trans T.dat.dp (by decide)⟩
        have z2 : PyData.eqv (.tuple [.str "tile", t.d]) (.tuple [.str "tile", d]) = true := by
          have := T.key
          rw [e1] at this
          rw [eqv_dec (k := .tup [.text "tile", k]) (j := .tup [.text "tile", k]) (by simp [keyD, keyDs, this]) (by simp [keyD, keyDs, hk])]
          exact decide_eq_true rfl
        refine ⟨_, rfl, .tuple [.str "tile", t.d], .tuple [.str "tile", d], .tup hq1 (.cons (.str _) (.cons T.dp .nil)), .tup (SqT.of (s' _ _ htd)) (.cons (.str _) (.cons (dp_same s' _ _ hDv) .nil)), z1, wd _ (by decide +kernel), _, rfl, ?_⟩
        rw [z2]
        refine iteF ?_
        exact second s' (R := fun b H' => if b = true then _ else _) (iteF ⟨⟨_, rfl⟩, G9.same s'⟩)
      · rw [hx] at e2
        cases e2
    · have hin : inK us k = false := by
        rw [← ink, hx]
        rfl
      rw [hin, if_neg (fun z => nomatch z)] at htd
      refine ⟨_, rfl, .tuple [.str "no", d], .tuple [.str "no", d], .tup ht (.cons (.str _) (.cons (dp_same s' _ _ hDv) .nil)), .tup (SqT.of (s' _ _ htd)) (.cons (.str _) (.cons (dp_same s' _ _ hDv) .nil)), wd _ (by decide +kernel), wd _ (by decide +kernel), _, rfl, ?_⟩
      rw [SeqAt.eqv_refl _ (SeqAt.canLay_of_shaped (wd _ (by decide +kernel)))]
      refine iteF ?_
      exact second s' (R := fun b H' => if b = true then _ else _) (iteF ⟨⟨_, rfl⟩, G9.same s'⟩)
  clear htd hDv G9 shd
  rintro σ H10 ⟨⟨o7, rfl⟩, G10⟩
  -- a glue, a side
  refine ⟨_, rfl, p, pl, n + 20 * i + 1, rfl, G10.pen, by omega, fun vg dg H11 Dg hDg PA11 but11 => ?_⟩
  have G11 := G10.draw PA11 but11
  refine ⟨_, rfl, _, rfl, (by show 13 ≤ sizeLine; decide), fun l1 nl1 => ?_⟩
  have u1 := same_upd (o := .lst [.int 0, .int 1, .int 2, .int 3, .int 0, .int 1, .int 2, .int 3, .int 4, .int (-1), .bl true, .non, .str "west"]) nl1
  have G11b := G11.same u1
  obtain ⟨kvs11, hp11⟩ := G11.pen.is
  refine ⟨p, pl, l1, n + 20 * i + 16, _, rfl, G11b.pen, by omega, SqL.of upd_same, (fun z => nomatch z), (by show 13 < 1073741824; decide), Ne.symm (ne_of_none hp11 nl1), fun i12 vs H12 hvs PA12 but12 => ?_⟩
  have G12 := G11b.draw PA12 but12
  refine ⟨(by show 2 ≤ sizeLine; decide), fun tt ntt => ?_⟩
  have u2 := same_upd (o := .tup [vg, vs]) ntt
  have G12b := G12.same u2
  obtain ⟨kg, hkg, kgd⟩ := Dg.key
  have hDg12 := dp_same u2 _ _ (dp_tups (pen_tups G11b.pen but12) _ _ kg hkg (dp_same u1 _ _ hDg))
  obtain ⟨dS, hdS, hS⟩ : ∃ dS, (∀ H', Dp K H' vs dS) ∧ (isSideD dS = false ∨ ∃ j : Nat, j < 4 ∧ dS = .int j) ∧ dS.canLay0 = true ∧ dS.depth ≤ 1 ∧ ∃ k, keyD dS = some k := by
    match i12, hvs with
    | 0, hv => cases hv; exact ⟨.int 0, fun _ => .int _, .inr ⟨0, by decide, rfl⟩, rfl, by decide, _, rfl⟩
    | 1, hv => cases hv; exact ⟨.int 1, fun _ => .int _, .inr ⟨1, by decide, rfl⟩, rfl, by decide, _, rfl⟩
    | 2, hv => cases hv; exact ⟨.int 2, fun _ => .int _, .inr ⟨2, by decide, rfl⟩, rfl, by decide, _, rfl⟩
    | 3, hv => cases hv; exact ⟨.int 3, fun _ => .int _, .inr ⟨3, by decide, rfl⟩, rfl, by decide, _, rfl⟩
    | 4, hv => cases hv; exact ⟨.int 0, fun _ => .int _, .inr ⟨0, by decide, rfl⟩, rfl, by decide, _, rfl⟩
    | 5, hv => cases hv; exact ⟨.int 1, fun _ => .int _, .inr ⟨1, by decide, rfl⟩, rfl, by decide, _, rfl⟩
    | 6, hv => cases hv; exact ⟨.int 2, fun _ => .int _, .inr ⟨2, by decide, rfl⟩, rfl, by decide, _, rfl⟩
    | 7, hv => cases hv; exact ⟨.int 3, fun _ => .int _, .inr ⟨3, by decide, rfl⟩, rfl, by decide, _, rfl⟩
    | 8, hv => cases hv; exact ⟨.int 4, fun _ => .int _, .inl (by decide), rfl, by decide, _, rfl⟩
    | 9, hv => cases hv; exact ⟨.int (-1), fun _ => .int _, .inl (by decide), rfl, by decide, _, rfl⟩
    | 10, hv => cases hv; exact ⟨.bool true, fun _ => .bl _, .inl rfl, rfl, by decide, _, rfl⟩
    | 11, hv => cases hv; exact ⟨.none, fun _ => .non, .inl rfl, rfl, by decide, _, rfl⟩
    | 12, hv => cases hv; exact ⟨.str "west", fun _ => .str _, .inl rfl, by decide +kernel, by decide, _, rfl⟩
  refine ⟨tt, _, rfl, SqT.of upd_same, rfl, _, _, rfl, _, _, rfl, rfl, ?_⟩
  obtain ⟨H13, e13⟩ : ∃ H13, H13 = upd H12 tt (.tup [vg, vs]) := ⟨_, rfl⟩
  rw [← e13] at G12b hDg12 ⊢
  clear e13 u2 ntt hvs G12 hp11 kvs11 u1 nl1 G11b G11 hDg G10
  -- or a glue of the set
  refine ⟨fun σ H' => ∃ vg dg kg o7, σ = [some (.ref p), some (.ref a), some (.ref lt), some (.ref dk), some (.ref np), some (.int (0 + (i : Int))), some v, o7, some vg, some vs, none, none] ∧ Go T p pl Hs H' (n + 20 * i + 20) ∧ Dp K H' vg dg ∧ keyD dg = some kg ∧ kg.depth ≤ 8 ∧ dg.canLay0 = true ∧ dg.depth ≤ 9, ?_, ?_⟩
  · refine ⟨_, rfl, (by show 0 ≤ sizeLine; decide), fun l2 nl2 => ?_⟩
    have u3 := same_upd (o := .lst []) nl2
    have G13 := G12b.same u3
    refine ⟨np, l2, _, rfl, rfl, SqL.of (G13.kp.lst hnp), SqL.of upd_same, _, rfl, ?_⟩
    have stay : ∀ {H' m}, Same H13 H' → Go T p pl Hs H' m → m ≤ n + 20 * i + 20 → ∃ vg dg kg o7', [some (V.ref p), some (.ref a), some (.ref lt), some (.ref dk), some (.ref np), some (.int (0 + (i : Int))), some v, o7, some vg, some vs, none, none] = [some (V.ref p), some (.ref a), some (.ref lt), some (.ref dk), some (.ref np), some (.int (0 + (i : Int))), some v, o7', some vg, some vs, none, none] ∧
        Go T p pl Hs H' (n + 20 * i + 20) ∧ Dp K H' vg dg ∧ keyD dg = some kg ∧ kg.depth ≤ 8 ∧ dg.canLay0 = true ∧ dg.depth ≤ 9 := fun {H' m} s G h => ⟨vg, dg, kg, _, rfl, G.mono h, dp_same s _ _ hDg12, hkg, kgd, Dg.ly, Dg.dp⟩
    by_cases hne : us = []
    · have e : us.map (·.n) = [] := by
        rw [hne]
        rfl
      rw [show decide (us.map (·.n) ≠ []) = false from decide_eq_false (fun z => z e)]
      refine iteF ?_
      obtain ⟨vg', dg', kg', o7', h1, h2⟩ := stay u3 G13 (by omega)
      exact ⟨vg, dg, kg, o7, rfl, G13.mono (by omega), dp_same u3 _ _ hDg12, hkg, kgd, Dg.ly, Dg.dp⟩
    · have e : us.map (·.n) ≠ [] := fun z => hne (List.map_eq_nil_iff.mp z)
      rw [decide_eq_true e]
      refine iteT ⟨_, rfl, p, pl, n + 20 * i + 17, 2, rfl, G13.pen, by omega, by omega, by omega, fun r H14 r0 r1 PA14 but14 => ?_⟩
      have G14 := G13.draw PA14 but14
      have hDg14 := dp_tups (pen_tups G13.pen but14) _ _ kg hkg (dp_same u3 _ _ hDg12)
      refine ⟨r, 0, rfl, rfl, decide (r = 0), rfl, ?_⟩
      by_cases hr0 : r = 0
      · rw [decide_eq_true hr0]
        obtain ⟨kvs14, hp14⟩ := G14.pen.is
        refine iteT ⟨_, rfl, _, rfl, _, rfl, p, pl, np, n + 20 * i + 18, _, rfl, G14.pen, by omega, SqL.of (G14.kp.lst hnp), e, (by rw [List.length_map]; omega), (fun z => by rw [← z, G14.kp.lst hnp] at hp14; cases hp14), fun i15 v15 H15 hv15 PA15 but15 => ?_⟩
        have G15 := G14.draw PA15 but15
        obtain ⟨t, ht, rfl⟩ := List.mem_map.mp (List.mem_of_getElem? hv15)
        have T15 := (hts2 t (uin t ht)).kp G15.kp
        have K15 := KN.kp (kHs.trans G15.kp)
        obtain ⟨l, hl1⟩ := hl t (uin t ht)
        have at15 : atK (ks.map fun x => (x.1.k, x.1.n, V.ref x.2)) t.k = some (.ref l) := by
          rcases atK_find (kf := fun x : Til × Addr => x.1.k) (nf := fun x => x.1.n) (vf := fun x => V.ref x.2) (k := t.k) ks with ⟨x, hx, e1, e2⟩ | ⟨e1, e2⟩
          · rw [e2]
            have z := nodup_inj nuK hx hl1 e1
            rw [z]
          · exact absurd rfl (e1 _ hl1)
        refine ⟨dk, _, t.k, .ref l, rfl, K15.da, T15.nk, Nat.le_trans T15.deep (by decide), at15, ?_⟩
        refine ⟨_, rfl, p, pl, n + 20 * i + 19, 4, rfl, G15.pen, by omega, by omega, by omega, fun r2 H16 r20 r21 PA16 but16 => ?_⟩
        have G16 := G15.draw PA16 but16
        have T16 := (hts2 t (uin t ht)).kp G16.kp
        have l16 := (KN.kp (kHs.trans G16.kp)).ls _ hl1
        obtain ⟨j, rfl, hj⟩ : ∃ j : Nat, r2 = (j : Int) ∧ j < 4 := ⟨r2.toNat, by omega, by omega⟩
        obtain ⟨g, kg2, hg1, hg2⟩ : ∃ g kg2, [t.gw, t.gs, t.ge, t.go][j]? = some g ∧ (g, kg2) ∈ t.glues := by
          match j, hj with
          | 0, _ => exact ⟨_, _, rfl, by simp [Til.glues]; exact .inl rfl⟩
          | 1, _ => exact ⟨_, t.ks, rfl, by simp [Til.glues]⟩
          | 2, _ => exact ⟨_, t.ke, rfl, by simp [Til.glues]⟩
          | 3, _ => exact ⟨_, t.ko, rfl, by simp [Til.glues]⟩
        obtain ⟨gd, q1, q2, q3⟩ := T16.gl _ hg2
        refine ⟨l, _, (j : Int), g, rfl, rfl, SqL.of l16, atI_nat hg1, ?_⟩
        obtain ⟨kk, kk1, kk2⟩ := q3.key
        exact ⟨g, gd, kk, _, rfl, G16.mono (by omega), q1, kk1, kk2, q3.ly, q3.dp⟩
      · rw [decide_eq_false hr0]
        exact iteF ⟨vg, dg, kg, _, rfl, G14.mono (by omega), hDg14, hkg, kgd, Dg.ly, Dg.dp⟩
  clear hDg12 G12b hkg kgd Dg
  rintro σ H14 ⟨vg, dg, kg, o7, rfl, G14, hDg, hkg, kgd, gly, gdp⟩
  obtain ⟨hS1, hS2, hS3, kS, hS4⟩ := hS
  refine ⟨_, rfl, (by show 3 ≤ sizeLine; decide), fun td ntd => ?_⟩
  have u4 := same_upd (o := .tup [.str "bad", .str "side", vs]) ntd
  have G15 := G14.same u4
  have hDg15 := dp_same u4 _ _ hDg
  obtain ⟨H15, e15⟩ : ∃ H15, H15 = upd H14 td (.tup [.str "bad", .str "side", vs]) := ⟨_, rfl⟩
  have htd : H15 td = some (.tup [.str "bad", .str "side", vs]) := by
    rw [e15]
    exact upd_same
  rw [← e15] at G15 hDg15 ⊢
  clear e15 u4 ntd hDg G14
  refine ⟨fun σ H' => ∃ td, σ = [some (.ref p), some (.ref a), some (.ref lt), some (.ref dk), some (.ref np), some (.int (0 + (i : Int))), some v, some (.ref td), some vg, some vs, none, none] ∧ Go T p pl Hs H' (n + 20 * i + 20) ∧ Dp K H' vg dg ∧
    ((isSideD dS = false ∧ H' td = some (.tup [.str "bad", .str "side", vs])) ∨ ∃ (j : Nat) (q1 : Addr), j < 4 ∧ dS = .int j ∧ SqT K H' q1 (under (onSide us j) kg) ∧ H' td = some (.tup [.str "names", .ref q1])), ?_, ?_⟩
  · refine ⟨_, rfl, vs, dS, rfl, hdS _, isIntD dS, rfl, ?_⟩
    rcases hS1 with hb | ⟨j, hj, rfl⟩
    · have bad : ∃ td', [some (V.ref p), some (.ref a), some (.ref lt), some (.ref dk), some (.ref np), some (.int (0 + (i : Int))), some v, some (.ref td), some vg, some vs, none, none] = [some (V.ref p), some (.ref a), some (.ref lt), some (.ref dk), some (.ref np), some (.int (0 + (i : Int))), some v, some (.ref td'), some vg, some vs, none, none] ∧ Go T p pl Hs H15 (n + 20 * i + 20) ∧ Dp K H15 vg dg ∧
        ((isSideD dS = false ∧ H15 td' = some (.tup [.str "bad", .str "side", vs])) ∨ ∃ (j : Nat) (q1 : Addr), j < 4 ∧ dS = .int j ∧ SqT K H15 q1 (under (onSide us j) kg) ∧ H15 td' = some (.tup [.str "names", .ref q1])) :=
        ⟨td, rfl, G15, hDg15, .inl ⟨hb, htd⟩⟩
      cases hi2 : isIntD dS with
      | false => exact iteF bad
      | true =>
        obtain ⟨z, rfl⟩ : ∃ z, dS = .int z := by
          cases dS with
          | int z => exact ⟨z, rfl⟩
          | _ => cases hi2
        obtain rfl : vs = .int z := by
          cases hdS H15
          rfl
        refine iteT ⟨_, rfl, 0, z, rfl, rfl, decide ((0 : Int) ≤ z), rfl, ?_⟩
        by_cases h0 : (0 : Int) ≤ z
        · rw [decide_eq_true h0]
          refine iteT ⟨z, 3, rfl, rfl, decide (z ≤ 3), rfl, ?_⟩
          by_cases h3 : z ≤ 3
          · have y : isSideD (.int z) = true := by
              show (decide (0 ≤ z) && decide (z ≤ 3)) = true
              rw [decide_eq_true h0, decide_eq_true h3]
              rfl
            rw [y] at hb
            cases hb
          · rw [decide_eq_false h3]
            exact iteF bad
        · rw [decide_eq_false h0]
          exact iteF ⟨false, rfl, iteF bad⟩
    · obtain rfl : vs = .int j := by
        cases hdS H15
        rfl
      refine iteT ⟨_, rfl, 0, j, rfl, rfl, decide ((0 : Int) ≤ j), rfl, ?_⟩
      rw [decide_eq_true (show (0 : Int) ≤ j by omega)]
      refine iteT ⟨j, 3, rfl, rfl, decide ((j : Int) ≤ 3), rfl, ?_⟩
      rw [decide_eq_true (show (j : Int) ≤ 3 by omega)]
      refine iteT ?_
      refine ⟨_, rfl, np, rfl, ⟨_, SqL.of (G15.kp.lst hnp)⟩, fun D nD => ?_⟩
      have glu : ∀ t : Til, ∃ g kg2, [t.gw, t.gs, t.ge, t.go][j]? = some g ∧ ((t.glues.map (·.2))[j]?).getD .none = kg2 ∧ (g, kg2) ∈ t.glues := fun t => by
        match j, hj with
        | 0, _ => exact ⟨_, _, rfl, rfl, by simp [Til.glues]⟩
        | 1, _ => exact ⟨_, _, rfl, rfl, by simp [Til.glues]⟩
        | 2, _ => exact ⟨_, _, rfl, rfl, by simp [Til.glues]⟩
        | 3, _ => exact ⟨_, _, rfl, rfl, by simp [Til.glues]⟩
      have undT : ∀ l : List Til, under (onSide l j) kg = (l.filter fun t => decide (((t.glues.map (·.2))[j]?).getD .none = kg)).map (·.n) := fun l => under_side l
      refine lc_list (K := K) (a := np) (xs := us.map (·.n)) (fun m H' => Same H15 H' ∧ H' D = some (.lst (under (onSide (us.take m) j) kg))) ⟨same_upd nD, upd_same⟩ (fun m H' hm p => SqL.of (p.1 _ _ (G15.kp.lst hnp))) ?_ ?_
      · rintro m y H' hx ⟨s', l'⟩
        obtain ⟨t, t1, rfl⟩ : ∃ t : Til, us[m]? = some t ∧ t.n = y := by
          rw [List.getElem?_map] at hx
          exact Option.map_eq_some_iff.mp hx
        have ht := List.mem_of_getElem? t1
        have GH := G15.same s'
        have T15 := (hts2 t (uin t ht)).kp GH.kp
        have K15 := KN.kp (kHs.trans GH.kp)
        obtain ⟨l, hl1⟩ := hl t (uin t ht)
        have at15 : atK (ks.map fun x => (x.1.k, x.1.n, V.ref x.2)) t.k = some (.ref l) := by
          rcases atK_find (kf := fun x : Til × Addr => x.1.k) (nf := fun x => x.1.n) (vf := fun x => V.ref x.2) (k := t.k) ks with ⟨x, hx, e1, e2⟩ | ⟨e1, e2⟩
          · rw [e2]
            have z := nodup_inj nuK hx hl1 e1
            rw [z]
          · exact absurd rfl (e1 _ hl1)
        obtain ⟨g, kg2, g1, g2, g3⟩ := glu t
        obtain ⟨gd, q1, q2, q3⟩ := T15.gl _ g3
        have tk : us.take (m + 1) = us.take m ++ [t] := by
          rw [List.take_add_one, t1]
          rfl
        refine ⟨rfl, ?_⟩
        refine ⟨_, rfl, _, rfl, dk, _, t.k, .ref l, rfl, K15.da, T15.nk, Nat.le_trans T15.deep (by decide), at15, _, rfl, l, _, (j : Int), g, rfl, rfl, SqL.of (K15.ls _ hl1), atI_nat g1, _, rfl, gd, dg, q1, dp_same s' _ _ hDg15, shaped_flat q3.ly (Nat.le_trans q3.dp (by decide)), shaped_flat gly (Nat.le_trans gdp (by decide)), _, rfl, ?_⟩
        rw [eqv_dec q2 hkg]
        by_cases hkk : kg2 = kg
        · rw [decide_eq_true hkk]
          refine iteT ⟨_, rfl, _, l', ?_, ?_, ?_⟩
          · have : (Tr.under (onSide (us.take m) j) kg).length ≤ 12 := Nat.le_trans (under_len _ _) (by
              rw [onSide, List.length_map, List.length_take]
              omega)
            rw [sizeLine_eq]
            omega
          · intro b o e
            rw [upd_ne (ne_of_none e nD)]
            exact s' _ _ e
          · rw [upd_same, tk, undT, undT, List.filter_append, List.map_append]
            have z : ([t].filter fun t : Til => decide (((t.glues.map (·.2))[j]?).getD .none = kg)) = [t] := by
              simp only [List.filter_cons, List.filter_nil, g2, decide_eq_true hkk, if_true]
            rw [z]
            rfl
        · rw [decide_eq_false hkk]
          refine iteF ⟨s', ?_⟩
          rw [l', tk, undT, undT, List.filter_append]
          have z : ([t].filter fun t : Til => decide (((t.glues.map (·.2))[j]?).getD .none = kg)) = [] := by
            simp only [List.filter_cons, List.filter_nil, g2, decide_eq_false hkk]
            rfl
          rw [z, List.append_nil]
      · rintro H16 ⟨s16, l16⟩
        rw [List.length_map, List.take_length] at l16
        refine ⟨D, _, rfl, .inl (SqL.of l16), fun q1 H17 s17 hq1 => ?_⟩
        refine ⟨(by show 2 ≤ sizeLine; decide), fun td2 ntd2 => ?_⟩
        have u5 := same_upd (o := .tup [.str "names", .ref q1]) ntd2
        have s := same_trans s16 (same_trans s17 u5)
        exact ⟨td2, rfl, G15.same s, dp_same s _ _ hDg15, .inr ⟨j, q1, hj, rfl, (Kp.same u5).sqt hq1, upd_same⟩⟩
  clear htd hDg15 G15
  rintro σ H16 ⟨td2, rfl, G16, hDg, due⟩
  obtain ⟨dx, pt, dn, pn, dr, lg, ft, ds, h1, h2, ⟨h3, h3'⟩, h4, h5, h6, h7, h8, h9⟩ := (SH.kl G16.kp.kl).ex
  rw [← eus] at h9
  have last : ∀ {H' : Hp}, Same H16 H' → (∃ o5 o6 o7 o8 o9, [some (V.ref p), some (.ref a), some (.ref lt), some (.ref dk), some (.ref np), some (.int (0 + (i : Int))), some v, some (.ref td2), some vg, some vs, none, none] = [some (V.ref p), some (.ref a), some (.ref lt), some (.ref dk), some (.ref np), o5, o6, o7, o8, o9, none, none]) ∧ Go T p pl Hs H' (n + 20 * (i + 1)) :=
    fun {H'} s => ⟨⟨_, _, _, _, _, rfl⟩, (G16.same s).mono (by omega)⟩
  refine ⟨_, rfl, _, rfl, _, rfl, a, dx, _, lg, ds, vs, dS, vg, kg, rfl, h1, rfl, rfl, SqL.of h6, hdS _, ⟨dg, hDg, hkg⟩, kgd, fun j hj di hdi => ?_, h8, fun hb t H' s' ht => ?_⟩
  · have fin : ∀ (p1 t : Addr) (H' : Hp), Same H16 H' → SqT K H' p1 (Tr.under (onSide us j) kg) → SqT K H' t [.str "names", .ref p1] → ∃ d e, Dp K H' (.ref t) d ∧ Dp K H' (.ref td2) e ∧ SeqAt.shaped d = true ∧ SeqAt.shaped e = true ∧ PyData.eqv d e = true := fun p1 t H' s' hp1 ht => by
      have j4 : j < 4 := by
        have := (List.getElem?_eq_some_iff.mp hdi).1
        omega
      rcases due with ⟨hb, _⟩ | ⟨j2, q1, _, ej, hq1, htd⟩
      · rw [hj] at hb
        have z : isSideD (.int j) = true := by
          show (decide (0 ≤ (j : Int)) && decide ((j : Int) ≤ 3)) = true
          rw [decide_eq_true (by omega), decide_eq_true (by omega)]
          rfl
        rw [z] at hb
        cases hb
      · obtain rfl : j2 = j := by
          rw [hj] at ej
          have := PyData.int.inj ej
          omega
        rw [under_side] at hp1 hq1
        have sub : ∀ x ∈ us.filter (fun t => decide (((t.glues.map (·.2))[j2]?).getD .none = kg)), x ∈ us := fun x hx => (List.mem_filter.mp hx).1
        have dl : DpAll K H' ((us.filter (fun t => decide (((t.glues.map (·.2))[j2]?).getD .none = kg))).map (·.n)) ((us.filter (fun t => decide (((t.glues.map (·.2))[j2]?).getD .none = kg))).map (·.d)) := dpn fun x hx => ((hts2 x (uin x (sub x hx))).kp (G16.kp.trans (.same s'))).dp
        have ly := lay_all (m := 7) (ds := (us.filter (fun t => decide (((t.glues.map (·.2))[j2]?).getD .none = kg))).map (·.d)) fun e he => by
          obtain ⟨x, hx, rfl⟩ := List.mem_map.mp he
          exact ⟨(hts2 x (uin x (sub x hx))).dat.ly, (hts2 x (uin x (sub x hx))).dat.dp⟩
        have sh : SeqAt.shaped (.tuple [.str "names", .tuple ((us.filter (fun t => decide (((t.glues.map (·.2))[j2]?).getD .none = kg))).map (·.d))]) = true := shaped_tuple fun e he => by
          simp only [List.mem_cons, List.not_mem_nil, or_false] at he
          rcases he with rfl | rfl
          · exact ⟨by decide +kernel, Nat.zero_le _⟩
          · refine ⟨by simpa [PyData.canLay0] using ly.1, ?_⟩
            have := ly.2
            simp only [PyData.depth]
            omega
        exact ⟨_, _, .tup ht (.cons (.str _) (.cons (.tup hp1 dl) .nil)), .tup (SqT.of (s' _ _ htd)) (.cons (.str _) (.cons (.tup ((Kp.same s').sqt hq1) dl) .nil)), sh, sh, SeqAt.eqv_refl _ (SeqAt.canLay_of_shaped sh)⟩
    obtain ⟨es, e1, e2, e3, e4, e5⟩ := (h9 j di hdi).ex
    refine ⟨es, e3, fun l hl' => ?_, fun hn' p1 t H' s' hp1 ht => ?_⟩
    · obtain ⟨b, rfl, b2, b3, b4⟩ := e4 kg l hl'
      refine ⟨b, _, rfl, SqL.of b3, fun p1 t H' s' hp1 ht => ?_⟩
      obtain ⟨d1, d2, x1, x2, x3, x4, x5⟩ := fin p1 t H' s' hp1 ht
      refine ⟨_, rfl, d1, d2, x1, x2, x3, x4, _, rfl, ?_⟩
      rw [x5]
      exact iteF (last s')
    · obtain ⟨d1, d2, x1, x2, x3, x4, x5⟩ := fin p1 t H' s' (by rw [e5 kg hn']; exact hp1) ht
      refine ⟨_, rfl, d1, d2, x1, x2, x3, x4, _, rfl, ?_⟩
      rw [x5]
      exact iteF (last s')
  · rcases due with ⟨_, htd⟩ | ⟨j, q1, hj, rfl, _⟩
    · have sh : SeqAt.shaped (.tuple [.str "bad", .str "side", dS]) = true := shaped_tuple fun e he => by
        simp only [List.mem_cons, List.not_mem_nil, or_false] at he
        rcases he with rfl | rfl | rfl
        · exact ⟨by decide +kernel, Nat.zero_le _⟩
        · exact ⟨by decide +kernel, Nat.zero_le _⟩
        · exact ⟨hS2, Nat.le_trans hS3 (by decide)⟩
      refine ⟨_, rfl, .tuple [.str "bad", .str "side", dS], .tuple [.str "bad", .str "side", dS], .tup ht (.cons (.str _) (.cons (.str _) (.cons (hdS _) .nil))), .tup (SqT.of (s' _ _ htd)) (.cons (.str _) (.cons (.str _) (.cons (hdS _) .nil))), sh, sh, _, rfl, ?_⟩
      rw [SeqAt.eqv_refl _ (SeqAt.canLay_of_shaped sh)]
      exact iteF (last s')
    · have z : isSideD (.int j) = true := by
        show (decide (0 ≤ (j : Int)) && decide ((j : Int) ≤ 3)) = true
        rw [decide_eq_true (by omega), decide_eq_true (by omega)]
        rfl
      rw [z] at hb
      cases hb
end
end K3

set_option Elab.async false
set_option linter.all false
set_option maxRecDepth 100000
set_option maxHeartbeats 4000000
namespace Tr
open PySem PySem.Spec PyProof.Rows L2 AK Pen LamX
def kE (x : Til × Addr) : Eh := (x.1.k, x.1.n, V.ref x.2)
/-- the law's tiles while they are made -/
structure Bd (K : PySem.W.Frag) (w : World) (CT : Addr) (H : Hp) (dk lt : Addr) (ks : List (Til × Addr)) : Prop where
  dko : H dk = some (DkO w dk (ks.map kE))
  da : DA K w H dk (ks.map kE)
  lto : H lt = some (.lst (ks.map fun x => V.ref x.1.a))
  ls : ∀ x ∈ ks, H x.2 = some (.lst [x.1.gw, x.1.gs, x.1.ge, x.1.go])
  ne : ∀ x ∈ ks, x.2 ≠ lt
  ti : ∀ x ∈ ks, TilL K CT H x.1
  nu : (ks.map (·.1.k)).Nodup
section
variable {K : PySem.W.Frag} {w : World} {CT : Addr} {H H' : Hp} {dk lt : Addr} {ks : List (Til × Addr)}
theorem Bd.kp (B : Bd K w CT H dk lt ks) (k : Kp H H') : Bd K w CT H' dk lt ks :=
  ⟨k.dko B.dko, k.da B.da, k.lst B.lto, fun x hx => k.lst (B.ls x hx), B.ne, fun x hx => (B.ti x hx).kp k, B.nu⟩
theorem Bd.knd (B : Bd K w CT H dk lt ks) : Knd K w H dk ks := ⟨B.da, B.ls⟩
theorem Bd.start (h1 : H dk = some (DkO w dk [])) (h2 : DA K w H dk []) (h3 : H lt = some (.lst [])) : Bd K w CT H dk lt [] :=
  ⟨h1, h2, h3, fun _ h => (nomatch h), fun _ h => (nomatch h), fun _ h => (nomatch h), List.nodup_nil⟩
theorem kE_put {k : NestedKey} {t : Til} {l : Addr} (h : atK (ks.map kE) t.k = none) : putE (ks.map kE) t.k t.n (V.ref l) = (ks ++ [(t, l)]).map kE := by
  rw [putE_new h, List.map_append]
  rfl
theorem kE_none {k : NestedKey} (h : atK (ks.map kE) k = none) : k ∉ ks.map (·.1.k) := fun z => by
  obtain ⟨x, hx, e⟩ := List.mem_map.mp z
  exact atK_none.mp h (kE x) (List.mem_map.mpr ⟨x, hx, rfl⟩) e
/-- one more: H1 is H with the name in the table, H2 has its tile, H3 the tile in the list -/
theorem Bd.add {t : Til} {l : Addr} {H1 H2 : Hp} (B : Bd K w CT H dk lt ks) (hn : atK (ks.map kE) t.k = none) (e1 : H1 = upd H dk (DkO w dk (putE (ks.map kE) t.k t.n (V.ref l)))) (nk : NK K H t.k t.n) (hl : H l = some (.lst [t.gw, t.gs, t.ge, t.go])) (nl : l ≠ lt) (ldk : l ≠ dk)
    (s : Kp H1 H2) (ti : TilL K CT H2 t) (td : t.k.depth ≤ 8) (dlt : dk ≠ lt) : Bd K w CT (upd H2 lt (.lst ((ks.map fun x => V.ref x.1.a) ++ [V.ref t.a]))) dk lt (ks ++ [(t, l)]) := by
  have d1 : DA K w H1 dk ((ks ++ [(t, l)]).map kE) := by
    rw [e1, ← kE_put (k := t.k) hn]
    exact daPut B.da B.dko nk td
  have o1 : H1 dk = some (DkO w dk ((ks ++ [(t, l)]).map kE)) := by
    rw [e1, kE_put (k := t.k) hn]
    exact upd_same
  have tu1 : Tups H H1 := by
    rw [e1]
    exact Tups.upd (dk_ntup B.dko)
  have lst1 : ∀ {b : Addr} {xs : List V}, H b = some (.lst xs) → H1 b = some (.lst xs) := fun {b xs} e => by
    rw [e1, upd_ne (ne_of e B.dko fun z => nomatch z)]
    exact e
  have l2 : H2 lt = some (.lst (ks.map fun x => V.ref x.1.a)) := s.lst (lst1 B.lto)
  have tu2 : Tups H2 (upd H2 lt (.lst ((ks.map fun x => V.ref x.1.a) ++ [V.ref t.a]))) := Tups.upd (lst_ntup l2)
  have ins2 : ∀ {b C dx : Addr} {fs : List (Str × V)} {o : HO}, H2 b = some (.ins C dx fs) → upd H2 lt o b = some (.ins C dx fs) := fun {b C dx fs o} e => by
    rw [upd_ne (ne_of e l2 fun z => nomatch z)]
    exact e
  have D2 := s.da d1
  refine ⟨?_, ?_, ?_, ?_, ?_, ?_, ?_⟩
  · rw [upd_ne dlt]
    exact s.dko o1
  · refine daKeep D2 tu2 (.inl ?_)
    rw [upd_ne dlt]
    exact s.dko o1
  · rw [upd_same, List.map_append]
    rfl
  · intro x hx
    rcases List.mem_append.mp hx with hx | hx
    · rw [upd_ne (B.ne x hx)]
      exact s.lst (lst1 (B.ls x hx))
    · obtain rfl := List.mem_singleton.mp hx
      rw [upd_ne nl]
      exact s.lst (lst1 hl)
  · intro x hx
    rcases List.mem_append.mp hx with hx | hx
    · exact B.ne x hx
    · obtain rfl := List.mem_singleton.mp hx
      exact nl
  · intro x hx
    rcases List.mem_append.mp hx with hx | hx
    · have T1 : TilL K CT H1 x.1 := (B.ti x hx).tups tu1 fun dx h => by
        rw [e1, upd_ne (ne_of h B.dko fun z => nomatch z)]
        exact h
      exact (T1.kp s).tups tu2 fun dx h => ins2 h
    · obtain rfl := List.mem_singleton.mp hx
      exact ti.tups tu2 fun dx h => ins2 h
  · rw [List.map_append, List.nodup_append]
    refine ⟨B.nu, by simp, fun a ha b hb z => ?_⟩
    simp only [List.map_cons, List.map_nil, List.mem_singleton] at hb
    subst z hb
    exact kE_none hn ha
theorem Bd.at_ (B : Bd K w CT H dk lt ks) {x : Til × Addr} (hx : x ∈ ks) : atK (ks.map kE) x.1.k = some (.ref x.2) := by
  rcases atK_find (kf := fun x : Til × Addr => x.1.k) (nf := fun x => x.1.n) (vf := fun x => V.ref x.2) (k := x.1.k) ks with ⟨y, hy, e1, e2⟩ | ⟨e1, e2⟩
  · have z := nodup_inj B.nu hy hx e1
    rw [← z]
    rw [z]
    rw [z] at e2
    exact e2
  · exact absurd rfl (e1 _ hx)
end
theorem cut_take {xs : List V} {n : Nat} (h : n ≤ xs.length) : cutV xs none (some (n : Int)) = xs.take n := by
  unfold cutV
  rw [HT.sIx_nat, HT.sIx_none, Nat.min_eq_left h, List.drop_zero, Nat.sub_zero]
theorem cut_drop {xs : List V} {n : Nat} (h : n ≤ xs.length) : cutV xs (some (n : Int)) none = xs.drop n := by
  unfold cutV
  rw [HT.sIx_nat, HT.sIx_none, Nat.min_eq_left h]
  exact List.take_of_length_le (by rw [List.length_drop]; omega)
theorem Tabs.updL {T : List (Addr × Str)} {H : Hp} {x : Addr} {xs ys : List V} (t : Tabs T H) (h : H x = some (.lst xs)) : Tabs T (L2.upd H x (.lst ys)) := fun y hy => by
  obtain ⟨ps, h1, h2, h3⟩ := t y hy
  refine ⟨ps, by rw [upd_ne (ne_of h1 h fun z => nomatch z)]; exact h1, h2, fun pos cv hc => ?_⟩
  obtain ⟨c, e1, e2⟩ := h3 pos cv hc
  exact ⟨c, e1, by rw [upd_ne (ne_of e2 h fun z => nomatch z)]; exact e2⟩
section
variable {K : PySem.W.Frag} {w : World} {CS CT CN : Addr} {T : List (Addr × Str)} {p pl x dx y : Addr} {m : Nat} {H : Hp} {ts : List Til}
theorem ins_new {C : Addr} (nx : H x = none) (ndx : H dx = none) : Same H (upd (upd H dx (.own x)) x (.ins C dx [])) := fun b o e => by
  rw [upd_ne (ne_of_none e nx), upd_ne (ne_of_none e ndx)]
  exact e
theorem butN_kp {H0 H1 H2 : Hp} {a : Addr} (s : Same H0 H1) (na : H0 a = none) (b : ButN a H1 H2) : Kp H0 H2 := fun c o e t _ => b _ _ (s _ _ e) t (ne_of_none e na)
theorem butN_pen {H0 H1 H2 : Hp} {a : Addr} (s : Same H0 H1) (na : H0 a = none) (b : ButN a H1 H2) (PA : PenAt H0 p pl m) : PenAt H2 p pl m := by
  obtain ⟨kvs, hp⟩ := PA.is
  obtain ⟨xs, hl⟩ := PA.lis
  exact PenAt.butN (PA.keep s) b (ne_of_none hp na) (ne_of_none hl na)
/-- a set of tiles with unlike names is made -/
theorem set_made {E : XK} {R : Hp → Prop} (PA : PenAt H p pl m) (tabs : Tabs T H) (hts : ∀ t ∈ ts, TilL K CT H t) (nu : (ts.map (·.k)).Nodup) (few : ts.length ≤ 900) (hx : SqL K H y (ts.map fun t => V.ref t.a) ∨ SqT K H y (ts.map fun t => V.ref t.a)) (nx : H x = none) (ndx : H dx = none)
    (h : ∀ H0 H2, Same H H0 → Kp H H2 → PenAt H2 p pl m → Tabs T H2 → SetO K w CS H0 H2 x ts → R H2) :
    K3.spSet K w CS CT CN T [.ref x, .ref y] (upd (upd H dx (.own x)) x (.ins CS dx [])) (fun v H2 => v = .non ∧ R H2) E := by
  have s := ins_new (C := CS) nx ndx
  refine ⟨x, dx, y, ts, rfl, upd_same, hx.imp (Kp.same s).sql (Kp.same s).sqt, few, fun t ht => ((hts t ht).kp (.same s)).ok, tabs.ext s, fun _ H2 b tabs2 S => ⟨rfl, h _ H2 s (butN_kp s nx b) (butN_pen s nx b PA) tabs2 S⟩, fun j t hj _ hm => ?_⟩
  exfalso
  have e : ts = ts.take j ++ t :: ts.drop (j + 1) := by
    have h1 := List.drop_eq_getElem_cons (l := ts) (i := j) (List.getElem?_eq_some_iff.mp hj).1
    rw [(List.getElem?_eq_some_iff.mp hj).2] at h1
    rw [← h1, List.take_append_drop]
  rw [e, List.map_append, List.nodup_append] at nu
  exact nu.2.2 t.k hm t.k (by simp) rfl
theorem count_le {k : NestedKey} : ∀ {l : List NestedKey}, l.Nodup → l.countP (fun x => decide (x = k)) ≤ 1
  | [], _ => by simp
  | a :: l, nd => by
    have nd2 : a ∉ l ∧ l.Nodup := List.nodup_cons.mp nd
    rw [List.countP_cons]
    by_cases h : a = k
    · subst h
      have : l.countP (fun x => decide (x = a)) = 0 := by
        rw [List.countP_eq_zero]
        intro b hb z
        have := of_decide_eq_true z
        subst this
        exact nd2.1 hb
      rw [this]
      simp
    · have := count_le (k := k) nd2.2
      simp [h]
      exact this
/-- one with a name that stands twice -/
theorem set_taken {E : XK} {Q : VK} {l1 l2 : List Til} {t0 : Til} (PA : PenAt H p pl m) (tabs : Tabs T H) (hts : ∀ t ∈ l1 ++ t0 :: l2, TilL K CT H t) (nu : ((l1 ++ l2).map (·.k)).Nodup) (there : t0.k ∈ (l1 ++ l2).map (·.k)) (few : (l1 ++ t0 :: l2).length ≤ 900)
    (hx : SqL K H y ((l1 ++ t0 :: l2).map fun t => V.ref t.a)) (nx : H x = none) (ndx : H dx = none)
    (h : ∀ t dd H2, t ∈ l1 ++ t0 :: l2 → t.k = t0.k → Kp H H2 → PenAt H2 p pl m → Tabs T H2 → H2 dd = some (.xd [("name", t.n)]) → E (.ref CN) (some dd) H2) :
    K3.spSet K w CS CT CN T [.ref x, .ref y] (upd (upd H dx (.own x)) x (.ins CS dx [])) Q E := by
  have s := ins_new (C := CS) nx ndx
  have cnt : ∀ k, ((l1 ++ t0 :: l2).map (·.k)).countP (fun x => decide (x = k)) = ((l1 ++ l2).map (·.k)).countP (fun x => decide (x = k)) + if t0.k = k then 1 else 0 := fun k => by
    simp only [List.map_append, List.map_cons, List.countP_append, List.countP_cons, decide_eq_true_eq]
    omega
  have pos : ∀ {l : List NestedKey} {k : NestedKey}, k ∈ l → 0 < l.countP (fun x => decide (x = k)) := fun {l k} hk => List.countP_pos_iff.mpr ⟨k, hk, decide_eq_true rfl⟩
  refine ⟨x, dx, y, l1 ++ t0 :: l2, rfl, upd_same, .inl ((Kp.same s).sql hx), few, fun t ht => ((hts t ht).kp (.same s)).ok, tabs.ext s, fun nd H2 _ _ _ => ?_, fun j t hj _ hm dd H2 b e => ?_⟩
  · exfalso
    have h1 := count_le (k := t0.k) nd
    rw [cnt, if_pos rfl] at h1
    have h2 := pos there
    omega
  · have e1 : l1 ++ t0 :: l2 = (l1 ++ t0 :: l2).take j ++ t :: (l1 ++ t0 :: l2).drop (j + 1) := by
      have h1 := List.drop_eq_getElem_cons (l := l1 ++ t0 :: l2) (i := j) (List.getElem?_eq_some_iff.mp hj).1
      rw [(List.getElem?_eq_some_iff.mp hj).2] at h1
      rw [← h1, List.take_append_drop]
    have hk : t.k = t0.k := by
      by_cases h : t0.k = t.k
      · exact h.symm
      · exfalso
        have c1 := cnt t.k
        rw [if_neg h] at c1
        have c2 := count_le (k := t.k) nu
        have c3 : ((l1 ++ t0 :: l2).map (·.k)).countP (fun x => decide (x = t.k)) = (((l1 ++ t0 :: l2).take j).map (·.k)).countP (fun x => decide (x = t.k)) + ((((l1 ++ t0 :: l2).drop (j + 1)).map (·.k)).countP (fun x => decide (x = t.k)) + 1) := by
          conv => lhs; rw [e1]
          simp only [List.map_append, List.map_cons, List.countP_append, List.countP_cons, decide_true, if_true]
        have c4 := pos hm
        omega
    have bN := ButN.of b
    refine h t dd H2 (List.mem_of_getElem? hj) hk (butN_kp s nx bN) (butN_pen s nx bN PA) (Tabs.but (tabs.ext s) upd_same b) e
end
end Tr

set_option Elab.async false
set_option linter.all false
set_option maxRecDepth 100000
set_option maxHeartbeats 16000000
namespace K3
open PySem PySem.Spec PyProof.Rows L2 Pen Tr AK LamX
section
variable {P : Program} {w : World} {K : PySem.W.Frag} {mg : Str → Option PySem.Value} {base : Heap} {f fPn fD fP fA fT fI fX fS fB fR fV fE CS CT CB CN CM CP aN : Addr} {fd fdPn fdD fdP fdA fdT fdX fdS fdB fdR fdV fdE fdI : FuncData} {T : List (Addr × Str)}
/-- the law -/
def spLaw (K : PySem.W.Frag) (T : List (Addr × Str)) : Sp := fun vs H Q _ => ∃ (a : Addr) (ns : List Int), vs = [.ref a] ∧ SqL K H a (ns.map V.int) ∧ ns.length ≤ 63 ∧ Tabs T H ∧ ∀ H', Q (.bl true) H'
abbrev nLaw : List Str := ["_law_script", "_law_pen_here", "_law_lap", "_law_kinds", "_law_tiles", "_law_many", "_law_k", "_law_name", "_law_tile", "_law_kind", "_law_passed", "_law_made", "_law_at", "_law_place", "_law_told", "e", "_law_far", "_law_odd", "_law_side"]
theorem scLaw : FnScope nLaw ["_law_script"] (defScope (top 38)) := ⟨rfl, rfl, rfl, by decide +kernel, rfl, by decide +kernel, by decide +kernel⟩
theorem ok_law (F : FnT K "law" 38 f fd) (TX : Txt mg) (SF : SetF K CS) (TF : TileF K CT) (FPn : FnP K "_law_pen" sPen fPn fdPn) (gPn : mg "_law_pen" = some (.ref fPn)) (FP : FnP K "_law_pick" sPick fP fdP) (gP : mg "_law_pick" = some (.ref fP)) (FD : FnP K "_law_draw" sDraw fD fdD) (gD : mg "_law_draw" = some (.ref fD))
    (FA : FnT K "_law_t2_any_glue" 31 fA fdA) (gA : mg "_law_t2_any_glue" = some (.ref fA)) (GA : FnOk P w K mg base CX0 4 fA fdA ["_law_pen_here"] (spAny K))
    (FT : FnT K "_law_t2_datum" 30 fT fdT) (gT : mg "_law_t2_datum" = some (.ref fT)) (GT : FnOk P w K mg base CX0 3 fT fdT ["_law_pen_here", "_law_serial"] (spDatum K))
    (FI : FnM K "__init__" "Tile.__init__" (cTile 0) fI fdI) (MI : Mk K CT fI) (gI : mg "Tile" = some (.ref CT)) (GI : FnOk P w K mg base (L2.CX P w) 3 fI fdI ["self", "name", "west", "south", "east", "north"] (spTile K CT CB))
    (FX : FnM K "__init__" "TileSet.__init__" (cSet 0) fX fdX) (MX : Mk K CS fX) (gX : mg "TileSet" = some (.ref CS)) (GX : GFn P w K mg base (L2.CX P w) 7 fX fdX ["self", "tiles"] (spSet K w CS CT CN T))
    (FB : FnT K "_law_t2_bad_tile" 32 fB fdB) (gB : mg "_law_t2_bad_tile" = some (.ref fB)) (GB : GFn P w K mg base CX0 6 fB fdB ["_law_pen_here", "_law_name"] (spBad K))
    (FR : FnT K "_law_t2_side_right" 33 fR fdR) (gR : mg "_law_t2_side_right" = some (.ref fR)) (GR : FnOk P w K mg base CX0 5 fR fdR ["_law_tile", "_law_kind", "_law_side"] (spSR K CT))
    (FV : FnT K "_law_t2_set_right" 36 fV fdV) (gV : mg "_law_t2_set_right" = some (.ref fV)) (GV : GFn P w K mg base CX0 7 fV fdV ["_law_pen_here", "_law_made", "_law_tiles", "_law_kinds"] (spRt K w CS CT T))
    (FE : FnT K "_law_t2_beside_right" 37 fE fdE) (gE : mg "_law_t2_beside_right" = some (.ref fE)) (GE : FnOk P w K mg base CX0 5 fE fdE ["_law_place"] (spBR K))
    (XN : Ct K mg "TakenName" CN ["name"]) (gN : mg "NONE" = some (.ref aN)) (hN : ∀ H, Dp K H (.ref aN) dNone) :
    GFn P w K mg base CX0 9 f fd ["_law_script"] (spLaw K T) := by
  refine GFn.of F scLaw (fun vs H Q E h => by obtain ⟨a, ns, rfl, _⟩ := h; rfl) (fun c A outer s0 H vs Q E hc hr free h => ?_)
  obtain ⟨sa, ns, rfl, hS, hlen, tabs, q⟩ := h
  have nd := scLaw.nd
  have hu := hr.units
  have hu0 := hr.units0
  suffices z : ∃ t, PSs (cxOf CX0 P w K mg base nLaw "law" (defScope (top 38)) f (.ref c) A outer s0 H E).nox (defBody (top 38)) t ∧ t { nx := fun _ H' => Q .non H', rt := Q } (start nLaw [.ref sa]) H by
    obtain ⟨t, h1, h2⟩ := z
    exact ⟨t, h1.nox, h2⟩
  have GPn : FnOk P w K mg base CX0 1 fPn fdPn ["_law_script"] (spPen K) := ok_pen FPn TX
  have GP := ok_pick (P := P) (w := w) (mg := mg) (base := base) FP TX FD gD
  have GD := ok_draw (P := P) (w := w) (mg := mg) (base := base) FD TX
  have bPn : L2.Binds K fdPn ["_law_script"] [] := FunD.bindsN FPn fun _ _ _ _ _ _ us hl => match us, hl with | [_], _ => rfl
  have bP : L2.Binds K fdP ["_law_pen_here", "_law_some"] [] := FunD.bindsN FP fun _ _ _ _ _ _ us hl => match us, hl with | [_, _], _ => rfl
  have bD : L2.Binds K fdD ["_law_pen_here", "_law_many"] [] := FunD.bindsN FD fun _ _ _ _ _ _ us hl => match us, hl with | [_, _], _ => rfl
  have bA : L2.Binds K fdA ["_law_pen_here"] [] := FunD.bindsN FA fun _ _ _ _ _ _ us hl => match us, hl with | [_], _ => rfl
  have bT : L2.Binds K fdT ["_law_pen_here", "_law_serial"] [] := FunD.bindsN FT fun _ _ _ _ _ _ us hl => match us, hl with | [_, _], _ => rfl
  have bI : L2.Binds K fdI ["self", "name", "west", "south", "east", "north"] [] := FunD.bindsN FI fun _ _ _ _ _ _ us hl => match us, hl with | [_, _, _, _, _, _], _ => rfl
  have bX : L2.Binds K fdX ["self", "tiles"] [] := FunD.bindsN FX fun _ _ _ _ _ _ us hl => match us, hl with | [_, _], _ => rfl
  have bB : L2.Binds K fdB ["_law_pen_here", "_law_name"] [] := FunD.bindsN FB fun _ _ _ _ _ _ us hl => match us, hl with | [_, _], _ => rfl
  have bR : L2.Binds K fdR ["_law_tile", "_law_kind", "_law_side"] [] := FunD.bindsN FR fun _ _ _ _ _ _ us hl => match us, hl with | [_, _, _], _ => rfl
  have bV : L2.Binds K fdV ["_law_pen_here", "_law_made", "_law_tiles", "_law_kinds"] [] := FunD.bindsN FV fun _ _ _ _ _ _ us hl => match us, hl with | [_, _, _, _], _ => rfl
  have bE : L2.Binds K fdE ["_law_place"] [] := FunD.bindsN FE fun _ _ _ _ _ _ us hl => match us, hl with | [_], _ => rfl
  have no1 := XN.no "name" (by simp)
  refine ⟨_, pss_cons (ps_asg (pe_call GPn (hr.mono (by decide)) (by rfl) gPn FPn.kp bPn .nil pass0 (pa_cons (pv 0) pa_nil)) (pg_name (i := 1) nd rfl (.inr rfl)))
    (pss_cons (ps_if (pt_cmpR (op_neD hu) (pe_glob (by rfl) gN (v := .ref aN) rfl) (pe_tup (pa_cons pe_non (pa_cons pe_int pa_nil))) (nomark _)) (pss_one (ps_ret pe_bl)) pss_nil)
    (pss_cons (ps_for PassesOwn.never rfl (pi_range1 (by rfl) TX.range (pa_cons (pe_op op_add pe_int (pe_op op_fdiv (pe_callB call_len_seq (by rfl) TX.len PySem.boot_len (pa_cons (pv 0) pa_nil)) pe_int)) pa_nil)) (pg_name (i := 2) nd rfl (.inl rfl))
      -- kinds, tiles, many
      (pss_cons (ps_par3 (i := 3) (j := 4) (l := 5) (by rfl) nd rfl rfl rfl (by decide) (by decide) (by decide) (by rfl) (by rfl) (by rfl) (pa_cons pe_dnewA (pa_cons (pe_lst pa_nil)
          (pa_cons (pe_call GP (hr.mono (by decide)) (by rfl) gP FP.kp bP .nil pass0 (pa_cons (pv 1) (pa_cons (pe_lst (pa_cons pe_int (pa_cons pe_int (pa_cons pe_int (pa_cons pe_int (pa_cons pe_int (pa_cons pe_int pa_nil))))))) pa_nil))) pa_nil))) (by rfl))
      -- for k in range(many)
      (C8.pss_cut (ps_for PassesOwn.never rfl (pi_range1 (by rfl) TX.range (pa_cons (pv 5) pa_nil)) (pg_name (i := 6) nd rfl (.inl rfl))
          (pss_cons (ps_asg (pe_call GT (hr.mono (by decide)) (by rfl) gT FT.kp bT .nil pass0 (pa_cons (pv 1) (pa_cons (pe_op op_add (pv 6) (pe_call GP (hr.mono (by decide)) (by rfl) gP FP.kp bP .nil pass0 (pa_cons (pv 1) (pa_cons (pe_lst (pa_cons pe_int (pa_cons pe_int pa_nil))) pa_nil)))) pa_nil))) (pg_name (i := 7) nd rfl (.inl rfl)))
          (pss_one (ps_if (pt_cmpR (op_notInA hu) (pv 7) (pv 3) (by rfl))
            (pss_cons (ps_asg (pe_lc (own := [("_law_side", 18)]) (g := gName 18) (tt := tYes) (te := tCall (spAny K) [] E0 (tCons (tVar 1) tNil)) (by rfl) nd (pi_range1 (by rfl) TX.range (pa_cons pe_int pa_nil)) (blkOk_by (own := [("_law_side", 18)]) (N := nLaw) (sc := defScope (top 38)) (by decide +kernel))
                (fun _ _ _ _ _ => pg_name (i := 18) nd rfl (Or.inl rfl)) (fun _ _ _ _ _ => pts_nil) (fun _ _ _ _ _ => pe_call GA (hr.mono (by decide)) (by rfl) gA FA.kp bA .nil pass0 (pa_cons (pv 1) pa_nil))) (pg_sub (pv 3) (pv 7) (set_dictA hu)))
            (pss_one (ps_expr (pe_bm PySem.F.plainAttrs_list PySem.F.slot_list_append PySem.F.type_list_append mt_append (pv 4) (pa_cons (pe_make MI GI (hr.mono (by decide)) (by rfl) gI bI .nil passE
                (pa_cons (pv 7) (pa_cons (pe_ix ix_list (pe_ix (ix_dictA hu) (pv 3) (pv 7) (fun _ _ => rfl)) pe_int (fun _ _ => rfl)) (pa_cons (pe_ix ix_list (pe_ix (ix_dictA hu) (pv 3) (pv 7) (fun _ _ => rfl)) pe_int (fun _ _ => rfl))
                  (pa_cons (pe_ix ix_list (pe_ix (ix_dictA hu) (pv 3) (pv 7) (fun _ _ => rfl)) pe_int (fun _ _ => rfl)) (pa_cons (pe_ix ix_list (pe_ix (ix_dictA hu) (pv 3) (pv 7) (fun _ _ => rfl)) pe_int (fun _ _ => rfl)) pa_nil)))))) pa_nil))))) pss_nil))))
      -- for tile in tiles
      (C8.pss_cut (ps_for PassesOwn.never rfl (pi_list (pv 4)) (pg_name (i := 8) nd rfl (.inl rfl))
          (pss_cons (ps_asg (pe_ix (ix_dictA hu) (pv 3) (pe_fld (pv 8) rfl) (fun _ _ => rfl)) (pg_name (i := 9) nd rfl (.inl rfl)))
          (pss_cons (ps_if (PW.pt (pw_or (pt_cmpR (op_neD hu) (pe_lst (pa_cons (pe_fld (pv 8) rfl) (pa_cons (pe_fld (pv 8) rfl) (pa_cons (pe_fld (pv 8) rfl) (pa_cons (pe_fld (pv 8) rfl) pa_nil))))) (pv 9) (nomark _))
              (pw_or1 (pt_not (pt_val (pe_callG GB free (hr.mono (by decide)) (by rfl) gB FB.kp bB pass0 (pa_cons (pv 1) (pa_cons (pe_fld (pv 8) rfl) pa_nil)))))))) (pss_one (ps_ret pe_bl)) pss_nil)
          (pss_one (ps_if (pt_not (pt_val (pe_call GR (hr.mono (by decide)) (by rfl) gR FR.kp bR .nil pass0 (pa_cons (pv 8) (pa_cons (pv 9) (pa_cons (pe_call GP (hr.mono (by decide)) (by rfl) gP FP.kp bP .nil pass0 (pa_cons (pv 1)
              (pa_cons (pe_lst (pa_cons pe_int (pa_cons pe_int (pa_cons pe_int (pa_cons pe_int (pa_cons pe_int (pa_cons pe_int (pa_cons (pe_un un_neg pe_int) (pa_cons (pe_op op_pow pe_int pe_int) (pa_cons pe_non (pa_cons pe_bl (pa_cons pe_str pa_nil)))))))))))) pa_nil))) pa_nil)))))) (pss_one (ps_ret pe_bl)) pss_nil)))))
      -- the set
      (pss_cons (ps_asg (pe_callTy call_list_of (by rfl) TX.list (by decide +kernel) (pa_cons (pv 4) pa_nil)) (pg_name (i := 10) nd rfl (.inl rfl)))
      (C8.pss_cut (ps_asg (pe_makeG MX GX free hr (by rfl) gX bX passE (pa_cons (pe_ifExp (pt_cmp (pc_eqI (pe_call GD (hr.mono (by decide)) (by rfl) gD FD.kp bD .nil pass0 (pa_cons (pv 1) (pa_cons pe_int pa_nil))) pe_int)) (pv 10) (pe_callTy call_tupR (by rfl) TX.tuple (by decide +kernel) (pa_cons (pv 10) pa_nil))) pa_nil)) (pg_name (i := 11) nd rfl (.inl rfl)))
      (pss_cons (ps_expr (pe_bm PySem.F.plainAttrs_list PySem.F.slot_list_append PySem.F.type_list_append mt_append (pv 10) (pa_cons (pe_make MI GI (hr.mono (by decide)) (by rfl) gI bI .nil passE
          (pa_cons pe_str (pa_cons (pe_glob (by rfl) gN (v := .ref aN) rfl) (pa_cons (pe_glob (by rfl) gN (v := .ref aN) rfl) (pa_cons (pe_glob (by rfl) gN (v := .ref aN) rfl) (pa_cons (pe_glob (by rfl) gN (v := .ref aN) rfl) pa_nil)))))) pa_nil)))
      (C8.pss_cut (ps_if (PW.pt (pw_or (pt_not (pt_val (pe_callG GV free (hr.mono (by decide)) (by rfl) gV FV.kp bV pass0 (pa_cons (pv 1) (pa_cons (pv 11) (pa_cons (pv 4) (pa_cons (pv 3) pa_nil))))))) (pw_or1 (pt_not (pt_val (pe_callG GV free (hr.mono (by decide)) (by rfl) gV FV.kp bV pass0 (pa_cons (pv 1) (pa_cons (pv 11) (pa_cons (pv 4) (pa_cons (pv 3) pa_nil)))))))))) (pss_one (ps_ret pe_bl)) pss_nil)
      -- a name twice
      (C8.pss_cut (ps_if (pt_cmpR (op_neE hu0) (pv 4) (pe_lst pa_nil) (nomark _))
          (pss_cons (ps_asg (pe_call GD (hr.mono (by decide)) (by rfl) gD FD.kp bD .nil pass0 (pa_cons (pv 1) (pa_cons (pe_callB call_len_seq (by rfl) TX.len PySem.boot_len (pa_cons (pv 4) pa_nil)) pa_nil))) (pg_name (i := 12) nd rfl (.inl rfl)))
          (pss_cons (ps_asg (pe_call GD (hr.mono (by decide)) (by rfl) gD FD.kp bD .nil pass0 (pa_cons (pv 1) (pa_cons (pe_op op_add (pe_callB call_len_seq (by rfl) TX.len PySem.boot_len (pa_cons (pv 4) pa_nil)) pe_int) pa_nil))) (pg_name (i := 13) nd rfl (.inl rfl)))
          (pss_cons (ps_asg pe_non (pg_name (i := 14) nd rfl (.inl rfl)))
          (pss_cons (ps_try_as (i := 15) (tb := fun W => tDrop (tMakeW CS (spSet K w CS CT CN T) (WE W) (tCons (tOp rCat (tOp rCat (tSl (rSlL K) (tVar 4) tNoPart (tPart (tVar 13))) (tLst (tCons (tMake CT (spTile K CT CB) [] E0 (tCons (tFld K (tOp (rIxL K) (tVar 4) (tVar 12)) "name") (tCons (tC (.ref aN)) (tCons (tC (.ref aN)) (tCons (tTup (tCons (tC (.str "x")) (tCons (tC (.int 2)) tNil))) (tCons (tC (.ref aN)) tNil)))))) tNil)))
                (tSl (rSlL K) (tVar 4) (tPart (tVar 13)) tNoPart)) tNil)))
              (ts := fun a cls d => tAsg (tTup (tCons (tC (.str "taken")) (tCons (tXf a cls d CN "name" (tVar 15)) tNil))) (gName 14)) (Wout := fun _ _ _ _ => False)
              rfl rfl nd rfl rfl ⟨rfl, by decide, .inl XN.mgx⟩ L2.takes0
              (fun W pn xe tk _ => pss_one (ps_expr (pe_makeGW MX GX free hr (by rfl) gX bX (fun σ => passAt tk σ) (pa_cons (pe_op op_cat (pe_op op_cat (pe_slice sl_list (pv 4) po_none (po_some (pv 13))) (pe_lst (pa_cons (pe_make MI GI (hr.mono (by decide)) (by rfl) gI bI .nil passE
                (pa_cons (pe_fld (pe_ix ix_list (pv 4) (pv 12) (fun _ _ => rfl)) rfl) (pa_cons (pe_glob (by rfl) gN (v := .ref aN) rfl) (pa_cons (pe_glob (by rfl) gN (v := .ref aN) rfl) (pa_cons (pe_tup (pa_cons pe_str (pa_cons pe_int pa_nil))) (pa_cons (pe_glob (by rfl) gN (v := .ref aN) rfl) pa_nil)))))) pa_nil))) (pe_slice sl_list (pv 4) (po_some (pv 13)) po_none)) pa_nil))))
              (fun a oe cls d pn hz hf => pss_one (ps_asg (pe_tup (pa_cons pe_str (pa_cons (pe_xf XN.xf no1 hz hf (pv 15)) pa_nil))) (pg_name (i := 14) nd rfl (.inl rfl)))))
          (pss_one (ps_if (pt_cmpR (op_neD hu) (pv 14) (pe_tup (pa_cons pe_str (pa_cons (pe_fld (pe_ix ix_list (pv 4) (pv 12) (fun _ _ => rfl)) rfl) pa_nil))) (nomark _)) (pss_one (ps_ret pe_bl)) pss_nil)))))) pss_nil)
      -- places
      (pss_cons (ps_asg (pe_call GP (hr.mono (by decide)) (by rfl) gP FP.kp bP .nil pass0 (pa_cons (pv 1) (pa_cons (pe_lst (pa_cons pe_int (pa_cons (pe_op op_pow pe_int pe_int) (pa_cons (pe_un un_neg (pe_op op_pow pe_int pe_int)) pa_nil)))) pa_nil))) (pg_name (i := 16) nd rfl (.inl rfl)))
      (pss_cons (ps_asg (pe_tup (pa_cons (pe_op op_mul (pe_call GD (hr.mono (by decide)) (by rfl) gD FD.kp bD .nil pass0 (pa_cons (pv 1) (pa_cons pe_int pa_nil))) (pv 16)) (pa_cons (pe_op op_mul (pe_op op_sub (pe_call GD (hr.mono (by decide)) (by rfl) gD FD.kp bD .nil pass0 (pa_cons (pv 1) (pa_cons pe_int pa_nil))) pe_int) (pv 16)) pa_nil))) (pg_name (i := 13) nd rfl (.inl rfl)))
      (pss_cons (ps_asg (pe_lst (pa_cons pe_non (pa_cons pe_int (pa_cons pe_str (pa_cons (pe_tup (pa_cons pe_int pa_nil)) (pa_cons (pe_tup (pa_cons pe_int (pa_cons pe_int (pa_cons pe_int pa_nil)))) (pa_cons (pe_lst (pa_cons pe_int (pa_cons pe_int pa_nil)))
          (pa_cons (pe_tup (pa_cons pe_int (pa_cons pe_non pa_nil))) (pa_cons (pe_tup (pa_cons pe_bl (pa_cons pe_int pa_nil))) (pa_cons (pe_tup (pa_cons pe_int (pa_cons pe_bl pa_nil))) (pa_cons (pe_tup (pa_cons (pe_tup (pa_cons pe_int (pa_cons pe_int pa_nil))) (pa_cons pe_int pa_nil))) (pa_cons (pe_tup pa_nil) pa_nil)))))))))))) (pg_name (i := 17) nd rfl (.inl rfl)))
      (pss_one (ps_if (PW.pt (pw_or (pt_not (pt_val (pe_call GE (hr.mono (by decide)) (by rfl) gE FE.kp bE .nil pass0 (pa_cons (pv 13) pa_nil)))) (pw_or1 (pt_not (pt_val (pe_call GE (hr.mono (by decide)) (by rfl) gE FE.kp bE .nil pass0 (pa_cons (pe_call GP (hr.mono (by decide)) (by rfl) gP FP.kp bP .nil pass0 (pa_cons (pv 1) (pa_cons (pv 17) pa_nil))) pa_nil))))))) (pss_one (ps_ret pe_bl)) pss_nil))))))))))))))
    (pss_one (ps_ret pe_bl)))), ?_⟩
  refine ⟨_, rfl, sa, ns, rfl, hS, hlen, fun p pl H1 PA1 s1 hp0 => ?_⟩
  have shN : SeqAt.shaped dNone = true := shaped_tuple fun e he => by
    simp only [List.mem_cons, List.not_mem_nil, or_false] at he
    rcases he with rfl | rfl
    · exact ⟨rfl, Nat.zero_le _⟩
    · exact ⟨rfl, Nat.zero_le _⟩
  refine ⟨(by show 2 ≤ sizeLine; decide), fun t nt => ?_⟩
  have u1 := same_upd (o := .tup [.non, .int 0]) nt
  refine ⟨dNone, dNone, hN _, .tup (SqT.of upd_same) (.cons .non (.cons (.int _) .nil)), shN, shN, _, rfl, ?_⟩
  rw [SeqAt.eqv_refl _ (SeqAt.canLay_of_shaped shN)]
  refine iteF ?_
  have s01 := same_trans s1 u1
  obtain ⟨Ha, ea⟩ : ∃ Ha, Ha = upd H1 t (.tup [.non, .int 0]) := ⟨_, rfl⟩
  rw [← ea] at s01 u1 ⊢
  have GA0 : Go T p pl Ha Ha 0 := ⟨.rfl', PA1.keep u1, tabs.ext s01⟩
  have hSa := (Kp.same s01).sql hS
  clear ea u1 nt s1 hS s01 PA1 tabs
  refine ⟨_, rfl, sa, _, rfl, .inl hSa, _, _, rfl, rfl, ⟨by decide, by decide⟩, _, _, rfl, rfl, ?_⟩
  refine ⟨((2 + ns.length / 20 : Nat) : Int), (by rw [List.length_map]; rfl), by omega, by omega, ?_⟩
  refine for_it (walk_range (lo := 0) (n := 2 + ns.length / 20)) (fun i σ H' => (∃ o2 o3 o4 o5 o6 o7 o8 o9 o10 o11 o12 o13 o14 o15 o16 o17, σ = [some (.ref sa), some (.ref p), o2, o3, o4, o5, o6, o7, o8, o9, o10, o11, o12, o13, o14, o15, o16, o17, none]) ∧ Go T p pl Ha H' (3000 * i)) ⟨⟨_, _, _, _, _, _, _, _, _, _, _, _, _, _, _, _, rfl⟩, GA0⟩ (fun _ _ _ _ _ => trivial) ?_ ?_
  case refine_2 =>
    rintro σ H' ⟨_, G⟩
    exact q _
  rintro lap x σ H3 H2 hlap ⟨⟨o2, o3, o4, o5, o6, o7, o8, o9, o10, o11, o12, o13, o14, o15, o16, o17, rfl⟩, G2⟩ ⟨rfl, rfl⟩
  have lap5 : lap < 5 := by omega
  -- kinds, tiles, many
  intro dk ndk
  have u1 := same_upd (o := DkO w dk []) ndk
  refine ⟨(by show 0 ≤ sizeLine; decide), fun lt nlt => ?_⟩
  have u2 := same_upd (o := .lst []) nlt
  have dlt : dk ≠ lt := by
    rintro rfl
    rw [upd_same] at nlt
    cases nlt
  refine ⟨_, rfl, (by show 6 ≤ sizeLine; decide), fun l nl => ?_⟩
  have u3 := same_upd (o := .lst [.int 0, .int 1, .int 2, .int 3, .int 5, .int 12]) nl
  have u13 := same_trans u1 (same_trans u2 u3)
  have G3 := G2.same u13
  have plt : lt ≠ pl := by
    obtain ⟨xs, hx⟩ := G2.pen.lis
    exact Ne.symm (ne_of_none (u1 _ _ hx) nlt)
  have lp : l ≠ p := by
    obtain ⟨kvs, hp⟩ := G2.pen.is
    exact Ne.symm (ne_of_none (u2 _ _ (u1 _ _ hp)) nl)
  refine ⟨p, pl, l, 3000 * lap, _, rfl, G3.pen, by omega, SqL.of upd_same, (fun z => nomatch z), (by show 6 < 1073741824; decide), lp, fun i4 v4 H4 hv4 PA4 but4 => ?_⟩
  have B4 : Bd K w CT H4 dk lt [] := by
    have d0 : DA K w (upd H2 dk (DkO w dk [])) dk [] := da_new
    have k : Kp (upd H2 dk (DkO w dk [])) H4 := (Kp.same (same_trans u2 u3)).trans (Kp.pen G3.pen but4)
    have k2 : Kp (upd (upd H2 dk (DkO w dk [])) lt (.lst [])) H4 := (Kp.same u3).trans (Kp.pen G3.pen but4)
    exact Bd.start (k.dko upd_same) (k.da d0) (k2.lst upd_same)
  have G4 := G3.draw PA4 but4
  obtain ⟨many, rfl, hmany⟩ : ∃ m : Nat, v4 = .int m ∧ m ≤ 12 := by
    match i4, hv4 with
    | 0, hv => cases hv; exact ⟨0, rfl, by decide⟩
    | 1, hv => cases hv; exact ⟨1, rfl, by decide⟩
    | 2, hv => cases hv; exact ⟨2, rfl, by decide⟩
    | 3, hv => cases hv; exact ⟨3, rfl, by decide⟩
    | 4, hv => cases hv; exact ⟨5, rfl, by decide⟩
    | 5, hv => cases hv; exact ⟨12, rfl, by decide⟩
  have but24 : But p H2 H4 := but_of_same u13 but4
  refine ⟨_, _, _, rfl, ?_⟩
  have Tb := G2.tabs
  have Pn2 := G2.pen
  clear hv4 PA4 but4 G3 u13 u3 u2 u1 nl lp
  -- the tiles are made
  refine ⟨fun σ H' => (∃ o6 o7 o8 o9 o10 o11 o12 o13 o14 o15 o16 o17, σ = [some (.ref sa), some (.ref p), some (.int (0 + (lap : Int))), some (.ref dk), some (.ref lt), some (.int many), o6, o7, o8, o9, o10, o11, o12, o13, o14, o15, o16, o17, none]) ∧ ∃ ks, Bd K w CT H' dk lt ks ∧ ks.length ≤ 12 ∧ Go T p pl Ha H' (3000 * lap + 1000), ?_, ?_⟩
  · refine ⟨_, rfl, many, rfl, by omega, by omega, ?_⟩
    refine for_it (walk_range (lo := 0) (n := many)) (fun i σ H' => (∃ o6 o7 o8 o9 o10 o11 o12 o13 o14 o15 o16 o17, σ = [some (.ref sa), some (.ref p), some (.int (0 + (lap : Int))), some (.ref dk), some (.ref lt), some (.int many), o6, o7, o8, o9, o10, o11, o12, o13, o14, o15, o16, o17, none]) ∧ ∃ ks, Bd K w CT H' dk lt ks ∧ ks.length ≤ i ∧ But p H2 H' ∧ PenAt H' p pl (3000 * lap + 1 + 80 * i))
      ⟨⟨_, _, _, _, _, _, _, _, _, _, _, _, rfl⟩, [], B4, Nat.le_refl _, but24, G4.pen⟩ (fun _ _ _ _ _ => trivial) ?_ ?_
    case refine_2 =>
      rintro σ H' ⟨hσ, ks, B, hk, b, PA⟩
      exact ⟨hσ, ks, B, by omega, G2.kp.trans (.pen Pn2 b), PA.mono (by omega), Tabs.pen Tb Pn2 b⟩
    rintro k x σ H6 H5 hk ⟨⟨o6, o7, o8, o9, o10, o11, o12, o13, o14, o15, o16, o17, rfl⟩, ks, B5, hks, but5, PA5⟩ ⟨rfl, rfl⟩
    refine ⟨_, rfl, _, rfl, _, rfl, (by show 2 ≤ sizeLine; decide), fun l nl => ?_⟩
    have u1 := same_upd (o := .lst [.int 0, .int 95]) nl
    have lp : l ≠ p := by
      obtain ⟨kvs, hp⟩ := PA5.is
      exact Ne.symm (ne_of_none hp nl)
    refine ⟨p, pl, l, 3000 * lap + 1 + 80 * k, _, rfl, PA5.keep u1, by omega, SqL.of upd_same, (fun z => nomatch z), (by show 2 < 1073741824; decide), lp, fun i6 v6 H6 hv6 PA6 but6 => ?_⟩
    have but56 : But p H5 H6 := but_of_same u1 but6
    obtain ⟨z, rfl, hz⟩ : ∃ m : Nat, v6 = .int m ∧ m ≤ 95 := by
      match i6, hv6 with
      | 0, hv => cases hv; exact ⟨0, rfl, by decide⟩
      | 1, hv => cases hv; exact ⟨95, rfl, by decide⟩
    refine ⟨_, _, rfl, rfl, ?_⟩
    refine ⟨p, pl, 3000 * lap + 2 + 80 * k, k + z, ?_, PA6.mono (by omega), by omega, by omega, fun v d H7 D dp PA7 but7 => ?_⟩
    · exact congrArg (fun j : Int => [V.ref p, V.int j]) (show (0 + (k : Int)) + (z : Int) = ((k + z : Nat) : Int) by omega)
    have but57 : But p H5 H7 := But.trans but56 but7
    have B7 := B5.kp (Kp.pen PA5 but57)
    have PA7 := PA7.mono (show _ ≤ 3000 * lap + 1 + 80 * k + 20 by omega)
    obtain ⟨kn, hkn, kd⟩ := D.key
    have nk7 : NK K H7 kn v := ⟨d, dp, hkn⟩
    refine ⟨_, rfl, _, rfl, dk, _, kn, rfl, B7.da, nk7, Nat.le_trans kd (by decide), _, rfl, ?_⟩
    cases hat : atK (ks.map kE) kn with
    | some y => exact iteF ⟨⟨_, _, _, _, _, _, _, _, _, _, _, _, rfl⟩, ks, B7, by omega, But.trans but5 but57, PA7.mono (by omega)⟩
    | none =>
      refine iteT ?_
      -- its glues
      refine ⟨4, rfl, (by decide), (by decide), fun D4 nD => ?_⟩
      obtain ⟨kvs, hp⟩ := PA7.is
      obtain ⟨cl, hpl⟩ := PA7.lis
      have Dp1 : D4 ≠ p := Ne.symm (ne_of_none hp nD)
      have Dp2 : D4 ≠ pl := Ne.symm (ne_of_none hpl nD)
      refine lc_range (fun i H' => ∃ gs ds, H' D4 = some (.lst gs) ∧ gs.length = i ∧ DpAll K H' gs ds ∧ (∀ d ∈ ds, GluOk d) ∧ PenAt H' p pl (3000 * lap + 1 + 80 * k + 20 + 15 * i) ∧ But p H7 H') ?_ ?_ ?_
      · exact ⟨[], [], upd_same, rfl, .nil, (fun _ h => nomatch h), PA7.keep (same_upd nD), But.same (same_upd nD)⟩
      · rintro i H1 hi ⟨gs, ds, l1, gl, gd, gk, PA1, but1⟩
        have hi : i < 4 := hi
        refine ⟨rfl, yes_if ⟨_, rfl, p, pl, _, rfl, PA1, by omega, fun g d H2 G dp PA2 but2 => ?_⟩⟩
        have tu := pen_tups PA1 but2
        have gd2 := dpall_tups tu (fun d hd => (gk d hd).key.imp fun _ z => z.1) gd
        have l2 := but2 _ _ l1 Dp1
        refine ⟨gs, l2, (by rw [sizeLine_eq]; omega), gs ++ [g], ds ++ [d], upd_same, (by simp [gl]), ?_, ?_, ?_, ?_⟩
        · have t2 : Tups H2 (upd H2 D4 (.lst (gs ++ [g]))) := Tups.upd (lst_ntup l2)
          refine dpall_tups t2 (fun e he => ?_) (dpall_app gd2 dp)
          rcases List.mem_append.mp he with h | h
          · exact (gk e h).key.imp fun _ z => z.1
          · obtain rfl : e = d := by simpa using h
            exact G.key.imp fun _ z => z.1
        · intro e he
          rcases List.mem_append.mp he with h | h
          · exact gk e h
          · obtain rfl : e = d := by simpa using h
            exact G
        · exact (PA2.mono (by omega)).other Dp1 Dp2
        · exact fun b o e n => by
            rw [upd_ne (ne_of_none e nD)]
            exact but2 _ _ (but1 _ _ e n) n
      rintro H8 ⟨gs, ds, l8, gl, gd, gk, PA8, but8⟩
      have gl : gs.length = 4 := gl
      have PA8 : PenAt H8 p pl (3000 * lap + 1 + 80 * k + 80) := PA8.mono (by omega)
      have dl := (dps_len gd).symm.trans gl
      obtain ⟨g0, g1, g2, g3, rfl⟩ : ∃ g0 g1 g2 g3, gs = [g0, g1, g2, g3] := by
        match gs, gl with
        | [a, b, c, d], _ => exact ⟨a, b, c, d, rfl⟩
      obtain ⟨e0, e1, e2, e3, rfl⟩ : ∃ g0 g1 g2 g3, ds = [g0, g1, g2, g3] := by
        match ds, dl with
        | [a, b, c, d], _ => exact ⟨a, b, c, d, rfl⟩
      have K78 := Kp.pen PA7 but8
      have B8 := B7.kp K78
      have nk8 : NK K H8 kn v := nk7.tups K78.tups
      have dp8 := dp_tups K78.tups _ _ _ hkn dp
      have but28 : But p H2 H8 := But.trans but5 (But.trans but57 but8)
      have Dlt : D4 ≠ lt := Ne.symm (ne_of_none B7.lto nD)
      have Ddk : D4 ≠ dk := Ne.symm (ne_of_none B7.dko nD)
      have kd8 : kn.depth ≤ 8 := Nat.le_trans kd (by decide)
      clear nD hp hpl PA7 but7 PA6 but6 hv6 u1 nl lp PA5 B5 but56 B7 nk7 dp
      refine ⟨_, rfl, _, rfl, dk, _, kn, rfl, B8.dko, B8.da, nk8, kd8, ?_, ?_⟩
      · rw [List.length_map, sizeLine_eq]
        omega
      refine at_new fun H9 e9 => ?_
      have e9 : H9 = upd H8 dk (DkO w dk (putE (ks.map kE) kn v (.ref D4))) := e9
      have tu89 : Tups H8 H9 := by
        rw [e9]
        exact Tups.upd (dk_ntup B8.dko)
      have da9 : DA K w H9 dk (putE (ks.map kE) kn v (.ref D4)) := by
        rw [e9]
        exact daPut B8.da B8.dko nk8 kd8
      have at9 : atK (putE (ks.map kE) kn v (V.ref D4)) kn = some (.ref D4) := by
        rw [atK_put, if_pos rfl]
      have l9 : H9 D4 = some (.lst [g0, g1, g2, g3]) := by
        rw [e9, upd_ne Ddk]
        exact l8
      have lto9 : H9 lt = some (.lst (ks.map fun x => V.ref x.1.a)) := by
        rw [e9, upd_ne (Ne.symm dlt)]
        exact B8.lto
      have nk9 := nk8.tups tu89
      have dkp : dk ≠ p := by
        obtain ⟨kvs, hp⟩ := Pn2.is
        exact Ne.symm (ne_of_none hp ndk)
      have dkpl : dk ≠ pl := by
        obtain ⟨xs, hp⟩ := Pn2.lis
        exact Ne.symm (ne_of_none hp ndk)
      have PA9 : PenAt H9 p pl (3000 * lap + 1 + 80 * k + 80) := by
        rw [e9]
        exact PA8.other dkp dkpl
      refine ⟨_, rfl, .inl ⟨rfl, _, SqL.of lto9⟩, _, rfl, _, rfl, _, rfl, dk, _, kn, .ref D4, rfl, da9, nk9, kd8, at9, D4, _, 0, g0, rfl, rfl, SqL.of l9, rfl, ?_⟩
      refine ⟨_, rfl, _, rfl, dk, _, kn, .ref D4, rfl, da9, nk9, kd8, at9, D4, _, 1, g1, rfl, rfl, SqL.of l9, rfl, ?_⟩
      refine ⟨_, rfl, _, rfl, dk, _, kn, .ref D4, rfl, da9, nk9, kd8, at9, D4, _, 2, g2, rfl, rfl, SqL.of l9, rfl, ?_⟩
      refine ⟨_, rfl, _, rfl, dk, _, kn, .ref D4, rfl, da9, nk9, kd8, at9, D4, _, 3, g3, rfl, rfl, SqL.of l9, rfl, fun x dx nx ndx nxd => ?_⟩
      have s10 : Same H9 (upd (upd H9 dx (.own x)) x (.ins CT dx [])) := fun b o e => by
        rw [upd_ne (ne_of_none e nx), upd_ne (ne_of_none e ndx)]
        exact e
      have tu810 : Tups H8 (upd (upd H9 dx (.own x)) x (.ins CT dx [])) := Tups.trans tu89 fun b xs h => same_rd s10 h
      have G0 := gk e0 (by simp)
      have G1 := gk e1 (by simp)
      have G2' := gk e2 (by simp)
      have G3 := gk e3 (by simp)
      obtain ⟨k0, k01, k02⟩ := G0.key
      obtain ⟨k1, k11, k12⟩ := G1.key
      obtain ⟨k2, k21, k22⟩ := G2'.key
      obtain ⟨k3, k31, k32⟩ := G3.key
      cases gd with
      | cons h0 z => cases z with
        | cons h1 z => cases z with
          | cons h2 z => cases z with
            | cons h3 _ =>
              have ok : okTile d e0 e1 e2 e3 = true := by
                unfold okTile
                rw [D.nn, G0.is, G1.is, G2'.is, G3.is]
                rfl
              refine ⟨x, dx, v, g0, g1, g2, g3, d, e0, e1, e2, e3, rfl, upd_same, dp_tups tu810 _ _ _ hkn dp8, dp_tups tu810 _ _ _ k01 h0, dp_tups tu810 _ _ _ k11 h1, dp_tups tu810 _ _ _ k21 h2, dp_tups tu810 _ _ _ k31 h3, fun _ H11 but11 at11 => ⟨rfl, ?_⟩, fun bad => by rw [ok] at bad; cases bad⟩
              have s911 : Same H9 H11 := fun b o e => but11 _ _ (s10 _ _ e) (ne_of_none e nx)
              have tu811 : Tups H8 H11 := Tups.trans tu89 fun b xs h => same_rd s911 h
              have TL : TilL K CT H11 ⟨x, v, d, kn, g0, g1, g2, g3, k0, k1, k2, k3⟩ := ⟨⟨dx, at11⟩, dp_tups tu811 _ _ _ hkn dp8, D, hkn, fun p hp => by
                simp only [Til.glues, List.mem_cons, List.not_mem_nil, or_false] at hp
                rcases hp with rfl | rfl | rfl | rfl
                · exact ⟨e0, dp_tups tu811 _ _ _ k01 h0, k01, G0⟩
                · exact ⟨e1, dp_tups tu811 _ _ _ k11 h1, k11, G1⟩
                · exact ⟨e2, dp_tups tu811 _ _ _ k21 h2, k21, G2'⟩
                · exact ⟨e3, dp_tups tu811 _ _ _ k31 h3, k31, G3⟩⟩
              have l11 := s911 _ _ lto9
              have few : ks.length < 1000 := by omega
              refine ⟨lt, _, .ref x, rfl, rfl, l11, (by rw [List.length_map, sizeLine_eq]; omega), ?_⟩
              have n2lt : H2 lt = none := by
                rw [← nlt, upd_ne (Ne.symm dlt)]
              refine ⟨⟨_, _, _, _, _, _, _, _, _, _, _, _, rfl⟩, ks ++ [(⟨x, v, d, kn, g0, g1, g2, g3, k0, k1, k2, k3⟩, D4)], Bd.add (t := ⟨x, v, d, kn, g0, g1, g2, g3, k0, k1, k2, k3⟩) B8 hat e9 nk8 l8 Dlt Ddk (.same s911) TL kd8 dlt, ?_, ?_, ?_⟩
              · rw [List.length_append, List.length_singleton]
                omega
              · intro b o e n
                rw [upd_ne (ne_of_none e n2lt)]
                refine s911 _ _ ?_
                rw [e9, upd_ne (ne_of_none e ndk)]
                exact but28 _ _ e n
              · have ltp : lt ≠ p := by
                  obtain ⟨kvs, hp⟩ := Pn2.is
                  exact Ne.symm (ne_of_none hp n2lt)
                exact ((PA9.keep s911).mono (by omega)).other ltp plt
  clear B4 G4 but24 Pn2 Tb plt hmany
  rintro σ H5 ⟨⟨o6, o7, o8, o9, o10, o11, o12, o13, o14, o15, o16, o17, rfl⟩, ks, B5, few, G5⟩
  -- tile by tile
  refine ⟨fun σ H' => (∃ o6 o7 o8 o9 o10 o11 o12 o13 o14 o15 o16 o17, σ = [some (.ref sa), some (.ref p), some (.int (0 + (lap : Int))), some (.ref dk), some (.ref lt), some (.int many), o6, o7, o8, o9, o10, o11, o12, o13, o14, o15, o16, o17, none]) ∧ Bd K w CT H' dk lt ks ∧ Go T p pl Ha H' (3000 * lap + 2100), ?_, ?_⟩
  · refine ⟨_, rfl, lt, rfl, ⟨_, SqL.of B5.lto⟩, ?_⟩
    refine for_it (walk_list (K := K) (a := lt) (xs := ks.map fun x => V.ref x.1.a)) (fun i σ H' => (∃ o6 o7 o8 o9 o10 o11 o12 o13 o14 o15 o16 o17, σ = [some (.ref sa), some (.ref p), some (.int (0 + (lap : Int))), some (.ref dk), some (.ref lt), some (.int many), o6, o7, o8, o9, o10, o11, o12, o13, o14, o15, o16, o17, none]) ∧ Go T p pl H5 H' (3000 * lap + 1000 + 80 * i))
      ⟨⟨_, _, _, _, _, _, _, _, _, _, _, _, rfl⟩, .rfl', G5.pen, G5.tabs⟩ (fun i σ H' _ h => SqL.of (h.2.kp.lst B5.lto)) ?_ ?_
    case refine_2 =>
      rintro σ H' ⟨hσ, G⟩
      rw [List.length_map] at G
      exact ⟨hσ, B5.kp G.kp, G5.kp.trans G.kp, G.pen.mono (by omega), G.tabs⟩
    rintro i x σ H7 H6 hi ⟨⟨o6, o7, o8, o9, o10, o11, o12, o13, o14, o15, o16, o17, rfl⟩, G6⟩ ⟨rfl, hx⟩
    rw [List.length_map] at hi
    obtain ⟨y, hy, rfl⟩ : ∃ y, ks[i]? = some y ∧ V.ref y.1.a = x := by
      rw [List.getElem?_map] at hx
      exact Option.map_eq_some_iff.mp hx
    have my := List.mem_of_getElem? hy
    have B6 := B5.kp G6.kp
    have T6 := B6.ti y my
    obtain ⟨dx, at6⟩ := T6.at_
    obtain ⟨d0, q00, q01, q02⟩ := T6.gl (y.1.gw, y.1.kw) (by simp [Til.glues])
    obtain ⟨d1, q10, q11, q12⟩ := T6.gl (y.1.gs, y.1.ks) (by simp [Til.glues])
    obtain ⟨d2, q20, q21, q22⟩ := T6.gl (y.1.ge, y.1.ke) (by simp [Til.glues])
    obtain ⟨d3, q30, q31, q32⟩ := T6.gl (y.1.go, y.1.ko) (by simp [Til.glues])
    refine ⟨_, rfl, _, rfl, y.1.a, CT, dx, _, y.1.n, rfl, at6, TF.cl, TF.nm, rfl, dk, _, y.1.k, .ref y.2, rfl, B6.da, T6.nk, Nat.le_trans T6.deep (by decide), B6.at_ my, ?_⟩
    refine ⟨_, rfl, y.1.a, CT, dx, _, y.1.gw, rfl, at6, TF.cl, TF.we, rfl, _, rfl, y.1.a, CT, dx, _, y.1.gs, rfl, at6, TF.cl, TF.so, rfl, _, rfl, y.1.a, CT, dx, _, y.1.ge, rfl, at6, TF.cl, TF.ea, rfl, _, rfl, y.1.a, CT, dx, _, y.1.go, rfl, at6, TF.cl, TF.no, rfl, (by show 4 ≤ sizeLine; decide), fun l nl => ?_⟩
    have u1 := same_upd (o := .lst [y.1.gw, y.1.gs, y.1.ge, y.1.go]) nl
    have G7 := G6.same u1
    have dpg : DpAll K (upd H6 l (.lst [y.1.gw, y.1.gs, y.1.ge, y.1.go])) [y.1.gw, y.1.gs, y.1.ge, y.1.go] [d0, d1, d2, d3] := dps_same u1 _ _ (.cons q00 (.cons q10 (.cons q20 (.cons q30 .nil))))
    have sh : SeqAt.shaped (.list [d0, d1, d2, d3]) = true := shaped_list fun e he => by
      simp only [List.mem_cons, List.not_mem_nil, or_false] at he
      rcases he with rfl | rfl | rfl | rfl
      · exact ⟨q02.ly, Nat.le_trans q02.dp (by decide)⟩
      · exact ⟨q12.ly, Nat.le_trans q12.dp (by decide)⟩
      · exact ⟨q22.ly, Nat.le_trans q22.dp (by decide)⟩
      · exact ⟨q32.ly, Nat.le_trans q32.dp (by decide)⟩
    refine ⟨_, rfl, _, _, .lst (SqL.of upd_same) dpg, .lst (SqL.of (u1 _ _ (B6.ls y my))) dpg, sh, sh, _, rfl, ?_⟩
    rw [SeqAt.eqv_refl _ (SeqAt.canLay_of_shaped sh)]
    refine iteF ?_
    refine ⟨_, rfl, _, rfl, y.1.a, CT, dx, _, y.1.n, rfl, u1 _ _ at6, TF.cl, TF.nm, rfl, p, pl, _, y.1.n, y.1.d, y.1.k, rfl, G7.pen, by omega, dp_same u1 _ _ T6.dp, T6.key, T6.dat.ly, Nat.le_trans T6.dat.dp (by decide), fun H8 PA8 but8 => ⟨_, rfl, iteF ?_⟩⟩
    have G8 := G7.draw PA8 but8
    have B8 := B5.kp G8.kp
    have T8 := B8.ti y my
    obtain ⟨dx8, at8⟩ := T8.at_
    refine ⟨_, rfl, _, rfl, _, rfl, _, rfl, 10, 20, rfl, rfl, ⟨by decide, by decide, by decide⟩, (by show 11 ≤ sizeLine; decide), fun l2 nl2 => ?_⟩
    have u2 := same_upd (o := .lst [.int 0, .int 1, .int 2, .int 3, .int 3, .int 4, .int (-1), .int (10 ^ 20), .non, .bl true, .str "0"]) nl2
    have G9 := G8.same u2
    have lp : l2 ≠ p := by
      obtain ⟨kvs, hp⟩ := G8.pen.is
      exact Ne.symm (ne_of_none hp nl2)
    refine ⟨p, pl, l2, _, _, rfl, G9.pen, by omega, SqL.of upd_same, (fun h => nomatch h), (by show 11 < 1073741824; decide), lp, fun i9 v9 H10 hv9 PA10 but10 => ?_⟩
    have G10 := G9.draw PA10 but10
    have B10 := B5.kp G10.kp
    have T10 := B10.ti y my
    obtain ⟨dx10, at10⟩ := T10.at_
    obtain ⟨sd, sdp, sly, sdd⟩ : ∃ sd, (∀ H, Dp K H v9 sd) ∧ sd.canLay0 = true ∧ sd.depth ≤ 60 := by
      match i9, hv9 with
      | 0, hv => cases hv; exact ⟨.int 0, fun _ => .int _, rfl, by decide⟩
      | 1, hv => cases hv; exact ⟨.int 1, fun _ => .int _, rfl, by decide⟩
      | 2, hv => cases hv; exact ⟨.int 2, fun _ => .int _, rfl, by decide⟩
      | 3, hv => cases hv; exact ⟨.int 3, fun _ => .int _, rfl, by decide⟩
      | 4, hv => cases hv; exact ⟨.int 3, fun _ => .int _, rfl, by decide⟩
      | 5, hv => cases hv; exact ⟨.int 4, fun _ => .int _, rfl, by decide⟩
      | 6, hv => cases hv; exact ⟨.int (-1), fun _ => .int _, rfl, by decide⟩
      | 7, hv => cases hv; exact ⟨.int (10 ^ 20), fun _ => .int _, rfl, by decide⟩
      | 8, hv => cases hv; exact ⟨.none, fun _ => .non, rfl, by decide⟩
      | 9, hv => cases hv; exact ⟨.bool true, fun _ => .bl _, rfl, by decide⟩
      | 10, hv => cases hv; exact ⟨.str "0", fun _ => .str _, by decide +kernel, by decide⟩
    refine ⟨y.1.a, dx10, y.1.n, y.1.gw, y.1.gs, y.1.ge, y.1.go, y.2, v9, sd, rfl, at10, SqL.of (B10.ls y my), sdp _, sly, sdd, fun g hg => ?_, fun H11 s11 => ⟨_, rfl, iteF ⟨⟨_, _, _, _, _, _, _, _, _, _, _, _, rfl⟩, (G10.same s11).mono (by omega)⟩⟩⟩
    simp only [List.mem_cons, List.not_mem_nil, or_false] at hg
    have glu : ∀ z ∈ y.1.glues, ∃ gd k, Dp K H10 z.1 gd ∧ keyD gd = some k ∧ gd.canLay0 = true ∧ gd.depth ≤ 60 := fun z hz => by
      obtain ⟨gd, z1, z2, z3⟩ := T10.gl z hz
      exact ⟨gd, z.2, z1, z2, z3.ly, Nat.le_trans z3.dp (by decide)⟩
    rcases hg with rfl | rfl | rfl | rfl
    · exact glu (y.1.gw, y.1.kw) (by simp [Til.glues])
    · exact glu (y.1.gs, y.1.ks) (by simp [Til.glues])
    · exact glu (y.1.ge, y.1.ke) (by simp [Til.glues])
    · exact glu (y.1.go, y.1.ko) (by simp [Til.glues])
  clear B5 G5
  rintro σ H6 ⟨⟨o6, o7, o8, o9, o10, o11, o12, o13, o14, o15, o16, o17, rfl⟩, B6, G6⟩
  -- the set
  refine ⟨_, rfl, lt, _, rfl, .inl (SqL.of B6.lto), fun ps nps => ?_⟩
  have u1 := same_upd (o := .lst (ks.map fun x => V.ref x.1.a)) nps
  have G7 := G6.same u1
  have B7 := B6.kp (.same u1)
  have pslt : ps ≠ lt := Ne.symm (ne_of_none B6.lto nps)
  have psk : ∀ x ∈ ks, x.2 ≠ ps := fun x hx => ne_of_none (B6.ls x hx) nps
  have psp : ps ≠ p := by
    obtain ⟨kvs, hp⟩ := G6.pen.is
    exact Ne.symm (ne_of_none hp nps)
  have pspl : ps ≠ pl := by
    obtain ⟨kvs, hp⟩ := G6.pen.lis
    exact Ne.symm (ne_of_none hp nps)
  have psA : ∀ o, Ha ps = some o → (∀ q, o ≠ .tbl q) → (∀ q, o ≠ .dK q) → False := fun o e t k => by
    have z := G6.kp _ _ e t k
    rw [nps] at z
    cases z
  obtain ⟨H7, e7⟩ : ∃ H7, H7 = upd H6 ps (.lst (ks.map fun x => V.ref x.1.a)) := ⟨_, rfl⟩
  have ps7 : H7 ps = some (.lst (ks.map fun x => V.ref x.1.a)) := by
    rw [e7]
    exact upd_same
  rw [← e7] at G7 B7 ⊢
  clear e7 u1 nps B6 G6
  refine ⟨fun σ H' => ∃ a H0, (∃ o6 o7 o8 o9 o12 o13 o14 o15 o16 o17, σ = [some (.ref sa), some (.ref p), some (.int (0 + (lap : Int))), some (.ref dk), some (.ref lt), some (.int many), o6, o7, o8, o9, some (.ref ps), some (.ref a), o12, o13, o14, o15, o16, o17, none]) ∧
    Bd K w CT H' dk lt ks ∧ Go T p pl Ha H' (3000 * lap + 2101) ∧ SetO K w CS H0 H' a (ks.map (·.1)) ∧ H0 ps = some (.lst (ks.map fun x => V.ref x.1.a)) ∧ H' ps = some (.lst (ks.map fun x => V.ref x.1.a)), ?_, ?_⟩
  · refine ⟨_, rfl, p, pl, _, 2, rfl, G7.pen, by omega, by omega, by omega, fun r H8 r0 r1 PA8 but8 => ⟨r, 0, rfl, rfl, decide (r = 0), rfl, ?_⟩⟩
    have G8 := G7.draw PA8 but8
    have B8 := B7.kp (Kp.pen G7.pen but8)
    have ps8 := (Kp.pen G7.pen but8).lst ps7
    have e1 : (ks.map (·.1)).map (fun t => V.ref t.a) = ks.map fun x => V.ref x.1.a := by
      rw [List.map_map]
      rfl
    have mk : ∀ {y x dx : Addr} {H9 : Hp}, Same H8 H9 → (SqL K H9 y ((ks.map (·.1)).map fun t => V.ref t.a) ∨ SqT K H9 y ((ks.map (·.1)).map fun t => V.ref t.a)) → H9 x = none → H9 dx = none → ∀ {R : Hp → Prop}, (∀ H0 H', Bd K w CT H' dk lt ks ∧ Go T p pl Ha H' (3000 * lap + 2101) ∧ SetO K w CS H0 H' x (ks.map (·.1)) ∧ H0 ps = some (.lst (ks.map fun x => V.ref x.1.a)) ∧ H' ps = some (.lst (ks.map fun x => V.ref x.1.a)) → R H') →
        spSet K w CS CT CN T [.ref x, .ref y] (upd (upd H9 dx (.own x)) x (.ins CS dx [])) (fun v H' => v = .non ∧ R H') E0 := fun {y x dx H9} s9 hy nx ndx {R} hR => by
      have G9 := G8.same s9
      have B9 := B8.kp (.same s9)
      refine set_made G9.pen G9.tabs (fun t ht => ?_) ?_ ?_ hy nx ndx fun H0 H2 s k PA2 tabs2 S => hR H0 H2 ⟨B9.kp k, ⟨G9.kp.trans k, PA2.mono (by omega), tabs2⟩, S, s _ _ (s9 _ _ ps8), k.lst (s9 _ _ ps8)⟩
      · obtain ⟨x, hx, rfl⟩ := List.mem_map.mp ht
        exact B9.ti x hx
      · rw [List.map_map]
        exact B9.nu
      · rw [List.length_map]
        omega
    by_cases hr0 : r = 0
    · rw [decide_eq_true hr0]
      refine iteT ⟨_, rfl, fun x dx nx ndx nxd => mk same_refl (.inl (by rw [e1]; exact SqL.of ps8)) nx ndx fun H0 H' h => ⟨x, H0, ⟨_, _, _, _, _, _, _, _, _, _, rfl⟩, h⟩⟩
    · rw [decide_eq_false hr0]
      refine iteF ⟨_, rfl, ps, _, rfl, .inl (SqL.of ps8), fun qt H9 s9 hq x dx nx ndx nxd => mk s9 (.inr (by rw [e1]; exact hq)) nx ndx fun H0 H' h => ⟨x, H0, ⟨_, _, _, _, _, _, _, _, _, _, rfl⟩, h⟩⟩
  clear B7 G7 ps7
  rintro σ H8 ⟨a, H0, ⟨o6, o7, o8, o9, o12, o13, o14, o15, o16, o17, rfl⟩, B8, G8, S8, hps0, ps8⟩
  -- the list that was passed changes
  refine ⟨_, rfl, .inl ⟨rfl, _, SqL.of ps8⟩, fun x dx nx ndx nxd => ?_⟩
  have s9 := ins_new (C := CT) nx ndx
  refine ⟨x, dx, .str "none of them", .ref aN, .ref aN, .ref aN, .ref aN, .str "none of them", dNone, dNone, dNone, dNone, rfl, upd_same, .str _, hN _, hN _, hN _, hN _, fun _ H10 but10 at10 => ⟨rfl, ?_⟩, fun bad => by cases bad⟩
  have s10 : Same H8 H10 := fun b o e => but10 _ _ (s9 _ _ e) (ne_of_none e nx)
  have ps10 := s10 _ _ ps8
  refine ⟨ps, _, .ref x, rfl, rfl, ps10, (by rw [List.length_map, sizeLine_eq]; omega), ?_⟩
  have G10 := G8.same s10
  have B10 := B8.kp (.same s10)
  have S10 := (S8.kl (Kp.same s10).kl).kl (Kl.upd (zs := (ks.map fun x => V.ref x.1.a) ++ [.ref x]) hps0 ps10)
  refine at_new fun H11 e11 => ?_
  have e11 : H11 = upd H10 ps (.lst ((ks.map fun x => V.ref x.1.a) ++ [.ref x])) := e11
  rw [← e11] at S10
  have tu11 : Tups H10 H11 := by
    rw [e11]
    exact Tups.upd (lst_ntup ps10)
  have oth : ∀ {b o}, H10 b = some o → b ≠ ps → H11 b = some o := fun {b o} e n => by
    rw [e11, upd_ne n]
    exact e
  have B11 : Bd K w CT H11 dk lt ks := ⟨oth B10.dko (ne_of B10.dko ps10 fun z => nomatch z), daKeep B10.da tu11 (.inl (oth B10.dko (ne_of B10.dko ps10 fun z => nomatch z))), oth B10.lto (Ne.symm pslt), fun y hy => oth (B10.ls y hy) (psk y hy), B10.ne, fun y hy => (B10.ti y hy).tups tu11 fun dx h => oth h (ne_of h ps10 fun z => nomatch z), B10.nu⟩
  have PA11 : PenAt H11 p pl (3000 * lap + 2101) := by
    rw [e11]
    exact G10.pen.other psp pspl
  have tabs11 : Tabs T H11 := by
    rw [e11]
    exact Tabs.updL G10.tabs ps10
  have G11 : Go T p pl Ha H11 (3000 * lap + 2101) := ⟨fun b o e t k => oth (G10.kp _ _ e t k) (by
    rintro rfl
    exact psA _ e t k), PA11, tabs11⟩
  clear oth tu11 e11 S8 B8 G8 hps0 ps8 ps10 G10 B10 PA11 tabs11 s10 s9 but10 at10 psA
  -- what it tells, twice
  have ek : ks.map (fun x => x.1.k) = ks.map (·.1.k) := rfl
  refine ⟨fun σ H' => (∃ o6 o7 o8 o9 o10 o11 o12 o13 o14 o15 o16 o17, σ = [some (.ref sa), some (.ref p), some (.int (0 + (lap : Int))), some (.ref dk), some (.ref lt), some (.int many), o6, o7, o8, o9, o10, o11, o12, o13, o14, o15, o16, o17, none]) ∧ Bd K w CT H' dk lt ks ∧ Go T p pl Ha H' (3000 * lap + 2501), ?_, ?_⟩
  · refine ⟨_, rfl, _, rfl, _, rfl, _, rfl, p, pl, _, a, lt, dk, H0, ks, rfl, G11.pen, by omega, S10, SqL.of B11.lto, B11.knd, B11.ti, B11.nu, few, G11.tabs, fun H12 PA12 k12 tabs12 => ⟨_, rfl, iteF ?_⟩⟩
    have B12 := B11.kp k12
    refine ⟨_, rfl, _, rfl, _, rfl, _, rfl, p, pl, _, a, lt, dk, H0, ks, rfl, PA12, by omega, S10.kl k12.kl, SqL.of B12.lto, B12.knd, B12.ti, B12.nu, few, tabs12, fun H13 PA13 k13 tabs13 => ⟨_, rfl, iteF ?_⟩⟩
    exact ⟨⟨_, _, _, _, _, _, _, _, _, _, _, _, rfl⟩, B12.kp k13, (G11.kp.trans k12).trans k13, PA13.mono (by omega), tabs13⟩
  clear S10 B11 G11 pslt psk psp pspl
  rintro σ H12 ⟨⟨o6, o7, o8, o9, o10, o11, o12, o13, o14, o15, o16, o17, rfl⟩, B12, G12⟩
  -- a name twice
  refine ⟨fun σ H' => (∃ o6 o7 o8 o9 o10 o11 o12 o13 o14 o15 o16 o17, σ = [some (.ref sa), some (.ref p), some (.int (0 + (lap : Int))), some (.ref dk), some (.ref lt), some (.int many), o6, o7, o8, o9, o10, o11, o12, o13, o14, o15, o16, o17, none]) ∧ Go T p pl Ha H' (3000 * lap + 2601), ?_, ?_⟩
  · refine ⟨_, rfl, (by show 0 ≤ sizeLine; decide), fun l nl => ?_⟩
    have u1 := same_upd (o := .lst []) nl
    have G13 := G12.same u1
    have B13 := B12.kp (.same u1)
    refine ⟨lt, l, _, rfl, rfl, SqL.of B13.lto, SqL.of upd_same, _, rfl, ?_⟩
    by_cases hks : ks = []
    · have e : (ks.map fun x => V.ref x.1.a) = [] := by
        rw [hks]
        rfl
      rw [show decide ((ks.map fun x => V.ref x.1.a) ≠ []) = false from decide_eq_false (fun z => z e)]
      exact iteF ⟨⟨_, _, _, _, _, _, _, _, _, _, _, _, rfl⟩, G13.mono (by omega)⟩
    · have e : (ks.map fun x => V.ref x.1.a) ≠ [] := fun z => hks (List.map_eq_nil_iff.mp z)
      have pos : 0 < ks.length := List.length_pos_iff.mpr hks
      rw [decide_eq_true e]
      refine iteT ⟨_, rfl, _, rfl, lt, _, rfl, .inl (SqL.of B13.lto), p, pl, _, _, rfl, G13.pen, by omega, (by rw [List.length_map]; omega), (by rw [List.length_map]; omega), fun r H14 r0 r1 PA14 but14 => ?_⟩
      rw [List.length_map] at r1
      have G14 := G13.draw PA14 but14
      have B14 := B13.kp (Kp.pen G13.pen but14)
      obtain ⟨at_, rfl, hat⟩ : ∃ j : Nat, r = (j : Int) ∧ j < ks.length := ⟨r.toNat, by omega, by omega⟩
      refine ⟨_, rfl, _, rfl, lt, _, rfl, .inl (SqL.of B14.lto), _, _, rfl, rfl, p, pl, _, _, rfl, G14.pen, by omega, (by rw [List.length_map]; omega), (by rw [List.length_map]; omega), fun r H15 r0 r1 PA15 but15 => ?_⟩
      rw [List.length_map] at r1
      have G15 := G14.draw PA15 but15
      have B15 := B14.kp (Kp.pen G14.pen but15)
      obtain ⟨pc, rfl, hpc⟩ : ∃ j : Nat, r = (j : Int) ∧ j ≤ ks.length := ⟨r.toNat, by omega, by omega⟩
      obtain ⟨y, hy⟩ : ∃ y, ks[at_]? = some y := ⟨_, List.getElem?_eq_getElem hat⟩
      have my := List.mem_of_getElem? hy
      have hy2 : (ks.map fun x => V.ref x.1.a)[at_]? = some (V.ref y.1.a) := by
        rw [List.getElem?_map, hy]
        rfl
      clear B13 G13 u1 nl B14 G14 but14 but15 PA14 PA15 r0 r1
      -- the tiles ahead
      refine ⟨_, rfl, _, rfl, _, rfl, lt, _, rfl, SqL.of B15.lto, fun p1 n1 => ?_⟩
      have lx : (ks.map fun x => V.ref x.1.a).length = ks.length := List.length_map ..
      rw [cut_take (n := pc) (by rw [lx]; exact hpc)]
      refine at_new fun H16 e16 => ?_
      have s16 : Same H15 H16 := by
        rw [e16]
        exact same_upd n1
      have p16 : H16 p1 = some (.lst ((ks.map fun x => V.ref x.1.a).take pc)) := by
        rw [e16]
        exact upd_same
      clear e16 n1
      have B16 := B15.kp (.same s16)
      obtain ⟨dx16, at16⟩ := (B16.ti y my).at_
      refine ⟨_, rfl, _, rfl, lt, _, (at_ : Int), .ref y.1.a, rfl, rfl, SqL.of B16.lto, atI_nat hy2, y.1.a, CT, dx16, _, y.1.n, rfl, at16, TF.cl, TF.nm, rfl, (by show 2 ≤ sizeLine; decide), fun q1 nq1 x dx nx ndx nxd => ?_⟩
      have u17 := same_upd (o := .tup [.str "x", .int 2]) nq1
      have s17 := ins_new (C := CT) nx ndx
      have B17 := (B16.kp (.same u17)).kp (.same s17)
      have T17 := B17.ti y my
      have GN : GluOk dNone := gluOk ⟨.none, rfl, Nat.zero_le _⟩ (Nat.zero_le _) rfl (by decide) (by decide)
      have GX' : GluOk (.tuple [.str "x", .int 2]) := gluOk ⟨.text "x", rfl, Nat.zero_le _⟩ (Nat.zero_le _) (by decide +kernel) (by decide) (by decide)
      have okT : okTile y.1.d dNone dNone (.tuple [.str "x", .int 2]) dNone = true := by
        unfold okTile
        rw [T17.dat.nn]
        rfl
      refine ⟨x, dx, y.1.n, .ref aN, .ref aN, .ref q1, .ref aN, y.1.d, dNone, dNone, .tuple [.str "x", .int 2], dNone, rfl, upd_same, T17.dp, hN _, hN _, .tup ((Kp.same s17).sqt (SqT.of upd_same)) (.cons (.str _) (.cons (.int _) .nil)), hN _, fun _ H18 but18 at18 => ⟨rfl, ?_⟩, fun bad => by rw [okT] at bad; cases bad⟩
      have s18 : Same (upd H16 q1 (.tup [.str "x", .int 2])) H18 := fun b o e => but18 _ _ (s17 _ _ e) (ne_of_none e nx)
      have q18 : SqT K H18 q1 [.str "x", .int 2] := (Kp.same s18).sqt (SqT.of upd_same)
      have s1618 := same_trans u17 s18
      obtain ⟨t0, et0⟩ : ∃ t0 : Til, t0 = ⟨x, y.1.n, y.1.d, y.1.k, .ref aN, .ref aN, .ref q1, .ref aN, .tup [.none, .num 0], .tup [.none, .num 0], .tup [.text "x", .num 2], .tup [.none, .num 0]⟩ := ⟨_, rfl⟩
      have T18 : TilL K CT H18 t0 := by
        have Y := (B16.kp (.same s1618)).ti y my
        rw [et0]
        refine ⟨⟨dx, at18⟩, Y.dp, Y.dat, Y.key, fun z hz => ?_⟩
        simp only [Til.glues, List.mem_cons, List.not_mem_nil, or_false] at hz
        rcases hz with rfl | rfl | rfl | rfl
        · exact ⟨dNone, hN _, rfl, GN⟩
        · exact ⟨dNone, hN _, rfl, GN⟩
        · exact ⟨_, .tup q18 (.cons (.str _) (.cons (.int _) .nil)), rfl, GX'⟩
        · exact ⟨dNone, hN _, rfl, GN⟩
      have t0k : t0.k = y.1.k := by rw [et0]
      have t0a : t0.a = x := by rw [et0]
      clear B17 T17 s17 but18 at18 q18 et0 okT GN GX'
      -- the list of one, and the tiles behind
      refine ⟨(by show 1 ≤ sizeLine; decide), fun l1 nl1 => ?_⟩
      have u19 := same_upd (o := .lst [.ref x]) nl1
      have s1619 := same_trans s1618 u19
      refine ⟨p1, l1, _, _, rfl, rfl, s1619 _ _ p16, upd_same, (by rw [List.length_take, sizeLine_eq]; show _ + 1 ≤ _; omega), fun c1 nc1 => ?_⟩
      obtain ⟨H20, e20⟩ : ∃ H20, H20 = upd (upd H18 l1 (.lst [.ref x])) c1 (.lst ((ks.map fun x => V.ref x.1.a).take pc ++ [.ref x])) := ⟨_, rfl⟩
      rw [← e20]
      have s20 : Same H16 H20 := by
        rw [e20]
        exact same_trans s1619 (same_upd nc1)
      have s1820 : Same H18 H20 := by
        rw [e20]
        exact same_trans u19 (same_upd nc1)
      have c20 : H20 c1 = some (.lst ((ks.map fun x => V.ref x.1.a).take pc ++ [.ref x])) := by
        rw [e20]
        exact upd_same
      clear e20 nc1 u19 s1619 nl1
      have B20 := B16.kp (.same s20)
      refine ⟨_, rfl, _, rfl, _, rfl, lt, _, rfl, SqL.of B20.lto, fun p2 n2 => ?_⟩
      rw [cut_drop (n := pc) (by rw [lx]; exact hpc)]
      have u21 := same_upd (o := .lst ((ks.map fun x => V.ref x.1.a).drop pc)) n2
      refine ⟨c1, p2, _, _, rfl, rfl, u21 _ _ c20, upd_same, (by rw [List.length_append, List.length_take, List.length_drop, sizeLine_eq]; show _ + 1 + _ ≤ _; omega), fun c2 nc2 => ?_⟩
      obtain ⟨H22, e22⟩ : ∃ H22, H22 = upd (upd H20 p2 (.lst ((ks.map fun x => V.ref x.1.a).drop pc))) c2 (.lst (((ks.map fun x => V.ref x.1.a).take pc ++ [.ref x]) ++ (ks.map fun x => V.ref x.1.a).drop pc)) := ⟨_, rfl⟩
      rw [← e22]
      have s22 : Same H20 H22 := by
        rw [e22]
        exact same_trans u21 (same_upd nc2)
      have c22 : H22 c2 = some (.lst (((ks.map fun x => V.ref x.1.a).take pc ++ [.ref x]) ++ (ks.map fun x => V.ref x.1.a).drop pc)) := by
        rw [e22]
        exact upd_same
      clear e22 nc2 u21 n2
      have G22 := ((G15.same s16).same s20).same s22
      have B22 := B20.kp (.same s22)
      have T22 := T18.kp (.same (same_trans s1820 s22))
      refine fun z dz nz ndz nzd => set_taken (l1 := (ks.map (·.1)).take pc) (l2 := (ks.map (·.1)).drop pc) (t0 := t0) G22.pen G22.tabs (fun t ht => ?_) ?_ ?_ ?_ ?_ nz ndz fun t dd H23 ht hk k23 PA23 tabs23 e23 => ⟨true, XN.ex, fun _ ea na => ?_, fun h => nomatch h⟩
      · rcases List.mem_append.mp ht with ht | ht
        · obtain ⟨x, hx, rfl⟩ := List.mem_map.mp (List.mem_of_mem_take ht)
          exact B22.ti x hx
        · rcases List.mem_cons.mp ht with rfl | ht
          · exact T22
          · obtain ⟨x, hx, rfl⟩ := List.mem_map.mp (List.mem_of_mem_drop ht)
            exact B22.ti x hx
      · rw [List.take_append_drop, List.map_map]
        exact B22.nu
      · rw [List.take_append_drop, List.map_map, t0k]
        exact List.mem_map.mpr ⟨y, my, rfl⟩
      · rw [List.length_append, List.length_cons, List.length_take, List.length_drop, List.length_map]
        omega
      · have ex : ((ks.map (·.1)).take pc ++ t0 :: (ks.map (·.1)).drop pc).map (fun t => V.ref t.a) = ((ks.map fun x => V.ref x.1.a).take pc ++ [.ref x]) ++ (ks.map fun x => V.ref x.1.a).drop pc := by
          rw [List.map_append, List.map_cons, List.map_take, List.map_drop, List.map_map, t0a, List.append_assoc]
          rfl
        rw [ex]
        exact SqL.of c22
      · have Tt : TilL K CT H22 t := by
          rcases List.mem_append.mp ht with ht | ht
          · obtain ⟨x, hx, rfl⟩ := List.mem_map.mp (List.mem_of_mem_take ht)
            exact B22.ti x hx
          · rcases List.mem_cons.mp ht with rfl | ht
            · exact T22
            · obtain ⟨x, hx, rfl⟩ := List.mem_map.mp (List.mem_of_mem_drop ht)
              exact B22.ti x hx
        have B23 := B22.kp k23
        obtain ⟨dx23, at23⟩ := (B23.ti y my).at_
        refine ⟨_, rfl, rfl, rfl, dd, _, _, rfl, e23, rfl, (by show 2 ≤ sizeLine; decide), fun q2 nq2 => ?_⟩
        have u24 := same_upd (o := .tup [.str "taken", t.n]) nq2
        refine ⟨_, rfl, _, rfl, _, rfl, lt, _, (at_ : Int), .ref y.1.a, rfl, rfl, SqL.of (u24 _ _ B23.lto), atI_nat hy2, y.1.a, CT, dx23, _, y.1.n, rfl, u24 _ _ at23, TF.cl, TF.nm, rfl, (by show 2 ≤ sizeLine; decide), fun q3 nq3 => ?_⟩
        have u25 := same_upd (o := .tup [.str "taken", y.1.n]) nq3
        have k25 := k23.trans (.same (same_trans u24 u25))
        have Ta := Tt.kp k25
        have Ty := (B22.kp k25).ti y my
        have wd : ∀ d : PyData, d.canLay0 = true → d.depth ≤ 7 → SeqAt.shaped (.tuple [.str "taken", d]) = true := fun d h1 h2 => shaped_tuple fun e he => by
          simp only [List.mem_cons, List.not_mem_nil, or_false] at he
          rcases he with rfl | rfl
          · exact ⟨by decide +kernel, Nat.zero_le _⟩
          · exact ⟨h1, Nat.le_trans h2 (by decide)⟩
        refine ⟨.tuple [.str "taken", t.d], .tuple [.str "taken", y.1.d], .tup (SqT.of (u25 _ _ upd_same)) (.cons (.str _) (.cons Ta.dp .nil)), .tup (SqT.of upd_same) (.cons (.str _) (.cons Ty.dp .nil)), wd _ Ta.dat.ly Ta.dat.dp, wd _ Ty.dat.ly Ty.dat.dp, _, rfl, ?_⟩
        have tk := Ta.key
        rw [hk, t0k] at tk
        rw [eqv_dec (k := .tup [.text "taken", y.1.k]) (j := .tup [.text "taken", y.1.k]) (by simp [keyD, keyDs, tk]) (by simp [keyD, keyDs, Ty.key]), decide_eq_true rfl]
        refine iteF ⟨⟨_, _, _, _, _, _, _, _, _, _, _, _, rfl⟩, G22.kp.trans k25, ?_, ?_⟩
        · exact (PA23.keep (same_trans u24 u25)).mono (by omega)
        · exact tabs23.ext (same_trans u24 u25)
  clear B12 G12
  rintro σ H13 ⟨⟨o6, o7, o8, o9, o10, o11, o12, o13, o14, o15, o16, o17, rfl⟩, G13⟩
  -- places
  refine ⟨_, rfl, 10, 15, rfl, rfl, ⟨by decide, by decide, by decide⟩, 10, 9, rfl, rfl, ⟨by decide, by decide, by decide⟩, _, rfl, (by show 3 ≤ sizeLine; decide), fun l nl => ?_⟩
  have u1 := same_upd (o := .lst [.int 1, .int (10 ^ 15), .int (-(10 ^ 9))]) nl
  have G14 := G13.same u1
  have lp : l ≠ p := by
    obtain ⟨kvs, hp⟩ := G13.pen.is
    exact Ne.symm (ne_of_none hp nl)
  refine ⟨p, pl, l, _, _, rfl, G14.pen, by omega, SqL.of upd_same, (fun h => nomatch h), (by show 3 < 1073741824; decide), lp, fun i15 v15 H15 hv15 PA15 but15 => ?_⟩
  have G15 := G14.draw PA15 but15
  obtain ⟨far, rfl⟩ : ∃ z : Int, v15 = .int z := by
    match i15, hv15 with
    | 0, hv => cases hv; exact ⟨_, rfl⟩
    | 1, hv => cases hv; exact ⟨_, rfl⟩
    | 2, hv => cases hv; exact ⟨_, rfl⟩
  clear hv15 PA15 but15 lp G14 u1 nl G13
  refine ⟨_, rfl, p, pl, _, 7, rfl, G15.pen, by omega, by omega, by omega, fun r1 H16 r10 r11 PA16 but16 => ?_⟩
  have G16 := G15.draw PA16 but16
  refine ⟨_, rfl, _, _, rfl, rfl, .inl ⟨by omega, by omega⟩, ?_⟩
  refine ⟨_, rfl, p, pl, _, 7, rfl, G16.pen, by omega, by omega, by omega, fun r2 H17 r20 r21 PA17 but17 => ?_⟩
  have G17 := G16.draw PA17 but17
  refine ⟨_, _, rfl, rfl, _, rfl, _, _, rfl, rfl, .inl ⟨by omega, by omega⟩, (by show 2 ≤ sizeLine; decide), fun tp ntp => ?_⟩
  have u18 := same_upd (o := .tup [.int (r1 * far), .int ((r2 - 3) * far)]) ntp
  have G18 := G17.same u18
  obtain ⟨H18, e18⟩ : ∃ H18, H18 = upd H17 tp (.tup [.int (r1 * far), .int ((r2 - 3) * far)]) := ⟨_, rfl⟩
  have tp18 : H18 tp = some (.tup [.int (r1 * far), .int ((r2 - 3) * far)]) := by
    rw [e18]
    exact upd_same
  rw [← e18] at G18 ⊢
  clear e18 u18 ntp G17 G16 G15 PA16 but16 PA17 but17
  refine ⟨(by show 1 ≤ sizeLine; decide), fun t1 n1 => ⟨(by show 3 ≤ sizeLine; decide), fun t2 n2 => ⟨(by show 2 ≤ sizeLine; decide), fun l3 n3 => ⟨(by show 2 ≤ sizeLine; decide), fun t4 n4 => ⟨(by show 2 ≤ sizeLine; decide), fun t5 n5 => ⟨(by show 2 ≤ sizeLine; decide), fun t6 n6 => ?_⟩⟩⟩⟩⟩⟩
  refine ⟨(by show 2 ≤ sizeLine; decide), fun t7 n7 => ⟨(by show 2 ≤ sizeLine; decide), fun t8 n8 => ⟨(by show 0 ≤ sizeLine; decide), fun t9 n9 => ⟨(by show 11 ≤ sizeLine; decide), fun lo nlo => ?_⟩⟩⟩⟩
  have v1 := same_upd (o := .tup [.int 1]) n1
  have v2 := same_upd (o := .tup [.int 1, .int 2, .int 3]) n2
  have v3 := same_upd (o := .lst [.int 1, .int 2]) n3
  have v4 := same_upd (o := .tup [.int 1, .non]) n4
  have v5 := same_upd (o := .tup [.bl true, .int 2]) n5
  have v6 := same_upd (o := .tup [.int 2, .bl false]) n6
  have v7 := same_upd (o := .tup [.int 1, .int 2]) n7
  have v8 := same_upd (o := .tup [.ref t7, .int 3]) n8
  have v9 := same_upd (o := .tup []) n9
  have v10 := same_upd (o := .lst [.non, .int 3, .str "ab", .ref t1, .ref t2, .ref l3, .ref t4, .ref t5, .ref t6, .ref t8, .ref t9]) nlo
  have w9 := same_trans v9 v10
  have w8 := same_trans v8 w9
  have w7 := same_trans v7 w8
  have w6 := same_trans v6 w7
  have w5 := same_trans v5 w6
  have w4 := same_trans v4 w5
  have w3 := same_trans v3 w4
  have w2 := same_trans v2 w3
  have w1 := same_trans v1 w2
  obtain ⟨H19, e19⟩ : ∃ H19, H19 = upd (upd (upd (upd (upd (upd (upd (upd (upd (upd H18 t1 (.tup [.int 1])) t2 (.tup [.int 1, .int 2, .int 3])) l3 (.lst [.int 1, .int 2])) t4 (.tup [.int 1, .non])) t5 (.tup [.bl true, .int 2])) t6 (.tup [.int 2, .bl false])) t7 (.tup [.int 1, .int 2])) t8 (.tup [.ref t7, .int 3])) t9 (.tup [])) lo (.lst [.non, .int 3, .str "ab", .ref t1, .ref t2, .ref l3, .ref t4, .ref t5, .ref t6, .ref t8, .ref t9]) := ⟨_, rfl⟩
  have a1 : H19 t1 = some (.tup [.int 1]) := by
    rw [e19]
    exact w2 _ _ upd_same
  have a2 : H19 t2 = some (.tup [.int 1, .int 2, .int 3]) := by
    rw [e19]
    exact w3 _ _ upd_same
  have a3 : H19 l3 = some (.lst [.int 1, .int 2]) := by
    rw [e19]
    exact w4 _ _ upd_same
  have a4 : H19 t4 = some (.tup [.int 1, .non]) := by
    rw [e19]
    exact w5 _ _ upd_same
  have a5 : H19 t5 = some (.tup [.bl true, .int 2]) := by
    rw [e19]
    exact w6 _ _ upd_same
  have a6 : H19 t6 = some (.tup [.int 2, .bl false]) := by
    rw [e19]
    exact w7 _ _ upd_same
  have a7 : H19 t7 = some (.tup [.int 1, .int 2]) := by
    rw [e19]
    exact w8 _ _ upd_same
  have a8 : H19 t8 = some (.tup [.ref t7, .int 3]) := by
    rw [e19]
    exact w9 _ _ upd_same
  have a9 : H19 t9 = some (.tup []) := by
    rw [e19]
    exact v10 _ _ upd_same
  have a10 : H19 lo = some (.lst [.non, .int 3, .str "ab", .ref t1, .ref t2, .ref l3, .ref t4, .ref t5, .ref t6, .ref t8, .ref t9]) := by
    rw [e19]
    exact upd_same
  have s19 : Same H18 H19 := by
    rw [e19]
    exact w1
  rw [← e19]
  clear e19 w1 w2 w3 w4 w5 w6 w7 w8 w9 v1 v2 v3 v4 v5 v6 v7 v8 v9 v10 n1 n2 n3 n4 n5 n6 n7 n8 n9 nlo
  have G19 := G18.same s19
  refine ⟨_, rfl, .ref tp, .tuple [.int (r1 * far), .int ((r2 - 3) * far)], rfl, .tup (SqT.of (s19 _ _ tp18)) (.cons (.int _) (.cons (.int _) .nil)), rfl, by simp [PyData.depth, PyData.depthAll], fun H20 s20 => ⟨_, rfl, iteF ?_⟩⟩
  have G20 := G19.same s20
  have k20 : Kp H19 H20 := .same s20
  have lop : lo ≠ p := by
    obtain ⟨kvs, hp⟩ := G19.pen.is
    exact ne_of a10 hp fun z => nomatch z
  refine ⟨_, rfl, _, rfl, p, pl, lo, _, _, rfl, G20.pen, by omega, SqL.of (k20.lst a10), (fun h => nomatch h), (by show 11 < 1073741824; decide), lop, fun i21 v21 H21 hv21 PA21 but21 => ?_⟩
  have G21 := G20.draw PA21 but21
  have k21 : Kp H19 H21 := k20.trans (.pen G20.pen but21)
  obtain ⟨d, dp, ly, dd⟩ : ∃ d, Dp K H21 v21 d ∧ d.canLay0 = true ∧ d.depth ≤ 60 := by
    match i21, hv21 with
    | 0, hv => cases hv; exact ⟨_, .non, rfl, by decide⟩
    | 1, hv => cases hv; exact ⟨_, .int _, rfl, by decide⟩
    | 2, hv => cases hv; exact ⟨_, .str _, by decide +kernel, by decide⟩
    | 3, hv => cases hv; exact ⟨_, .tup (SqT.of (k21.tup a1)) (.cons (.int _) .nil), rfl, by decide⟩
    | 4, hv => cases hv; exact ⟨_, .tup (SqT.of (k21.tup a2)) (.cons (.int _) (.cons (.int _) (.cons (.int _) .nil))), rfl, by decide⟩
    | 5, hv => cases hv; exact ⟨_, .lst (SqL.of (k21.lst a3)) (.cons (.int _) (.cons (.int _) .nil)), rfl, by decide⟩
    | 6, hv => cases hv; exact ⟨_, .tup (SqT.of (k21.tup a4)) (.cons (.int _) (.cons .non .nil)), rfl, by decide⟩
    | 7, hv => cases hv; exact ⟨_, .tup (SqT.of (k21.tup a5)) (.cons (.bl _) (.cons (.int _) .nil)), rfl, by decide⟩
    | 8, hv => cases hv; exact ⟨_, .tup (SqT.of (k21.tup a6)) (.cons (.int _) (.cons (.bl _) .nil)), rfl, by decide⟩
    | 9, hv => cases hv; exact ⟨_, .tup (SqT.of (k21.tup a8)) (.cons (.tup (SqT.of (k21.tup a7)) (.cons (.int _) (.cons (.int _) .nil))) (.cons (.int _) .nil)), rfl, by decide⟩
    | 10, hv => cases hv; exact ⟨_, .tup (SqT.of (k21.tup a9)) .nil, rfl, by decide⟩
  refine ⟨v21, d, rfl, dp, ly, dd, fun H22 s22 => ⟨_, rfl, iteF ⟨⟨_, _, _, _, _, _, _, _, _, _, _, _, _, _, _, _, rfl⟩, (G21.same s22).mono (by omega)⟩⟩⟩
end
end K3

set_option Elab.async false
set_option linter.all false
set_option maxRecDepth 100000
set_option maxHeartbeats 4000000
namespace Tr
open PySem PySem.Spec PyProof.Rows L2 LamX
/-! ### the end, where tables of code are tracked, too -/
section
variable {P : Program} {w : World} {K : PySem.W.Frag} {mg mb : Str → Option PySem.Value} {k : Nat} {fa a : Addr} {cs : List (Addr × Addr)} {fd : FuncData} {x : Str} {sp : Sp} {s₁ : Shared} {vs : List PySem.Value} {ns : List Int}
/-- the script, unless it stands in the written part, and the tables -/
def seen (K : PySem.W.Frag) (a : Addr) (o : HO) (ts : List Addr) : Hp := fun b => if b = a ∧ (K.lookup a).isNone = true then some o else if b ∈ ts then some (.tbl #[]) else none
theorem run_tab (KX : K.In s₁.heap) (gl : s₁.heap.Ns mainGlobals mg) (bl : s₁.heap.Ns builtinsNs mb) (blb : ∀ x : Str, x ≠ "__name__" → mb x = bootBuiltins x) (lim : s₁.heap.NoLimit) (noGens : s₁.gens = #[])
    (mods : ∃ (bm : Addr) (ob : Obj), mg "__builtins__" = some (.ref bm) ∧ bm ≠ builtinsNs ∧ s₁.heap.get? bm = some ob ∧ ob.cls = .type "module" ∧ ob.dict = some builtinsNs ∧ ob.data = .plain)
    (script : s₁.heap.get? a = some { cls := .type "list", data := .seq vs.toArray }) (theInts : IntsAre vs ns) (few : ns.length ≤ sizeLine) (room : Room k callerA)
    (empt : ∀ p ∈ cs, s₁.heap.get? p.2 = some { cls := .none, data := .fields #[] }) (out : ∀ p ∈ cs, K.lookup p.2 = none) (hd : ∀ p ∈ cs, PySem.W.codeHdIn K p.1 p.2 = true)
    (FF : ∀ base : Heap, K.In base → base.Ns mainGlobals mg → (∀ p ∈ cs, TabB base mg p.1 p.2) → GFn P w K mg base CX0 k fa fd [x] sp) (bound : ∀ (s : Shared) (u : PySem.Value), BindsTo s fd ⟨[u], []⟩ [(x, u)])
    (asks : ∀ H : Hp, (∀ p ∈ cs, H p.2 = some (.tbl #[])) → SqL K H a (ns.map V.int) → sp [.ref a] H (fun v _ => v = .bl true) E0) :
    codeAny (model P w) callerA (.call (.ref fa) ⟨[.ref a], []⟩) (fun r s' => r = .ok (.ret (.bool true)) ∧ OldK s₁.heap s'.heap ∧ s'.os = s₁.os ∧ AllBare s'.gens) s₁ := by
  have rel : Vals (ns.map V.int) vs := vals_ints theInts
  have sized : vs.length = ns.length := theInts.length
  have emptyAt : ∀ b ∈ cs.map (·.2), s₁.heap.get? b = some { cls := .none, data := .fields #[] } := fun b hb => by
    obtain ⟨p, hp, rfl⟩ := List.mem_map.mp hb
    exact empt p hp
  have apart : a ∉ cs.map (·.2) := fun hb => by
    have e := (emptyAt a hb).symm.trans script
    cases e
  obtain ⟨H, hH⟩ : ∃ H, H = seen K a (.frz { cls := .type "list", data := .seq vs.toArray } (.lst (ns.map V.int))) (cs.map (·.2)) := ⟨_, rfl⟩
  have only : ∀ b o, H b = some o → (b = a ∧ K.lookup a = none ∧ o = .frz { cls := .type "list", data := .seq vs.toArray } (.lst (ns.map V.int))) ∨ (b ∈ cs.map (·.2) ∧ o = .tbl #[]) := fun b o z => by
    rw [hH] at z
    unfold seen at z
    split at z
    · rename_i h
      exact .inl ⟨h.1, Option.isNone_iff_eq_none.mp h.2, (Option.some.inj z).symm⟩
    · split at z
      · rename_i h
        exact .inr ⟨h, (Option.some.inj z).symm⟩
      · cases z
  have tabsAt : ∀ p ∈ cs, H p.2 = some (.tbl #[]) := fun p hp => by
    have m : p.2 ∈ cs.map (·.2) := List.mem_map.mpr ⟨p, hp, rfl⟩
    rw [hH]
    unfold seen
    have nz : ¬ (p.2 = a ∧ (K.lookup a).isNone = true) := fun z => apart (z.1 ▸ m)
    rw [if_neg nz, if_pos m]
  have sq : SqL K H a (ns.map V.int) := by
    cases ek : K.lookup a with
    | some o =>
      have same := KX a o ek
      rw [script] at same
      obtain rfl := Option.some.inj same
      exact .inr ⟨_, vs.toArray, _, ek, rfl, rfl, rfl, by rw [List.size_toArray, sized]; exact few, by simpa using rel⟩
    | none =>
      refine .inl (.inr ⟨{ cls := .type "list", data := .seq vs.toArray }, ?_⟩)
      rw [hH]
      unfold seen
      rw [if_pos ⟨rfl, by rw [ek]; rfl⟩]
  clear hH
  have hok : HOk P w H s₁.heap := fun b o e => by
    rcases only b o e with ⟨rfl, _, rfl⟩ | ⟨m, rfl⟩
    · exact ⟨script, by rw [List.length_map]; exact few, vs, _, rel, script⟩
    · exact emptyAt b m
  -- what is neither a list nor an empty table is not tracked
  have off : ∀ {b : Addr} {o : Obj}, s₁.heap.get? b = some o → (∀ xs n, o.data ≠ .seq xs n) → o.data ≠ .fields #[] → H b = none := fun {b o} e n1 n2 => by
    cases q : H b with
    | none => rfl
    | some u =>
      rcases only b u q with ⟨rfl, _, _⟩ | ⟨m, _⟩
      · rw [script] at e
        cases e
        exact absurd rfl (n1 _ _)
      · rw [emptyAt b m] at e
        cases e
        exact absurd rfl n2
  have names : ∀ {b : Addr} {m : Str → Option PySem.Value}, s₁.heap.Ns b m → (hidT s₁.heap H).Ns b m := by
    rintro b m ⟨o, es, n, e, d, r⟩
    exact ⟨o, es, n, hidT_get e (off e (fun _ _ z => by rw [d] at z; cases z) fun z => by rw [d] at z; cases z), d, r⟩
  have inK : K.In (hidT s₁.heap H) := fun b o e => hidT_get (KX b o e) (by
    cases q : H b with
    | none => rfl
    | some u =>
      rcases only b u q with ⟨rfl, none_, _⟩ | ⟨m, _⟩
      · rw [none_] at e
        cases e
      · obtain ⟨p, hp, rfl⟩ := List.mem_map.mp m
        rw [out p hp] at e
        cases e)
  obtain ⟨mc, lim1, lim2⟩ := lim
  have mod : Mod K mg (hidT s₁.heap H) := ⟨inK, names gl, ⟨mb, names bl, blb⟩, ⟨mc, names lim1, lim2⟩⟩
  have notG : ∀ p ∈ cs, mainGlobals ≠ p.2 := fun p hp z => by
    obtain ⟨o, es, n, e, d, _⟩ := gl
    rw [z, empt p hp] at e
    cases e
    cases d
  have tb : ∀ p ∈ cs, TabB (hidT s₁.heap H) mg p.1 p.2 := fun p hp => by
    refine NdefX.tabB_of_K inK (hd p hp) ?_ (notG p hp)
    obtain ⟨bm, ob, b1, b2, b3, b4, b5, b6⟩ := mods
    refine ⟨bm, ob, b1, b2, fun z => ?_, fun z => ?_, hidT_get b3 (off b3 (fun _ _ z => by rw [b6] at z; cases z) fun z => by rw [b6] at z; cases z), b4, b5, b6⟩
    · obtain ⟨o, es, n, e, d, _⟩ := gl
      rw [← z, b3] at e
      cases e
      rw [b6] at d
      cases d
    · rw [z, empt p hp] at b3
      cases b3
      cases b6
  have e0 : Env0 P w K mg (hidT s₁.heap H) callerA [] s₁ H :=
    ⟨rfl, mod, fun _ _ e => of_hidT e, Nat.le_of_eq (hidT_size _ _), trivial, fun _ z => (nomatch z), hok, .of_eq noGens⟩
  refine codeAny_mono ((FF _ inK (names gl) tb).run callerA [] s₁ H ⟨[.ref a], []⟩ [.ref a] [.ref a] _ E0 room rfl e0 (bound s₁ _) (.cons rfl .nil) (asks H tabsAt sq)) ?_
  intro r s' z
  match r, z with
  | .ok (.ret u), ⟨v, H', os, bare, un, hok', ru, q⟩ =>
    obtain rfl : v = .bl true := q
    obtain rfl : u = PySem.Value.bool true := ru
    have kept : ∀ b o, b ∉ cs.map (·.2) → s₁.heap.get? b = some o → s'.heap.get? b = some o := fun b o nb e => by
      cases eb : H b with
      | none => exact un.keep b o e eb (fun z => nomatch z) (fun z => nomatch z)
      | some u =>
        rcases only b u eb with ⟨rfl, _, rfl⟩ | ⟨m, _⟩
        · obtain ⟨there, _⟩ := hok' _ _ (un.frzs b _ _ eb)
          rw [script] at e
          obtain rfl := Option.some.inj e
          exact there
        · exact absurd m nb
    have more : ∀ b ∈ cs.map (·.2), ∃ p ∈ cs, p.2 = b ∧ ∃ ps : Array PySem.Value, s'.heap.get? b = some { cls := .none, data := .fields ps } := fun b hb => by
      obtain ⟨p, hp, rfl⟩ := List.mem_map.mp hb
      obtain ⟨ps, e⟩ := un.tbls _ _ (tabsAt p hp)
      exact ⟨p, hp, rfl, _, hok' _ _ e⟩
    refine ⟨rfl, ⟨fun b o e => ?_, fun b o e => ?_⟩, os, bare⟩
    · by_cases hb : b ∈ cs.map (·.2)
      · obtain ⟨p, hp, rfl, ps, e2⟩ := more b hb
        rw [empt p hp] at e
        cases e
        exact .inr (.inl ⟨((PySem.W.codeHd_of_K KX (hd p hp)).tab (empt p hp)).isCodeTable, rfl, #[], ps, rfl, by rw [Array.empty_append]; exact e2⟩)
      · exact .inl (kept b o hb e)
    · by_cases hb : b ∈ cs.map (·.2)
      · obtain ⟨_, _, _, ps, e2⟩ := more b hb
        exact ⟨_, e2⟩
      · exact ⟨o, kept b o hb e⟩
  | .ok .next, z => exact z.elim
  | .ok .brk, z => exact z.elim
  | .ok .cont, z => exact z.elim
  | .error _, z => exact z.elim
end
/-- for the goal that head_any leaves -/
theorem law_walkT {l : PySem.W.OpenLaw} {n k : Nat} {q : Program} {loose : List Str} {XP : (Str → Option PySem.Value) → Heap → Prop} {YP : World → Heap → Prop} {d : DefRec} {x : Str}
    (most : l.most = some n) (small : n ≤ sizeLine) (plain : d.params.defaults = []) (room : Room k callerA)
    (told : ∀ (w : World) (mg : Str → Option PySem.Value) (fa : Addr) (h : Heap), YP w h → h.Ns mainGlobals mg → mg d.name = some (.ref fa) →
      ∃ (K : PySem.W.Frag) (fd : FuncData) (sp : Sp) (cs : List (Addr × Addr)), K.In h ∧ (∀ p ∈ cs, h.get? p.2 = some { cls := .none, data := .fields #[] }) ∧ (∀ p ∈ cs, K.lookup p.2 = none) ∧ (∀ p ∈ cs, PySem.W.codeHdIn K p.1 p.2 = true) ∧ (∀ (s : Shared) (u : PySem.Value), BindsTo s fd ⟨[u], []⟩ [(x, u)]) ∧
        (∀ (H : Hp) (a : Addr) (ns : List Int), ns.length ≤ n → (∀ p ∈ cs, H p.2 = some (.tbl #[])) → SqL K H a (ns.map V.int) → sp [.ref a] H (fun v _ => v = .bl true) E0) ∧
        ∀ base : Heap, K.In base → base.Ns mainGlobals mg → (∀ p ∈ cs, TabB base mg p.1 p.2) → GFn l.prog w K mg base CX0 k fa fd [x] sp) :
    PySem.W.WalkO q loose XP YP l.row.toRowW d [] (fun f vs => PySem.call f vs) := by
  refine Att.attach_call most plain ?_
  intro w s₀ s₁ mg mb fa o pm cd doc a vs ns G Y ho hd hcd hmg script theInts few noGens
  obtain ⟨K, fd, sp, cs, KX, empt, out, hcs, bound, asks, FF⟩ := told w mg fa _ Y G.T.g hmg
  exact run_tab KX G.T.g G.T.b G.T.builtins G.T.nolimit noGens G.T.bmain script theInts (Nat.le_trans few small) room empt out hcs FF bound fun H ht z => asks H a ns few ht z
end Tr

set_option Elab.async false
set_option linter.all false
set_option maxRecDepth 100000
set_option maxHeartbeats 0
namespace K3
open PySem PySem.Spec PyProof.Rows L2 Pen Tr AK LamX
section
variable {P : Program} {w : World} {K : PySem.W.Frag} {h : Heap} {mg : Str → Option PySem.Value} {base : Heap} {f : Addr}
theorem ex_xc (q : ex K = true) : ∀ C ∈ cs K, Xc K C := fun C hC => xcAll_ok (List.all_eq_true.mp (Bool.and_eq_true_iff.mp q).1 C hC)
theorem ex_em (q : ex K = true) : ∀ C ∈ cs K, PySem.W.exmOne K (.ref C) (.ref C) = some true := fun C hC => of_decide_eq_true (List.all_eq_true.mp (Bool.and_eq_true_iff.mp (Bool.and_eq_true_iff.mp q).2).1 C hC)
theorem ex_no (q : ex K = true) : ∀ C ∈ cs K, ∀ y ∈ flds, PySem.W.findIn K (.ref C) y = some none := fun C hC y hy =>
  of_decide_eq_true (List.all_eq_true.mp (List.all_eq_true.mp (Bool.and_eq_true_iff.mp (Bool.and_eq_true_iff.mp (Bool.and_eq_true_iff.mp q).2).2).1 C hC) y hy)
theorem ex_rest (q : ex K = true) : AK.datB K 20 (.ref (He.ga K "NONE")) dNone = true ∧ AK.datB K 20 (.ref (He.ga K "SIDE_PAIRS")) dPairs = true ∧ (He.cT K ("TileSet", some "__init__")).2 ≠ (He.cT K ("_law_t2_set_right", none)).2 := by
  obtain ⟨r1, r2⟩ := Bool.and_eq_true_iff.mp (Bool.and_eq_true_iff.mp (Bool.and_eq_true_iff.mp (Bool.and_eq_true_iff.mp q).2).2).2
  obtain ⟨r3, r4⟩ := Bool.and_eq_true_iff.mp r2
  exact ⟨r1, r3, of_decide_eq_true r4⟩
theorem dat_at {a : Addr} {d : PyData} (q : AK.datB K 20 (.ref a) d = true) : ∀ H, Dp K H (.ref a) d := by
  obtain ⟨x, r, z⟩ := datB_ok _ _ _ q
  have e : x = .ref a := by
    cases x with
    | ref b => cases r; rfl
    | int i => obtain ⟨t, z⟩ := r; cases z
    | str i => obtain ⟨t, z⟩ := r; cases z
    | byt i => obtain ⟨t, z⟩ := r; cases z
    | flt i => obtain ⟨t, z⟩ := r; cases z
    | _ => cases r
  rw [e] at z
  exact z
theorem in_cs {x : Str} (hx : x ∈ errs) : He.ga K x ∈ cs K := List.mem_map.mpr ⟨x, hx, rfl⟩
theorem er_of {x : Str} {fs : List Str} {fd : FuncData} (hx : x ∈ errs) (hf : ∀ y ∈ fs, y ∈ flds) (q : ex K = true) (m : mg x = some (.ref (He.ga K x))) (M : Meth K (He.ga K x) "__init__" (He.ma K (He.ga K x) "__init__"))
    (G : FnOk P w K mg base CX0 1 (He.ma K (He.ga K x) "__init__") fd ("self" :: fs) (spI (He.ga K x) fs)) (b : L2.Binds K fd ("self" :: fs) []) : Er P w K mg base x (He.ga K x) fs :=
  ⟨ex_xc q _ (in_cs hx), fun y hy => ex_no q _ (in_cs hx) y (hf y hy), m, ⟨_, fd, M.at_, beq_iff_eq.mp M.fn, G, b⟩⟩
theorem ct_of {x : Str} {fs : List Str} (hx : x ∈ errs) (hf : ∀ y ∈ fs, y ∈ flds) (q : ex K = true) (m : mg x = some (.ref (He.ga K x))) : Ct K mg x (He.ga K x) fs :=
  ⟨m, (ex_xc q _ (in_cs hx)).f, fun y hy => ex_no q _ (in_cs hx) y (hf y hy), ex_em q _ (in_cs hx)⟩
/-- the tables and their defs -/
def csT (K : PySem.W.Frag) : List (Addr × Addr) := [He.cT K ("TileSet", some "__init__"), He.cT K ("_law_t2_set_right", none)]
def qs (K : PySem.W.Frag) : List (Addr × Str) := [((He.cT K ("TileSet", some "__init__")).2, ("TileSet.__init__" ++ ".<locals>." ++ "<lambda>" : Str)), ((He.cT K ("_law_t2_set_right", none)).2, ("_law_t2_set_right" ++ ".<locals>." ++ "<lambda>" : Str))]
theorem qs_tabs {H : Hp} (z : ∀ p ∈ csT K, H p.2 = some (.tbl #[])) : Tabs (qs K) H := fun p hp => by
  unfold qs at hp
  simp only [List.mem_cons, List.not_mem_nil, or_false] at hp
  rcases hp with rfl | rfl
  · exact TabS.nil (z _ (by simp [csT]))
  · exact TabS.nil (z _ (by simp [csT]))
theorem facts (X : K.In h) (N : h.Ns mainGlobals mg) (hfa : mg ("law" : Str) = some (.ref f)) (c : He.SaysX fa fn [] tf ex w h K) :
    ∃ fd : FuncData, (∀ (s : Shared) (v : PySem.Value), BindsTo s fd ⟨[v], []⟩ [("_law_script", v)]) ∧ ∀ base : Heap, K.In base → base.Ns mainGlobals mg → (∀ p ∈ csT K, TabB base mg p.1 p.2) → GFn P w K mg base CX0 9 f fd ["_law_script"] (spLaw K (qs K)) := by
  have q : ex K = true := c.more
  have d := c.t.d
  obtain ⟨r1, r2, r3⟩ := ex_rest q
  have T : Txt mg := ⟨He.free_ok X N (d.fact 0 (f := .free "len") rfl), He.free_ok X N (d.fact 1 (f := .free "int") rfl), He.free_ok X N (d.fact 2 (f := .free "list") rfl), He.free_ok X N (d.fact 3 (f := .free "range") rfl), He.free_ok X N (d.fact 4 (f := .free "str") rfl), He.free_ok X N (d.fact 5 (f := .free "repr") rfl), He.free_ok X N (d.fact 6 (f := .free "isinstance") rfl), He.free_ok X N (d.fact 7 (f := .free "tuple") rfl), He.free_ok X N (d.fact 8 (f := .free "bool") rfl), He.free_ok X N (d.fact 9 (f := .free "sorted") rfl), He.free_ok X N (d.fact 10 (f := .free "enumerate") rfl), He.free_ok X N (d.fact 11 (f := .free "all") rfl)⟩
  have g__law_pen := He.glo_ok X N (d.fact 12 (f := .glo "_law_pen") rfl)
  have g__law_draw := He.glo_ok X N (d.fact 13 (f := .glo "_law_draw") rfl)
  have g__law_pick := He.glo_ok X N (d.fact 14 (f := .glo "_law_pick") rfl)
  have g__law_is_whole := He.glo_ok X N (d.fact 15 (f := .glo "_law_is_whole") rfl)
  have g__law_t2_is := He.glo_ok X N (d.fact 16 (f := .glo "_law_t2_is") rfl)
  have g__law_t2_datum := He.glo_ok X N (d.fact 17 (f := .glo "_law_t2_datum") rfl)
  have g__law_t2_any_glue := He.glo_ok X N (d.fact 18 (f := .glo "_law_t2_any_glue") rfl)
  have g__law_t2_bad_tile := He.glo_ok X N (d.fact 19 (f := .glo "_law_t2_bad_tile") rfl)
  have g__law_t2_side_right := He.glo_ok X N (d.fact 20 (f := .glo "_law_t2_side_right") rfl)
  have g__law_t2_named := He.glo_ok X N (d.fact 21 (f := .glo "_law_t2_named") rfl)
  have g__law_t2_with_glue := He.glo_ok X N (d.fact 22 (f := .glo "_law_t2_with_glue") rfl)
  have g__law_t2_set_right := He.glo_ok X N (d.fact 23 (f := .glo "_law_t2_set_right") rfl)
  have g__law_t2_beside_right := He.glo_ok X N (d.fact 24 (f := .glo "_law_t2_beside_right") rfl)
  have g_law := He.glo_ok X N (d.fact 25 (f := .glo "law") rfl)
  have g_is_integer := He.glo_ok X N (d.fact 26 (f := .glo "is_integer") rfl)
  have g_is_side := He.glo_ok X N (d.fact 27 (f := .glo "is_side") rfl)
  have g_is_place := He.glo_ok X N (d.fact 28 (f := .glo "is_place") rfl)
  have g_is_glue := He.glo_ok X N (d.fact 29 (f := .glo "is_glue") rfl)
  have g_places_around := He.glo_ok X N (d.fact 30 (f := .glo "places_around") rfl)
  have g_beside := He.glo_ok X N (d.fact 31 (f := .glo "beside") rfl)
  have g_check_place := He.glo_ok X N (d.fact 32 (f := .glo "check_place") rfl)
  have g_check_side := He.glo_ok X N (d.fact 33 (f := .glo "check_side") rfl)
  have g_NONE := He.glo_ok X N (d.fact 34 (f := .glo "NONE") rfl)
  have g_SIDE_PAIRS := He.glo_ok X N (d.fact 35 (f := .glo "SIDE_PAIRS") rfl)
  have g_Fits := He.glo_ok X N (d.fact 36 (f := .glo "Fits") rfl)
  have g_Tile := He.glo_ok X N (d.fact 37 (f := .glo "Tile") rfl)
  have g_TileSet := He.glo_ok X N (d.fact 38 (f := .glo "TileSet") rfl)
  have g_BadNumber := He.glo_ok X N (d.fact 39 (f := .glo "BadNumber") rfl)
  have g_BadTile := He.glo_ok X N (d.fact 40 (f := .glo "BadTile") rfl)
  have g_BadPlace := He.glo_ok X N (d.fact 41 (f := .glo "BadPlace") rfl)
  have g_NoName := He.glo_ok X N (d.fact 42 (f := .glo "NoName") rfl)
  have g_TakenName := He.glo_ok X N (d.fact 43 (f := .glo "TakenName") rfl)
  obtain ⟨fd__law_pen, F__law_pen⟩ := d.def_ 0 rfl
  obtain ⟨fd__law_draw, F__law_draw⟩ := d.def_ 1 rfl
  obtain ⟨fd__law_pick, F__law_pick⟩ := d.def_ 2 rfl
  obtain ⟨fd__law_is_whole, F__law_is_whole⟩ := d.def_ 3 rfl
  obtain ⟨fd__law_t2_is, F__law_t2_is⟩ := d.def_ 4 rfl
  obtain ⟨fd__law_t2_datum, F__law_t2_datum⟩ := d.def_ 5 rfl
  obtain ⟨fd__law_t2_any_glue, F__law_t2_any_glue⟩ := d.def_ 6 rfl
  obtain ⟨fd__law_t2_bad_tile, F__law_t2_bad_tile⟩ := d.def_ 7 rfl
  obtain ⟨fd__law_t2_side_right, F__law_t2_side_right⟩ := d.def_ 8 rfl
  obtain ⟨fd__law_t2_named, F__law_t2_named⟩ := d.def_ 9 rfl
  obtain ⟨fd__law_t2_with_glue, F__law_t2_with_glue⟩ := d.def_ 10 rfl
  obtain ⟨fd__law_t2_set_right, F__law_t2_set_right⟩ := d.def_ 11 rfl
  obtain ⟨fd__law_t2_beside_right, F__law_t2_beside_right⟩ := d.def_ 12 rfl
  obtain ⟨fd_law, F_law⟩ := d.def_ 13 rfl
  obtain ⟨fd_is_integer, F_is_integer⟩ := d.def_ 14 rfl
  obtain ⟨fd_is_side, F_is_side⟩ := d.def_ 15 rfl
  obtain ⟨fd_is_place, F_is_place⟩ := d.def_ 16 rfl
  obtain ⟨fd_is_glue, F_is_glue⟩ := d.def_ 17 rfl
  obtain ⟨fd_places_around, F_places_around⟩ := d.def_ 18 rfl
  obtain ⟨fd_beside, F_beside⟩ := d.def_ 19 rfl
  obtain ⟨fd_check_place, F_check_place⟩ := d.def_ 20 rfl
  obtain ⟨fd_check_side, F_check_side⟩ := d.def_ 21 rfl
  obtain ⟨fd_BadNumber___init__, F_BadNumber___init__⟩ := d.def_ 22 rfl
  obtain ⟨fd_BadTile___init__, F_BadTile___init__⟩ := d.def_ 23 rfl
  obtain ⟨fd_BadPlace___init__, F_BadPlace___init__⟩ := d.def_ 24 rfl
  obtain ⟨fd_NoName___init__, F_NoName___init__⟩ := d.def_ 25 rfl
  obtain ⟨fd_TakenName___init__, F_TakenName___init__⟩ := d.def_ 26 rfl
  obtain ⟨fd_Fits___init__, F_Fits___init__⟩ := d.def_ 27 rfl
  obtain ⟨fd_Fits__number_of, F_Fits__number_of⟩ := d.def_ 28 rfl
  obtain ⟨fd_Fits__file_strong, F_Fits__file_strong⟩ := d.def_ 29 rfl
  obtain ⟨fd_Fits__file_weak, F_Fits__file_weak⟩ := d.def_ 30 rfl
  obtain ⟨fd_Tile___init__, F_Tile___init__⟩ := d.def_ 31 rfl
  obtain ⟨fd_Tile_glue_at, F_Tile_glue_at⟩ := d.def_ 32 rfl
  obtain ⟨fd_TileSet___init__, F_TileSet___init__⟩ := d.def_ 33 rfl
  obtain ⟨fd_TileSet__named_by, F_TileSet__named_by⟩ := d.def_ 34 rfl
  obtain ⟨fd_TileSet_tile_of, F_TileSet_tile_of⟩ := d.def_ 35 rfl
  obtain ⟨fd_TileSet_has, F_TileSet_has⟩ := d.def_ 36 rfl
  obtain ⟨fd_TileSet_names, F_TileSet_names⟩ := d.def_ 37 rfl
  obtain ⟨fd_TileSet_with_glue, F_TileSet_with_glue⟩ := d.def_ 38 rfl
  have M_BadNumber___init__ := He.meth_ok (d.fact 44 (f := .meth "BadNumber" "__init__") rfl)
  have M_BadTile___init__ := He.meth_ok (d.fact 45 (f := .meth "BadTile" "__init__") rfl)
  have M_BadPlace___init__ := He.meth_ok (d.fact 46 (f := .meth "BadPlace" "__init__") rfl)
  have M_NoName___init__ := He.meth_ok (d.fact 47 (f := .meth "NoName" "__init__") rfl)
  have M_TakenName___init__ := He.meth_ok (d.fact 48 (f := .meth "TakenName" "__init__") rfl)
  have K_Fits := He.mkr_ok (d.fact 50 (f := .mkr "Fits") rfl)
  have M_Fits__number_of := He.meth_ok (d.fact 51 (f := .meth "Fits" "_number_of") rfl)
  have M_Fits__file_strong := He.meth_ok (d.fact 52 (f := .meth "Fits" "_file_strong") rfl)
  have M_Fits__file_weak := He.meth_ok (d.fact 53 (f := .meth "Fits" "_file_weak") rfl)
  have K_Tile := He.mkr_ok (d.fact 60 (f := .mkr "Tile") rfl)
  have M_Tile_glue_at := He.meth_ok (d.fact 61 (f := .meth "Tile" "glue_at") rfl)
  have K_TileSet := He.mkr_ok (d.fact 68 (f := .mkr "TileSet") rfl)
  have M_TileSet__named_by := He.meth_ok (d.fact 69 (f := .meth "TileSet" "_named_by") rfl)
  have M_TileSet_tile_of := He.meth_ok (d.fact 70 (f := .meth "TileSet" "tile_of") rfl)
  have M_TileSet_has := He.meth_ok (d.fact 71 (f := .meth "TileSet" "has") rfl)
  have M_TileSet_names := He.meth_ok (d.fact 72 (f := .meth "TileSet" "names") rfl)
  have M_TileSet_with_glue := He.meth_ok (d.fact 73 (f := .meth "TileSet" "with_glue") rfl)
  have FF : FitsF K (He.ga K "Fits") := ⟨He.cls_ok (d.fact 49 (f := .cls "Fits") rfl), He.noat_ok (d.fact 54 (f := .noat "Fits" "_numbers") rfl), He.noat_ok (d.fact 55 (f := .noat "Fits" "_strengths") rfl), He.noat_ok (d.fact 56 (f := .noat "Fits" "_strong") rfl), He.noat_ok (d.fact 57 (f := .noat "Fits" "_weak") rfl), He.noat_ok (d.fact 58 (f := .noat "Fits" "_sides") rfl)⟩
  have TF : TileF K (He.ga K "Tile") := ⟨He.cls_ok (d.fact 59 (f := .cls "Tile") rfl), He.noat_ok (d.fact 62 (f := .noat "Tile" "name") rfl), He.noat_ok (d.fact 63 (f := .noat "Tile" "west") rfl), He.noat_ok (d.fact 64 (f := .noat "Tile" "south") rfl), He.noat_ok (d.fact 65 (f := .noat "Tile" "east") rfl), He.noat_ok (d.fact 66 (f := .noat "Tile" "north") rfl)⟩
  have SF : SetF K (He.ga K "TileSet") := ⟨He.cls_ok (d.fact 67 (f := .cls "TileSet") rfl), He.noat_ok (d.fact 74 (f := .noat "TileSet" "tiles") rfl), He.noat_ok (d.fact 75 (f := .noat "TileSet" "_tile_by_name") rfl), He.noat_ok (d.fact 76 (f := .noat "TileSet" "_names") rfl), He.noat_ok (d.fact 77 (f := .noat "TileSet" "_ranks") rfl), He.noat_ok (d.fact 78 (f := .noat "TileSet" "_names_by_glue") rfl), He.noat_ok (d.fact 79 (f := .noat "TileSet" "fits") rfl)⟩
  have e := hfa.symm.trans g_law
  cases e
  refine ⟨fd_law, fun s v => FunD.bindsA (ps := ["_law_script"]) F_law (fun _ _ _ _ _ _ us hl => match us, hl with | [_], _ => rfl) s [v] rfl, fun base _ _ tb => ?_⟩
  have E_BadNumber : Er P w K mg base "BadNumber" (He.ga K "BadNumber") ["what", "number"] := er_of (by simp [errs]) (by simp [flds]) q g_BadNumber M_BadNumber___init__ (ok_BadNumber F_BadNumber___init__ (ex_xc q _ (in_cs (by simp [errs]))) (fun y hy => ex_no q _ (in_cs (by simp [errs])) y (by revert hy; revert y; simp [flds])))
    (FunD.bindsN F_BadNumber___init__ fun _ _ _ _ _ _ us hl => match us, hl with | [_, _, _], _ => rfl)
  have X_BadNumber : Ct K mg "BadNumber" (He.ga K "BadNumber") ["what", "number"] := ct_of (by simp [errs]) (by simp [flds]) q g_BadNumber
  have E_BadTile : Er P w K mg base "BadTile" (He.ga K "BadTile") ["tile"] := er_of (by simp [errs]) (by simp [flds]) q g_BadTile M_BadTile___init__ (ok_BadTile F_BadTile___init__ (ex_xc q _ (in_cs (by simp [errs]))) (fun y hy => ex_no q _ (in_cs (by simp [errs])) y (by revert hy; revert y; simp [flds])))
    (FunD.bindsN F_BadTile___init__ fun _ _ _ _ _ _ us hl => match us, hl with | [_, _], _ => rfl)
  have X_BadTile : Ct K mg "BadTile" (He.ga K "BadTile") ["tile"] := ct_of (by simp [errs]) (by simp [flds]) q g_BadTile
  have E_BadPlace : Er P w K mg base "BadPlace" (He.ga K "BadPlace") ["place"] := er_of (by simp [errs]) (by simp [flds]) q g_BadPlace M_BadPlace___init__ (ok_BadPlace F_BadPlace___init__ (ex_xc q _ (in_cs (by simp [errs]))) (fun y hy => ex_no q _ (in_cs (by simp [errs])) y (by revert hy; revert y; simp [flds])))
    (FunD.bindsN F_BadPlace___init__ fun _ _ _ _ _ _ us hl => match us, hl with | [_, _], _ => rfl)
  have X_BadPlace : Ct K mg "BadPlace" (He.ga K "BadPlace") ["place"] := ct_of (by simp [errs]) (by simp [flds]) q g_BadPlace
  have E_NoName : Er P w K mg base "NoName" (He.ga K "NoName") ["name"] := er_of (by simp [errs]) (by simp [flds]) q g_NoName M_NoName___init__ (ok_NoName F_NoName___init__ (ex_xc q _ (in_cs (by simp [errs]))) (fun y hy => ex_no q _ (in_cs (by simp [errs])) y (by revert hy; revert y; simp [flds])))
    (FunD.bindsN F_NoName___init__ fun _ _ _ _ _ _ us hl => match us, hl with | [_, _], _ => rfl)
  have X_NoName : Ct K mg "NoName" (He.ga K "NoName") ["name"] := ct_of (by simp [errs]) (by simp [flds]) q g_NoName
  have E_TakenName : Er P w K mg base "TakenName" (He.ga K "TakenName") ["name"] := er_of (by simp [errs]) (by simp [flds]) q g_TakenName M_TakenName___init__ (ok_TakenName F_TakenName___init__ (ex_xc q _ (in_cs (by simp [errs]))) (fun y hy => ex_no q _ (in_cs (by simp [errs])) y (by revert hy; revert y; simp [flds])))
    (FunD.bindsN F_TakenName___init__ fun _ _ _ _ _ _ us hl => match us, hl with | [_, _], _ => rfl)
  have X_TakenName : Ct K mg "TakenName" (He.ga K "TakenName") ["name"] := ct_of (by simp [errs]) (by simp [flds]) q g_TakenName
  have G_cs : FnOk P w K mg base (L2.CX P w) 3 (He.ga K "check_side") fd_check_side ["side"] (spSide K (He.ga K "BadNumber")) := ok_check_side F_check_side T E_BadNumber F_is_side g_is_side F_is_integer g_is_integer
  have G_cp : FnOk P w K mg base (L2.CX P w) 3 (He.ga K "check_place") fd_check_place ["place"] (spPlace K (He.ga K "BadPlace")) := ok_check_place F_check_place T E_BadPlace F_is_place g_is_place F_is_integer g_is_integer
  have G_be : FnOk P w K mg base (L2.CX P w) 4 (He.ga K "beside") fd_beside ["place"] (spBeside K (He.ga K "BadPlace")) := ok_beside F_beside F_check_place g_check_place G_cp F_places_around g_places_around
  have G_ti := ok_tile (P := P) (w := w) (mg := mg) (base := base) F_Tile___init__ T TF E_BadTile F_is_glue g_is_glue F_is_integer g_is_integer
  have G_ga := ok_glue_at (P := P) (w := w) (mg := mg) (base := base) F_Tile_glue_at TF F_check_side g_check_side G_cs
  have G_fi := ok_fits (P := P) (w := w) (mg := mg) (base := base) F_Fits___init__ T FF g_SIDE_PAIRS (dat_at r2) F_Fits__number_of M_Fits__number_of F_Fits__file_strong M_Fits__file_strong F_Fits__file_weak M_Fits__file_weak
  have G_to := ok_tile_of (P := P) (w := w) (mg := mg) (base := base) F_TileSet_tile_of SF E_NoName
  have G_wi := ok_with (P := P) (w := w) (mg := mg) (base := base) F_TileSet_with_glue T SF F_check_side g_check_side G_cs
  have G_nb := ok_named (P := P) (w := w) (mg := mg) (base := base) F_TileSet__named_by SF TF F_Tile_glue_at M_Tile_glue_at G_ga
  have in1 : ((He.cT K ("TileSet", some "__init__")).2, ("TileSet.__init__" ++ ".<locals>." ++ "<lambda>" : Str)) ∈ qs K := by simp [qs]
  have in2 : ((He.cT K ("_law_t2_set_right", none)).2, ("_law_t2_set_right" ++ ".<locals>." ++ "<lambda>" : Str)) ∈ qs K := by simp [qs]
  have un1 : ∀ p ∈ qs K, p.1 = (He.cT K ("TileSet", some "__init__")).2 → p.2 = ("TileSet.__init__" ++ ".<locals>." ++ "<lambda>" : Str) := fun p hp e => by
    unfold qs at hp
    simp only [List.mem_cons, List.not_mem_nil, or_false] at hp
    rcases hp with rfl | rfl
    · rfl
    · exact absurd e.symm r3
  have un2 : ∀ p ∈ qs K, p.1 = (He.cT K ("_law_t2_set_right", none)).2 → p.2 = ("_law_t2_set_right" ++ ".<locals>." ++ "<lambda>" : Str) := fun p hp e => by
    unfold qs at hp
    simp only [List.mem_cons, List.not_mem_nil, or_false] at hp
    rcases hp with rfl | rfl
    · exact absurd e r3
    · rfl
  have G_se := ok_init (P := P) (w := w) (mg := mg) (base := base) (T := qs K) F_TileSet___init__ T SF TF E_TakenName F_TileSet__named_by M_TileSet__named_by G_nb F_Fits___init__ K_Fits G_fi g_Fits rfl (tb (He.cT K ("TileSet", some "__init__")) (by simp [csT])) in1 un1
  have G_da := ok_datum (P := P) (w := w) (mg := mg) (base := base) F__law_t2_datum T F__law_pick g__law_pick F__law_draw g__law_draw
  have G_an := ok_any (P := P) (w := w) (mg := mg) (base := base) F__law_t2_any_glue T F__law_pick g__law_pick F__law_draw g__law_draw F__law_t2_datum g__law_t2_datum
  have G_ba := ok_bad (P := P) (w := w) (mg := mg) (base := base) F__law_t2_bad_tile T X_BadTile F__law_pick g__law_pick F__law_draw g__law_draw F__law_t2_any_glue g__law_t2_any_glue G_an F_Tile___init__ K_Tile g_Tile G_ti
  have G_sr := ok_sr (P := P) (w := w) (mg := mg) (base := base) F__law_t2_side_right T X_BadNumber TF F_Tile_glue_at M_Tile_glue_at G_ga F__law_is_whole g__law_is_whole
  have G_nd := ok_nd (P := P) (w := w) (mg := mg) (base := base) F__law_t2_named X_NoName SF TF F_TileSet_tile_of M_TileSet_tile_of G_to
  have G_wg := ok_wg (P := P) (w := w) (mg := mg) (base := base) F__law_t2_with_glue X_BadNumber SF F_TileSet_with_glue M_TileSet_with_glue G_wi
  have G_rt := ok_rt (P := P) (w := w) (mg := mg) (base := base) (T := qs K) F__law_t2_set_right T SF TF F__law_pick g__law_pick F__law_draw g__law_draw F__law_t2_any_glue g__law_t2_any_glue G_an F__law_t2_named g__law_t2_named G_nd F__law_t2_is g__law_t2_is F__law_is_whole g__law_is_whole
    F__law_t2_with_glue g__law_t2_with_glue G_wg F_TileSet_has M_TileSet_has F_TileSet_names M_TileSet_names rfl (tb (He.cT K ("_law_t2_set_right", none)) (by simp [csT])) in2 un2
  have G_br := ok_br (P := P) (w := w) (mg := mg) (base := base) F__law_t2_beside_right T X_BadPlace F_beside g_beside G_be F__law_is_whole g__law_is_whole
  exact ok_law F_law T SF TF F__law_pen g__law_pen F__law_pick g__law_pick F__law_draw g__law_draw F__law_t2_any_glue g__law_t2_any_glue G_an F__law_t2_datum g__law_t2_datum G_da F_Tile___init__ K_Tile g_Tile G_ti F_TileSet___init__ K_TileSet g_TileSet G_se
    F__law_t2_bad_tile g__law_t2_bad_tile G_ba F__law_t2_side_right g__law_t2_side_right G_sr F__law_t2_set_right g__law_t2_set_right G_rt F__law_t2_beside_right g__law_t2_beside_right G_br X_TakenName g_NONE (dat_at r1)
end
end K3
open PySem PySem.W PySem.Calls PyProof.Rows
theorem PySem.Challenge.cw_tilesregrow_k03_tiles_and_sets_holds : PySem.Challenge.rw_tilesregrow_k03_tiles_and_sets.Holds := by
  w_on; o_law
  refine HandSHeadRun.head_any (r := OpenLaw.row PySem.Challenge.rw_tilesregrow_k03_tiles_and_sets) (q := view (OpenLaw.row PySem.Challenge.rw_tilesregrow_k03_tiles_and_sets).prog [38]) (H := K3.hk) (ob := K3.ob) (M := 4000) (loose := K3.loose) (d := HandSHeadRun.topDef (OpenLaw.row PySem.Challenge.rw_tilesregrow_k03_tiles_and_sets).prog 38) (kwd := []) K3.ob_eq
    (by kernel_rfl) (fun s => by kernel_rfl) K3.run (by kernel_rfl) (by kernel_rfl) (by kernel_rfl) (by rfl) (by first | assumption | decide +kernel) (by decide +kernel) ⟨rfl, rfl, rfl, rfl, rfl, by decide +kernel⟩ ?hw ?hc
  case hw => w_witness2
  case hc =>
    refine Tr.law_walkT (l := PySem.Challenge.rw_tilesregrow_k03_tiles_and_sets) (n := 63) (k := 9) (x := "_law_script") rfl (by decide) (by kernel_rfl) ⟨rfl, by decide, by decide⟩ ?F
    intro w mg fa h Y G hmg0
    obtain ⟨K, KX, c⟩ := Y
    have hmg : mg ("law" : PySem.Str) = some (.ref fa) := by
      have e : (HandSHeadRun.topDef (OpenLaw.row PySem.Challenge.rw_tilesregrow_k03_tiles_and_sets).prog 38).name = ("law" : PySem.Str) := by kernel_rfl
      rw [← e]
      exact hmg0
    obtain ⟨fd, hb, hF⟩ := K3.facts (P := (PySem.Challenge.rw_tilesregrow_k03_tiles_and_sets).prog) (w := w) KX G hmg c
    have inTf : ∀ p ∈ K3.csT K, ∃ t ∈ K3.tf, p = He.cT K t := fun p hp => by
      simp only [K3.csT, List.mem_cons, List.not_mem_nil, or_false] at hp
      rcases hp with rfl | rfl
      · exact ⟨_, by simp [K3.tf], rfl⟩
      · exact ⟨_, by simp [K3.tf], rfl⟩
    refine ⟨K, fd, K3.spLaw K (K3.qs K), K3.csT K, KX, fun p hp => ?_, fun p hp => ?_, fun p hp => ?_, hb, fun H a ns hl hz hS => ⟨a, ns, rfl, hS, hl, K3.qs_tabs hz, fun _ => rfl⟩, hF⟩
    · obtain ⟨t, ht, rfl⟩ := inTf p hp
      exact c.empty t ht
    · obtain ⟨t, ht, rfl⟩ := inTf p hp
      exact c.out t ht
    · obtain ⟨t, ht, rfl⟩ := inTf p hp
      exact c.hd t ht

